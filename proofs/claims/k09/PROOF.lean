import PyProof.Rows.All
import Wide.All
import OpenK.AllK
import Wide.FinOn
import Lean
import PyProof.EqAt
import PyProof.EqKinds
import PyProof.TupleCall
import PySem.Str
import PyProof.StationsW
import PyProof.PassesOwn
import PyProof.RulesAs
import PyProof.ExcClass2
import PyProof.InstStore
import PyProof.ExcArgs
import PyProof.ExcClass
import PyProof.InstStoreFacts
import PyProof.ExcBaseAll.Exception
import PyProof.ExcAttrAll.Exception
import PyProof.DictValues
import PyProof.DictWalks
import PyProof.Rows.Range3
import PySem.Challenge.RW_spikebook_k09_ages
set_option Elab.async false
set_option linter.all false
set_option maxRecDepth 100000
set_option maxHeartbeats 4000000
def ae:=@List.length_map
def af:=@List.getElem?_eq_getElem
def aj:=@List.getD_eq_getElem?_getD
def ak:=@List.getElem?_eq_some_iff
def ao:=@List.mem_singleton
def aw:=@List.mem_cons
def ax:=@PySem.Heap.get?_push_of_some
def aA:=@PySem.wpAny_bind
def aB:=@List.getElem?_map
def aC:=@List.length_append
def aE:=@Nat.le_refl
def aF:=@Option.some.inj
def aG:=@decide_eq_true
def aK:=@List.map_append
def aL:=@PySem.Paired.length
def aM:=@PySem.Heap.lt_size
def aN:=@of_decide_eq_true
def aU:=@if_neg
def aW:=@Bool.false_ne_true
def aX:=@List.length_filter_le
def aZ:=@Nat.le_trans
def a6:=@Nat.ne_of_lt
def a7:=@List.take_length
def a8:=@if_pos
def ba:=@List.mem_cons_of_mem
def bf:=@List.length_take
def bg:=@Nat.lt_of_lt_of_le
def bh:=@Nat.zero_le
def bo:=@Option.map_eq_some_iff
def bp:=@decide_eq_false
def bq:=@List.mem_append
def bu:=@List.mem_append_right
def bw:=@PySem.PassesOwn.never
def bz:=@PySem.wpAny_loadPart_at
def bB:=@List.size_toArray
def bE:=@PySem.wpAny_pure
def bF:=@List.mem_map
def bG:=@List.getElem_mem
def bJ:=@List.mem_cons_self
def bL:=@PySem.Heap.get?_push_size
def bR:=@List.append_nil
def bS:=@List.length_cons
def bV:=@PySem.W.mg_none_of
def b9:=@PySem.mem_of_lookup
def cf:=@PySem.wpAny_mono
def cv:=@List.filter_cons_of_pos
def cw:=@Int.eq_ofNat_of_zero_le
def cz:=@PySem.Paired.snoc
def cL:=@congrArg
def cM:=@List.replicate_succ
def cZ:=@PySem.wpAny_isSubtype_exc
def c8:=@List.mem_append_left
def de:=@List.map_cons
def df:=@PySem.W.mg_of
def dk:=@List.mem_range
def dr:=@List.length_range
def dz:=@Nat.le_of_lt
def dI:=@Nat.le_succ
def dJ:=@PySem.wpAny_passesOwn
def dM:=@List.length_replicate
def dN:=@Int.toNat_natCast
def ee:=@PySem.W.kia_one
def eh:=@List.length_set
def ej:=@PySem.W.kia_tup
def en:=@List.pairwise_cons
def eo:=@PyProof.Rows.boot_isinstance
def eD:=@List.map_map
def eI:=@PySem.sizeLine_eq
def eJ:=@PySem.wpAny_Call_Name_kw
def eL:=@List.append_assoc
def eY:=@List.mem_filter
def fA:=@List.mem_of_getElem?
def fN:=@PyProof.Rows.callWith_type1
def fO:=@List.nodup_cons
def fP:=@List.foldl_cons
def fQ:=@Int.le_refl
def fW:=@PySem.wpAny_truthy_bool
def f7:=@Nat.lt_succ_self
def gR:=@beq_eq_false_iff_ne
def gS:=@List.map_congr_left
def gT:=@List.filter_cons_of_neg
def iq:=@PySem.wpAny_holding
def ir:=@PySem.wpAny_standAt
def iH:=@Nat.le_of_eq
def iI:=@Nat.not_lt_zero
def iJ:=@Int.zero_add
def iQ:=@Nat.lt_irrefl
def iR:=@PySem.Calls.callWith_builtin
def iS:=@List.flatten_cons
def iT:=@Nat.lt_succ_of_lt
def i7:=@List.getElem?_append_right
def jm:=@List.getElem?_eq_none_iff
def jn:=@PySem.wpAny_execs_nil
def jt:=@PyProof.Rows.take_snoc
def km:=@PySem.W.callWith_K
def ko:=@List.pairwise_singleton
def kq:=@Int.emod_nonneg
def kr:=@List.filter_append
def k9:=@List.getElem?_set_self
def lg:=@PySem.W.cellsFrom_some
def lS:=@Bool.and_false
def lU:=@List.getElem?_eq_none
def lV:=@Int.le_trans
def mG:=@List.length_drop
def mH:=@List.nodup_range
def mI:=@decide_eq_decide
def mM:=@List.getElem?_set_ne
def mN:=@PySem.Heap.get?_update_other
def mP:=@PySem.Heap.get?_push_ne
def oh:=@PySem.Heap.size_push
def oy:=@Bool.eq_iff_iff
def oz:=@List.of_mem_zip
def oA:=@Option.map_some
def oB:=@Array.length_toList
def oC:=@List.range_succ
def pE:=@PySem.Heap.size_update
def qj:=@Nat.ne_of_gt
def qk:=@List.map_nil
def qm:=@Nat.lt_of_le_of_lt
def qo:=@List.filter_filter
def qp:=@Int.emod_lt_of_pos
def qt:=@Bool.false_and
def qu:=@List.getElem?_append_left
def qv:=@Nat.mul_le_mul
def rN:=@List.any_eq_false
def rO:=@PySem.W.kitx_list
def rP:=@PySem.W.kitx_dict
def rQ:=@List.pairwise_map
def rR:=@List.filter_congr
def rT:=@List.foldl_append
def rV:=@PySem.Heap.SameBut.update
def rW:=@Array.size_setIfInBounds
def tQ:=@PySem.wpAny_newFunctionEnv_cells
def tR:=@List.any_cons
def tS:=@List.sum_cons
def uk:=@Bool.and_eq_true
def um:=@PySem.tupleKind_room_in1
def wD:=@PyProof.Rows.listUpdate_at
def wG:=@Ne.symm
def wH:=@PySem.W.methodCall_KW
def wI:=@Nat.succ_mul
def wJ:=@List.length_nil
def xW:=@Nat.not_lt
def yY:=@List.getElem?_of_mem
def A4:=@List.take_succ
def A8:=@PySem.W.plainGet_of
def A9:=@PySem.W.callWith_K0
def Ba:=@List.map_id
def Bb:=@List.toList_toArray
def Dl:=@PySem.codeAny_mono
def Dm:=@PySem.Heap.get?_update_self
def EG:=@PySem.wpAny_call
def F6:=@beq_iff_eq
def F9:=@PySem.Calls.evalArgs_plain
def Ga:=@Option.isSome_map
def Gb:=@List.take_add_one
def Gd:=@List.ext_getElem?
def Ge:=@Classical.not_not
def Gf:=@Nat.le_succ_of_le
def Gg:=@PySem.codeAny_call_builtin
def Ih:=@List.map_set
def Iy:=@PySem.Heap.get?_update_ne
def Iz:=@PySem.wpAny_field
def Lg:=@Array.getD_eq_getD_getElem?
def Lh:=@Array.Perm.refl
def Li:=@PySem.wpAny_newList
def Lj:=@List.filter_map
def M8:=@PyProof.Rows.get?_update_seq
def NU:=@PySem.plainObj_wpAny_Assign_Attribute
def NV:=@List.Perm.refl
def NW:=@List.mem_of_find?_eq_some
def NX:=@PySem.F.excBase_Exception
def NY:=@List.drop_eq_getElem_cons
def QC:=@Option.isSome_iff_exists
def QD:=@PySem.F.slot_dict_values
open PySem.W (Frag findIn keepIn typeIn fnOf nsIn codeIn codeHdIn mg_of mg_none_of specialIn readsIn findCls makesIn hasDictIn plainGet plainOver)
namespace PySem.W.Fast
def tw6781299253758780525:=0
def tw7214061675615082849:=0
def tw13983933242545850683:=0
def tw189308330141197345:=0
def tw498307284092675843:=0
def tw7380419966447430172:=0
def tw12860422748292010653:=0
def tw1393370538837246183:=0
def tw5703711344621740612:=0
def tw5011933265486393776:=0
def tw5961029239462047680:=0
def tw6808064428030563032:=0
def tw6908457034337305942:=0
def tw11684717824397730460:=0
def tw4761738586060243337:=0
def tw14868419644572539410:=0
def tw11714392651094863884:=0
def tw3233009220989700427:=0
def tw14531604937992331196:=0
def tw17823837335315358686:=0
def tw1907836463232592852:=0
def tw11725410496298053670:=0
def tw2060843270361576275:=0
def tw11994233939364824330:=0
def tw13299991575632148467:=0
def tw10190545507149020987:=0
def tw1240587181901486812:=0
def tw12976679741738620099:=0
def tw9459478199887511281:=0
def tw503030378093526148:=0
def tw9950471459252370570:=0
def tw6377935427283754435:=0
def tw7948198367539910163:=0
def tw11533738234043120529:=0
def tw1514336006625626235:=0
def tw10146491859109619352:=0
def tw18226066377030024622:=0
def tw13271258913101410788:=0
def tw15429505299430815820:=0
def tw11334682354266632098:=0
def tw1889264324829179743:=0
def tw15579179554581908604:=0
def tw2976041085648874580:=0
def tw11884245478314726656:=0
def tw7668564680542591067:=0
def tw6338584203115316160:=0
def tw573960860038060486:=0
def tw7955775295502475987:=0
def tw6448301261254144462:=0
def tw2584313321636540497:=0
def tw3436372405012428402:=0
def tw5578625649831625604:=0
def tw4512470263366157212:=0
def tw13983610428231489215:=0
def tw6385491599541370420:=0
def tw8726488547981190446:=0
def tw7473186031946353415:=0
def tw15479736342666464319:=0
def tw16562117999296673763:=0
def tw1809116317004739849:=0
def tw1953279666261446321:=0
def tw3755775676271960131:=0
def tw8789084224222720926:=0
def tw11883494755085811680:=0
def tw13820266031503448933:=0
def tw17723355347786350530:=0
def tw11976998173427002451:=0
def tw12954304961470160592:=0
def tw2511019343237582631:=0
def tw4090680129717332381:=0
def tw2866568052222394336:=0
def tw2463667578793924411:=0
def tw5870908927114173176:=0
def tw13376400820948650849:=0
def tw13029024516592954697:=0
def tw9456063924475915688:=0
def tw5480871615004080644:=0
def tw14030930493858531063:=0
def tw5435187647351539903:=0
def tw16600139238245358874:=0
def tw11750057286565664351:=0
def tw10479823842625769903:=0
def tw18173238736109922583:=0
def tw1726072031532983859:=0
def tw9804776390253068397:=0
def tw15262682618693134653:=0
def tw17838411505769629816:=0
def tw18352930691660756285:=0
def tw2947546235865672632:=0
def tw2148202740344007110:=0
def tw17242472528030926700:=0
def tw14145180879798291090:=0
def tw107322362761851867:=0
def tw13166732309670589473:=0
def tw4215445153292580624:=0
def tw16069562769541580327:=0
def tw13206926100688436180:=0
def tw3735904519590543110:=0
def tw6874309011360116866:=0
def tw9310992943725409457:=0
def tw2611962409752378413:=0
def tw15308652436954847909:=0
def tw1552681346746177408:=0
def tw14436134476503139508:=0
def tw13328570250270116972:=0
def tw1642357976063993829:=0
def tw14116007722858410361:=0
def tw10212676879253252147:=0
def tw13782394040857476001:=0
def tw5650077911723574031:=0
def tw10255951771647999802:=0
def tw439944052194745015:=0
def tw11767381258400701375:=0
def tw2237535537384229617:=0
def tw3873646023195974208:=0
def tw6200421900152959675:=0
def tw222355940049612669:=0
def tw11272055167293418662:=0
def tw9252301959334516667:=0
def tw4310847733513722989:=0
def tw2259676491622061127:=0
def tw3283221486052307104:=0
def tw623535806206896992:=0
def tw4194675802028942766:=0
def tw2097407470703997885:=0
def tw1566192104120248033:=0
def tw7647515964666178628:=0
def tw4792300010367331036:=0
def tw5922197803029234974:=0
def tw9640040365369822606:=0
def tw3210306179392450198:=0
def tw8202600858755073484:=0
def tw504507873945458087:=0
def tw7318624537537101507:=0
def tw15050808044561967809:=0
def tw4337356401605710100:=0
def tw9967058734255698247:=0
def tw5220281108739830223:=0
def tw13766267290814932856:=0
def tw10379331278174690709:=0
def tw6780237133288152861:=0
def tw15648712279496655350:=0
def tw14032639506016296722:=0
def tw9613507777238268483:=0
def tw3545663753167914647:=0
def tw13522087953752475626:=0
def tw3632215701860705589:=0
def tw7144803448805197196:=0
def tw11528073890080313123:=0
def tw15585852359748508327:=0
def tw2392558700413835135:=0
def tw10778327557173099524:=0
def tw7506915762051999266:=0
def tw18085679634194013329:=0
def tw16974109388012196814:=0
def tw12029215609045429647:=0
def tw6868936936558037432:=0
def tw1137140201079759766:=0
def tw5899957549326136992:=0
def tw5982210661936101538:=0
def tw16555573425448029880:=0
def tw4480886323209540848:=0
def tw2083397368140729749:=0
def tw11842442926201559505:=0
def tw7927024982508686788:=0
def tw8144364296275604455:=0
def tw194193243541968659:=0
def tw9095825952976139754:=0
def tw17450447101916899545:=0
def tw16165603182456372907:=0
def tw18312171006606842673:=0
def tw2433991985589389782:=0
def tw17008792786636925099:=0
def tw3776449682631744749:=0
def tw6293776309670645623:=0
def tw13330158509037184564:=0
def tw9421828147953007070:=0
def tw14921108044397240783:=0
def tw4389326575846159409:=0
def tw14613025015888669683:=0
def tw14568582728160536043:=0
def tw6651359514551141477:=0
def tw8549089747082005805:=0
def tw8253372705672298677:=0
def tw18041922573771404047:=0
def tw12070815844449635788:=0
def tw15515718649084537435:=0
def tw1528212994585278920:=0
def tw17632287123959096610:=0
def tw5627871932960057774:=0
def tw12243302063328706136:=0
def tw5032930577325926982:=0
def tw8693186249404298892:=0
def tw11586126932306009045:=0
def tw11850028241318230658:=0
def tw5731855292008191795:=0
def tw14124244393485178522:=0
def tw8247546455817661586:=0
def tw14367242455454584567:=0
def tw18411350664516615568:=0
def tw15360383879787810961:=0
def tw5537599680170482754:=0
def tw12486546144687883593:=0
def tw1225151189033686805:=0
def tw12316312711020018227:=0
def tw11285706218282421476:=0
def tw1578771254327805668:=0
def tw14205573142341122103:=0
def tw7740218108508888293:=0
def tw7772322002487189784:=0
def tw11895252012503431139:=0
def tw6790692762891086313:=0
def tw10664366533181815725:=0
def tw15770176221428777838:=0
def tw16434114506975912775:=0
def tw7716841213192170929:=0
def tw928899340810205499:=0
def tw10030914786527335205:=0
def tw573465195473309140:=0
def tw15438865868406590718:=0
def tw1786894159971090384:=0
def tw3129286015582735128:=0
def tw11605082634014208269:=0
def tw13466590623115861845:=0
def tw14092929488671062051:=0
def tw3623544070756139208:=0
def tw182535257296165359:=0
def tw3461472856224263959:=0
def tw489135938629882214:=0
def tw17383577448107079619:=0
def tw2344933913589272731:=0
def tw12152622007644517202:=0
def tw5336986894043701285:=0
def tw12714895196508320790:=0
def tw5934958874169914430:=0
end PySem.W.Fast
namespace L2
open PySem PySem.Spec PyProof.Rows
abbrev Key:=Sum Int Str
def xX:Key->Value->Bool
 | .inl k,v=>Value.isInt k v
 | .inr x,v=>Value.isStrOf x v
def V4 (w:World):Key->Int
 | .inl k=>hashInt k
 | .inr x=>hashStr w x
theorem fk: ∀{k:Key} {v:Value},xX k v=true->(∃i t,k=Sum.inl i/\v=Value.int i t)∨(∃x t,k=Sum.inr x/\v=Value.str x t)
 | .inl i,v,h=>by
  obtain⟨t,e⟩:=Value.isInt_shape (k:=i) (v:=v) h
  exact .inl ⟨i,t,rfl,e⟩
 | .inr x,v,h=>by
  obtain⟨t,e⟩:=Value.isStrOf_shape (x:=x) (v:=v) h
  exact .inr ⟨x,t,rfl,e⟩
theorem Gh (i:Int)(t:Tok):xX (.inl i) (.int i t)=true:=by simp[xX,Value.isInt]
theorem Gi (x:Str)(t:Tok):xX (.inr x) (.str x t)=true:=by simp[xX,Value.isStrOf]
theorem NZ (a b:Int):decide ((Sum.inl a:Key)=Sum.inl b)=(a == b):=by
 by_cases e:a=b
 ·subst e; simp
 ·have h: ¬ (Sum.inl a:Key)=Sum.inl b:=fun q=>e (Sum.inl.inj q)
  rw[bp h]
  exact(gR.mpr e).symm
theorem N0 (a b:Str):decide ((Sum.inr a:Key)=Sum.inr b)=decide (a=b):=by
 by_cases e:a=b
 ·subst e; simp
 ·have h: ¬ (Sum.inr a:Key)=Sum.inr b:=fun q=>e (Sum.inr.inj q)
  rw[bp h,bp e]
theorem N1 (a:Int)(b:Str):decide ((Sum.inl a:Key)=Sum.inr b)=false:=bp (fun q=>nomatch q)
theorem N2 (a:Str)(b:Int):decide ((Sum.inr a:Key)=Sum.inl b)=false:=bp (fun q=>nomatch q)
def dS (prog:Program)(w:World):PySem.KeyKind prog w Key where
 is:=xX
 hash:=V4 w
 inj:=fun v a b ha hb=>by
  rcases fk ha with⟨i,t,rfl,rfl⟩|⟨x,t,rfl,rfl⟩
  ·rcases fk hb with⟨j,u,rfl,e⟩|⟨y,u,rfl,e⟩
   ·injection e with e1 _; rw[e1]
   ·exact nomatch e
  ·rcases fk hb with⟨j,u,rfl,e⟩|⟨y,u,rfl,e⟩
   ·exact nomatch e
   ·injection e with e1 _; rw[e1]
 byValue:=fun k v h=>by
  rcases fk h with⟨i,t,rfl,rfl⟩|⟨x,t,rfl,rfl⟩ <;> rfl
 pyHash:=fun hv h=>by
  rcases fk hv with⟨i,t,rfl,rfl⟩|⟨x,t,rfl,rfl⟩
  ·exact wpAny_pyHash_int h
  ·exact wpAny_pyHash_str h
 eqBool:=fun hu hv h=>by
  rcases fk hu with⟨i,t,rfl,rfl⟩|⟨x,t,rfl,rfl⟩
  ·rcases fk hv with⟨j,u,rfl,rfl⟩|⟨y,u,rfl,rfl⟩
   ·rw[NZ] at h; exact wpAny_eqBool_int h
   ·rw[N1] at h; exact SeqAt.EqAt.int_str i t y u _ _ _ _ h
  ·rcases fk hv with⟨j,u,rfl,rfl⟩|⟨y,u,rfl,rfl⟩
   ·rw[N2] at h; exact SeqAt.EqAt.str_int x t j u _ _ _ _ h
   ·rw[N0] at h; exact wpAny_eqBool_str h
 «strs»:=fun k x t v h=>by
  rcases fk h with⟨i,u,rfl,e⟩|⟨y,u,rfl,e⟩
  ·exact nomatch e
  ·injection e with e1 _
   subst e1
   cases v <;> rfl
theorem Bc (prog:Program)(w:World)(i:Int)(t:Tok):(dS prog w).is (.inl i) (.int i t)=true:=Gh i t
theorem Bd (prog:Program)(w:World)(x:Str)(t:Tok):(dS prog w).is (.inr x) (.str x t)=true:=Gi x t
inductive V where
 |eu|bl (b:Bool)|int (i:Int)|str (x:Str)|Gj (b:Array UInt8)|Lk (b:UInt64)|ref (a:Addr)|ty (n:String)
 deriving DecidableEq
def RelV:V->Value->Prop
 | .eu,u=>u=Value.none
 | .bl b,u=>u=Value.bool b
 | .int i,u=> ∃t,u=Value.int i t
 | .str x,u=> ∃t,u=Value.str x t
 | .Gj b,u=> ∃t,u=Value.bytes b t
 | .Lk b,u=> ∃t,u=Value.float b t
 | .ref a,u=>u=Value.ref a
 | .ty n,u=>u=Value.type n
abbrev Vals:List V->List Value->Prop:=Paired RelV
theorem Vals.length {xs:List V}{us:List Value}(r:Vals xs us):xs.length=us.length:=aL r
theorem Vals.get: ∀{xs:List V} {us:List Value} {i:Nat} {x:V},Vals xs us->xs[i]? =some x-> ∃u,us[i]? =some u/\RelV x u
 |_,_,_,_,.nil,e=>by simp at e
 |_,_,0,_,.cons r _,e=>by simp at e; subst e; exact⟨_,rfl,r⟩
 |_,_,i + 1,x,.cons _ t,e=>by
  obtain⟨u,h1,h2⟩:=Vals.get (i:=i) (x:=x) t (by simpa using e)
  exact⟨u,by simpa using h1,h2⟩
theorem Vals.set {x:V}{u:Value}(r:RelV x u): ∀{xs:List V} {us:List Value} (i:Nat),Vals xs us->Vals (xs.set i x) (us.set i u)
 |_,_,_,.nil=> .nil
 |_,_,0,.cons _ t=> .cons r t
 |_,_,i + 1,.cons q t=> .cons q (Vals.set r i t)
theorem Vals.append: ∀{xs ys:List V} {us ws:List Value},Vals xs us->Vals ys ws->Vals (xs ++ ys) (us ++ ws)
 |_,_,_,_,.nil,s=>s
 |_,_,_,_,.cons r t,s=> .cons r (Vals.append t s)
theorem Vals.take: ∀{xs:List V} {us:List Value} (n:Nat),Vals xs us->Vals (xs.take n) (us.take n)
 |_,_,0,_=> .nil
 |_,_,_ + 1,.nil=> .nil
 |_,_,n + 1,.cons r t=> .cons r (Vals.take n t)
theorem Vals.drop: ∀{xs:List V} {us:List Value} (n:Nat),Vals xs us->Vals (xs.drop n) (us.drop n)
 |_,_,0,r=>r
 |_,_,_ + 1,.nil=> .nil
 |_,_,n + 1,.cons _ t=>Vals.drop n t
theorem Vals.none_of: ∀{xs:List V} {us:List Value} {i:Nat},Vals xs us->xs[i]? =none->us[i]? =none:=fun{xs us i} r e=>by
 have h1:=r.length
 have h2:xs.length<=i:=jm.mp e
 exact jm.mpr (by lia)
def lh:Option V->Option Value->Prop
 |some v,some u=>RelV v u
 |none,none=>True
 |_,_=>False
def KV {κ:Type}:List (κ×V)->List (κ×Value)->Prop:=Paired fun(p:κ×V) (q:κ×Value)=>p.1=q.1/\RelV p.2 q.2
def kV:Key->V
 | .inl i=> .int i
 | .inr x=> .str x
inductive HO where
 |lst (xs:List V)
 |tup (xs:List V)
 |dK (bc:List (Key×V))|dT (bc:List (List Key×V))
 |set (S:Int->Bool) (n:Nat)
 |ins (C dx:Addr) (fs:List (Str×V))
 |own (x:Addr)
 |xd (fs:List (Str×V))
 |met (f x:Addr)
 |V5 (lo hi:Int)
 |C9 (o:Obj) (u:HO)
 |mO (ps:Array Value)
 |ext (φ:Heap->Prop)
abbrev Hp:=Addr->Option HO
def upd (H:Hp)(a:Addr)(o:HO):Hp:=fun b=>if b=a then some o else H b
theorem ag {H:Hp}{a:Addr}{o:HO}:upd H a o a=some o:=by unfold upd; rw[if_pos rfl]
theorem az {H:Hp}{a b:Addr}{o:HO}(h:b≠a):upd H a o b=H b:=by unfold upd; rw[if_neg h]
theorem mz {H:Hp}{a b:Addr}{o u:HO}(h:H a=some o)(h':H b=some u)(d:o≠u):a≠b:=by
 intro e; subst e; rw[h] at h'; exact d (aF h')
theorem aJ {H:Hp}{a b:Addr}{o:HO}(h:H a=some o)(h':H b=none):a≠b:=by
 intro e; subst e; rw[h] at h'; cases h'
section
variable (P:Program)(w:World)
def dA (H:Hp)(h:Heap)(a:Addr):HO->Prop
 | .lst xs=>xs.length<=sizeLine/\ ∃(bZ:List Value) (n:Nat),Vals xs bZ/\h.get? a=some {cls:= .type "list",data:= .seq bZ.toArray n}
 | .tup xs=>xs.length<=sizeLine/\ ∃bZ:List Value,Vals xs bZ/\IsTup h a bZ.toArray
 | .dK bc=>bc.length<=sizeLine/\(a == sysModules)=false/\ ∃vs,KV bc vs/\h.DictOf (dS P w) a vs
 | .dT bc=>bc.length<=sizeLine/\(a == sysModules)=false/\ ∃xs:List (List Key×Addr×Value),
   Paired (fun(p:List Key×V) (q:List Key×Addr×Value)=>p.1=q.1/\H q.2.1=some (.tup (p.1.map kV))/\RelV p.2 q.2.2) bc xs/\
   ∃o es ep,h.get? a=some o/\o.ExactDict/\o.data= .dict es ep/\es.toList=xs.map (entryOfKey (tupleKind (dS P w)))/\(xs.map (·.1)).Nodup
 | .set S n=>h.SetOf (intKind P w) a S n
 | .ins C dx fs=>H dx=some (.own a)/\fs.length<=1000/\dx≠a/\h.get? a=some (PySem.W.instObj C dx)/\
   ∃mA,h.Ns1 dx mA/\(∀f,lh (fs.lookup f) (mA f))/\PySem.Within mA (fs.map (·.1))
 | .own _=> ∃o,h.get? a=some o
 | .xd fs=> ∃mA,h.Ns1 a mA/\ ∀f,lh (fs.lookup f) (mA f)
 | .V5 lo hi=> ∃t u v,h.get? a=some {cls:= .type "range",data:= .fields #[.int lo t,.int hi u,.int 1 v]}
 | .C9 o u=>h.get? a=some o/\dA H h a u
 | .mO ps=>h.get? a=some {cls:= .none,data:= .fields ps}
 | .met f x=>h.get? a=some (PySem.W.methodObj (.ref f) (.ref x))
 | .ext φ=>φ h/\(∃o,h.get? a=some o)/\ ∀h1 h2:Heap,φ h1->(∀o,h1.get? a=some o->h2.get? a=some o)->φ h2
def oE (H:Hp)(h:Heap):Prop:= ∀a o,H a=some o->dA P w H h a o
end
section
variable {P:Program}{w:World}{H H':Hp}{h h':Heap}{a:Addr}{o:HO}
theorem dA.lt (x:dA P w H h a o):a < h.objs.size:=by
 cases o with
 |lst xs=>obtain⟨_,_,_,_,e⟩:=x; exact aM e
 |tup xs=>obtain⟨_,_,_,p⟩:=x; exact p.lt
 |dK bc=>obtain⟨_,_,_,_,o,_,_,e,_⟩:=x; exact aM e
 |dT bc=>obtain⟨_,_,_,_,o,_,_,e,_⟩:=x; exact aM e
 |set S n=>obtain⟨o,_,_,_,e,_⟩:=x; exact aM e
 |ins C dx fs=>obtain⟨_,_,_,e,_⟩:=x; exact aM e
 |own y=>obtain⟨_,e⟩:=x; exact aM e
 |xd fs=>obtain⟨_,⟨_,_,_,e,_⟩,_⟩:=x; exact aM e
 |V5 lo hi=>obtain⟨_,_,_,e⟩:=x; exact aM e
 |C9 ob u=>obtain⟨e,_⟩:=x; exact aM e
 |mO ps=>exact aM (show h.get? a=some _ from x)
 |met f y=>exact aM (show h.get? a=some _ from x)
 |ext φ=>obtain⟨_,⟨_,e⟩,_⟩:=x; exact aM e
theorem Paired.gP {α β:Type}{F G:α->β->Prop}: ∀{l₁:List α} {l₂:List β},Paired F l₁ l₂->(∀a b,F a b->G a b)->Paired G l₁ l₂
 |_,_,.nil,_=> .nil
 |_,_,.cons r t,f=> .cons (f _ _ r) (Paired.gP t f)
theorem dA.tT (x:dA P w H h a o)(k: ∀b u,(b=a∨H b=some (.own a))->h.get? b=some u->h'.get? b=some u)
  (ho: ∀b,H b=some (.own a)->H' b=some (.own a)) (ht: ∀b xs,H b=some (.tup xs)->H' b=some (.tup xs)):dA P w H' h' a o:=by
 induction o with
 |lst xs=>obtain⟨z,bZ,n,r,e⟩:=x; exact⟨z,bZ,n,r,k _ _ (.inl rfl) e⟩
 |tup xs=>obtain⟨z,bZ,r,ob,e,c⟩:=x; exact⟨z,bZ,r,ob,k _ _ (.inl rfl) e,c⟩
 |dK bc=>obtain⟨z,y,vs,r,ob,es,ep,e,c⟩:=x; exact⟨z,y,vs,r,ob,es,ep,k _ _ (.inl rfl) e,c⟩
 |dT bc=>
  obtain⟨z,y,xs,r,ob,es,ep,e,c⟩:=x
  exact⟨z,y,xs,Paired.gP r fun p q z=>⟨z.1,ht _ _ z.2.1,z.2.2⟩,ob,es,ep,k _ _ (.inl rfl) e,c⟩
 |set S n=>obtain⟨ob,es,ep,t,e,c⟩:=x; exact⟨ob,es,ep,t,k _ _ (.inl rfl) e,c⟩
 |ins C dx fs=>
  obtain⟨d,z,ne,e,mA,⟨od,es,ep,e2,c⟩,r⟩:=x
  exact⟨ho _ d,z,ne,k _ _ (.inl rfl) e,mA,⟨od,es,ep,k _ _ (.inr d) e2,c⟩,r⟩
 |own y=>obtain⟨ob,e⟩:=x; exact⟨ob,k _ _ (.inl rfl) e⟩
 |xd fs=>obtain⟨mA,⟨od,es,ep,e,c⟩,r⟩:=x; exact⟨mA,⟨od,es,ep,k _ _ (.inl rfl) e,c⟩,r⟩
 |V5 lo hi=>obtain⟨t,u,v,e⟩:=x; exact⟨t,u,v,k _ _ (.inl rfl) e⟩
 |C9 ob u ih=>obtain⟨e,q⟩:=x; exact⟨k _ _ (.inl rfl) e,ih q⟩
 |mO ps=>
  have e:h.get? a=some {cls:= .none,data:= .fields ps}:=x
  show h'.get? a=some {cls:= .none,data:= .fields ps}
  exact k a _ (.inl rfl) e
 |met f y=>
  have e:h.get? a=some (PySem.W.methodObj (.ref f) (.ref y)):=x
  show h'.get? a=some (PySem.W.methodObj (.ref f) (.ref y))
  exact k a _ (.inl rfl) e
 |ext φ=>obtain⟨p,⟨o,e⟩,st⟩:=x; exact⟨st _ _ p fun o q=>k _ _ (.inl rfl) q,⟨o,k _ _ (.inl rfl) e⟩,st⟩
theorem oE.lt (x:oE P w H h)(e:H a=some o):a < h.objs.size:=(x a o e).lt
theorem oE.fresh (x:oE P w H h)(e:h.objs.size<=a):H a=none:=by
 cases q:H a with
 |none=>rfl
 |some u=>exact absurd (bg (x.lt q) e) (iQ _)
theorem oE.kept (x:oE P w H h)(k: ∀b u,h.get? b=some u->h'.get? b=some u):oE P w H h':=fun a o e=>
 (x a o e).tT (fun b u _ q=>k b u q) (fun _ q=>q) fun _ _ q=>q
theorem oE.laid (x:oE P w H h)(k: ∀b u,h.get? b=some u->h'.get? b=some u)(hp:h.objs.size<=a)(new:dA P w (upd H a o) h' a o):oE P w (upd H a o) h':=fun b u e=>by
 have hn:=x.fresh hp
 by_cases hb:b=a
 ·subst hb; rw[ag] at e; cases e; exact new
 ·rw[az hb] at e
  exact(x b u e).tT (fun c v _ q=>k c v q) (fun c q=>by rw[az (aJ q hn)]; exact q) fun c xs q=>by rw[az (aJ q hn)]; exact q
end
def Rd (H:Hp)(a:Addr)(u:HO):Prop:=H a=some u∨ ∃o,H a=some (.C9 o u)
theorem Rd.ok {P:Program}{w:World}{H:Hp}{h:Heap}{a:Addr}{u:HO}(r:Rd H a u)(x:oE P w H h):dA P w H h a u:=by
 rcases r with r|⟨o,r⟩
 ·exact x a u r
 ·obtain⟨_,q⟩:=x a _ r
  exact q
def Rm:Option HO->Prop
 |some (.lst _)=>True
 |some (.dK _)=>True
 |some (.dT _)=>True
 |some (.set _ _)=>True
 |some (.ins _ _ _)=>True
 |some (.ext _)=>True
 |_=>False
section
variable {P:Program}{w:World}{H:Hp}{h h':Heap}{x e:Addr}{o':HO}
theorem oE.write (ok:oE P w H h)(mu:Rm (H x))(he:e=x∨H e=some (.own x))(k: ∀b u,b≠e->h.get? b=some u->h'.get? b=some u)(QE: ∃u,h'.get? e=some u)
  (new:dA P w (upd H x o') h' x o'):oE P w (upd H x o') h':=fun b u q=>by
 have Rn: ∀c y,H c=some (.own y)->c≠x:=fun c y r z=>by subst z; rw[r] at mu; exact mu
 have V6: ∀c xs,H c=some (.tup xs)->c≠x:=fun c xs r z=>by subst z; rw[r] at mu; exact mu
 by_cases hb:b=x
 ·subst hb; rw[ag] at q; cases q; exact new
 ·rw[az hb] at q
  by_cases N3:b=e
  ·have q':H b=some (.own x):=by
    rcases he with z|z
    ·exact absurd (N3.trans z) hb
    ·rw[N3]; exact z
   rw[q] at q'; cases q'
   obtain⟨v,hv⟩:=QE
   exact⟨v,by rw[N3]; exact hv⟩
  ·refine(ok b u q).tT (fun c v hc r=>k c v ?_ r) (fun c r=>by rw[az (Rn c b r)]; exact r) fun c xs r=>by rw[az (V6 c xs r)]; exact r
   rcases hc with rfl|hc
   ·exact N3
   ·rintro rfl
    rcases he with z|z
    ·exact Rn c b hc z
    ·rw[hc] at z; cases z; exact hb rfl
end
structure Un (fs ex:List Addr)(H H':Hp)(h h':Heap):Prop where
 keep: ∀b o,h.get? b=some o->H b=none->b∉fs->b∉ex->h'.get? b=some o
 slot: ∀b o,h.get? b=some o->H b=none->b∈fs->b∉ex-> ∃sl,h'.get? b=some {o with slots:=sl}
 free: ∀b o,h.get? b=some o->H b=none->b∉ex->H' b=none
 there: ∀b o,h.get? b=some o->b∉ex-> ∃o',h'.get? b=some o'
 qw: ∀b xs,H b=some (.tup xs)->H' b=some (.tup xs)
 pF: ∀b o u,H b=some (.C9 o u)->H' b=some (.C9 o u)
 pG: ∀b ps,H b=some (.mO ps)-> ∃more,H' b=some (.mO (ps ++ more))
section
variable {fs fs' ex ex':List Addr}{H H1 H2:Hp}{h h1 h2 h':Heap}{a x e:Addr}{o:HO}
theorem Un.any (u:Un fs ex H H1 h h1){b:Addr}{ob:Obj}(q:h.get? b=some ob)(n:H b=none)(hx:b∉ex): ∃sl,h1.get? b=some {ob with slots:=sl}:=by
 by_cases hb:b∈fs
 ·exact u.slot b ob q n hb hx
 ·exact⟨ob.slots,u.keep b ob q n hb hx⟩
theorem Un.kept (k: ∀b u,h.get? b=some u->h'.get? b=some u):Un fs ex H H h h':=
 ⟨fun b ob q _ _ _=>k b ob q,fun b ob q _ _ _=>⟨ob.slots,k b ob q⟩,fun _ _ _ n _=>n,fun b ob q _=>⟨ob,k b ob q⟩,fun _ _ q=>q,fun _ _ _ q=>q,fun _ ps q=>⟨#[],by rw[q]; simp⟩⟩
theorem Un.refl:Un fs ex H H h h:=Un.kept fun _ _ q=>q
theorem Un.laid (k: ∀b u,h.get? b=some u->h'.get? b=some u)(hp:h.objs.size<=a)(hn:H a=none):Un fs ex H (upd H a o) h h' where
 keep:=fun b u q _ _ _=>k b u q
 slot:=fun b u q _ _ _=>⟨u.slots,k b u q⟩
 free:=fun b u q n _=>by rw[az (a6 (bg (aM q) hp))]; exact n
 there:=fun b u q _=>⟨u,k b u q⟩
 qw:=fun b xs q=>by rw[az (aJ q hn)]; exact q
 pF:=fun b u xs q=>by rw[az (aJ q hn)]; exact q
 pG:=fun b ps q=>⟨#[],by rw[az (aJ q hn),q]; simp⟩
theorem Un.write (mu:Rm (H x))(he:e=x∨H e=some (.own x))(k: ∀b u,b≠e->h.get? b=some u->h'.get? b=some u)(QE: ∃u,h'.get? e=some u):Un fs ex H (upd H x o) h h':=by
 have hx: ∀b,H b=none->b≠x:=fun b n z=>by subst z; rw[n] at mu; exact mu
 have hb: ∀b,H b=none->b≠e:=fun b n z=>by
  subst z
  rcases he with r|r
  ·exact hx b n r
  ·rw[n] at r; cases r
 have hm: ∀b u,H b=some u-> ¬ Rm (some u)->b≠x:=fun b u q nm z=>by subst z; rw[q] at mu; exact nm mu
 refine⟨fun b u q n _ _=>k b u (hb b n) q,fun b u q n _ _=>⟨u.slots,k b u (hb b n) q⟩,fun b u q n _=>by rw[az (hx b n)]; exact n,fun b u q _=>?_,
  fun b xs q=>by rw[az (hm b _ q fun z=>z)]; exact q,fun b u xs q=>by rw[az (hm b _ q fun z=>z)]; exact q,fun b ps q=>⟨#[],by rw[az (hm b _ q fun z=>z),q]; simp⟩⟩
 by_cases N3:b=e
 ·subst N3; exact QE
 ·exact⟨u,k b u N3 q⟩
end
def U3 (h:Heap)(H:Hp):List Addr:=(List.range h.objs.size).filter fun a=>(H a).isSome
def wK (h:Heap)(H:Hp):Heap:=PySem.W.hideAll h (U3 h H)
theorem Gk (h:Heap)(H:Hp):(wK h H).objs.size=h.objs.size:=PySem.W.hideAll_size _ _
theorem IA {h:Heap}{H:Hp}{b:Addr}{o:Obj}(e:h.get? b=some o)(n:H b=none):(wK h H).get? b=some o:=
 PySem.W.hideAll_get _ e fun hm=>by
  have q:(H b).isSome=true:=(eY.mp hm).2
  rw[n] at q; simp at q
theorem Ll {h:Heap}{H:Hp}{b:Addr}{o:Obj}(e:(wK h H).get? b=some o):h.get? b=some o/\H b=none:=by
 have e':h.get? b=some o:=PySem.W.of_hideAll (U3 h H) e
 refine⟨e',?_⟩
 cases q:H b with
 |none=>rfl
 |some x=>
  have hm:b∈U3 h H:=List.mem_filter.mpr ⟨List.mem_range.mpr (Heap.lt_size e'),by simp[q]⟩
  have z:(wK h H).get? b=none:=PySem.W.hideAll_none (U3 h H) hm
  rw[z] at e; cases e
structure Mod (K:Frag)(mg:Str->Option Value)(base:Heap):Prop where
 Lm:K.In base
 glob:base.Ns mainGlobals mg
 blt: ∃mb,base.Ns builtinsNs mb/\ ∀x:Str,x≠"__name__"->mb x=bootBuiltins x
 nolimit:base.NoLimit
structure Cx where
 prog:Program
 w:World
 K:Frag
 mg:Str->Option Value
 base:Heap
 A:Around
 N:List Str
 s₀:Shared
 H₀:Hp
 env:Env
 outer:List Env
 stack:List Env
 ex:List Addr
 fn:Str->Bool
 calm:Bool
 pn:List (Addr×Obj)
 xe:Value->Shared->Prop
def Dn (l:List Env):List Addr:=l.filterMap (·.frame)
abbrev Cx.fs (X:Cx):List Addr:=Dn X.outer
def Ro (sc:Scope)(x:Str):Prop:=sc.names.lookup x=some .local∨sc.names.lookup x=some .cell∨sc.names.lookup x=some .free
def Loc (sc:Scope)(x:Str):Prop:=sc.names.lookup x=some .local∨sc.names.lookup x=some .cell
def Look (env:Env)(h:Heap)(m:Str->Option Value)(x:Str)(u:Value):Prop:=
 (env.kindOf x=some .local/\m x=some u)∨((env.kindOf x=some .cell∨env.kindOf x=some .free)/\ ∃c,env.cells.lookup x=some c/\h.IsCell c (some u))
structure Cx.Ok (X:Cx):Prop where
 mod:Mod X.K X.mg X.base
 kind:X.env.scope.kind= .function
 glob:X.env.globals=mainGlobals
 blt:X.env.builtins=builtinsNs
 above:X.s₀.heap.objs.size<=X.env.locals
 inj: ∀x y c,X.env.cells.lookup x=some c->X.env.cells.lookup y=some c->x=y
 has: ∀x,(X.env.kindOf x=some .cell∨X.env.kindOf x=some .free)-> ∃c,X.env.cells.lookup x=some c
 KW: ∀x c,X.fn x=true->X.env.cells.lookup x=some c->X.s₀.heap.objs.size<=c
 hd:X.calm=true->X.A.handled=none
 frames:X.A.frames=some X.stack
 Ij:X.stack=X.outer∨(X.stack=X.env :: X.outer/\X.env.frame=some X.env.locals)
 Ln: ∀b∈X.ex,b≠X.env.locals/\ ∀x c,X.env.cells.lookup x=some c->c≠b
 bs: ∀b o,X.base.get? b=some o->X.s₀.heap.get? b=some o/\X.H₀ b=none
 Be:X.base.objs.size<=X.s₀.heap.objs.size
 wL: ∀b o,X.base.get? b=some o->b∉X.ex
 wM: ∀b∈X.ex,b∉X.fs
 lW:X.s₀.heap.FunFrames X.base X.outer
 EH: ∀b∈X.fs,X.H₀ b=none
structure Inv (X:Cx)(pins:List (Addr×Obj))(σ:List (Option V))(H:Hp)(s:Shared):Prop where
 ok:X.Ok
 os:s.os=X.s₀.os
 bare:AllBare s.gens
 base:Un X.fs X.ex X.H₀ H X.s₀.heap s.heap
 loc: ∃m,s.heap.Ns X.env.locals m/\ ∀(i:Nat) (x:Str) (v:V),X.N[i]? =some x->σ[i]? =some (some v)->Ro X.env.scope x-> ∃u,RelV v u/\Look X.env s.heap m x u
 cell: ∀x c,X.env.cells.lookup x=some c-> ∃v,s.heap.IsCell c v
 free:H X.env.locals=none
 iM: ∀x c,X.env.cells.lookup x=some c->H c=none
 pin: ∀p∈X.pn ++ pins,s.heap.get? p.1=some p.2/\H p.1=none/\p.1≠X.env.locals/\p.1∉X.fs/\ ∀v,p.2.data≠ .cell v
 cu:oE X.prog X.w H s.heap
 len:σ.length=X.N.length
section
variable {X:Cx}{pins:List (Addr×Obj)}{σ:List (Option V)}{H H':Hp}{s:Shared}{h':Heap}
theorem Cx.Ok.V7 (ok:X.Ok){b:Addr}{o:Obj}(e:X.base.get? b=some o):b∉X.fs:=fun hb=>by
 have:=(ok.lW.mem hb).1
 rw[e] at this; cases this
theorem Inv.bs (I:Inv X pins σ H s): ∀b o,X.base.get? b=some o->s.heap.get? b=some o/\H b=none:=fun b o e=>
 ⟨I.base.keep b o (I.ok.bs b o e).1 (I.ok.bs b o e).2 (I.ok.V7 e) (I.ok.wL b o e),I.base.free b o (I.ok.bs b o e).1 (I.ok.bs b o e).2 (I.ok.wL b o e)⟩
theorem Inv.bk (I:Inv X pins σ H s): ∀b o,X.base.get? b=some o->s.heap.get? b=some o:=fun b o e=>(I.bs b o e).1
theorem Inv.mod (I:Inv X pins σ H s):Mod X.K X.mg X.base:=I.ok.mod
theorem Inv.gO (I:Inv X pins σ H s):X.K.In s.heap:=I.ok.mod.Lm.keeps I.bk
theorem Inv.nolimit (I:Inv X pins σ H s):s.heap.NoLimit:=I.ok.mod.nolimit.keeps I.bk
theorem Inv.fr (I:Inv X pins σ H s): ∃m,Fr X.base X.env.locals s.heap m:=
 let⟨m,hn,_⟩:=I.loc
 ⟨m,hn,I.bk,aZ I.ok.Be I.ok.above⟩
theorem Inv.lt (I:Inv X pins σ H s):X.env.locals < s.heap.objs.size:=let⟨_,hn,_⟩:=I.loc; hn.lt
theorem Inv.sz (I:Inv X pins σ H s):X.s₀.heap.objs.size<=s.heap.objs.size:=aZ I.ok.above (dz I.lt)
theorem Inv.Gm (I:Inv X pins σ H s){a:Addr}(h:s.heap.objs.size<=a):a∉X.fs:=fun hb=>by
 obtain⟨_,o,ho,_⟩:=I.ok.lW.mem hb
 exact absurd (bg (aM ho) (aZ I.sz h)) (iQ _)
theorem Inv.M9 (I:Inv X pins σ H s): ∀x c,X.env.cells.lookup x=some c->c≠X.env.locals:=fun x c e z=>by
 obtain⟨v,o,ho,hd⟩:=I.cell x c e
 obtain⟨m,⟨o',es,ep,Lo,Ik,_⟩,_⟩:=I.loc
 rw[z,Lo] at ho; cases ho; rw[Ik] at hd; cases hd
theorem Inv.lW (I:Inv X pins σ H s):s.heap.FunFrames X.base X.outer:=by
 have all: ∀(l:List Env),(∀b∈Dn l,b∈X.fs)->X.s₀.heap.FunFrames X.base l->s.heap.FunFrames X.base l:=by
  intro l
  induction l with
  |nil=>intro _ _; trivial
  |cons env r ih=>
   intro hs hl
   obtain⟨hk,⟨L,o,hf,hn,ho,hd⟩,hr⟩:=hl
   have hL:L∈X.fs:=hs L (by unfold Dn; rw[List.filterMap_cons,hf]; exact List.mem_cons_self)
   obtain⟨sl,e⟩:=I.base.slot L o ho (I.ok.EH L hL) hL fun z=>I.ok.wM L z hL
   exact⟨hk,⟨L,_,hf,hn,e,hd⟩,ih (fun b hb=>hs b (by unfold Dn; rw[List.filterMap_cons,hf]; exact List.mem_cons_of_mem _ hb)) hr⟩
 exact all X.outer (fun _ hb=>hb) I.ok.lW
theorem Inv.stack (I:Inv X pins σ H s):s.heap.FunFrames X.base X.stack:=by
 rcases I.ok.Ij with e|⟨e,hf⟩
 ·rw[e]; exact I.lW
 ·rw[e]
  obtain⟨m,hn,_⟩:=I.loc
  refine .cons (by rw[I.ok.kind]; decide) hf hn ?_ I.lW
  exact Heap.get?_none_of_le (aZ I.ok.Be I.ok.above)
theorem Inv.uJ (I:Inv X pins σ H s): ∀b∈Dn X.stack,b∈X.env.locals :: X.fs:=fun b hb=>by
 rcases I.ok.Ij with e|⟨e,hf⟩
 ·rw[e] at hb; exact ba _ hb
 ·rw[e] at hb
  unfold Dn at hb
  rw[List.filterMap_cons,hf] at hb
  exact hb
theorem Inv.qx (I:Inv X pins σ H s): ∀b∈Dn X.stack,H b=none:=fun b hb=>by
 rcases aw.mp (I.uJ b hb) with e|hb
 ·rw[e]; exact I.free
 ·obtain⟨_,o,ho,_⟩:=I.ok.lW.mem hb
  exact I.base.free b o ho (I.ok.EH b hb) fun z=>I.ok.wM b z hb
theorem Inv.step {g':Array GenState}{t':Nat}{d':Drawn}{ch:List Addr}(I:Inv X pins σ H s)
  (Bf: ∀b∈ch,(b∈X.ex∨X.s₀.heap.objs.size<=b)/\b≠X.env.locals/\(∀x c,X.env.cells.lookup x=some c->c≠b)/\ ∀p∈X.pn ++ pins,p.1≠b)
  (keep: ∀b o,b≠X.env.locals->b∉X.fs->b∉ch->s.heap.get? b=some o->H b=none->h'.get? b=some o)
  (slot: ∀b o,b≠X.env.locals->b∈X.fs->b∉ch->s.heap.get? b=some o->H b=none-> ∃sl,h'.get? b=some {o with slots:=sl}) (free: ∀b o,b∉ch->s.heap.get? b=some o->H b=none->H' b=none)
  (there: ∀b o,b∉ch->s.heap.get? b=some o-> ∃o',h'.get? b=some o')
  (qw: ∀b xs,H b=some (.tup xs)->H' b=some (.tup xs)) (pF: ∀b o u,H b=some (.C9 o u)->H' b=some (.C9 o u)) (pG: ∀b ps,H b=some (.mO ps)-> ∃more,H' b=some (.mO (ps ++ more)))
  (ns: ∀m,s.heap.Ns X.env.locals m->h'.Ns X.env.locals m) (cu:oE X.prog X.w H' h') (hg:AllBare g'):
  Inv X pins σ H' {s with heap:=h',gens:=g',drawn:=d',toks:=t'}:=by
 have Zi: ∀b o,X.s₀.heap.get? b=some o->b≠X.env.locals:=fun b o e=>a6 (bg (aM e) I.ok.above)
 have U4: ∀b o,X.s₀.heap.get? b=some o->b∉X.ex->b∉ch:=fun b o e hx hb=>by
  rcases(Bf b hb).1 with z|z
  ·exact hx z
  ·exact absurd (bg (aM e) z) (iQ _)
 have cellK: ∀x c,X.env.cells.lookup x=some c-> ∀v,s.heap.IsCell c v->h'.IsCell c v:=fun x c e v ⟨o,ho,hd⟩=>by
  have Rq:c∉ch:=fun z=>(Bf c z).2.2.1 x c e rfl
  by_cases hc:c∈X.fs
  ·obtain⟨sl,q⟩:=slot c o (I.M9 x c e) hc Rq ho (I.iM x c e)
   exact⟨_,q,hd⟩
  ·exact⟨o,keep c o (I.M9 x c e) hc Rq ho (I.iM x c e),hd⟩
 refine⟨I.ok,I.os,hg,⟨fun b o e n hb hx=>?_,fun b o e n hb hx=>?_,fun b o e n hx=>?_,fun b o e hx=>?_,fun b xs e=>qw b xs (I.base.qw b xs e),fun b o xs e=>pF b o xs (I.base.pF b o xs e),fun b ps e=>?_⟩,?_,fun x c e=>?_,?_,fun x c e=>?_,fun p hp=>?_,cu,I.len⟩
 ·exact keep b o (Zi b o e) hb (U4 b o e hx) (I.base.keep b o e n hb hx) (I.base.free b o e n hx)
 ·obtain⟨sl,e1⟩:=I.base.slot b o e n hb hx
  obtain⟨sl',e2⟩:=slot b _ (Zi b o e) hb (U4 b o e hx) e1 (I.base.free b o e n hx)
  exact⟨sl',e2⟩
 ·obtain⟨o',e1⟩:=I.base.there b o e hx
  exact free b o' (U4 b o e hx) e1 (I.base.free b o e n hx)
 ·obtain⟨o',e1⟩:=I.base.there b o e hx
  exact there b o' (U4 b o e hx) e1
 ·obtain⟨m1,e1⟩:=I.base.pG b ps e
  obtain⟨m2,e2⟩:=pG b _ e1
  exact⟨m1 ++ m2,by rw[e2,Array.append_assoc]⟩
 ·obtain⟨m,hn,hl⟩:=I.loc
  refine⟨m,ns m hn,fun i x v e1 e2 e3=>?_⟩
  obtain⟨u,r,l⟩:=hl i x v e1 e2 e3
  refine⟨u,r,?_⟩
  rcases l with l|⟨k,c,e,z⟩
  ·exact .inl l
  ·exact .inr ⟨k,c,e,cellK x c e _ z⟩
 ·obtain⟨v,z⟩:=I.cell x c e
  exact⟨v,cellK x c e v z⟩
 ·obtain⟨m,⟨o,_,_,ho,_⟩,_⟩:=I.loc
  exact free _ o (fun z=>(Bf _ z).2.1 rfl) ho I.free
 ·obtain⟨v,o,ho,hd⟩:=I.cell x c e
  exact free c o (fun z=>(Bf c z).2.2.1 x c e rfl) ho (I.iM x c e)
 ·obtain⟨e,n,ne,nf,d⟩:=I.pin p hp
  have Rq:p.1∉ch:=fun z=>(Bf p.1 z).2.2.2 p hp rfl
  exact⟨keep p.1 p.2 ne nf Rq e n,free p.1 p.2 Rq e n,ne,nf,d⟩
theorem Inv.un {t':Nat}(I:Inv X pins σ H s)(u:Un X.fs [] H H' s.heap h')(cu:oE X.prog X.w H' h'):Inv X pins σ H' {s with heap:=h',toks:=t'}:=by
 obtain⟨m,⟨o,es,ep,ho,r⟩,_⟩:=id I.loc
 obtain⟨sl,hL⟩:=u.any ho I.free (by simp)
 exact I.step (g':=s.gens) (d':=s.drawn) (ch:=[]) (fun _ z=>nomatch z) (fun b o _ hb _ e n=>u.keep b o e n hb (by simp)) (fun b o _ hb _ e n=>u.slot b o e n hb (by simp)) (fun b o _ e n=>u.free b o e n (by simp)) (fun b o _ e=>u.there b o e (by simp)) u.qw u.pF u.pG (fun m' hm=>by
  obtain⟨o',V8,V9,Lo,r'⟩:=hm
  rw[ho] at Lo; cases Lo
  exact⟨_,V8,V9,hL,r'⟩) cu I.bare
theorem Inv.call {g':Array GenState}{t':Nat}{d':Drawn}{ch:List Addr}(I:Inv X pins σ H s)(u:Un (Dn X.stack) ch H H' s.heap h')(cu:oE X.prog X.w H' h')(hg:AllBare g')
  (Bf: ∀b∈ch,(b∈X.ex∨X.s₀.heap.objs.size<=b)/\b≠X.env.locals/\(∀x c,X.env.cells.lookup x=some c->c≠b)/\ ∀p∈X.pn ++ pins,p.1≠b):
  Inv X pins σ H' {s with heap:=h',gens:=g',drawn:=d',toks:=t'}:=by
 obtain⟨m,⟨o,es,ep,ho,r⟩,_⟩:=id I.loc
 obtain⟨sl,hL⟩:=u.any ho I.free fun z=>(Bf _ z).2.1 rfl
 exact I.step (ch:=ch) Bf (fun b o hL hb hc e n=>u.keep b o e n (fun z=>(aw.mp (I.uJ b z)).elim hL hb) hc) (fun b o _ _ hc e n=>u.any e n hc) (fun b o hc e n=>u.free b o e n hc) (fun b o hc e=>u.there b o e hc) u.qw u.pF u.pG (fun m' hm=>by
  obtain⟨o',V8,V9,Lo,r'⟩:=hm
  rw[ho] at Lo; cases Lo
  exact⟨_,V8,V9,hL,r'⟩) cu hg
theorem Inv.turned {t':Nat}{it:Addr}(I:Inv X pins σ H s)(k: ∀b o,b≠it->s.heap.get? b=some o->h'.get? b=some o)(hn:H it=none)(hL:it≠X.env.locals)
  (h1:it∈X.ex∨X.s₀.heap.objs.size<=it) (h2: ∀x c,X.env.cells.lookup x=some c->c≠it) (h3: ∀p∈X.pn ++ pins,p.1≠it):Inv X pins σ H {s with heap:=h',toks:=t'}:=by
 have Rt: ∀b u,H b=some u->b≠it:=fun b u e z=>by rw[z,hn] at e; cases e
 refine I.step (g':=s.gens) (d':=s.drawn) (ch:=[it]) (fun b hb=>?_) (fun b o _ _ hc e _=>k b o (fun z=>hc (by simp[z])) e) (fun b o _ _ hc e _=>⟨o.slots,k b o (fun z=>hc (by simp[z])) e⟩) (fun _ _ _ _ n=>n)
  (fun b o hc e=>⟨o,k b o (fun z=>hc (by simp[z])) e⟩) (fun _ _ e=>e) (fun _ _ _ e=>e) (fun b ps e=>⟨#[],by rw[e]; simp⟩) (fun m hm=>?_) (fun b u e=>?_) I.bare
 ·have e:b=it:=by simpa using hb
  subst e
  exact⟨h1,hL,h2,h3⟩
 ·obtain⟨o,es,ep,ho,r⟩:=hm
  exact⟨o,es,ep,k _ o (wG hL) ho,r⟩
 ·refine(I.cu b u e).tT (fun c v hc q=>k c v ?_ q) (fun _ q=>q) fun _ _ q=>q
  rcases hc with z|z
  ·rw[z]; exact Rt b u e
  ·exact Rt c _ z
theorem Inv.tok (I:Inv X pins σ H s)(t:Nat):Inv X pins σ H {s with toks:=t}:=I.un (h':=s.heap) (t':=t) Un.refl I.cu
theorem Inv.kept {t':Nat}(I:Inv X pins σ H s)(k: ∀b u,s.heap.get? b=some u->h'.get? b=some u):Inv X pins σ H {s with heap:=h',toks:=t'}:=I.un (Un.kept k) (I.cu.kept k)
theorem Inv.laid {a:Addr}{o:HO}{t':Nat}(I:Inv X pins σ H s)(k: ∀b u,s.heap.get? b=some u->h'.get? b=some u)(hp:s.heap.objs.size<=a)(new:dA X.prog X.w (upd H a o) h' a o):
  Inv X pins σ (upd H a o) {s with heap:=h',toks:=t'}:=I.un (Un.laid k hp (I.cu.fresh hp)) (I.cu.laid k hp new)
theorem Inv.write {x e:Addr}{o:HO}{t':Nat}(I:Inv X pins σ H s)(mu:Rm (H x))(he:e=x∨H e=some (.own x))(k: ∀b u,b≠e->s.heap.get? b=some u->h'.get? b=some u)(QE: ∃u,h'.get? e=some u)
  (new:dA X.prog X.w (upd H x o) h' x o):Inv X pins σ (upd H x o) {s with heap:=h',toks:=t'}:=I.un (Un.write mu he k QE) (I.cu.write mu he k QE new)
theorem Inv.uo {Bg:List (Addr×Obj)}(I:Inv X pins σ H s)(h: ∀p∈Bg,s.heap.get? p.1=some p.2/\H p.1=none/\p.1≠X.env.locals/\p.1∉X.fs/\ ∀v,p.2.data≠ .cell v):Inv X Bg σ H s:=
 ⟨I.ok,I.os,I.bare,I.base,I.loc,I.cell,I.free,I.iM,fun p hp=>(bq.mp hp).elim (fun z=>I.pin p (c8 _ z)) (h p),I.cu,I.len⟩
theorem Bh {N:List Str}(hN:N.Nodup){i j:Nat}{x:Str}(a:N[i]? =some x)(b:N[j]? =some x):i=j:=by
 obtain⟨h1,e1⟩:=ak.mp a
 obtain⟨h2,e2⟩:=ak.mp b
 exact(List.getElem_inj hN).mp (e1.trans e2.symm)
theorem xY {M:Model}{A:Around}{E:Value->Shared->Prop}{i:Nat}{x:Str}{v:V}{u:Value}{Q:Unit->Shared->Prop}(I:Inv X pins σ H s)(hN:X.N.Nodup)(hi:X.N[i]? =some x)(hx:Loc X.env.scope x)(r:RelV v u)
  (h: ∀s',Inv X pins (σ.set i (some v)) H s'->(∃a,Heap.SameBut a s.heap s'.heap/\(a=X.env.locals∨X.env.cells.lookup x=some a))->Q () s') (hf:X.fn x=true∨X.env.scope.names.lookup x=some .local:=by first|exact .inl rfl|exact .inr rfl|assumption):wpAny M A (storeName X.env x u) Q E s:=by
 obtain⟨m,hn,hl⟩:=id I.loc
 have N4:(X.env.scope.kind == .class || (X.env.scope.kind == .module && X.env.locals != X.env.globals))=false:=by rw[I.ok.kind]; rfl
 have Zj:i < σ.length:=by rw[I.len]; exact(ak.mp hi).1
 have M9:=I.M9
 have tracked: ∀{a:Addr} {h':Heap},(∃o,s.heap.get? a=some o/\H a=none)->Heap.SameBut a s.heap h'->oE X.prog X.w H h':=fun{a h'} ha hs b ob e=>by
  obtain⟨_,_,xZ⟩:=ha
  refine(I.cu b ob e).tT (fun c w' hc q=>(hs.2 c ?_).trans q) (fun _ q=>q) fun _ _ q=>q
  rintro rfl
  rcases hc with rfl|hc
  ·rw[xZ] at e; cases e
  ·rw[xZ] at hc; cases hc
 rcases hx with hk|hk
 ·refine wpAny_storeName_local hk hn (fun h' Wa hs=>?_) N4
  obtain⟨oL,_,_,N5,_⟩:=id hn
  refine h _ ⟨I.ok,I.os,I.bare,⟨fun b o e n hb hx=>?_,fun b o e n hb hx=>?_,I.base.free,fun b o e hx=>?_,I.base.qw,I.base.pF,I.base.pG⟩,⟨_,Wa,fun j y v' e1 e2 e3=>?_⟩,fun y c e=>?_,I.free,I.iM,fun p hp=>?_,tracked ⟨oL,N5,I.free⟩ hs,by simpa using I.len⟩ ⟨_,hs,.inl rfl⟩
  ·exact(hs.2 b (a6 (bg (aM e) I.ok.above))).trans (I.base.keep b o e n hb hx)
  ·obtain⟨sl,e1⟩:=I.base.slot b o e n hb hx
   exact⟨sl,(hs.2 b (a6 (bg (aM e) I.ok.above))).trans e1⟩
  ·obtain⟨o',e1⟩:=I.base.there b o e hx
   exact⟨o',(hs.2 b (a6 (bg (aM e) I.ok.above))).trans e1⟩
  ·by_cases hj:j=i
   ·subst hj
    rw[hi] at e1; cases e1
    rw[k9 Zj] at e2
    cases e2
    exact⟨u,r,.inl ⟨hk,by simp⟩⟩
   ·rw[mM (wG hj)] at e2
    obtain⟨u',r',q⟩:=hl j y v' e1 e2 e3
    refine⟨u',r',?_⟩
    rcases q with⟨k,e⟩|⟨k,c,e,z⟩
    ·refine .inl ⟨k,?_⟩
     have:y≠x:=fun e=>hj (Bh hN e1 (e▸hi))
     simp[this,e]
    ·exact .inr ⟨k,c,e,z.sameBut hs (M9 y c e)⟩
  ·obtain⟨w',z⟩:=I.cell y c e
   exact⟨w',z.sameBut hs (M9 y c e)⟩
  ·obtain⟨e,n,ne,nf,d⟩:=I.pin p hp
   exact⟨(hs.2 p.1 ne).trans e,n,ne,nf,d⟩
 ·have Lp:X.fn x=true:=by
   rcases hf with z|z
   ·exact z
   ·rw[z] at hk; cases hk
  obtain⟨c,hc⟩:=I.ok.has x (.inl hk)
  obtain⟨w',z⟩:=I.cell x c hc
  refine wpAny_storeName_cell I.ok.kind hk hc z (fun h' Ru hs=>?_)
  obtain⟨oc,QF,Wb⟩:=id z
  refine h {s with heap:=h'} ⟨I.ok,I.os,I.bare,⟨fun b o e n hb hx=>?_,fun b o e n hb hx=>?_,I.base.free,fun b o e hx=>?_,I.base.qw,I.base.pF,I.base.pG⟩,⟨m,hn.sameBut hs (Ne.symm (M9 x c hc)),fun j y v' e1 e2 e3=>?_⟩,fun y c' e=>?_,I.free,I.iM,fun p hp=>?_,tracked ⟨oc,QF,I.iM x c hc⟩ hs,by simpa using I.len⟩ ⟨c,hs,.inr hc⟩
  ·exact(hs.2 b (a6 (bg (aM e) (I.ok.KW x c Lp hc)))).trans (I.base.keep b o e n hb hx)
  ·obtain⟨sl,e1⟩:=I.base.slot b o e n hb hx
   exact⟨sl,(hs.2 b (a6 (bg (aM e) (I.ok.KW x c Lp hc)))).trans e1⟩
  ·obtain⟨o',e1⟩:=I.base.there b o e hx
   exact⟨o',(hs.2 b (a6 (bg (aM e) (I.ok.KW x c Lp hc)))).trans e1⟩
  ·by_cases hj:j=i
   ·subst hj
    rw[hi] at e1; cases e1
    rw[k9 Zj] at e2
    cases e2
    exact⟨u,r,.inr ⟨.inl hk,c,hc,Ru⟩⟩
   ·rw[mM (wG hj)] at e2
    obtain⟨u',r',q⟩:=hl j y v' e1 e2 e3
    refine⟨u',r',?_⟩
    rcases q with q|⟨k,c',e,z'⟩
    ·exact .inl q
    ·refine .inr ⟨k,c',e,z'.sameBut hs ?_⟩
     rintro rfl
     exact hj (Bh hN e1 (I.ok.inj _ _ _ e hc▸hi))
  ·by_cases U5:c'=c
   ·subst U5; exact⟨_,Ru⟩
   ·obtain⟨w2,z2⟩:=I.cell y c' e
    exact⟨w2,z2.sameBut hs U5⟩
  ·obtain⟨e,n,ne,nf,d⟩:=I.pin p hp
   refine⟨(hs.2 p.1 ?_).trans e,n,ne,nf,d⟩
   intro q
   rw[q,QF] at e
   have q':oc=p.2:=aF e
   exact d w' (by rw[← q']; exact Wb)
theorem uK {M:Model}{A:Around}{E:Value->Shared->Prop}{i:Nat}{x:Str}{v:V}{u:Value}{Q:Unit->Shared->Prop}(I:Inv X pins σ H s)(hN:X.N.Nodup)(hi:X.N[i]? =some x)(hx:Loc X.env.scope x)(r:RelV v u)
  (h: ∀s',Inv X pins (σ.set i (some v)) H s'->Q () s') (hf:X.fn x=true∨X.env.scope.names.lookup x=some .local:=by first|exact .inl rfl|exact .inr rfl|assumption):wpAny M A (storeName X.env x u) Q E s:=
 xY I hN hi hx r (fun s' I' _=>h s' I') hf
theorem Inv.EI {s':Shared}{ch:List Addr}(I:Inv X pins σ H s)(ho:s'.os=s.os)(u:Un (Dn X.stack) ch H H' s.heap s'.heap)(cu:oE X.prog X.w H' s'.heap)(hg:AllBare s'.gens)
  (Bf: ∀b∈ch,(b∈X.ex∨X.s₀.heap.objs.size<=b)/\b≠X.env.locals/\(∀x c,X.env.cells.lookup x=some c->c≠b)/\ ∀p∈X.pn ++ pins,p.1≠b):Inv X pins σ H' s':=by
 obtain⟨h',g',d',t',o'⟩:=s'
 have e:o'=s.os:=ho
 subst e
 exact I.call (g':=g') (t':=t') (d':=d') u cu hg Bf
end
abbrev XK:=Value->Option Addr->Hp->Prop
abbrev St:=List (Option V)
abbrev VK:=V->Hp->Prop
abbrev TE:=St->Hp->VK->Prop
abbrev TT:=St->Hp->(Bool->Hp->Prop)->Prop
abbrev TA:=St->Hp->(List V->Hp->Prop)->Prop
structure Ends where
 nx:St->Hp->Prop
 rt:VK
 bk:St->Hp->Prop:=fun _ _=>False
 ct:St->Hp->Prop:=fun _ _=>False
abbrev TS:=Ends->St->Hp->Prop
def EP (X:Cx)(pins:List (Addr×Obj))(σ:St)(Q:VK)(u:Value)(s':Shared):Prop:= ∃v H',Inv X pins σ H' s'/\RelV v u/\Q v H'
def TP (X:Cx)(pins:List (Addr×Obj))(σ:St)(Q:Bool->Hp->Prop)(b:Bool)(s':Shared):Prop:= ∃H',Inv X pins σ H' s'/\Q b H'
def AP (X:Cx)(pins:List (Addr×Obj))(σ:St)(Q:List V->Hp->Prop)(us:List Value)(s':Shared):Prop:= ∃vs H',Inv X pins σ H' s'/\Vals vs us/\Q vs H'
def SP (X:Cx)(pins:List (Addr×Obj))(D:Ends)(f:Flow)(s':Shared):Prop:=
 match f with
 | .next=> ∃σ' H',Inv X pins σ' H' s'/\D.nx σ' H'
 | .brk=> ∃σ' H',Inv X pins σ' H' s'/\D.bk σ' H'
 | .cont=> ∃σ' H',Inv X pins σ' H' s'/\D.ct σ' H'
 | .ret u=> ∃v σ' H',Inv X pins σ' H' s'/\RelV v u/\D.rt v H'
def PE (X:Cx)(e:Expr)(t:TE):Prop:=
 ∀(pins:List (Addr×Obj)) (s:Shared) (σ:St) (H:Hp) (Q:VK),Inv X pins σ H s->t σ H Q->wpAny (model X.prog X.w) X.A (eval e X.env) (EP X pins σ Q) X.xe s
def PT (X:Cx)(e:Expr)(t:TT):Prop:=
 ∀(pins:List (Addr×Obj)) (s:Shared) (σ:St) (H:Hp) (Q:Bool->Hp->Prop),Inv X pins σ H s->t σ H Q->wpAny (model X.prog X.w) X.A (isTrue e X.env (eval e X.env)) (TP X pins σ Q) X.xe s
def PW (X:Cx)(e:Expr)(t:TT):Prop:=
 ∀(whole:Sem Value) (pins:List (Addr×Obj)) (s:Shared) (σ:St) (H:Hp) (Q:Bool->Hp->Prop),Inv X pins σ H s->t σ H Q->wpAny (model X.prog X.w) X.A (isTrue e X.env whole) (TP X pins σ Q) X.xe s
theorem PW.pt {X:Cx}{e:Expr}{t:TT}(h:PW X e t):PT X e t:=h _
def PA (X:Cx)(es:List Expr)(t:TA):Prop:=
 ∀(pos:Pos) (pins:List (Addr×Obj)) (s:Shared) (σ:St) (H:Hp) (Q:List V->Hp->Prop),Inv X pins σ H s->t σ H Q->wpAny (model X.prog X.w) X.A (spliced (backTo pos (starEach es X.env))) (AP X pins σ Q) X.xe s
def PS (X:Cx)(st:Stmt)(t:TS):Prop:=
 ∀(pins:List (Addr×Obj)) (s:Shared) (σ:St) (H:Hp) (D:Ends),Inv X pins σ H s->t D σ H->wpAny (model X.prog X.w) X.A (exec st X.env) (SP X pins D) X.xe s
def oS (X:Cx)(st:List Stmt)(t:TS):Prop:=
 ∀(pins:List (Addr×Obj)) (s:Shared) (σ:St) (H:Hp) (D:Ends),Inv X pins σ H s->t D σ H->wpAny (model X.prog X.w) X.A (execs st X.env) (SP X pins D) X.xe s
theorem dR {α:Type}{t:Sem α}{Q Q':α->Shared->Prop}{M:Model}{A:Around}{E:Value->Shared->Prop}{s:Shared}(h:wpAny M A t Q E s)(hQ: ∀a s,Q a s->Q' a s):wpAny M A t Q' E s:=cf h hQ fun _ _ x=>x
section
variable {X:Cx}
inductive Zk (o:Option (Option V))(k:V->Prop):Prop
 |mk (v:V)(h:o=some (some v))(q:k v):Zk o k
def Rv (i:Nat):TE:=fun σ H Q=>Zk σ[i]? fun v=>Q v H
def tC (v:V):TE:=fun _ H Q=>Q v H
theorem Dp {i:Nat}{x:Str}{pos:Pos}(hN:X.N[i]? =some x)(hv:Ro X.env.scope x)(hd:(x == ("__debug__":Str))=false:=by decide)(rK:(x == ("__classdict__":Str))=false:=by decide):PE X (.Name x pos) (Rv i):=by
 intro pins s σ H Q I h
 obtain⟨v,e,h⟩:=h
 obtain⟨m,hn,hl⟩:=I.loc
 obtain⟨u,r,l⟩:=hl i x v hN e hv
 have fin:EP X pins σ Q u s:=⟨v,H,I,r,h⟩
 rcases l with⟨hk,hm⟩|⟨hk,c,hc,mB⟩
 ·exact wpAny_Name (wpAny_loadName_local I.ok.kind hk hn hm fin) hd
 ·rcases hk with hk|hk
  ·exact wpAny_Name (wpAny_loadName_cell I.ok.kind hk hc mB fin) hd
  ·exact wpAny_Name (wpAny_loadName_free I.ok.kind hk hc mB fin rK) hd
theorem ai {i j pos}:PE X (.Constant (.int i) j pos) (tC (.int i)):=fun _ _ _ H _ I h=>wpAny_Constant_int ⟨.int i,H,I.tok _,⟨_,rfl⟩,h⟩
theorem lj {b j pos}:PE X (.Constant (.bool b) j pos) (tC (.bl b)):=fun _ _ _ H _ I h=>Constant_bool ⟨.bl b,H,I,rfl,h⟩
theorem Dq {j pos}:PE X (.Constant .none j pos) (tC .eu):=fun _ _ _ H _ I h=>Constant_none ⟨.eu,H,I,rfl,h⟩
theorem aQ {x j pos}:PE X (.Constant (.str x) j pos) (tC (.str x)):=fun _ _ _ H _ I h=>Calls.Constant_str ⟨.str x,H,I.tok _,⟨_,rfl⟩,h⟩
def Gl (X:Cx)(x:Str):Prop:=X.env.kindOf x=some .globalImplicit
theorem jy {E:Value->Shared->Prop}{pins:List (Addr×Obj)}{s:Shared}{σ:St}{H:Hp}{x:Str}{u:Value}{pos:Pos}{Q:Value->Shared->Prop}(I:Inv X pins σ H s)(hg:Gl X x)(hm:X.mg x=some u)(h:Q u s)
  (hd:(x == ("__debug__":Str))=false:=by decide):wpAny (model X.prog X.w) X.A (eval (.Name x pos) X.env) Q E s:=
 Calls.Name_function_global I.ok.kind hg (Calls.loadGlobal_global (by rw[I.ok.glob]; exact I.mod.glob.keeps I.bk) hm h) hd
theorem lX {E:Value->Shared->Prop}{pins:List (Addr×Obj)}{s:Shared}{σ:St}{H:Hp}{x:Str}{u:Value}{pos:Pos}{Q:Value->Shared->Prop}(I:Inv X pins σ H s)(hg:Gl X x)(hm:X.mg x=none)(hv:bootBuiltins x=some u)(h:Q u s)
  (hn:x≠"__name__":=by decide) (hd:(x == ("__debug__":Str))=false:=by decide):wpAny (model X.prog X.w) X.A (eval (.Name x pos) X.env) Q E s:=by
 obtain⟨mb,h1,h2⟩:=I.mod.blt
 exact Calls.Name_function_global I.ok.kind hg (Calls.loadGlobal_builtin (by rw[I.ok.glob]; exact I.mod.glob.keeps I.bk) hm (by rw[I.ok.blt]; exact h1.keeps I.bk) ((h2 x hn).trans hv) h) hd
theorem EJ {x:Str}{v:V}{u:Value}{pos:Pos}(hg:Gl X x)(hm:X.mg x=some u)(r:RelV v u)(hd:(x == ("__debug__":Str))=false:=by decide):PE X (.Name x pos) (tC v):=
 fun _ _ _ H _ I h=>jy I hg hm ⟨v,H,I,r,h⟩ hd
theorem gA {x:Str}{v:V}{u:Value}{pos:Pos}(hg:Gl X x)(hm:X.mg x=none)(hv:bootBuiltins x=some u)(r:RelV v u)(hn:x≠"__name__":=by decide)(hd:(x == ("__debug__":Str))=false:=by decide):PE X (.Name x pos) (tC v):=
 fun _ _ _ H _ I h=>lX I hg hm hv ⟨v,H,I,r,h⟩ hn hd
variable {a b:Expr}{ta tb:TE}{pos:Pos}
def PC (X:Cx)(op:CmpOp)(a b:Expr)(t:TE):Prop:=
 ∀(pins:List (Addr×Obj)) (s:Shared) (σ:St) (H:Hp) (Q:VK),Inv X pins σ H s->t σ H Q->
  wpAny (model X.prog X.w) X.A (eval a X.env) (fun v s₁=>wpAny (model X.prog X.w) X.A (eval b X.env) (fun u s₂=>wpAny (model X.prog X.w) X.A (compareOp op v u) (EP X pins σ Q) X.xe s₂) X.xe s₁) X.xe s
theorem Bi (b:Expr){op:CmpOp}(h:op≠ .In)(h2:op≠ .NotIn):behindInMarks op b=false:=by
 have e1:(op == CmpOp.In)=false:=by cases op <;> first|rfl|exact absurd rfl h
 have e2:(op == CmpOp.NotIn)=false:=by cases op <;> first|rfl|exact absurd rfl h2
 cases b <;> simp[behindInMarks,e1,e2]
def Wc (ta:TE):TE:=fun σ H Q=>ta σ H fun x H1=>Q (.bl (decide (x= .eu))) H1
def Rx (ta:TE):TE:=fun σ H Q=>ta σ H fun x H1=>Q (.bl (!decide (x= .eu))) H1
theorem RelV.Bj {x:V}{v:Value}(r:RelV x v):(v == Value.none)=decide (x= .eu):=by
 cases x with
 |eu=>cases r; rfl
 |bl _=>cases r; rfl
 |int _=>obtain⟨t,rfl⟩:=r; rfl
 |str _=>obtain⟨t,rfl⟩:=r; rfl
 |Gj _=>obtain⟨t,rfl⟩:=r; rfl
 |Lk _=>obtain⟨t,rfl⟩:=r; rfl
 |ref _=>cases r; rfl
 |ty _=>cases r; rfl
theorem IB {j pos'}(ha:PE X a ta):PC X .Is a (.Constant .none j pos') (Wc ta):=by
 intro pins s σ H Q I h
 refine dR (ha pins s σ H _ I h) fun v s1 ⟨x,H1,I1,r1,q1⟩=>?_
 exact Constant_none (is_none_gen ⟨.bl _,H1,I1,by rw[r1.Bj]; rfl,q1⟩)
theorem Lq {j pos'}(ha:PE X a ta):PC X .IsNot a (.Constant .none j pos') (Rx ta):=by
 intro pins s σ H Q I h
 refine dR (ha pins s σ H _ I h) fun v s1 ⟨x,H1,I1,r1,q1⟩=>?_
 exact Constant_none (isnot_none_gen ⟨.bl _,H1,I1,by rw[r1.Bj]; rfl,q1⟩)
def tB (t:TE):TT:=fun σ H Q=>t σ H fun x H1=> ∃c,x= .bl c/\Q c H1
theorem N6 {op:CmpOp}{t:TE}(h:PC X op a b t)(h1:behindInMarks op b=false:=by first|exact Bi _ (by decide) (by decide)|rfl):PE X (.Compare a [op] [b] pos) t:=fun pins s σ H Q I hw=>wpAny_Compare1 (h pins s σ H Q I hw) h1
theorem yZ {op:CmpOp}{t:TE}(h:PC X op a b t)(h1:behindInMarks op b=false:=by first|exact Bi _ (by decide) (by decide)|rfl):PT X (.Compare a [op] [b] pos) (tB t):=by
 intro pins s σ H Q I hw
 refine wpAny_isTrue_Compare1 (dR (h pins s σ H _ I hw) fun v s1 h1=>dR h1 fun u s2 h2=>dR h2 fun c s3 ⟨x,H1,I1,r1,q1⟩=>?_) h1
 obtain⟨d,rfl,q⟩:=q1
 cases r1
 exact fW ⟨H1,I1,q⟩
theorem gj {e:Expr}{t:TE}(h:PE X e t)(he: ∀whole,isTrue e X.env whole=(do let v ← whole; standAt e.pos; holding [v] (truthy v)):=by intro _; rfl):PT X e (tB t):=by
 intro pins s σ H Q I hw
 refine isTrue_plain (dR (h pins s σ H _ I hw) fun v s1 ⟨x,H1,I1,r1,q1⟩=>?_) (he _)
 obtain⟨d,rfl,q⟩:=q1
 cases r1
 exact fW ⟨H1,I1,q⟩
variable {tA U6:TT}{rest:List Expr}
def Wd (t u:TT):TT:=fun σ H Q=>t σ H fun c H1=>if c=true then u σ H1 Q else Q false H1
def tOr (t u:TT):TT:=fun σ H Q=>t σ H fun c H1=>if c=true then Q true H1 else u σ H1 Q
def We (t:TT):TT:=fun σ H Q=>t σ H fun c H1=>Q (!c) H1
theorem pw_and1 (ha:PT X a tA):PW X (.BoolOp .And [a] pos) tA:=by
 intro wh pins s σ H Q I h
 refine isTrue_and (dR (ha pins s σ H Q I h) fun c s1 e=>?_)
 cases c with
 |true=>exact isTrue_and_nil e
 |false=>exact e
theorem pw_or1 (ha:PT X a tA):PW X (.BoolOp .Or [a] pos) tA:=by
 intro wh pins s σ H Q I h
 refine isTrue_or (dR (ha pins s σ H Q I h) fun c s1 e=>?_)
 cases c with
 |false=>exact isTrue_or_nil e
 |true=>exact e
theorem pw_and (ha:PT X a tA)(hb:PW X (.BoolOp .And (b :: rest) pos) U6):PW X (.BoolOp .And (a :: b :: rest) pos) (Wd tA U6):=by
 intro wh pins s σ H Q I h
 refine isTrue_and (dR (ha pins s σ H _ I h) fun c s1 ⟨H1,I1,q1⟩=>?_)
 cases c with
 |true=>exact hb wh pins s1 σ H1 Q I1 q1
 |false=>exact⟨H1,I1,q1⟩
theorem pw_or (ha:PT X a tA)(hb:PW X (.BoolOp .Or (b :: rest) pos) U6):PW X (.BoolOp .Or (a :: b :: rest) pos) (tOr tA U6):=by
 intro wh pins s σ H Q I h
 refine isTrue_or (dR (ha pins s σ H _ I h) fun c s1 ⟨H1,I1,q1⟩=>?_)
 cases c with
 |true=>exact⟨H1,I1,q1⟩
 |false=>exact hb wh pins s1 σ H1 Q I1 q1
theorem kO (ha:PT X a tA):PT X (.UnaryOp .Not a pos) (We tA):=by
 intro pins s σ H Q I h
 exact isTrue_not (ha pins s σ H (fun c H1=>Q (!c) H1) I h)
def Ry (ta tb:TE):TE:=fun σ H Q=>ta σ H fun x H1=> ∃c,x= .bl c/\if c=true then tb σ H1 Q else Q (.bl false) H1
def Wf (ta tb:TE):TE:=fun σ H Q=>ta σ H fun x H1=> ∃c,x= .bl c/\if c=true then Q (.bl true) H1 else tb σ H1 Q
def Rz (ta:TE):TE:=fun σ H Q=>ta σ H fun x H1=> ∃c,x= .bl c/\Q (.bl (!c)) H1
theorem pH {op}{t:TE}(h:PE X a t):PE X (.BoolOp op [a] pos) t:=fun pins s σ H Q I hw=>BoolOp_one (h pins s σ H Q I hw)
theorem rX (ha:PE X a ta)(hb:PE X (.BoolOp .And (b :: rest) pos) tb):PE X (.BoolOp .And (a :: b :: rest) pos) (Ry ta tb):=by
 intro pins s σ H Q I h
 refine BoolOp_and (dR (ha pins s σ H _ I h) fun v s1 ⟨x,H1,I1,r1,q1⟩=>?_)
 obtain⟨c,rfl,q1⟩:=q1
 cases r1
 refine fW ?_
 cases c with
 |true=>exact hb pins s1 σ H1 Q I1 q1
 |false=>exact⟨.bl false,H1,I1,rfl,q1⟩
theorem RA (ha:PE X a ta)(hb:PE X (.BoolOp .Or (b :: rest) pos) tb):PE X (.BoolOp .Or (a :: b :: rest) pos) (Wf ta tb):=by
 intro pins s σ H Q I h
 refine BoolOp_or (dR (ha pins s σ H _ I h) fun v s1 ⟨x,H1,I1,r1,q1⟩=>?_)
 obtain⟨c,rfl,q1⟩:=q1
 cases r1
 refine fW ?_
 cases c with
 |false=>exact hb pins s1 σ H1 Q I1 q1
 |true=>exact⟨.bl true,H1,I1,rfl,q1⟩
theorem N7 (ha:PE X a ta):PE X (.UnaryOp .Not a pos) (Rz ta):=by
 intro pins s σ H Q I h
 refine UnaryOp_ (dR (ha pins s σ H _ I h) fun v s1 ⟨x,H1,I1,r1,q1⟩=>?_)
 obtain⟨c,rfl,q1⟩:=q1
 cases r1
 exact not_of (fW ⟨.bl (!c),H1,I1,rfl,q1⟩)
end
def bA (K:Frag)(H:Hp)(a:Addr)(xs:List V):Prop:=
 Rd H a (.lst xs)∨
  ∃(o:Obj) (bZ:Array Value) (n:Nat),K.lookup a=some o/\o.cls= .type "list"/\o.dict=none/\o.data= .seq bZ n/\bZ.size<=sizeLine/\Vals xs bZ.toList
def cg (K:Frag)(H:Hp)(a:Addr)(xs:List V):Prop:=
 Rd H a (.tup xs)∨
  ∃(o:Obj) (bZ:Array Value) (n:Nat),K.lookup a=some o/\o.cls= .type "tuple"/\o.data= .seq bZ n/\bZ.size<=sizeLine/\Vals xs bZ.toList
def Wg:Value->Option V
 | .none=>some .eu
 | .bool b=>some (.bl b)
 | .int i _=>some (.int i)
 | .str x _=>some (.str x)
 | .bytes b _=>some (.Gj b)
 | .float b _=>some (.Lk b)
 | .ref a=>some (.ref a)
 | .type n=>some (.ty n)
 |_=>none
theorem RelV.abs {x:V}{u:Value}(r:RelV x u):Wg u=some x:=by
 cases x with
 |eu=>cases r; rfl
 |bl _=>cases r; rfl
 |int _=>obtain⟨t,rfl⟩:=r; rfl
 |str _=>obtain⟨t,rfl⟩:=r; rfl
 |Gj _=>obtain⟨t,rfl⟩:=r; rfl
 |Lk _=>obtain⟨t,rfl⟩:=r; rfl
 |ref _=>cases r; rfl
 |ty _=>cases r; rfl
theorem RelV.inj {x y:V}{u:Value}(r:RelV x u)(q:RelV y u):x=y:=aF (r.abs.symm.trans q.abs)
theorem Vals.inj: ∀{xs ys:List V} {us:List Value},Vals xs us->Vals ys us->xs=ys
 |_,_,_,.nil,.nil=>rfl
 |_,_,_,.cons r t,.cons r' t'=>by rw[r.inj r',Vals.inj t t']
section
variable {X:Cx}{pins:List (Addr×Obj)}{σ:St}{H:Hp}{s:Shared}{a:Addr}{xs ys:List V}
theorem bA.of {K:Frag}(h:H a=some (.lst xs)):bA K H a xs:= .inl (.inl h)
theorem cg.of {K:Frag}(h:H a=some (.tup xs)):cg K H a xs:= .inl (.inl h)
theorem Inv.list (I:Inv X pins σ H s)(h:bA X.K H a xs): ∃bZ:List Value,Vals xs bZ/\PlainL s.heap a bZ.toArray/\xs.length<=sizeLine:=by
 rcases h with h|⟨o,bZ,n,hk,hc,hd,hs,hz,r⟩
 ·obtain⟨z,bZ,n,r,e⟩:=h.ok I.cu
  exact⟨bZ,r,⟨_,n,e,rfl,rfl,rfl⟩,z⟩
 ·refine⟨bZ.toList,r,⟨o,n,I.gO a o hk,hc,hd,by simpa using hs⟩,?_⟩
  have e:=r.length
  simp only[Array.length_toList] at e
  lia
theorem Inv.tuple (I:Inv X pins σ H s)(h:cg X.K H a xs): ∃bZ:List Value,Vals xs bZ/\IsTup s.heap a bZ.toArray/\xs.length<=sizeLine:=by
 rcases h with h|⟨o,bZ,n,hk,hc,hs,hz,r⟩
 ·obtain⟨z,bZ,r,p⟩:=h.ok I.cu
  exact⟨bZ,r,p,z⟩
 ·refine⟨bZ.toList,r,⟨o,I.gO a o hk,hc,n,by simpa using hs⟩,?_⟩
  have e:=r.length
  simp only[Array.length_toList] at e
  lia
theorem Inv.Bl (I:Inv X pins σ H s)(h:bA X.K H a xs)(h':bA X.K H a ys):xs=ys:=by
 obtain⟨bZ,r,⟨o,n,e,_,_,d⟩,_⟩:=I.list h
 obtain⟨qy,r',⟨o',n',e',_,_,d'⟩,_⟩:=I.list h'
 rw[e] at e'; cases e'
 rw[d] at d'
 injection d' with d1 _
 have:bZ=qy:=by simpa using congrArg Array.toList d1
 subst this
 exact r.inj r'
theorem Inv.Gn (I:Inv X pins σ H s)(h:cg X.K H a xs)(h':cg X.K H a ys):xs=ys:=by
 obtain⟨bZ,r,⟨o,e,_,n,d⟩,_⟩:=I.tuple h
 obtain⟨qy,r',⟨o',e',_,n',d'⟩,_⟩:=I.tuple h'
 rw[e] at e'; cases e'
 rw[d] at d'
 injection d' with d1 _
 have:bZ=qy:=by simpa using congrArg Array.toList d1
 subst this
 exact r.inj r'
end
abbrev Cx.uL (X:Cx)(E:Value->Shared->Prop):Cx:={X with xe:=E}
abbrev Cx.EK (X:Cx):Cx:=X.uL fun _ _=>False
theorem Cx.Ok.uL {X:Cx}(ok:X.Ok)(E:Value->Shared->Prop):(X.uL E).Ok:=
 ⟨ok.mod,ok.kind,ok.glob,ok.blt,ok.above,ok.inj,ok.has,ok.KW,ok.hd,ok.frames,ok.Ij,ok.Ln,ok.bs,ok.Be,ok.wL,ok.wM,ok.lW,ok.EH⟩
theorem Cx.Ok.mQ {X:Cx}{E:Value->Shared->Prop}(ok:(X.uL E).Ok):X.Ok:=
 ⟨ok.mod,ok.kind,ok.glob,ok.blt,ok.above,ok.inj,ok.has,ok.KW,ok.hd,ok.frames,ok.Ij,ok.Ln,ok.bs,ok.Be,ok.wL,ok.wM,ok.lW,ok.EH⟩
section
variable {X:Cx}{pins:List (Addr×Obj)}{σ:St}{H:Hp}{s:Shared}{E:Value->Shared->Prop}
theorem Inv.uL (I:Inv X pins σ H s)(E:Value->Shared->Prop):Inv (X.uL E) pins σ H s:=⟨I.ok.uL E,I.os,I.bare,I.base,I.loc,I.cell,I.free,I.iM,I.pin,I.cu,I.len⟩
theorem Inv.mQ (I:Inv (X.uL E) pins σ H s):Inv X pins σ H s:=⟨I.ok.mQ,I.os,I.bare,I.base,I.loc,I.cell,I.free,I.iM,I.pin,I.cu,I.len⟩
theorem SP.mQ {D:Ends}{f:Flow}{s':Shared}(h:SP (X.uL E) pins D f s'):SP X pins D f s':=by
 cases f with
 |next=>obtain⟨σ',H',I,q⟩:=h; exact⟨σ',H',I.mQ,q⟩
 |brk=>obtain⟨σ',H',I,q⟩:=h; exact⟨σ',H',I.mQ,q⟩
 |cont=>obtain⟨σ',H',I,q⟩:=h; exact⟨σ',H',I.mQ,q⟩
 |ret u=>obtain⟨v,σ',H',I,r,q⟩:=h; exact⟨v,σ',H',I.mQ,r,q⟩
theorem oS.EK {st:List Stmt}{t:TS}(h:oS X.EK st t):oS X st t:=fun pins s σ H D I hw=>
 cf (h pins s σ H D (I.uL _) hw) (fun _ _ q=>q.mQ) fun _ _ z=>False.elim z
end
section
variable {X:Cx}{st:Stmt}{rest:List Stmt}{t u:TS}{e:Expr}{te:TE}{pos:Pos}
def RB:TS:=fun D σ H=>D.nx σ H
def Wh (t u:TS):TS:=fun D σ H=>t {D with nx:=u D} σ H
theorem bb:oS X [] RB:=fun _ _ σ H _ I h=>jn ⟨σ,H,I,h⟩
theorem ah (h1:PS X st t)(h2:oS X rest u):oS X (st :: rest) (Wh t u):=by
 intro pins s σ H D I h
 refine wpAny_execs_cons (dR (h1 pins s σ H {D with nx:=u D} I h) fun f s1 q=>?_)
 cases f with
 |next=>
  obtain⟨σ',H',I',q⟩:=q
  exact h2 pins s1 σ' H' D I' q
 |ret v=>exact q
 |brk=>exact q
 |cont=>exact q
theorem au (h1:PS X st t):oS X [st] t:=by
 intro pins s σ H D I h
 refine wpAny_execs_cons (dR (h1 pins s σ H D I h) fun f s1 q=>?_)
 cases f with
 |next=>exact jn q
 |ret v=>exact q
 |brk=>exact q
 |cont=>exact q
theorem Inv.quiet {pins:List (Addr×Obj)}{σ:St}{H:Hp}{s:Shared}(I:Inv X pins σ H s):interactive X.env=false:=by simp[interactive,I.ok.kind]
def RC (te:TE):TS:=fun D σ H=>te σ H fun _ H1=>D.nx σ H1
theorem bK (he:PE X e te)(hs:swapsWith e none pos.line X.env=pure false:=by rfl):PS X (.Expr e pos) (RC te):=by
 intro pins s σ H D I h
 exact wpAny_Expr_any (dR (he pins s σ H _ I h) fun v s1 ⟨x,H1,I1,r1,q1⟩=>⟨σ,H1,I1,q1⟩) I.quiet hs
def Wi (te:TE):TS:=fun D σ H=>te σ H D.rt
theorem a0 (he:PE X e te):PS X (.Return (some e) pos) (Wi te):=by
 intro pins s σ H D I h
 exact wpAny_Return_some (dR (he pins s σ H _ I h) fun v s1 ⟨x,H1,I1,r1,q1⟩=>⟨x,σ,H1,I1,r1,q1⟩)
def Wj (c:TT)(t u:TS):TS:=fun D σ H=>c σ H fun b H1=>if b=true then t D σ H1 else u D σ H1
theorem bN {c:Expr}{a b:List Stmt}{tc:TT}(hc:PT X c tc)(ha:oS X a t)(hb:oS X b u):PS X (.If c a b pos) (Wj tc t u):=by
 intro pins s σ H D I h
 refine wpAny_If (dR (hc pins s σ H _ I h) fun d s1 ⟨H1,I1,q1⟩=>?_)
 cases d with
 |true=>exact ha pins s1 σ H1 D I1 q1
 |false=>exact hb pins s1 σ H1 D I1 q1
end
abbrev TG:=V->St->Hp->(St->Hp->Prop)->Prop
abbrev Na:=List V->St->Hp->(St->Hp->Prop)->Prop
def PG (X:Cx)(target:Expr)(t:TG):Prop:=
 ∀(pins:List (Addr×Obj)) (s:Shared) (σ:St) (H:Hp) (v:V) (u:Value) (Q:St->Hp->Prop),Inv X pins σ H s->RelV v u->t v σ H Q->
  wpAny (model X.prog X.w) X.A (assign target X.env u) (fun _ s'=> ∃σ' H',Inv X pins σ' H' s'/\Q σ' H') X.xe s
def KY (X:Cx)(ts:List Expr)(t:Na):Prop:=
 ∀(pins:List (Addr×Obj)) (s:Shared) (σ:St) (H:Hp) (vs:List V) (us:List Value) (Q:St->Hp->Prop),Inv X pins σ H s->Vals vs us->t vs σ H Q->
  wpAny (model X.prog X.w) X.A (assignInOrder ((assignEach ts X.env).map (·.2)) us) (fun _ s'=> ∃σ' H',Inv X pins σ' H' s'/\Q σ' H') X.xe s
abbrev N8:=V->V->V->Hp->(Hp->Prop)->Prop
def RD (X:Cx)(t:N8):Prop:=
 ∀(pins:List (Addr×Obj)) (s:Shared) (σ:St) (H:Hp) (o i v:V) (ov iv u:Value) (Q:Hp->Prop),Inv X pins σ H s->RelV o ov->RelV i iv->RelV v u->t o i v H Q->
  wpAny (model X.prog X.w) X.A (setItem ov iv u) (fun _ s'=> ∃H',Inv X pins σ H' s'/\Q H') X.xe s
section
variable {X:Cx}{pos:Pos}
def Bm (i:Nat):TG:=fun v σ H Q=>Q (σ.set i (some v)) H
theorem dU {i:Nat}{x:Str}(hN:X.N.Nodup)(hi:X.N[i]? =some x)(hx:Loc X.env.scope x)(hf:X.fn x=true∨X.env.scope.names.lookup x=some .local:=by first|exact .inl rfl|exact .inr rfl|assumption):PG X (.Name x pos) (Bm i):=by
 intro pins s σ H v u Q I r h
 exact wpAny_assign_Name (uK I hN hi hx r (fun s' I'=>⟨_,H,I',h⟩) hf)
def Wk:Na:=fun vs σ H Q=>vs=[]/\Q σ H
inductive Zl (vs:List V)(k:V->List V->Prop):Prop
 |mk (v:V)(r:List V)(h:vs=v :: r)(q:k v r):Zl vs k
def RE (t:TG)(u:Na):Na:=fun vs σ H Q=>Zl vs fun v r=>t v σ H fun σ' H'=>u r σ' H' Q
theorem gE:KY X [] Wk:=by
 intro pins s σ H vs us Q I r h
 obtain⟨e,h⟩:=h
 subst e
 cases r
 exact assignInOrder_nil ⟨σ,H,I,h⟩
theorem bY {e:Expr}{es:List Expr}{t:TG}{u:Na}(h1:PG X e t)(h2:KY X es u)
  (hs:(assignEach (e :: es) X.env).map (·.2)=assign e X.env :: (assignEach es X.env).map (·.2):=by rfl):KY X (e :: es) (RE t u):=by
 intro pins s σ H vs us Q I r h
 obtain⟨v,vr,e1,h⟩:=h
 subst e1
 cases r with
 |cons r rr=>
  rw[hs]
  refine assignInOrder_cons (dR (h1 pins s σ H _ _ _ I r h) fun _ s1 ⟨σ1,H1,I1,q1⟩=>?_)
  exact h2 pins s1 σ1 H1 _ _ Q I1 rr q1
inductive Zm (K:Frag)(H:Hp)(n:Nat)(v:V)(k:List V->Prop):Prop
 |mk (a:Addr)(xs:List V)(h1:v= .ref a)(h2:cg K H a xs)(h3:xs.length=n)(q:k xs):Zm K H n v k
def RF (K:Frag)(n:Nat)(t:Na):TG:=fun v σ H Q=>Zm K H n v fun xs=>t xs σ H Q
theorem iU {es:List Expr}{k:Nat}{t:Na}{n:Nat}(hc:X.calm=true)(h:KY X es t)
  (hn:(assignEach es X.env).length=n:=by rfl) (sR:(assignEach es X.env).findIdx? (·.1)=none:=by rfl):PG X (.Tuple es k pos) (RF X.K n t):=by
 intro pins s σ H v u Q I r hw
 obtain⟨a,xs,e1,hq,hl,hw⟩:=hw
 subst e1
 cases r
 obtain⟨bZ,rv,ht,hz⟩:=I.tuple hq
 refine assign_Tuple_tuple (I.ok.hd hc) ht (by simp[hn,← hl,rv.length]) sR fun h' hx=>?_
 have I1:Inv X pins σ H {s with heap:=h'}:=I.kept (t':=s.toks) fun b o e=>hx b o (a6 (aM e)) e
 exact h pins _ σ H xs _ Q I1 (by simpa using rv) hw
def Wl (to ti:TE)(t:N8):TG:=fun v σ H Q=>to σ H fun o H1=>ti σ H1 fun i H2=>t o i v H2 fun H3=>Q σ H3
theorem pI {o i:Expr}{to ti:TE}{t:N8}(ho:PE X o to)(hi:PE X i ti)(hs:RD X t)
  (ha: ∀v,assign (.Subscript o i pos) X.env v=(do
   let ov ← holding [v] (eval o X.env)
   let iv ← holding [v,ov] (eval i X.env)
   standAt pos
   holding [v,ov,iv] (setItem ov iv v)
   release [v,ov,iv] []):=by intro _; rfl):PG X (.Subscript o i pos) (Wl to ti t):=by
 intro pins s σ H v u Q I r h
 rw[ha]
 refine aA (iq (dR (ho pins s σ H _ I h) fun ov s1 ⟨x,H1,I1,r1,q1⟩=>?_))
 refine aA (iq (dR (hi pins s1 σ H1 _ I1 q1) fun iv s2 ⟨y,H2,I2,r2,q2⟩=>?_))
 refine aA (ir (aA (iq (dR (hs pins s2 σ H2 x y v ov iv u _ I2 r1 r2 r q2) fun _ s3 ⟨H3,I3,q3⟩=>?_))))
 exact wpAny_release ⟨σ,H3,I3,q3⟩
def Lr (te:TE)(g:TG):TS:=fun D σ H=>te σ H fun x H1=>g x σ H1 D.nx
theorem lY {tg e:Expr}{te:TE}{g:TG}(he:PE X e te)(hg:PG X tg g)(hs:swapsWithSole [tg] e pos.line X.env=pure false:=by rfl)(hw:swappedStores [tg] e X.env=pure none:=by rfl)
  (h1:(assignEach [tg] X.env).map (·.2)=[assign tg X.env]:=by rfl):PS X (.Assign [tg] e pos) (Lr te g):=by
 intro pins s σ H D I h
 refine wpAny_Assign_stores (dR (he pins s σ H _ I h) fun v s1 ⟨x,H1,I1,r1,q1⟩=>?_) hs hw
 rw[h1]
 exact dR (hg pins s1 σ H1 x v _ I1 r1 q1) fun _ s2 q=>q
theorem N9 {i:Nat}{x:Str}{e:Expr}{te:TE}{pos':Pos}(hN:X.N.Nodup)(hi:X.N[i]? =some x)(hx:Loc X.env.scope x)(he:PE X e te)(hs:swapsWith e (some (.Name x pos')) pos.line X.env=pure false:=by rfl)(hf:X.fn x=true∨X.env.scope.names.lookup x=some .local:=by first|exact .inl rfl|exact .inr rfl|assumption):
  PS X (.Assign [.Name x pos'] e pos) (Lr te (Bm i)):=by
 intro pins s σ H D I h
 refine wpAny_Assign_Name (dR (he pins s σ H _ I h) fun v s1 ⟨y,H1,I1,r1,q1⟩=>?_) hs
 exact uK I1 hN hi hx r1 (fun s2 I2=>⟨_,H1,I2,q1⟩) hf
def Oa (c:TT)(tb:TS):TS:=fun D σ H=> ∃W:Nat->St->Hp->Prop,(∃m,W m σ H)/\ ∀m σ H,W m σ H->
 c σ H fun b H1=>if b=true then ∃N:St->Hp->Prop,(∀σ' H',N σ' H'-> ∃m',m' < m/\W m' σ' H')/\tb {D with nx:=N,ct:=N,bk:=D.nx} σ H1 else D.nx σ H1
theorem IC {c:Expr}{body:List Stmt}{tc:TT}{tb:TS}(hp:PassesOwn (model X.prog X.w) X.A X.env X.xe)(hc:PT X c tc)(hb:oS X body tb):PS X (.While c body [] pos) (Oa tc tb):=by
 intro pins s σ H D I h
 obtain⟨W,⟨m0,w0⟩,turn⟩:=h
 refine wpAny_While (codeAny_whileLoop (fun n s'=> ∃σ' H',Inv X pins σ' H' s'/\W n σ' H') ?_ m0 ⟨σ,H,I,w0⟩)
 rintro n s1 ⟨σ1,H1,I1,w1⟩
 refine dJ hp (dR (hc pins s1 σ1 H1 _ I1 (turn n σ1 H1 w1)) fun b s2 ⟨H2,I2,q2⟩=>?_)
 cases b with
 |true=>
  obtain⟨N,hN,q2⟩:=q2
  rw[a8 rfl]
  refine dJ hp (dR (hb pins s2 σ1 H2 _ I2 q2) fun f s3 q3=>?_)
  cases f with
  |next=>
   obtain⟨σ3,H3,I3,n3⟩:=q3
   obtain⟨m',hm,w3⟩:=hN σ3 H3 n3
   exact⟨m',hm,σ3,H3,I3,w3⟩
  |cont=>
   obtain⟨σ3,H3,I3,n3⟩:=q3
   obtain⟨m',hm,w3⟩:=hN σ3 H3 n3
   exact⟨m',hm,σ3,H3,I3,w3⟩
  |brk=>exact q3
  |ret v=>exact q3
 |false=>
  rw[aU aW]
  exact jn ⟨σ1,H2,I2,q2⟩
end
structure It where
 go:Nat->Hp->Prop
 Ob:Nat->Hp->V->Hp->Prop
 stop:Nat->Hp->Prop
def uM (X:Cx)(pins:List (Addr×Obj))(H:Hp)(b:Addr):Prop:=
 H b=none/\b≠X.env.locals/\b∉X.fs/\(b∈X.ex∨X.s₀.heap.objs.size<=b)/\(∀x c,X.env.cells.lookup x=some c->c≠b)/\ ∀p∈X.pn ++ pins,p.1≠b
theorem Inv.Dr {X:Cx}{pins:List (Addr×Obj)}{σ:St}{H H':Hp}{s:Shared}{b:Addr}(I:Inv X pins σ H s)(hb:s.heap.objs.size<=b)(hn:H' b=none):uM X pins H' b:=by
 refine⟨hn,qj (bg I.lt hb),I.Gm hb,.inr (aZ I.sz hb),fun x c e z=>?_,fun p hp z=>?_⟩
 ·obtain⟨v,q⟩:=I.cell x c e
  exact absurd (bg q.lt (by rw[z]; exact hb)) (iQ _)
 ·exact absurd (bg (aM (I.pin p hp).1) (by rw[z]; exact hb)) (iQ _)
structure Turn (P:Program)(w:World)(K:Frag)(tg:Expr)(J:It)(fp:List Addr)(it:Addr)(tn:Nat->Heap->Prop):Prop where
 mem:it∈fp
 obj: ∀i h,tn i h-> ∀b∈fp,∃o,h.get? b=some o/\ ∀v,o.data≠ .cell v
 keep: ∀i h h',tn i h->(∀b∈fp,∀o,h.get? b=some o->h'.get? b=some o)->tn i h'
 item: ∀(X:Cx),X.prog=P->X.w=w->X.K=K->X.calm=true-> ∀(i:Nat) (pins:List (Addr×Obj)) (s:Shared) (σ:St) (H:Hp) (E:Value->Shared->Prop),Inv X pins σ H s->(∀b∈fp,uM X pins H b)->tn i s.heap->J.go i H->
  wpAny (model P w) X.A (pyNext (.ref it)) (fun r s1=> ∃u,r=some u/\
   wpAny (model P w) X.A (letOwnedTupleGo tg (.ref it) u) (fun _ s2=> ∃x H',Inv X pins σ H' s2/\RelV x u/\J.Ob i H x H'/\tn (i + 1) s2.heap/\ ∀b∈fp,H' b=none) E s1) E s
 done: ∀(X:Cx),X.prog=P->X.w=w->X.K=K->X.calm=true-> ∀(i:Nat) (pins:List (Addr×Obj)) (s:Shared) (σ:St) (H:Hp) (E:Value->Shared->Prop),Inv X pins σ H s->(∀b∈fp,uM X pins H b)->tn i s.heap->J.stop i H->
  wpAny (model P w) X.A (pyNext (.ref it)) (fun r s1=>r=none/\Inv X pins σ H s1) E s
 self: ∀(A:Around) (i:Nat) (s:Shared) (Q:Value->Shared->Prop) (E:Value->Shared->Prop),tn i s.heap->Q (.ref it) s->wpAny (model P w) A (pyIter (.ref it)) Q E s
abbrev TI:=St->Hp->(It->Hp->Prop)->Prop
def Zn (X:Cx)(pins:List (Addr×Obj))(σ:St)(tg:Expr)(R:It->Hp->Prop)(U7:Value)(s2:Shared):Prop:=
 ∃(it:Addr) (fp:List Addr) (tn:Nat->Heap->Prop) (J:It) (H':Hp),U7= .ref it/\Inv X pins σ H' s2/\Turn X.prog X.w X.K tg J fp it tn/\tn 0 s2.heap/\(∀b∈fp,uM X pins H' b)/\R J H'
def PI (X:Cx)(tg iter:Expr)(wi:TI):Prop:=
 ∀(pins:List (Addr×Obj)) (s:Shared) (σ:St) (H:Hp) (R:It->Hp->Prop),Inv X pins σ H s->wi σ H R->
  wpAny (model X.prog X.w) X.A (eval iter X.env) (fun v s1=>wpAny (model X.prog X.w) X.A (pyIter v) (Zn X pins σ tg R) X.xe s1) X.xe s
theorem Bn {M:Model}{A:Around}{E:Value->Shared->Prop}{s:Shared}{tg:Expr}{it:Addr}{u:Value}{o:Obj}{n:String}{vs:Array Value}{Q:Unit->Shared->Prop}(ho:s.heap.get? it=some o)(hc:o.cls= .type n)(hd:o.data= .fields vs)
  (hn:["enumerate","zip","dict_itemiterator","dict_reverseitemiterator","odict_iterator","itertools.zip_longest","itertools.pairwise"].contains n=false) (hQ:Q () s):wpAny M A (letOwnedTupleGo tg (.ref it) u) Q E s:=by
 unfold letOwnedTupleGo
 cases tg <;> first
  |exact bE hQ
  |(cases u <;> first
    |exact bE hQ
    |(refine aA (wpAny_load ho ?_)
      rw[hc,hd]
      show wpAny M A (if(["enumerate","zip","dict_itemiterator","dict_reverseitemiterator","odict_iterator","itertools.zip_longest","itertools.pairwise"].contains n && vs[0]? == some (rawInt _))=true then _ else _) Q E s
      rw[aU (by intro h; rw[hn,qt] at h; cases h)]
      exact bE hQ))
def QG (K:Frag)(a:Addr):It:=
 ⟨fun i H=> ∃xs x,bA K H a xs/\xs[i]? =some x,fun i H x H'=>H'=H/\ ∀xs,bA K H a xs->xs[i]? =some x,fun i H=> ∃xs,bA K H a xs/\xs.length<=i⟩
def Wm (K:Frag)(a:Addr):It:=
 ⟨fun i H=> ∃xs x,cg K H a xs/\xs[i]? =some x,fun i H x H'=>H'=H/\ ∀xs,cg K H a xs->xs[i]? =some x,fun i H=> ∃xs,cg K H a xs/\xs.length<=i⟩
def Ls (lo:Int)(n:Nat):It:=⟨fun i _=>i < n,fun i H x H'=>H'=H/\x= .int (lo + i),fun i _=>n<=i⟩
theorem Gp {P:Program}{w:World}{K:Frag}{tg:Expr}(a it:Addr):Turn P w K tg (QG K a) [it] it (fun i h=>h.IsListIter it a i) where
 mem:=by simp
 obj:=fun i h st b hb=>by
  have e:b=it:=by simpa using hb
  subst e
  obtain⟨o,e,c,d⟩:=st
  exact⟨o,e,fun v z=>by rw[d] at z; cases z⟩
 keep:=fun i h h' st k=>st.at fun o e=>k it (by simp) o e
 item:=by
  intro X hP hw hK hc i pins s σ H E I hf st hg
  subst hP hw hK
  obtain⟨xs,x,hq,hx⟩:=hg
  obtain⟨bZ,rv,p,hz⟩:=I.list hq
  obtain⟨u,hu,ru⟩:=rv.get hx
  obtain⟨f0,f1,f2,f3,f4,f5⟩:=hf it (by simp)
  refine wpAny_pyNext_list_item st p.isList (x:=u) (by simpa using hu) fun h' wN sb=>?_
  have I1:Inv X pins σ H {s with heap:=h'}:=I.turned (t':=s.toks) (fun b o hb e=>(sb.2 b hb).trans e) f0 f1 f3 f4 f5
  obtain⟨o,e,c,d⟩:=id wN
  exact⟨u,rfl,Bn (s:={s with heap:=h'}) e c d (by decide) ⟨x,H,I1,ru,⟨rfl,fun ys hy=>by rw[I.Bl hy hq]; exact hx⟩,wN,fun b hb=>(hf b hb).1⟩⟩
 done:=by
  intro X hP hw hK hc i pins s σ H E I hf st hg
  subst hP hw hK
  obtain⟨xs,hq,hx⟩:=hg
  obtain⟨bZ,rv,p,hz⟩:=I.list hq
  obtain⟨f0,f1,f2,f3,f4,f5⟩:=hf it (by simp)
  have hl:=rv.length
  exact wpAny_pyNext_list_end (I.ok.hd hc) st p.isList (by simp; lia) fun h' eb=>⟨rfl,I.turned (t':=s.toks) (fun b o hb e=>eb b o hb e) f0 f1 f3 f4 f5⟩
 self:=fun _ _ _ _ _ st h=>wpAny_pyIter_listiter st h
theorem Du {P:Program}{w:World}{K:Frag}{tg:Expr}(a it:Addr):Turn P w K tg (Wm K a) [it] it (fun i h=>h.IsTupleIter it a i) where
 mem:=by simp
 obj:=fun i h st b hb=>by
  have e:b=it:=by simpa using hb
  subst e
  obtain⟨o,e,c,d⟩:=st
  exact⟨o,e,fun v z=>by rw[d] at z; cases z⟩
 keep:=fun i h h' st k=>st.at fun o e=>k it (by simp) o e
 item:=by
  intro X hP hw hK hc i pins s σ H E I hf st hg
  subst hP hw hK
  obtain⟨xs,x,hq,hx⟩:=hg
  obtain⟨bZ,rv,p,hz⟩:=I.tuple hq
  obtain⟨u,hu,ru⟩:=rv.get hx
  obtain⟨f0,f1,f2,f3,f4,f5⟩:=hf it (by simp)
  refine wpAny_pyNext_tuple_item st (show s.heap.IsTuple a bZ.toArray from p) (x:=u) (by simpa using hu) fun h' wN sb=>?_
  have I1:Inv X pins σ H {s with heap:=h'}:=I.turned (t':=s.toks) (fun b o hb e=>(sb.2 b hb).trans e) f0 f1 f3 f4 f5
  obtain⟨o,e,c,d⟩:=id wN
  exact⟨u,rfl,Bn (s:={s with heap:=h'}) e c d (by decide) ⟨x,H,I1,ru,⟨rfl,fun ys hy=>by rw[I.Gn hy hq]; exact hx⟩,wN,fun b hb=>(hf b hb).1⟩⟩
 done:=by
  intro X hP hw hK hc i pins s σ H E I hf st hg
  subst hP hw hK
  obtain⟨xs,hq,hx⟩:=hg
  obtain⟨bZ,rv,p,hz⟩:=I.tuple hq
  obtain⟨f0,f1,f2,f3,f4,f5⟩:=hf it (by simp)
  have hl:=rv.length
  exact wpAny_pyNext_tuple_end (I.ok.hd hc) st (show s.heap.IsTuple a bZ.toArray from p) (by simp; lia) fun h' eb=>⟨rfl,I.turned (t':=s.toks) (fun b o hb e=>eb b o hb e) f0 f1 f3 f4 f5⟩
 self:=fun _ _ _ _ _ st h=>wpAny_pyIter_tupleiter st h
theorem Dv {P:Program}{w:World}{K:Frag}{tg:Expr}(it:Addr)(lo:Int)(n:Nat):Turn P w K tg (Ls lo n) [it] it (fun i h=>IsRangeIter h it (lo + (i:Nat) * 1) ((n:Int) - (i:Nat)) 1) where
 mem:=by simp
 obj:=fun i h st b hb=>by
  have e:b=it:=by simpa using hb
  subst e
  exact⟨_,st,fun v z=>by
   have z':Data.fields _ =Data.cell v:=z
   cases z'⟩
 keep:=fun i h h' st k=>k it (by simp) _ st
 item:=by
  intro X hP hw hK hc i pins s σ H E I hf st hg
  subst hP hw hK
  obtain⟨f0,f1,f2,f3,f4,f5⟩:=hf it (by simp)
  have W:=Walks.range (prog:=X.prog) (w:=X.w) (I.ok.hd hc) it lo 1 n
  refine W.item i s _ _ hg st fun v h' tk hv wN kk=>?_
  obtain⟨t,rfl⟩:=hv
  have I1:Inv X pins σ H {s with heap:=h',toks:=tk}:=I.turned (fun b o hb e=>kk b o (by simpa using hb) e) f0 f1 f3 f4 f5
  refine⟨_,rfl,Bn (s:={s with heap:=h',toks:=tk}) (n:="range_iterator") wN rfl rfl (by decide) ⟨.int (lo + i),H,I1,⟨t,?_⟩,⟨rfl,rfl⟩,wN,fun b hb=>(hf b hb).1⟩⟩
  rw[Int.mul_one]
 done:=by
  intro X hP hw hK hc i pins s σ H E I hf st hg
  subst hP hw hK
  obtain⟨f0,f1,f2,f3,f4,f5⟩:=hf it (by simp)
  exact wpAny_pyNext_range_end (I.ok.hd hc) st (by have:n<=i:=hg; lia) fun h' eb=>⟨rfl,I.turned (t':=s.toks) (fun b o hb e=>eb b o hb e) f0 f1 f3 f4 f5⟩
 self:=fun _ _ _ _ _ st h=>wpAny_pyIter_rangeiter st h
section
variable {X:Cx}{tg:Expr}
inductive Zo (x:V)(S k:Addr->Prop):Prop
 |mk (a:Addr)(h:x= .ref a)(s:S a)(q:k a):Zo x S k
def RG (K:Frag)(tl:TE):TI:=fun σ H R=>tl σ H fun x H1=>Zo x (fun a=> ∃xs,bA K H1 a xs) fun a=>R (QG K a) H1
def Wn (K:Frag)(tl:TE):TI:=fun σ H R=>tl σ H fun x H1=> ∃a,x= .ref a/\(∃xs,cg K H1 a xs)/\R (Wm K a) H1
theorem cO {l:Expr}{tl:TE}(hl:PE X l tl):PI X tg l (RG X.K tl):=by
 intro pins s σ H R I h
 refine dR (hl pins s σ H _ I h) fun v s1 ⟨x,H1,I1,r1,q1⟩=>?_
 obtain⟨a,e,⟨xs,hq⟩,q⟩:=q1
 subst e
 cases r1
 obtain⟨bZ,rv,p,hz⟩:=I1.list hq
 refine wpAny_pyIter_list p.isList ?_
 refine⟨s1.heap.objs.size,[s1.heap.objs.size],_,_,H1,rfl,I1.kept (t':=s1.toks) fun b o e=>ax _ e,Gp a _,⟨_,bL _ rfl,rfl,rfl⟩,fun b hb=>?_,q⟩
 have e:b=s1.heap.objs.size:=by simpa using hb
 subst e
 exact I1.Dr (aE _) (I1.cu.fresh (aE _))
theorem ID {l:Expr}{tl:TE}(hl:PE X l tl):PI X tg l (Wn X.K tl):=by
 intro pins s σ H R I h
 refine dR (hl pins s σ H _ I h) fun v s1 ⟨x,H1,I1,r1,q1⟩=>?_
 obtain⟨a,e,⟨xs,hq⟩,q⟩:=q1
 subst e
 cases r1
 obtain⟨bZ,rv,p,hz⟩:=I1.tuple hq
 refine wpAny_pyIter_tuple (show s1.heap.IsTuple a bZ.toArray from p) ?_
 refine⟨s1.heap.objs.size,[s1.heap.objs.size],_,_,H1,rfl,I1.kept (t':=s1.toks) fun b o e=>ax _ e,Du a _,⟨_,bL _ rfl,rfl,rfl⟩,fun b hb=>?_,q⟩
 have e:b=s1.heap.objs.size:=by simpa using hb
 subst e
 exact I1.Dr (aE _) (I1.cu.fresh (aE _))
theorem Bo {pins:List (Addr×Obj)}{σ:St}{H:Hp}{s:Shared}{R:It->Hp->Prop}{E:Value->Shared->Prop}{lo hi:Int}{t u v:Tok}{tk:Nat}(I:Inv X pins σ H s)(h1: -(2 ^ 62)<=lo)(h2:lo < 2 ^ 62)(h3: -(2 ^ 62)<=hi)(h4:hi < 2 ^ 62)
  (q:R (Ls lo (hi - lo).toNat) H):wpAny (model X.prog X.w) X.A (pyIter (.ref s.heap.objs.size)) (Zn X pins σ tg R) E {s with heap:=s.heap.push {cls:= .type "range",data:= .fields #[.int lo t,.int hi u,.int 1 v]},toks:=tk}:=by
 refine wpAny_pyIter_range (IsRange.new ..) (small_one h1 h2 h3 h4) ?_
 have I1:Inv X pins σ H {s with heap:=s.heap.push {cls:= .type "range",data:= .fields #[.int lo t,.int hi u,.int 1 v]},toks:=tk}:=I.kept fun b o e=>ax _ e
 refine⟨(s.heap.push {cls:= .type "range",data:= .fields #[.int lo t,.int hi u,.int 1 v]}).objs.size,[(s.heap.push {cls:= .type "range",data:= .fields #[.int lo t,.int hi u,.int 1 v]}).objs.size],_,_,H,rfl,
  I1.kept (t':=tk) fun b o e=>ax _ e,Dv _ lo (hi - lo).toNat,?_,fun b hb=>?_,q⟩
 ·have e1:lo + ((0:Nat):Int) * 1=lo:=by simp
  have e2:(((hi - lo).toNat:Nat):Int) - ((0:Nat):Int)=Builtin.Range.rangeSize lo hi 1:=by rw[rangeSize_one]; split <;> lia
  show IsRangeIter _ _ (lo + ((0:Nat):Int) * 1) ((((hi - lo).toNat:Nat):Int) - ((0:Nat):Int)) 1
  rw[e1,e2]
  exact bL _ rfl
 ·have e:b=(s.heap.push {cls:= .type "range",data:= .fields #[.int lo t,.int hi u,.int 1 v]}).objs.size:=by simpa using hb
  subst e
  exact I1.Dr (aE _) (I1.cu.fresh (aE _))
def RH (ta:TA):TI:=fun σ H R=>ta σ H fun vs H1=> ∃j:Int,vs=[.int j]/\ -(2 ^ 62)<=j/\j < 2 ^ 62/\R (Ls 0 j.toNat) H1
def RI (ta:TA):TI:=fun σ H R=>ta σ H fun vs H1=> ∃i j:Int,vs=[.int i,.int j]/\(-(2 ^ 62)<=i/\i < 2 ^ 62/\ -(2 ^ 62)<=j/\j < 2 ^ 62)/\R (Ls i (j - i).toNat) H1
theorem iV {a:Expr}{ta:TA}{p pos:Pos}(hg:Gl X "range")(hm:X.mg "range"=none)(ha:PA X [a] ta)(hs:starEach [a] X.env=[(false,eval a X.env)]:=by rfl):PI X tg (.Call (.Name "range" p) [a] [] pos) (RH ta):=by
 intro pins s σ H R I h
 refine Call_ (lX I hg hm boot_range (fN (dR (ha pos pins s σ H _ I h) fun us s1 ⟨vs,H1,I1,r1,q1⟩=>?_) hs rfl))
 obtain⟨j,e,q1,q2,q⟩:=q1
 subst e
 cases r1 with
 |cons r rr=>
  cases rr
  obtain⟨t,rfl⟩:=r
  exact call_range_1 (Bo I1 (by lia) (by lia) q1 q2 (by simpa using q))
theorem Gq {a b:Expr}{ta:TA}{p pos:Pos}(hg:Gl X "range")(hm:X.mg "range"=none)(ha:PA X [a,b] ta)(hs:starEach [a,b] X.env=[(false,eval a X.env),(false,eval b X.env)]:=by rfl)(Lu:starEach [b] X.env=[(false,eval b X.env)]:=by rfl):
  PI X tg (.Call (.Name "range" p) [a,b] [] pos) (RI ta):=by
 intro pins s σ H R I h
 refine Call_ (lX I hg hm boot_range (fN (dR (ha pos pins s σ H _ I h) fun us s1 ⟨vs,H1,I1,r1,q1⟩=>?_) (by rw[hs,Lu]) (by rw[Lu]; rfl)))
 obtain⟨i,j,e,⟨q1,q2,q3,q4⟩,q⟩:=q1
 subst e
 cases r1 with
 |cons r rr=>
  cases rr with
  |cons r' rr=>
   cases rr
   obtain⟨t,rfl⟩:=r
   obtain⟨t',rfl⟩:=r'
   exact call_range_2 (Bo I1 q1 q2 q3 q4 q)
def Wo (wi:TI)(g:TG)(tb:TS):TS:=fun D σ H=>wi σ H fun J H1=> ∃W:Nat->Nat->St->Hp->Prop,(∃m,W 0 m σ H1)/\ ∀i m σ H,W i m σ H->
 (J.stop i H/\D.nx σ H)∨(J.go i H/\ ∃N:St->Hp->Prop,(∀σ' H',N σ' H'-> ∃m',m' < m/\W (i + 1) m' σ' H')/\ ∀x H',J.Ob i H x H'->g x σ H' fun σ2 H2=>tb {D with nx:=N,ct:=N,bk:=D.nx} σ2 H2)
def pJ (fp:List Addr)(h:Heap):List (Addr×Obj):=fp.filterMap fun b=>(h.get? b).map fun o=>(b,o)
theorem jL {fp:List Addr}{h:Heap}{b:Addr}{o:Obj}(hb:b∈fp)(e:h.get? b=some o):(b,o)∈pJ fp h:=List.mem_filterMap.mpr ⟨b,hb,by rw[e]; rfl⟩
theorem Gr {fp:List Addr}{h:Heap}{p:Addr×Obj}(hp:p∈pJ fp h):p.1∈fp/\h.get? p.1=some p.2:=by
 obtain⟨b,hb,e⟩:=List.mem_filterMap.mp hp
 cases q:h.get? b with
 |none=>rw[q] at e; cases e
 |some o=>
  rw[q] at e
  have e':(b,o)=p:=aF e
  subst e'
  exact⟨hb,q⟩
theorem Inv.pinned {pins:List (Addr×Obj)}{σ:St}{H:Hp}{s:Shared}{fp:List Addr}(I:Inv X pins σ H s)(hf: ∀b∈fp,uM X pins H b)(ho: ∀b∈fp,∃o,s.heap.get? b=some o/\ ∀v,o.data≠ .cell v):Inv X (pins ++ pJ fp s.heap) σ H s:=
 I.uo fun p hp=>(bq.mp hp).elim (fun z=>I.pin p (bu _ z)) fun z=>by
  obtain⟨hb,e⟩:=Gr z
  obtain⟨f0,f1,f2,_⟩:=hf p.1 hb
  obtain⟨o,e',d⟩:=ho p.1 hb
  rw[e] at e'; cases e'
  exact⟨e,f0,f1,f2,d⟩
theorem Inv.jc {pins pl:List (Addr×Obj)}{σ:St}{H:Hp}{s:Shared}(I:Inv X (pins ++ pl) σ H s):Inv X pins σ H s:=I.uo fun p hp=>I.pin p (bu _ (c8 _ hp))
theorem dZ {iter:Expr}{body:List Stmt}{wi:TI}{g:TG}{tb:TS}{pos:Pos}(hp:PassesOwn (model X.prog X.w) X.A X.env X.xe)(hc:X.calm=true)(hi:PI X tg iter wi)(hg:PG X tg g)(hb:oS X body tb)
  (hs: ∀x,foldedSetIterable iter X.env x=pure x:=by intro _; rfl):PS X (.For tg iter body [] pos) (Wo wi g tb):=by
 intro pins s σ H D I h
 refine wpAny_For (dR (hi pins s σ H _ I h) fun v s1 h1=>dR h1 fun U7 s2 h2=>?_) hs
 obtain⟨it,fp,tn,J,H2,e,I2,T,Nb,f2,W,⟨m0,w0⟩,turn⟩:=h2
 subst e
 have rY: ∀{H':Hp},(∀b∈fp,H' b=none)-> ∀b∈fp,uM X pins H' b:=fun hn b hb=>⟨hn b hb,(f2 b hb).2⟩
 refine codeAny_forLoop_any (fun n s'=> ∃i σ' H',Inv X pins σ' H' s'/\tn i s'.heap/\(∀b∈fp,H' b=none)/\W i n σ' H') ?_ m0 ⟨0,σ,H2,I2,Nb,fun b hb=>(f2 b hb).1,w0⟩
 rintro n s3 ⟨i,σ3,H3,I3,RJ,Lv,w3⟩
 rcases turn i n σ3 H3 w3 with⟨stop,qn⟩|⟨go,N,hN,step⟩
 ·refine dJ hp (dR (T.done X rfl rfl rfl hc i pins s3 σ3 H3 X.xe I3 (rY Lv) RJ stop) fun r s4 ⟨hr,I4⟩=>?_)
  subst hr
  exact jn ⟨σ3,H3,I4,qn⟩
 ·refine dJ hp (dR (T.item X rfl rfl rfl hc i pins s3 σ3 H3 X.xe I3 (rY Lv) RJ go) fun r s4 ⟨u,hr,h4⟩=>?_)
  subst hr
  refine dJ hp (dR h4 fun _ s5 ⟨x,H5,I5,r5,y5,Oc,QH⟩=>?_)
  have I5':=I5.pinned (rY QH) (T.obj _ _ Oc)
  refine dJ hp (dR (hg _ s5 σ3 H5 x u _ I5' r5 (step x H5 y5)) fun _ s6 ⟨σ6,H6,I6,q6⟩=>?_)
  refine dJ hp (dR (hb _ s6 σ6 H6 _ I6 q6) fun f s7 q7=>?_)
  have again: ∀{σ7:St} {H7:Hp},Inv X (pins ++ pJ fp s5.heap) σ7 H7 s7->N σ7 H7-> ∃m,m < n/\ ∃i σ' H',Inv X pins σ' H' s7/\tn i s7.heap/\(∀b∈fp,H' b=none)/\W i m σ' H':=fun{σ7 H7} I7 n7=>by
   obtain⟨m',hm,w7⟩:=hN σ7 H7 n7
   refine⟨m',hm,i + 1,σ7,H7,I7.jc,T.keep _ _ _ Oc fun b hb o e=>(I7.pin (b,o) (bu _ (bu _ (jL hb e)))).1,fun b hb=>?_,w7⟩
   obtain⟨o,e,d⟩:=T.obj _ _ Oc b hb
   exact(I7.pin (b,o) (bu _ (bu _ (jL hb e)))).2.1
  cases f with
  |next=>obtain⟨σ7,H7,I7,n7⟩:=q7; exact again I7 n7
  |cont=>obtain⟨σ7,H7,I7,n7⟩:=q7; exact again I7 n7
  |brk=>obtain⟨σ7,H7,I7,q7⟩:=q7; exact⟨σ7,H7,I7.jc,q7⟩
  |ret v=>obtain⟨x7,σ7,H7,I7,r7,q7⟩:=q7; exact⟨x7,σ7,H7,I7.jc,r7,q7⟩
end
theorem fH {K:Frag}{a:Addr}{xs:List V}{g:TG}{tb:TS}{D:Ends}{σ:St}{H:Hp}(Pv:Nat->St->Hp->Prop)(h0:Pv 0 σ H)(hl: ∀i σ H,i<=xs.length->Pv i σ H->bA K H a xs)
  (hs: ∀i x σ H,xs[i]? =some x->Pv i σ H->g x σ H fun σ2 H2=>tb {D with nx:=Pv (i + 1),ct:=Pv (i + 1),bk:=D.nx} σ2 H2) (hd: ∀σ H,Pv xs.length σ H->D.nx σ H):
  ∃W:Nat->Nat->St->Hp->Prop,(∃m,W 0 m σ H)/\ ∀i m σ H,W i m σ H->
   ((QG K a).stop i H/\D.nx σ H)∨((QG K a).go i H/\ ∃N:St->Hp->Prop,(∀σ' H',N σ' H'-> ∃m',m' < m/\W (i + 1) m' σ' H')/\ ∀x H',(QG K a).Ob i H x H'->g x σ H' fun σ2 H2=>tb {D with nx:=N,ct:=N,bk:=D.nx} σ2 H2):=by
 refine⟨fun i m σ H=>m=xs.length - i/\i<=xs.length/\Pv i σ H,⟨xs.length,by simp,Nat.zero_le _,h0⟩,?_⟩
 rintro i m σ H ⟨rfl,hi,p⟩
 have q:=hl i σ H hi p
 by_cases iu:i < xs.length
 ·refine .inr ⟨⟨xs,xs[i],q,by simp[iu]⟩,Pv (i + 1),fun σ' H' p'=>⟨xs.length - (i + 1),by lia,rfl,iu,p'⟩,fun x H' y=>?_⟩
  obtain⟨e,y⟩:=y
  subst e
  exact hs i x σ _ (y xs q) p
 ·have e:i=xs.length:=by lia
  subst e
  exact .inl ⟨⟨xs,q,aE _⟩,hd σ H p⟩
theorem iW {lo:Int}{n:Nat}{g:TG}{tb:TS}{D:Ends}{σ:St}{H:Hp}(Pv:Nat->St->Hp->Prop)(h0:Pv 0 σ H)
  (hs: ∀i σ H,i < n->Pv i σ H->g (.int (lo + i)) σ H fun σ2 H2=>tb {D with nx:=Pv (i + 1),ct:=Pv (i + 1),bk:=D.nx} σ2 H2) (hd: ∀σ H,Pv n σ H->D.nx σ H):
  ∃W:Nat->Nat->St->Hp->Prop,(∃m,W 0 m σ H)/\ ∀i m σ H,W i m σ H->
   ((Ls lo n).stop i H/\D.nx σ H)∨((Ls lo n).go i H/\ ∃N:St->Hp->Prop,(∀σ' H',N σ' H'-> ∃m',m' < m/\W (i + 1) m' σ' H')/\ ∀x H',(Ls lo n).Ob i H x H'->g x σ H' fun σ2 H2=>tb {D with nx:=N,ct:=N,bk:=D.nx} σ2 H2):=by
 refine⟨fun i m σ H=>m=n - i/\i<=n/\Pv i σ H,⟨n,by simp,Nat.zero_le _,h0⟩,?_⟩
 rintro i m σ H ⟨rfl,hi,p⟩
 by_cases iu:i < n
 ·refine .inr ⟨iu,Pv (i + 1),fun σ' H' p'=>⟨n - (i + 1),by lia,rfl,iu,p'⟩,fun x H' y=>?_⟩
  obtain⟨e,y⟩:=y
  subst e y
  exact hs i σ _ iu p
 ·have e:i=n:=by lia
  subst e
  exact .inl ⟨aE _,hd σ H p⟩
abbrev R2:=V->V->Hp->VK->Prop
def oF (X:Cx)(f:Value->Value->Sem Value)(r:R2):Prop:=
 ∀(pins:List (Addr×Obj)) (s:Shared) (σ:St) (H:Hp) (x y:V) (v u:Value) (Q:VK),Inv X pins σ H s->RelV x v->RelV y u->r x y H Q->
  wpAny (model X.prog X.w) X.A (f v u) (EP X pins σ Q) X.xe s
def Nc (X:Cx)(f:Value->Sem Value)(r:V->Hp->VK->Prop):Prop:=
 ∀(pins:List (Addr×Obj)) (s:Shared) (σ:St) (H:Hp) (x:V) (v:Value) (Q:VK),Inv X pins σ H s->RelV x v->r x H Q->
  wpAny (model X.prog X.w) X.A (f v) (EP X pins σ Q) X.xe s
def iN (X:Cx)(f:Value)(r:List V->Hp->VK->Prop):Prop:=
 ∀(pins:List (Addr×Obj)) (s:Shared) (σ:St) (H:Hp) (xs:List V) (us:List Value) (Q:VK),Inv X pins σ H s->Vals xs us->r xs H Q->
  wpAny (model X.prog X.w) X.A (call f us) (EP X pins σ Q) X.xe s
def QI (r:R2)(ta tb:TE):TE:=fun σ H Q=>ta σ H fun x H1=>tb σ H1 fun y H2=>r x y H2 Q
def tUn (r:V->Hp->VK->Prop)(ta:TE):TE:=fun σ H Q=>ta σ H fun x H1=>r x H1 Q
inductive Zp (x y:V)(C k:Int->Int->Prop):Prop
 |mk (i j:Int)(h1:x= .int i)(h2:y= .int j)(c:C i j)(q:k i j):Zp x y C k
inductive Zq (x y:V)(k:Int->Int->Prop):Prop
 |mk (i j:Int)(h1:x= .int i)(h2:y= .int j)(q:k i j):Zq x y k
def rI (C:Int->Int->Prop)(g:Int->Int->V):R2:=fun x y H Q=>Zp x y C fun i j=>Q (g i j) H
def KZ (g:Int->Int->V):R2:=fun x y H Q=>Zq x y fun i j=>Q (g i j) H
def rU (g:Int->V):V->Hp->VK->Prop:=fun x H Q=> ∃i,x= .int i/\Q (g i) H
section
variable {X:Cx}{a b c:Expr}{ta tb tc:TE}{pos:Pos}
theorem Od (ha:PE X a ta)(hb:PE X b tb){pins:List (Addr×Obj)}{s:Shared}{σ:St}{H:Hp}{R:V->V->Hp->Prop}(I:Inv X pins σ H s)
  (h:ta σ H fun x H1=>tb σ H1 fun y H2=>R x y H2) {Q:Value->Shared->Prop} {f:Value->Value->Sem Value}
  (hf: ∀v u s2 x y H2,Inv X pins σ H2 s2->RelV x v->RelV y u->R x y H2->wpAny (model X.prog X.w) X.A (f v u) Q X.xe s2):
  wpAny (model X.prog X.w) X.A (eval a X.env) (fun v s₁=>wpAny (model X.prog X.w) X.A (eval b X.env) (fun u s₂=>wpAny (model X.prog X.w) X.A (f v u) Q X.xe s₂) X.xe s₁) X.xe s:=by
 refine dR (ha pins s σ H _ I h) fun v s1 ⟨x,H1,I1,r1,q1⟩=>?_
 refine dR (hb pins s1 σ H1 _ I1 q1) fun u s2 ⟨y,H2,I2,r2,q2⟩=>?_
 exact hf v u s2 x y H2 I2 r1 r2 q2
theorem aO {op:Operator}{r:R2}(ho:oF X (binaryOp op) r)(ha:PE X a ta)(hb:PE X b tb):PE X (.BinOp a op b pos) (QI r ta tb):=by
 intro pins s σ H Q I h
 exact wpAny_BinOp (Od ha hb I h fun v u s2 x y H2 I2 rx ry q=>ho pins s2 σ H2 x y v u Q I2 rx ry q)
theorem oT {op:UnaryOp}{r:V->Hp->VK->Prop}(ho:Nc X (unaryOp op) r)(ha:PE X a ta):PE X (.UnaryOp op a pos) (tUn r ta):=by
 intro pins s σ H Q I h
 exact UnaryOp_ (dR (ha pins s σ H _ I h) fun v s1 ⟨x,H1,I1,r1,q1⟩=>ho pins s1 σ H1 x v Q I1 r1 q1)
theorem RK {f:Value->Value->Sem Value}{C:Int->Int->Prop}{g:Int->Int->Int}
  (rule: ∀(i j:Int) (t u:Tok) (s:Shared) (Q:Value->Shared->Prop) (E:Value->Shared->Prop),C i j->Q (.int (g i j) s.toks) {s with toks:=s.toks + 1}->wpAny (model X.prog X.w) X.A (f (.int i t) (.int j u)) Q E s):
  oF X f (rI C fun i j=> .int (g i j)):=by
 intro pins s σ H x y v u Q I rx ry h
 obtain⟨i,j,rfl,rfl,hc,q⟩:=h
 obtain⟨t,rfl⟩:=rx
 obtain⟨t',rfl⟩:=ry
 exact rule i j t t' s _ _ hc ⟨.int (g i j),H,I.tok _,⟨_,rfl⟩,q⟩
theorem RL {f:Value->Value->Sem Value}{g:Int->Int->Int}
  (rule: ∀(i j:Int) (t u:Tok) (s:Shared) (Q:Value->Shared->Prop) (E:Value->Shared->Prop),Q (.int (g i j) s.toks) {s with toks:=s.toks + 1}->wpAny (model X.prog X.w) X.A (f (.int i t) (.int j u)) Q E s):
  oF X f (KZ fun i j=> .int (g i j)):=by
 intro pins s σ H x y v u Q I rx ry h
 obtain⟨i,j,rfl,rfl,q⟩:=h
 obtain⟨t,rfl⟩:=rx
 obtain⟨t',rfl⟩:=ry
 exact rule i j t t' s _ _ ⟨.int (g i j),H,I.tok _,⟨_,rfl⟩,q⟩
theorem Lw {f:Value->Value->Sem Value}{g:Int->Int->Bool}
  (rule: ∀(i j:Int) (t u:Tok) (s:Shared) (Q:Value->Shared->Prop) (E:Value->Shared->Prop),Q (.bool (g i j)) s->wpAny (model X.prog X.w) X.A (f (.int i t) (.int j u)) Q E s):
  oF X f (KZ fun i j=> .bl (g i j)):=by
 intro pins s σ H x y v u Q I rx ry h
 obtain⟨i,j,rfl,rfl,q⟩:=h
 obtain⟨t,rfl⟩:=rx
 obtain⟨t',rfl⟩:=ry
 exact rule i j t t' s _ _ ⟨.bl (g i j),H,I,rfl,q⟩
def Wq (i j:Int):Prop:=0 < j/\j < 1073741824
def Wr (i j:Int):Prop:=0<=j/\j<=1000000/\i.natAbs < 2 ^ 64
def Oe (i j:Int):Prop:=(-(2 ^ 64) < i/\i < 2 ^ 64)∨(-(2 ^ 64) < j/\j < 2 ^ 64)
theorem Oe.ok {i j:Int}(h:Oe i j):IntMulOk i j:=by
 rcases h with⟨h1,h2⟩|⟨h1,h2⟩
 ·exact .of_left (intBits_le_64 h1 h2)
 ·exact .of_right (intBits_le_64 h1 h2)
theorem cB:oF X (binaryOp .Add) (KZ fun i j=> .int (i + j)):=RL fun _ _ _ _ _ _ _ q=>add_int q
theorem eP:oF X (binaryOp .Sub) (KZ fun i j=> .int (i - j)):=RL fun _ _ _ _ _ _ _ q=>sub_int q
theorem lZ:oF X (binaryOp .Mult) (rI Oe fun i j=> .int (i * j)):=RK fun _ _ _ _ _ _ _ hc q=>mul_int q hc.ok
theorem i8:oF X (binaryOp .FloorDiv) (rI Wq fun i j=> .int (i / j)):=RK fun i j _ _ _ _ _ hc q=>by
 have h1:(0:Int) < j:=hc.1
 have h2:j < 1073741824:=hc.2
 exact floordiv_int (by lia) (by rw[Int.fdiv_eq_ediv_of_nonneg i (by lia)]; exact q) (.inl (PyProof.noPylong_small (by lia)))
theorem bW:oF X (binaryOp .Mod) (rI (fun _ j=>0 < j) fun i j=> .int (i % j)):=RK fun i j _ _ _ _ _ hc q=>by
 have h1:(0:Int) < j:=hc
 exact mod_int' (by lia) (by rw[Int.fmod_eq_emod_of_nonneg i (by lia)]; exact q)
theorem jo:oF X (binaryOp .Pow) (rI Wr fun i j=> .int (i ^ j.toNat)):=RK fun _ _ _ _ _ _ _ hc q=>pow_int_small hc.1 hc.2.1 hc.2.2 q
theorem unI {f:Value->Sem Value}{g:Int->Int}
  (rule: ∀(i:Int) (t:Tok) (s:Shared) (Q:Value->Shared->Prop) (E:Value->Shared->Prop),Q (.int (g i) s.toks) {s with toks:=s.toks + 1}->wpAny (model X.prog X.w) X.A (f (.int i t)) Q E s):
  Nc X f (rU fun i=> .int (g i)):=by
 intro pins s σ H x v Q I rx h
 obtain⟨i,rfl,q⟩:=h
 obtain⟨t,rfl⟩:=rx
 exact rule i t s _ _ ⟨.int (g i),H,I.tok _,⟨_,rfl⟩,q⟩
theorem kP:Nc X (unaryOp .USub) (rU fun i=> .int (-i)):=unI fun _ _ _ _ _ q=>neg_int q
end
def RM:V->V->Bool
 | .eu,.eu=>true| .eu,.int _=>true| .int _,.eu=>true| .eu,.bl _=>true| .bl _,.eu=>true| .eu,.str _=>true| .str _,.eu=>true
 | .int _,.int _=>true| .bl _,.bl _=>true| .str _,.str _=>true| .Gj _,.Gj _=>true
 | .int _,.str _=>true| .str _,.int _=>true| .bl _,.str _=>true| .str _,.bl _=>true
 |_,_=>false
def rEq:R2:=fun x y H Q=>RM x y=true/\Q (.bl (decide (x=y))) H
def rNe:R2:=fun x y H Q=>RM x y=true/\Q (.bl (!decide (x=y))) H
theorem EL {i j:Int}:decide (V.int i=V.int j)=(i == j):=by
 rw[oy]
 simp
theorem IE {i j:Bool}:decide (V.bl i=V.bl j)=(i == j):=by
 rw[oy]
 simp
theorem EM {i j:Str}:decide (V.str i=V.str j)=(i == j):=by
 rw[oy]
 simp
theorem EN {i j:Array UInt8}:decide (V.Gj i=V.Gj j)=(i.toList == j.toList):=by
 rw[oy]
 cases i
 cases j
 simp
section
variable {X:Cx}{a b c:Expr}{ta tb tc:TE}{pos:Pos}
theorem dv {pins:List (Addr×Obj)}{σ:St}{H:Hp}{s:Shared}{Q:VK}{k k':Bool}(I:Inv X pins σ H s)(q:Q (.bl k) H)(e:k=k'):EP X pins σ Q (.bool k') s:=by
 subst e
 exact⟨.bl k,H,I,rfl,q⟩
theorem cJ:oF X (compareOp .Eq) rEq:=by
 intro pins s σ H x y v u Q I rx ry h
 obtain⟨hs,q⟩:=h
 cases x with
 |eu=>
  cases rx
  cases y with
  |eu=>cases ry; exact PySem.EqNone.eq_none_none (dv I q (by simp))
  |bl j=>cases ry; exact PySem.EqNone.eq_none_bool (dv I q (by simp))
  |int j=>obtain⟨t',rfl⟩:=ry; exact PySem.EqNone.eq_none_int (dv I q (by simp))
  |str j=>obtain⟨t',rfl⟩:=ry; exact PySem.EqNone.eq_none_str (dv I q (by simp))
  |_=>exact absurd (show false=true from hs) aW
 |bl i=>
  cases rx
  cases y with
  |eu=>cases ry; exact PySem.EqNone.eq_bool_none (dv I q (by simp))
  |bl j=>cases ry; exact eq_bool (dv I q IE)
  |str j=>obtain⟨t',rfl⟩:=ry; exact PySem.EqMixed.eq_bool_str (dv I q (by simp))
  |_=>exact absurd (show false=true from hs) aW
 |int i=>
  obtain⟨t,rfl⟩:=rx
  cases y with
  |eu=>cases ry; exact PySem.EqNone.eq_int_none (dv I q (by simp))
  |int j=>obtain⟨t',rfl⟩:=ry; exact eq_int (dv I q EL)
  |str j=>obtain⟨t',rfl⟩:=ry; exact PySem.EqMixed.eq_int_str (dv I q (by simp))
  |_=>exact absurd (show false=true from hs) aW
 |str i=>
  obtain⟨t,rfl⟩:=rx
  cases y with
  |eu=>cases ry; exact PySem.EqNone.eq_str_none (dv I q (by simp))
  |bl j=>cases ry; exact PySem.EqMixed.eq_str_bool (dv I q (by simp))
  |int j=>obtain⟨t',rfl⟩:=ry; exact PySem.EqMixed.eq_str_int (dv I q (by simp))
  |str j=>obtain⟨t',rfl⟩:=ry; exact eq_str (dv I q EM)
  |_=>exact absurd (show false=true from hs) aW
 |Gj i=>
  obtain⟨t,rfl⟩:=rx
  cases y with
  |Gj j=>obtain⟨t',rfl⟩:=ry; exact PySem.W.eq_bytes (dv I q EN)
  |_=>exact absurd (show false=true from hs) aW
 |_=>cases y <;> exact absurd (show false=true from hs) aW
theorem oU:oF X (compareOp .NotEq) rNe:=by
 intro pins s σ H x y v u Q I rx ry h
 obtain⟨hs,q⟩:=h
 cases x with
 |eu=>
  cases rx
  cases y with
  |eu=>cases ry; exact PySem.EqNone.ne_none_none (dv I q (by simp))
  |bl j=>cases ry; exact PySem.EqNone.ne_none_bool (dv I q (by simp))
  |int j=>obtain⟨t',rfl⟩:=ry; exact PySem.EqNone.ne_none_int (dv I q (by simp))
  |str j=>obtain⟨t',rfl⟩:=ry; exact PySem.EqNone.ne_none_str (dv I q (by simp))
  |_=>exact absurd (show false=true from hs) aW
 |bl i=>
  cases rx
  cases y with
  |eu=>cases ry; exact PySem.EqNone.ne_bool_none (dv I q (by simp))
  |bl j=>cases ry; exact ne_bool (dv I q (cL not IE))
  |str j=>obtain⟨t',rfl⟩:=ry; exact PySem.EqMixed.ne_bool_str (dv I q (by simp))
  |_=>exact absurd (show false=true from hs) aW
 |int i=>
  obtain⟨t,rfl⟩:=rx
  cases y with
  |eu=>cases ry; exact PySem.EqNone.ne_int_none (dv I q (by simp))
  |int j=>obtain⟨t',rfl⟩:=ry; exact ne_int (dv I q (cL not EL))
  |str j=>obtain⟨t',rfl⟩:=ry; exact PySem.EqMixed.ne_int_str (dv I q (by simp))
  |_=>exact absurd (show false=true from hs) aW
 |str i=>
  obtain⟨t,rfl⟩:=rx
  cases y with
  |eu=>cases ry; exact PySem.EqNone.ne_str_none (dv I q (by simp))
  |bl j=>cases ry; exact PySem.EqMixed.ne_str_bool (dv I q (by simp))
  |int j=>obtain⟨t',rfl⟩:=ry; exact PySem.EqMixed.ne_str_int (dv I q (by simp))
  |str j=>obtain⟨t',rfl⟩:=ry; exact ne_str (dv I q (cL not EM))
  |_=>exact absurd (show false=true from hs) aW
 |Gj i=>
  obtain⟨t,rfl⟩:=rx
  cases y with
  |Gj j=>obtain⟨t',rfl⟩:=ry; exact PySem.W.ne_bytes (dv I q (cL not EN))
  |_=>exact absurd (show false=true from hs) aW
 |_=>cases y <;> exact absurd (show false=true from hs) aW
theorem ju:oF X (compareOp .Lt) (KZ fun i j=> .bl (decide (i < j))):=Lw fun _ _ _ _ _ _ _ q=>lt_int q
theorem sS:oF X (compareOp .LtE) (KZ fun i j=> .bl (decide (i<=j))):=Lw fun _ _ _ _ _ _ _ q=>le_int q
theorem iO:oF X (compareOp .Gt) (KZ fun i j=> .bl (decide (j < i))):=Lw fun _ _ _ _ _ _ _ q=>gt_int q
theorem IF:oF X (compareOp .GtE) (KZ fun i j=> .bl (decide (j<=i))):=Lw fun _ _ _ _ _ _ _ q=>ge_int q
theorem aY (b:Expr){op:CmpOp}(h:op≠ .In:=by decide)(h2:op≠ .NotIn:=by decide):behindInMarks op b=false:=by
 have e1:(op == CmpOp.In)=false:=by cases op <;> first|rfl|exact absurd rfl h
 have e2:(op == CmpOp.NotIn)=false:=by cases op <;> first|rfl|exact absurd rfl h2
 cases b <;> simp[behindInMarks,e1,e2]
theorem fm {op:CmpOp}{r:R2}(ho:oF X (compareOp op) r)(ha:PE X a ta)(hb:PE X b tb)(hm:behindInMarks op b=false):PE X (.Compare a [op] [b] pos) (QI r ta tb):=by
 intro pins s σ H Q I h
 exact wpAny_Compare1 (Od ha hb I h fun v u s2 x y H2 I2 rx ry q=>ho pins s2 σ H2 x y v u Q I2 rx ry q) hm
inductive Zr (x:V)(k:Bool->Prop):Prop
 |mk (b:Bool)(h:x= .bl b)(q:k b):Zr x k
def IG (t:TE):TT:=fun σ H Q=>t σ H fun x H'=>Zr x fun b=>Q b H'
theorem aV {op:CmpOp}{r:R2}(ho:oF X (compareOp op) r)(ha:PE X a ta)(hb:PE X b tb)(hm:behindInMarks op b=false):PT X (.Compare a [op] [b] pos) (IG (QI r ta tb)):=by
 intro pins s σ H Q I h
 refine wpAny_isTrue_Compare1 (dR (ha pins s σ H _ I h) fun v s1 ⟨x,H1,I1,r1,q1⟩=>dR (hb pins s1 σ H1 _ I1 q1) fun u s2 ⟨y,H2,I2,r2,q2⟩=>
  dR (ho pins s2 σ H2 x y v u _ I2 r1 r2 q2) fun c s3 ⟨z,H3,I3,r3,k,e,q3⟩=>?_) hm
 subst e
 cases r3
 exact fW ⟨H3,I3,q3⟩
def IH (r r':R2)(ta tb tc:TE):TE:=fun σ H Q=>ta σ H fun x H1=>tb σ H1 fun y H2=>r x y H2 fun z H3=> ∃k,z= .bl k/\
 (if k=true then tc σ H3 fun w' H4=>r' y w' H4 Q else Q (.bl false) H3)
theorem Bp {op Ws:CmpOp}{r r':R2}(ho:oF X (compareOp op) r)(Lo:oF X (compareOp Ws) r')(ha:PE X a ta)(hb:PE X b tb)(hc:PE X c tc)
  (hm:lastMarks [op,Ws] [b,c]=false:=by with_unfolding_all rfl):PT X (.Compare a [op,Ws] [b,c] pos) (IG (IH r r' ta tb tc)):=by
 intro pins s σ H Q I h
 refine isTrue_chain (dR (ha pins s σ H _ I h) fun v s1 ⟨x,H1,I1,r1,q1⟩=>test_link (dR (hb pins s1 σ H1 _ I1 q1) fun u s2 ⟨y,H2,I2,r2,q2⟩=>
  dR (ho pins s2 σ H2 x y v u _ I2 r1 r2 q2) fun d s3 ⟨z,H3,I3,r3,k,e,q3⟩=>?_)) hm
 subst e
 cases r3
 refine fW ?_
 cases k with
 |false=>
  obtain⟨k',e',q'⟩:=q3
  cases e'
  exact ite_ff ⟨H3,I3,q'⟩
 |true=>
  refine ite_tt (test_last (dR (hc pins s3 σ H3 _ I3 q3) fun w' s4 ⟨z',H4,I4,r4,q4⟩=>dR (Lo pins s4 σ H4 y z' u w' _ I4 r2 r4 q4) fun d' s5 ⟨z2,H5,I5,r5,k2,e2,q5⟩=>?_))
  subst e2
  cases r5
  exact fW ⟨H5,I5,q5⟩
theorem y0:(sizeLine:Nat) < 2 ^ 63:=by rw[eI]; decide
theorem uN:oF X (binaryOp .Add) (fun x y H Q=> ∃i j,x= .str i/\y= .str j/\i.length + j.length<=sizeLine/\Q (.str (i ++ j)) H):=by
 intro pins s σ H x y v u Q I rx ry h
 obtain⟨i,j,rfl,rfl,hz,q⟩:=h
 obtain⟨t,rfl⟩:=rx
 obtain⟨t',rfl⟩:=ry
 exact add_str (fun t' tk=>⟨.str (i ++ j),H,I.tok _,⟨_,rfl⟩,q⟩) hz
theorem vals1 {x:V}{us:List Value}(r:Vals [x] us): ∃u,us=[u]/\RelV x u:=by
 cases r with
 |cons r1 r2=>cases r2; exact⟨_,rfl,r1⟩
theorem vals2 {x y:V}{us:List Value}(r:Vals [x,y] us): ∃u w',us=[u,w']/\RelV x u/\RelV y w':=by
 cases r with
 |cons r1 r2=>
  cases r2 with
  |cons r3 r4=>cases r4; exact⟨_,_,rfl,r1,r3⟩
theorem ya (hc:X.calm=true):iN X (.builtin "max") (fun xs H Q=> ∃i j,xs=[.int i,.int j]/\Q (.int (if j > i then j else i)) H):=by
 intro pins s σ H xs us Q I r h
 obtain⟨i,j,rfl,q⟩:=h
 obtain⟨u,w',rfl,⟨t,rfl⟩,⟨t',rfl⟩⟩:=vals2 r
 refine max_two_ints (I.ok.hd hc) fun h' tk k=>⟨_,H,I.kept k,?_,q⟩
 by_cases hj:j > i
 ·rw[a8 hj,a8 hj]; exact⟨_,rfl⟩
 ·rw[aU hj,aU hj]; exact⟨_,rfl⟩
theorem rZ (hc:X.calm=true):iN X (.builtin "min") (fun xs H Q=> ∃i j,xs=[.int i,.int j]/\Q (.int (if j < i then j else i)) H):=by
 intro pins s σ H xs us Q I r h
 obtain⟨i,j,rfl,q⟩:=h
 obtain⟨u,w',rfl,⟨t,rfl⟩,⟨t',rfl⟩⟩:=vals2 r
 refine min_two_ints (I.ok.hd hc) fun h' tk k=>⟨_,H,I.kept k,?_,q⟩
 by_cases hj:j < i
 ·rw[a8 hj,a8 hj]; exact⟨_,rfl⟩
 ·rw[aU hj,aU hj]; exact⟨_,rfl⟩
theorem jD:iN X (.type "int") (fun xs H Q=>(∃i,xs=[.int i]/\Q (.int i) H)∨ ∃k,xs=[.bl k]/\Q (.int (if k then 1 else 0)) H):=by
 intro pins s σ H xs us Q I r h
 rcases h with⟨i,rfl,q⟩|⟨k,rfl,q⟩
 ·obtain⟨u,rfl,t,rfl⟩:=vals1 r
  exact call_int_int ⟨.int i,H,I,⟨_,rfl⟩,q⟩
 ·obtain⟨u,rfl,r1⟩:=vals1 r
  cases r1
  exact call_int_bool ⟨.int (if k then 1 else 0),H,I.tok _,⟨_,rfl⟩,q⟩
end
structure Dw (h:Heap)(x dx C:Addr)(mA:Str->Option Value):Prop where
 obj:h.get? x=some (PySem.W.instObj C dx)
 ns:h.Ns1 dx mA
 ne:dx≠x
theorem Gs {h:Heap}{dx:Addr}{mA:Str->Option Value}(n:h.Ns1 dx mA): ∃od,h.get? dx=some od/\ ∀name,PySem.W.lookIn name od=some (mA name):=by
 obtain⟨o,es,ep,ho,hd,hk,_,hm⟩:=n
 refine⟨o,ho,fun name=>?_⟩
 have e:=hm name
 unfold nsFind findBy at e
 rw[← Array.find?_toList] at e
 unfold PySem.W.lookIn
 rw[hd]
 dsimp only
 split
 ·rename_i y q
  rw[q] at e
  exact cL some e
 ·rename_i q
  rw[q] at e
  have a:es.toList.any (·.refKey)=false:=by
   rw[rN]
   intro y hy
   obtain⟨z,t,II⟩:=hk y (Array.mem_toList_iff.mp hy)
   simp[DictEntry.refKey,II]
  have a': ¬ es.toList.any (·.refKey)=true:=by rw[a]; exact aW
  rw[aU a']
  exact cL some e
theorem Dw.look {h:Heap}{x dx C:Addr}{mA:Str->Option Value}(I:Dw h x dx C mA): ∃od,PySem.W.InstAt h x (PySem.W.instObj C dx) C (some od)/\ ∀name,PySem.W.lookIn name od=some (mA name):=
 let⟨od,ho,hl⟩:=Gs I.ns
 ⟨od,⟨I.obj,rfl,rfl,ho⟩,hl⟩
section
variable {prog:Program}{w:World}{A:Around}{E:Value->Shared->Prop}{s:Shared}{K:Frag}{x dx C f:Addr}{mA:Str->Option Value}{name:Str}{v:Value}
theorem get_map {expr:Bool}{Q:Value->Shared->Prop}(X:K.In s.heap)(I:Dw s.heap x dx C mA)(hg:plainGet K C name=true)(hh:hasDictIn K C=true)
  (ha:findIn K (.ref C) name=some none) (hv:mA name=some v) (hv':PySem.W.handedIn v=true) (h:Q v {s with toks:=s.toks + 1}):
  wpAny (model prog w) A (getAttr (.ref x) name expr) Q E s:=by
 obtain⟨od,J,hl⟩:=I.look
 exact PySem.W.get_value X J (A8 hg).1 (PySem.W.findObj_own hh ha rfl (by rw[hl,hv])) hv' h
theorem IJ {pl:Sem Bool}{Q:Value×List Value->Shared->Prop}(X:K.In s.heap)(I:Dw s.heap x dx C mA)(hg:plainGet K C name=true)
  (hf:findIn K (.ref C) name=some (some (.ref f))) (ht:PySem.W.isFn K (.ref f)=true) (hv:mA name=none) (h:Q (.ref f,[.ref x]) s):
  wpAny (model prog w) A (getMethod (.ref x) name pl) Q E s:=by
 obtain⟨od,J,hl⟩:=I.look
 exact PySem.W.method_fn X J (A8 hg).1 (A8 hg).2 hf (F6.mp ht) (by show(PySem.W.lookIn name od).map (·.isSome)=some false; rw[hl,hv]; rfl) h
theorem Lx {ns:List Str}{Q:Unit->Shared->Prop}(X:K.In s.heap)(I:Dw s.heap x dx C mA)
  (hs:findIn K (.ref C) "__setattr__"=some (some (.builtin "object.__setattr__"))) (hp:plainOver K C=true) (ht:PySem.W.takerIn K C name=some none) (hh:hasDictIn K C=true)
  (hw:PySem.Within mA ns) (hsz:ns.length<=sizeLine)
  (h: ∀h',Dw h' x dx C (fun y=>if y=name then some v else mA y)->Heap.SameBut dx s.heap h'->Q () {s with heap:=h',toks:=s.toks + 2}):
  wpAny (model prog w) A (setAttr (.ref x) name v) Q E s:=by
 obtain⟨od,J,hl⟩:=I.look
 refine PySem.W.set_plain X J hs (PySem.W.osa_open (s:={s with toks:=s.toks + 1}) (r:=none) X J hp ht fun b=>?_)
 obtain⟨cd,hc,Ik⟩:=PySem.W.any_some hh
 have hx:s.heap.get? x=some ⟨.ref C,some dx,.plain,#[]⟩:=I.obj
 refine aA (bE (aA (aA (wpAny_loadPart hx (aA (PySem.W.Looks.here (s:={s with toks:=s.toks + 1}) (PySem.W.looks_clsIn X hc) ?_))))))
 rw[Ik]
 refine bE (a:=some dx) (aA (bE (aA ?_)))
 refine wpAny_nsSet1 (s:={s with toks:=s.toks + 1}) I.ns fun h' U8 Lu=>?_
 obtain⟨oD,esD,epD,Wt,Wu,Wv⟩:=U8.count (PySem.Within.cons name v hw)
 refine aA (wpAny_lookBehind Wt (by rw[Wu]; exact pastItsLine_dict (aZ Wv (by rw[bS]; lia))) ?_)
 exact bE (h _ ⟨(Lu.2 _ (wG I.ne)).trans I.obj,U8,I.ne⟩ Lu)
theorem IK {R:Result->Shared->Prop}{vs:List Value}{kw:List (Str×Value)}(X:K.In s.heap)(hm:makesIn K C=true)
  (hi:findIn K (.ref C) "__init__"=some (some (.ref f))) (hf:typeIn K (.ref f)=some (.type "function"))
  (h:codeAny (model prog w) (A.under (.builtin "type.__call__" ⟨.ref C :: vs,kw⟩)) (.call (.ref f) ⟨.ref (s.heap.objs.size + 1) :: vs,kw⟩) (PySem.W.InitBack (s.heap.objs.size + 1) R)
   {s with heap:=(s.heap.push PySem.W.emptyDict).push (PySem.W.instObj C s.heap.objs.size)}):
  codeAny (model prog w) A (.call (.ref C) ⟨vs,kw⟩) R s:=by
 obtain⟨hh,g,d,t,os⟩:=s
 exact PySem.W.make_core (PySem.W.makes_of X hm) (PySem.W.looks_findIn X hi) (fun self=>PySem.W.bind_fn X self hf) (.inl rfl) h
end
def eE (f:Str)(v:V):List (Str×V)->List (Str×V)
 |[]=>[(f,v)]
 |(g,x) :: r=>if g=f then(g,v) :: r else(g,x) :: eE f v r
theorem sT (f g:Str)(v:V): ∀fs:List (Str×V),(eE f v fs).lookup g=if g=f then some v else fs.lookup g
 |[]=>by
  show List.lookup g [(f,v)]=_
  by_cases h:g=f
  ·have hb:(g == f)=true:=F6.mpr h
   simp only[List.lookup,hb,if_pos h]
  ·have hb:(g == f)=false:=gR.mpr h
   simp only[List.lookup,hb,if_neg h]
 |(k,x) :: r=>by
  have ih:=sT f g v r
  rw[show eE f v ((k,x) :: r)=(if k=f then(k,v) :: r else(k,x) :: eE f v r) from rfl]
  by_cases hk:k=f
  ·rw[a8 hk]
   by_cases h:g=k
   ·have hb:(g == k)=true:=F6.mpr h
    simp only[List.lookup,hb,if_pos (h.trans hk)]
   ·have hb:(g == k)=false:=gR.mpr h
    simp only[List.lookup,hb,if_neg (fun e:g=f=>h (e.trans hk.symm))]
  ·rw[aU hk]
   by_cases h:g=k
   ·have hb:(g == k)=true:=F6.mpr h
    simp only[List.lookup,hb,if_neg (fun e:g=f=>hk (h.symm.trans e))]
   ·have hb:(g == k)=false:=gR.mpr h
    simp only[List.lookup,hb]
    exact ih
theorem r9 (f:Str)(v:V): ∀fs:List (Str×V),f∈(eE f v fs).map (·.1)/\ ∀g,g∈fs.map (·.1)->g∈(eE f v fs).map (·.1)
 |[]=>⟨by simp[eE],fun g h=>by simp at h⟩
 |(k,x) :: r=>by
  obtain⟨i1,i2⟩:=r9 f v r
  rw[show eE f v ((k,x) :: r)=(if k=f then(k,v) :: r else(k,x) :: eE f v r) from rfl]
  by_cases hk:k=f
  ·rw[a8 hk]
   subst hk
   exact⟨by simp,fun g h=>by simpa using h⟩
  ·rw[aU hk]
   refine⟨?_,fun g h=>?_⟩
   ·rw[de]
    exact ba _ i1
   ·rw[de] at h ⊢
    rcases aw.mp h with e|e
    ·exact aw.mpr (.inl e)
    ·exact ba _ (i2 g e)
theorem mR (f:Str)(v:V): ∀fs:List (Str×V),(eE f v fs).length<=fs.length + 1
 |[]=>by simp[eE]
 |(k,x) :: r=>by
  have ih:=mR f v r
  rw[show eE f v ((k,x) :: r)=(if k=f then(k,v) :: r else(k,x) :: eE f v r) from rfl]
  by_cases hk:k=f
  ·rw[a8 hk,bS,bS]; lia
  ·rw[aU hk,bS,bS]; lia
theorem lh.some_of {v:V}{o:Option Value}(r:lh (some v) o): ∃u,o=some u/\RelV v u:=by
 cases o with
 |none=>exact(show False from r).elim
 |some u=>exact⟨u,rfl,r⟩
theorem lh.none_of {o:Option Value}(r:lh none o):o=none:=by
 cases o with
 |none=>rfl
 |some u=>exact(show False from r).elim
theorem Gu {v:V}{u:Value}(r:RelV v u):PySem.W.handedIn u=true:=by
 cases v with
 |eu=>cases(show u=Value.none from r); rfl
 |bl b=>cases(show u=Value.bool b from r); rfl
 |int i=>obtain⟨t,e⟩:=(show ∃t,u=Value.int i t from r); cases e; rfl
 |str x=>obtain⟨t,e⟩:=(show ∃t,u=Value.str x t from r); cases e; rfl
 |Gj b=>obtain⟨t,e⟩:=(show ∃t,u=Value.bytes b t from r); cases e; rfl
 |Lk b=>obtain⟨t,e⟩:=(show ∃t,u=Value.float b t from r); cases e; rfl
 |ref a=>cases(show u=Value.ref a from r); rfl
 |ty n=>cases(show u=Value.type n from r); rfl
section
variable {P:Program}{w:World}{H H':Hp}{h h':Heap}{a C dx:Addr}{fs fs':List (Str×V)}
theorem qz (cu:oE P w H h)(e:H a=some (.ins C dx fs)): ∃mA,Dw h a dx C mA/\(∀f,lh (fs.lookup f) (mA f))/\PySem.Within mA (fs.map (·.1))/\fs.length<=1000/\H dx=some (.own a):=by
 obtain⟨d,z,ne,ob,mA,n,r,q⟩:=(show dA P w H h a (.ins C dx fs) from cu a _ e)
 exact⟨mA,⟨ob,n,ne⟩,r,q,z,d⟩
end
structure wO (K:Frag)(C:Addr):Prop where
 pg:plainGet K C Str.empty=true
 hd:hasDictIn K C=true
 po:plainOver K C=true
 sa:findIn K (.ref C) "__setattr__"=some (some (.builtin "object.__setattr__"))
theorem wO.get {K:Frag}{C:Addr}(c:wO K C)(f:Str):plainGet K C f=true:=c.pg
def b0 (K:Frag)(C:Addr)(f:Str):Prop:=findIn K (.ref C) f=some none
theorem b0.RN {K:Frag}{C:Addr}{f:Str}(n:b0 K C f):PySem.W.takerIn K C f=some none:=by
 unfold PySem.W.takerIn
 rw[show findIn K (.ref C) f=some none from n]
 rfl
structure Meth (K:Frag)(C:Addr)(m:Str)(f:Addr):Prop where
 at_:findIn K (.ref C) m=some (some (.ref f))
 fn:PySem.W.isFn K (.ref f)=true
 kp:keepIn K (.ref f)=true
section
variable {X:Cx}{pins:List (Addr×Obj)}{σ:St}{H:Hp}{s:Shared}{a C dx:Addr}{fs:List (Str×V)}{f:Str}{v:V}{A:Around}{E:Value->Shared->Prop}
theorem Dx {b:Bool}{Q:Value->Shared->Prop}(I:Inv X pins σ H s)(e:H a=some (.ins C dx fs))(c:wO X.K C)(n:b0 X.K C f)(l:fs.lookup f=some v)
  (h: ∀u s',Inv X pins σ H s'->RelV v u->Q u s'):wpAny (model X.prog X.w) A (getAttr (.ref a) f b) Q E s:=by
 obtain⟨mA,O,r,_,_,_⟩:=qz I.cu e
 obtain⟨u,hu,ru⟩:=lh.some_of (v:=v) (o:=mA f) (by rw[← l]; exact r f)
 exact get_map I.gO O (c.get f) c.hd n hu (Gu ru) (h u _ (I.tok _) ru)
theorem Dy {m:Str}{g:Addr}{pl:Sem Bool}{Q:Value×List Value->Shared->Prop}(I:Inv X pins σ H s)(e:H a=some (.ins C dx fs))(c:wO X.K C)(k:Meth X.K C m g)(l:fs.lookup m=none)
  (h:Q (.ref g,[.ref a]) s):wpAny (model X.prog X.w) A (getMethod (.ref a) m pl) Q E s:=by
 obtain⟨mA,O,r,_,_,_⟩:=qz I.cu e
 have hn:mA m=none:=lh.none_of (by rw[← l]; exact r m)
 exact IJ I.gO O (c.get m) k.at_ k.fn hn h
theorem Dz {y:V}{u:Value}{Q:Unit->Shared->Prop}(I:Inv X pins σ H s)(e:H a=some (.ins C dx fs))(c:wO X.K C)(n:b0 X.K C f)(hl:fs.length < 1000)(ry:RelV y u)
  (h: ∀s',Inv X pins σ (upd H a (.ins C dx (eE f y fs))) s'->Q () s'):wpAny (model X.prog X.w) A (setAttr (.ref a) f u) Q E s:=by
 obtain⟨mA,O,r,wi,_,ho⟩:=qz I.cu e
 have hz:(fs.map (·.1)).length<=sizeLine:=by rw[ae,eI]; lia
 refine Lx I.gO O c.sa c.po n.RN c.hd wi hz fun h' O' sb=>h _ ?_
 have hd: ∃o,h'.get? dx=some o:=let⟨o,_,_,e',_⟩:=O'.ns; ⟨o,e'⟩
 refine I.write (x:=a) (e:=dx) (by rw[e]; exact True.intro) (.inr ho) (fun b q hb z=>(sb.2 b hb).trans z) hd ?_
 refine⟨by rw[az O.ne]; exact ho,?_,O.ne,O'.obj,_,O'.ns,fun g=>?_,fun g hg=>?_⟩
 ·have:=mR f y fs; lia
 ·show lh ((eE f y fs).lookup g) (if g=f then some u else mA g)
  rw[sT]
  by_cases q:g=f
  ·rw[a8 q,a8 q]; exact ry
  ·rw[aU q,aU q]; exact r g
 ·by_cases q:g=f
  ·rw[q]; exact(r9 f y fs).1
  ·refine(r9 f y fs).2 g (wi g fun z=>hg ?_)
   show(if g=f then some u else mA g)=none
   rw[aU q]; exact z
theorem Inv.made (I:Inv X pins σ H s):Inv X pins σ (upd (upd H s.heap.objs.size (.own (s.heap.objs.size + 1))) (s.heap.objs.size + 1) (.ins C s.heap.objs.size []))
  {s with heap:=(s.heap.push PySem.W.emptyDict).push (PySem.W.instObj C s.heap.objs.size)}:=by
 have e1:(s.heap.push PySem.W.emptyDict).get? s.heap.objs.size=some PySem.W.emptyDict:=bL s.heap rfl
 have e2:((s.heap.push PySem.W.emptyDict).push (PySem.W.instObj C s.heap.objs.size)).get? (s.heap.objs.size + 1)=some (PySem.W.instObj C s.heap.objs.size):=by
  have:=bL (s.heap.push PySem.W.emptyDict) (o:=PySem.W.instObj C s.heap.objs.size) rfl
  rwa [oh] at this
 have e3:(s.heap.push PySem.W.emptyDict).Ns s.heap.objs.size (fun _=>none):=⟨PySem.W.emptyDict,#[],_,e1,rfl,(fun e he=>absurd he (by simp)),fun _=>rfl⟩
 have I1:=I.laid (a:=s.heap.objs.size) (o:= .own (s.heap.objs.size + 1)) (h':=s.heap.push PySem.W.emptyDict) (t':=s.toks) (fun b u q=>ax _ q) (aE _) ⟨_,e1⟩
 refine I1.laid (a:=s.heap.objs.size + 1) (o:= .ins C s.heap.objs.size []) (t':=s.toks) (fun b u q=>ax _ q) (iH (oh _ _)) ?_
 have ne:s.heap.objs.size≠s.heap.objs.size + 1:=a6 (f7 _)
 refine⟨by rw[az ne,ag],bh _,ne,e2,fun _=>none,(Heap.Ns1.of_empty e3).at fun o q=>ax _ q,fun _=>True.intro,fun y hy=>absurd rfl hy⟩
theorem EO {prog:Program}{w:World}{env:Env}{e:Expr}{f:Str}{pos:Pos}{s:Shared}{Q:Value->Shared->Prop}(hb:attributeBase e f env (eval e env)=eval e env)
  (h:wpAny (model prog w) A (eval e env) (fun o s₁=>wpAny (model prog w) A (getAttr o f true) Q E s₁) E s):wpAny (model prog w) A (eval (.Attribute e f pos) env) Q E s:=
 Attribute_any_ h (by rw[arm_eval_Attribute,hb])
end
def RO (K:Frag)(ta:TE)(f:Str):TE:=fun σ H Q=>ta σ H fun x H1=> ∃a C dx fs v,x= .ref a/\H1 a=some (.ins C dx fs)/\wO K C/\b0 K C f/\fs.lookup f=some v/\Q v H1
def Ww (K:Frag)(ta tv:TE)(f:Str):TS:=fun D σ H=>tv σ H fun y H1=>ta σ H1 fun x H2=> ∃a C dx fs,x= .ref a/\H2 a=some (.ins C dx fs)/\wO K C/\b0 K C f/\fs.length < 1000/\
 D.nx σ (upd H2 a (.ins C dx (eE f y fs)))
section
variable {X:Cx}{o e value:Expr}{f:Str}{pos pos' Of:Pos}{ta tv:TE}
theorem bX (he:PE X e ta)(hb:attributeBase e f X.env (eval e X.env)=eval e X.env):PE X (.Attribute e f pos) (RO X.K ta f):=by
 intro pins s σ H Q I h
 refine EO hb (dR (he pins s σ H _ I h) fun u s1 ⟨x,H1,I1,rx,a,C,dx,fs,v,ex,ea,c,n,l,q⟩=>?_)
 subst ex
 obtain rfl:u=Value.ref a:=rx
 exact Dx I1 ea c n l fun u' s2 I2 ru=>⟨v,H1,I2,ru,q⟩
theorem fT (ha:PE X o ta)(hv:PE X value tv)(hs:swapsWith value (some (.Attribute o f pos')) pos.line X.env=pure false):PS X (.Assign [.Attribute o f pos'] value pos) (Ww X.K ta tv f):=by
 intro pins s σ H D I h
 refine NU (dR (hv pins s σ H _ I h) fun u s1 ⟨y,H1,I1,ry,q⟩=>dR (ha pins s1 σ H1 _ I1 q) fun ov s2 ⟨x,H2,I2,rx,a,C,dx,fs,ex,ea,c,n,l,q2⟩=>?_) hs
 subst ex
 obtain rfl:ov=Value.ref a:=rx
 exact Dz I2 ea c n l ry fun s3 I3=>⟨σ,_,I3,q2⟩
end
section
variable {X:Cx}{pins:List (Addr×Obj)}{σ:St}{H:Hp}{s:Shared}{A:Around}{E:Value->Shared->Prop}{Q:Value->Shared->Prop}{c:Value}{b:Bool}
inductive mS (K:Frag)(H:Hp):V->Value->Prop where
 |eu:mS K H .eu (.type "NoneType")
 |bl (x:Bool):mS K H (.bl x) (.type "bool")
 |int (i:Int):mS K H (.int i) (.type "int")
 |str (x:Str):mS K H (.str x) (.type "str")
 |Lk (x:UInt64):mS K H (.Lk x) (.type "float")
 |lst {a:Addr} {xs:List V} (e:H a=some (.lst xs)):mS K H (.ref a) (.type "list")
 |C9 {a:Addr} {o:Obj} {xs:List V} (e:H a=some (.C9 o (.lst xs))):mS K H (.ref a) (.type "list")
 |tup {a:Addr} {xs:List V} (e:H a=some (.tup xs)):mS K H (.ref a) (.type "tuple")
 |dK {a:Addr} {bc:List (Key×V)} (e:H a=some (.dK bc)):mS K H (.ref a) (.type "dict")
 |dT {a:Addr} {bc:List (List Key×V)} (e:H a=some (.dT bc)):mS K H (.ref a) (.type "dict")
 |ins {a C dx:Addr} {fs:List (Str×V)} (e:H a=some (.ins C dx fs)) (cl:wO K C) (ha:findIn K (.ref C) "__class__"=some (some (.builtin "object.__class__")))
   (hn:specialIn K (.builtin "object.__class__") "__get__"=some (some (.builtin "getset_descriptor.__get__"))) (lT:PySem.W.takesIn K (.builtin "object.__class__")=some true)
   (hm:PySem.W.mroIn K C (.type "object")=some true):mS K H (.ref a) (.ref C)
theorem Gv {x:V}{u t:Value}(I:Inv X pins σ H s)(rx:RelV x u)(ty:mS X.K H x t)(e:PySem.W.kitOne X.K t c=some b)(h: ∀tk,Q (.bool b) {s with toks:=tk}):
  wpAny (model X.prog X.w) A (call (.builtin "isinstance") [u,c]) Q E s:=by
 cases ty with
 |eu=>cases(show u=Value.none from rx); exact ee PySem.W.kitx_none I.gO True.intro e (fun z=>nomatch z) h
 |bl y=>cases(show u=Value.bool y from rx); exact ee PySem.W.kitx_bool I.gO True.intro e (fun z=>nomatch z) h
 |int i=>obtain⟨t,q⟩:=(show ∃t,u=Value.int i t from rx); cases q; exact ee PySem.W.kitx_int I.gO True.intro e (fun z=>nomatch z) h
 |str y=>obtain⟨t,q⟩:=(show ∃t,u=Value.str y t from rx); cases q; exact ee PySem.W.kitx_str I.gO True.intro e (fun z=>nomatch z) h
 |Lk y=>obtain⟨t,q⟩:=(show ∃t,u=Value.float y t from rx); cases q; exact ee PySem.W.kitx_float I.gO True.intro e (fun z=>nomatch z) h
 | @lst a xs ea=>
  cases(show u=Value.ref a from rx)
  obtain⟨_,_,n,_,h1⟩:=(show dA X.prog X.w H s.heap a (.lst xs) from I.cu a _ ea)
  exact ee rO I.gO ⟨_,h1,rfl⟩ e (fun z=>nomatch z) h
 | @C9 a ob xs ea=>
  cases(show u=Value.ref a from rx)
  obtain⟨_,_,_,n,_,h1⟩:=(show dA X.prog X.w H s.heap a (.C9 ob (.lst xs)) from I.cu a _ ea)
  exact ee rO I.gO ⟨_,h1,rfl⟩ e (fun z=>nomatch z) h
 | @tup a xs ea=>
  cases(show u=Value.ref a from rx)
  obtain⟨_,_,_,p⟩:=(show dA X.prog X.w H s.heap a (.tup xs) from I.cu a _ ea)
  obtain⟨o,h1,h2,_⟩:=p
  exact ee PySem.W.kitx_tuple I.gO ⟨o,h1,h2⟩ e (fun z=>nomatch z) h
 | @dK a bc ea=>
  cases(show u=Value.ref a from rx)
  obtain⟨_,_,vs,_,p⟩:=(show dA X.prog X.w H s.heap a (.dK bc) from I.cu a _ ea)
  obtain⟨o,es,ep,h1,h2,_⟩:=p
  exact ee rP I.gO ⟨o,h1,h2.1⟩ e (fun z=>nomatch z) h
 | @dT a bc ea=>
  cases(show u=Value.ref a from rx)
  obtain⟨_,_,xs,_,o,es,ep,h1,h2,_⟩:=(show dA X.prog X.w H s.heap a (.dT bc) from I.cu a _ ea)
  exact ee rP I.gO ⟨o,h1,h2.1⟩ e (fun z=>nomatch z) h
 | @ins a C dx fs ea cl ha hn lT hm=>
  cases(show u=Value.ref a from rx)
  obtain⟨mA,O,_⟩:=qz I.cu ea
  obtain⟨od,J,_⟩:=O.look
  exact ee (PySem.W.kitx_own (cl.get _) cl.hd ha hn lT hm) I.gO J e (fun z=>nomatch z) h
end
structure fb (k:Nat)(A:Around):Prop where
 hd:A.handled=none
 dp:A.depth + 3 * k + 5 < recursionLimit
 un:A.units + 16 * k + 200 < cLine
theorem fb.mono {j k:Nat}{A:Around}(r:fb k A)(h:j<=k):fb j A:=⟨r.hd,by have:=r.dp; lia,by have:=r.un; lia⟩
theorem fb.deeper {k:Nat}{A:Around}(r:fb (k + 1) A)(env:Env):fb k (A.deeper env):=
 ⟨r.hd,by have:=r.dp; show A.depth + 1 + 3 * k + 5 < _; lia,by have:=r.un; show A.units + 3 + 16 * k + 200 < _; lia⟩
theorem uO {A:Around}{C:Addr}{us:List Value}{kw:List (Str×Value)}:(A.under (.builtin "type.__call__" ⟨.ref C :: us,kw⟩)).depth=A.depth + 1:=by
 first|rfl|simp[Around.under,Code.weight,Code.isCreation,Code.isGuard,Code.isCaller,Code.frames,Code.isFrame,guardIds]
theorem uP {A:Around}{C:Addr}{us:List Value}{kw:List (Str×Value)}:(A.under (.builtin "type.__call__" ⟨.ref C :: us,kw⟩)).units=A.units + 1:=by
 first|rfl|simp[Around.under,Code.cUnits,Code.frames,Code.isFrame]
theorem fb.make {k:Nat}{A:Around}(r:fb (k + 1) A)(C:Addr)(us:List Value)(kw:List (Str×Value)):fb k (A.under (.builtin "type.__call__" ⟨.ref C :: us,kw⟩)):=
 ⟨r.hd,by have:=r.dp; rw[uO]; lia,by have:=r.un; rw[uP]; lia⟩
theorem fb.depth {k:Nat}{A:Around}(r:fb k A):A.depth < recursionLimit:=by have:=r.dp; lia
theorem fb.units {k:Nat}{A:Around}(r:fb k A):A.units + 64 < cLine:=by have:=r.un; lia
def DA:TA:=fun _ H Q=>Q [] H
def IL (ta:TE)(tr:TA):TA:=fun σ H Q=>ta σ H fun x H1=>tr σ H1 fun xs H2=>Q (x :: xs) H2
section
variable {X:Cx}{e:Expr}{es:List Expr}{te:TE}{t:TA}{pos:Pos}
theorem av:PA X [] DA:=fun _ _ _ _ H Q I h=>Calls.spliced_nil ⟨[],H,I,.nil,h⟩
theorem aa (ha:PE X e te)(hr:PA X es t)(hs:starEach (e :: es) X.env=(false,eval e X.env) :: starEach es X.env:=by rfl):PA X (e :: es) (IL te t):=by
 intro pos pins s σ H Q I h
 rw[hs]
 show wpAny _ _ (spliced ((false,eval e X.env) :: backTo pos (starEach es X.env))) _ _ s
 refine Calls.spliced_cons (dR (ha pins s σ H _ I h) fun u s1 ⟨x,H1,I1,r1,q1⟩=>?_)
 exact dR (hr pos pins s1 σ H1 _ I1 q1) fun us s2 ⟨xs,H2,I2,r2,q2⟩=>⟨x :: xs,H2,I2,.cons r1 r2,q2⟩
def Wx (t:TA):TE:=fun σ H Q=>t σ H fun xs H1=>xs.length<=sizeLine/\ ∀p,H1 p=none->Q (.ref p) (upd H1 p (.tup xs))
def Wy (t:TA):TE:=fun σ H Q=>t σ H fun xs H1=>xs.length<=sizeLine/\ ∀p,H1 p=none->Q (.ref p) (upd H1 p (.lst xs))
theorem cG {x1}(h:PA X es t):PE X (.Tuple es x1 pos) (Wx t):=by
 intro pins s σ H Q I hq
 refine wpAny_Tuple_spliced (dR (h pos pins s σ H _ I hq) fun us s1 ⟨xs,H1,I1,r,z,q⟩=>⟨by rw[← r.length]; exact z,?_⟩)
 have hf:H1 s1.heap.objs.size=none:=I1.cu.fresh (aE _)
 refine⟨.ref s1.heap.objs.size,upd H1 s1.heap.objs.size (.tup xs),I1.laid (t':=s1.toks) (fun b u e=>ax _ e) (aE _) ?_,rfl,q _ hf⟩
 exact⟨z,us,r,⟨_,bL _ rfl,rfl,_,rfl⟩⟩
theorem bP (h:PA X es t):PE X (.List es pos) (Wy t):=by
 intro pins s σ H Q I hq
 refine wpAny_List_spliced (dR (h pos pins s σ H _ I hq) fun us s1 ⟨xs,H1,I1,r,z,q⟩=>⟨by rw[← r.length]; exact z,?_⟩)
 have hf:H1 s1.heap.objs.size=none:=I1.cu.fresh (aE _)
 refine⟨.ref s1.heap.objs.size,upd H1 s1.heap.objs.size (.lst xs),I1.laid (t':=s1.toks) (fun b u e=>ax _ e) (aE _) ?_,rfl,q _ hf⟩
 exact⟨z,us,0,r,bL _ rfl⟩
end
abbrev Sp:=List V->Hp->VK->XK->Prop
abbrev Gw:=List Env->Hp->Shared->XK->Value->Shared->Prop
structure qA (P:Program)(w:World)(K:Frag)(mg:Str->Option Value)(base:Heap)(A:Around)(outer:List Env)(s:Shared)(H:Hp):Prop where
 frames:A.frames=some outer
 mod:Mod K mg base
 bs: ∀b o,base.get? b=some o->s.heap.get? b=some o/\H b=none
 Be:base.objs.size<=s.heap.objs.size
 lW:s.heap.FunFrames base outer
 EH: ∀b∈Dn outer,H b=none
 cu:oE P w H s.heap
 bare:AllBare s.gens
def CE (outer:List Env)(P:Program)(w:World)(H:Hp)(s:Shared)(Q:VK)(u:Value)(s':Shared):Prop:=
 ∃v H',s'.os=s.os/\AllBare s'.gens/\Un (Dn outer) [] H H' s.heap s'.heap/\oE P w H' s'.heap/\RelV v u/\Q v H'
def CR (CX:Gw)(outer:List Env)(P:Program)(w:World)(H:Hp)(s:Shared)(Q:VK)(E:XK)(r:Result)(s':Shared):Prop:=
 match r with
 | .ok (.ret u)=>CE outer P w H s Q u s'
 | .ok _=>False
 | .error e=>CX outer H s E e s'
structure l0 (P:Program)(w:World)(K:Frag)(mg:Str->Option Value)(base:Heap)(CX:Gw)(k:Nat)(f:Addr)(fd:FuncData)(ps:List Str)(sp:Sp):Prop where
 len: ∀vs H Q E,sp vs H Q E->vs.length=ps.length
 run: ∀(A:Around) (outer:List Env) (s:Shared) (H:Hp) (args:Args) (us:List Value) (vs:List V) (Q:VK) (E:XK),fb k A->qA P w K mg base A outer s H->BindsTo s fd args (ps.zip us)->Vals vs us->sp vs H Q E->
  codeAny (model P w) A (.call (.ref f) args) (CR CX outer P w H s Q E) s
theorem qA.make {P:Program}{w:World}{K:Frag}{mg:Str->Option Value}{base:Heap}{A:Around}{outer:List Env}{s:Shared}{H:Hp}(e:qA P w K mg base A outer s H)(C:Addr)(us:List Value)(kw:List (Str×Value)):
  qA P w K mg base (A.under (.builtin "type.__call__" ⟨.ref C :: us,kw⟩)) outer s H:=⟨by first|exact e.frames|(simpa[Around.under,Code.envs,Code.isFrame,pushEnvs] using e.frames),e.mod,e.bs,e.Be,e.lW,e.EH,e.cu,e.bare⟩
theorem qA.in1 {P:Program}{w:World}{K:Frag}{mg:Str->Option Value}{base:Heap}{A:Around}{outer:List Env}{s:Shared}{H:Hp}(e:qA P w K mg base A outer s H):
  qA P w K mg base A.in1 outer s H:=⟨e.frames,e.mod,e.bs,e.Be,e.lW,e.EH,e.cu,e.bare⟩
section
variable {X:Cx}{pins:List (Addr×Obj)}{σ:St}{H:Hp}{s s':Shared}
theorem Inv.IM (I:Inv X pins σ H s):qA X.prog X.w X.K X.mg X.base X.A X.stack s H:=
 ⟨I.ok.frames,I.ok.mod,I.bs,aZ I.ok.Be I.sz,I.stack,I.qx,I.cu,I.bare⟩
theorem Inv.after {Q:VK}{u:Value}(I:Inv X pins σ H s)(h:CE X.stack X.prog X.w H s Q u s'):EP X pins σ Q u s':=by
 obtain⟨v,H',os,bare,un,cu,r,q⟩:=h
 obtain⟨hh,g,d,t,os'⟩:=s'
 obtain rfl:os'=s.os:=os
 exact⟨v,H',I.call (h':=hh) (g':=g) (d':=d) (t':=t) (ch:=[]) un cu bare (fun b z=>absurd z (by simp)),r,q⟩
end
def uQ (sp:Sp)(uR:List V)(E:XK)(t:TA):TE:=fun σ H Q=>t σ H fun vs H1=>sp (vs ++ uR) H1 Q E
def Nd (C:Addr)(m:Str)(sp:Sp)(uR:List V)(E:XK)(ta:TE)(t:TA):TE:=fun σ H Q=>ta σ H fun x H1=> ∃a dx fs,x= .ref a/\H1 a=some (.ins C dx fs)/\fs.lookup m=none/\
 t σ H1 fun vs H2=>sp (x :: (vs ++ uR)) H2 Q E
def ER (C:Addr)(sp:Sp)(uR:List V)(E:XK)(t:TA):TE:=fun σ H Q=>t σ H fun vs H1=> ∀x dx,H1 x=none->H1 dx=none->dx≠x->
 sp (.ref x :: (vs ++ uR)) (upd (upd H1 dx (.own x)) x (.ins C dx [])) (fun v H2=>v= .eu/\Q (.ref x) H2) E
def Binds (K:Frag)(fd:FuncData)(ps:List Str)(ds:List Value):Prop:=
 ∀(s:Shared) (us:List Value),K.In s.heap->(us ++ ds).length=ps.length->BindsTo s fd ⟨us,[]⟩ (ps.zip (us ++ ds))
theorem Binds.all {K:Frag}{fd:FuncData}{ps:List Str}(h: ∀us:List Value,us.length=ps.length->bindArgs fd ⟨us,[]⟩=pure (ps.zip us)):Binds K fd ps []:=fun s us _ hl=>by
 rw[bR] at hl ⊢
 exact .of_eq (h us hl)
def Passes (CX:Gw)(X:Cx)(E:XK):Prop:= ∀(pins:List (Addr×Obj)) (σ:St) (H:Hp) (s:Shared) (e:Value) (s':Shared),Inv X pins σ H s->CX X.stack H s E e s'->X.xe e s'
section
variable {X:Cx}{CX:Gw}{k:Nat}{f C:Addr}{fd:FuncData}{ps:List Str}{sp:Sp}{uR:List V}{ds:List Value}{E:XK}{x m:Str}{p pos apos:Pos}{e o:Expr}{es:List Expr}{ta:TE}{t:TA}
theorem y1 {pins:List (Addr×Obj)}{σ:St}{H:Hp}{s:Shared}{Q:VK}{us:List Value}{vs:List V}(F:l0 X.prog X.w X.K X.mg X.base CX k f fd ps sp)(hr:fb k X.A)(hb:Binds X.K fd ps ds)(hd:Vals uR ds)(hx:Passes CX X E)
  (I:Inv X pins σ H s) (r:Vals vs us) (h:sp (vs ++ uR) H Q E):wpAny (model X.prog X.w) X.A (call (.ref f) us) (EP X pins σ Q) X.xe s:=by
 have r2:Vals (vs ++ uR) (us ++ ds):=r.append hd
 have hl:(us ++ ds).length=ps.length:=by rw[← r2.length]; exact F.len _ _ _ _ h
 refine EG (Dl (F.run X.A X.stack s H ⟨us,[]⟩ (us ++ ds) (vs ++ uR) Q E hr I.IM (hb s us I.gO hl) r2 h) fun r s' hq=>?_)
 cases r with
 |error e=>exact hx pins σ H s e s' I hq
 |ok fl=>
  cases fl with
  |ret u=>exact I.after hq
  |next=>exact False.elim hq
  |brk=>exact False.elim hq
  |cont=>exact False.elim hq
theorem ES (F:l0 X.prog X.w X.K X.mg X.base CX k f fd ps sp)(hr:fb k X.A)(hg:Gl X x)(hm:X.mg x=some (.ref f))(hk:keepIn X.K (.ref f)=true)(hb:Binds X.K fd ps ds)(hd:Vals uR ds)(hx:Passes CX X E)
  (ha:PA X (e :: es) t) (qB:(x == ("__debug__":Str))=false:=by decide) (he:starEach (e :: es) X.env=(false,eval e X.env) :: starEach es X.env:=by rfl) (gQ:(backTo pos (starEach es X.env)).any (·.1)=false:=by rfl):
  PE X (.Call (.Name x p) (e :: es) [] pos) (uQ sp uR E t):=by
 intro pins s σ H Q I h
 refine eJ (jy I hg hm ?_ qB)
 refine km (h₀:=X.base) I.ok.mod.Lm hk (dR (ha pos pins s σ H _ I h) fun us s1 ⟨vs,H1,I1,r,q⟩=>⟨I1.gO,?_⟩) he gQ
 exact y1 F hr hb hd hx I1 r q
theorem IP (F:l0 X.prog X.w X.K X.mg X.base CX k f fd ps sp)(hr:fb k X.A)(hg:Gl X x)(hm:X.mg x=some (.ref f))(hk:keepIn X.K (.ref f)=true)(hb:Binds X.K fd ps ds)(hd:Vals uR ds)(hx:Passes CX X E)
  (qB:(x == ("__debug__":Str))=false:=by decide):PE X (.Call (.Name x p) [] [] pos) (uQ sp uR E DA):=by
 intro pins s σ H Q I h
 refine eJ (jy I hg hm ?_ qB)
 exact A9 I.gO hk (y1 (us:=[]) F hr hb hd hx I .nil h)
theorem Ly {pl:Sem Bool}(he:PE X o ta)(c:wO X.K C)(hm:Meth X.K C m f)(F:l0 X.prog X.w X.K X.mg X.base CX k f fd ps sp)(hr:fb k X.A)(hb:Binds X.K fd ps ds)(hd:Vals uR ds)(hx:Passes CX X E)(ha:PA X (e :: es) t)
  (sR:starEach (e :: es) X.env=(false,eval e X.env) :: starEach es X.env:=by rfl) (gQ:(backTo pos (starEach es X.env)).any (·.1)=false:=by rfl)
  (ht:eval (.Call (.Attribute o m apos) (e :: es) [] pos) X.env=(do
   let ov ← eval o X.env
   standAt apos.atName
   let(f,first) ← holding [ov] (getMethod ov m pl)
   callWith pos f first (backTo pos (starEach (e :: es) X.env)) (backToKw pos (keywordEach [] X.env))):=by rfl):
  PE X (.Call (.Attribute o m apos) (e :: es) [] pos) (Nd C m sp uR E ta t):=by
 intro pins s σ H Q I h
 refine wH (pl:=pl) (dR (he pins s σ H _ I h) fun u s1 ⟨x,H1,I1,rx,a,dx,fs,ex,ea,l,q⟩=>?_) ht
 subst ex
 obtain rfl:u=Value.ref a:=rx
 refine Dy I1 ea c hm l ?_
 refine km (first:=[.ref a]) (h₀:=X.base) I.ok.mod.Lm hm.kp (dR (ha pos pins s1 σ H1 _ I1 q) fun us s2 ⟨vs,H2,I2,r,q2⟩=>⟨I2.gO,?_⟩) sR gQ
 exact y1 (us:= .ref a :: us) (vs:= .ref a :: vs) F hr hb hd hx I2 (.cons rfl r) q2
structure Mk (K:Frag)(C f:Addr):Prop where
 makes:makesIn K C=true
 init:findIn K (.ref C) "__init__"=some (some (.ref f))
 fn:PySem.W.isFn K (.ref f)=true
 kp:keepIn K (.ref C)=true
theorem Bq {pins:List (Addr×Obj)}{σ:St}{H:Hp}{s:Shared}{Q:VK}{us:List Value}{vs:List V}(M:Mk X.K C f)(F:l0 X.prog X.w X.K X.mg X.base CX k f fd ps sp)(hr:fb (k + 1) X.A)(hb:Binds X.K fd ps ds)(hd:Vals uR ds)
  (hx:Passes CX X E) (I:Inv X pins σ H s) (r:Vals vs us)
  (h: ∀x dx,H x=none->H dx=none->dx≠x->sp (.ref x :: (vs ++ uR)) (upd (upd H dx (.own x)) x (.ins C dx [])) (fun v H2=>v= .eu/\Q (.ref x) H2) E):
  wpAny (model X.prog X.w) X.A (call (.ref C) us) (EP X pins σ Q) X.xe s:=by
 have hq:=h (s.heap.objs.size + 1) s.heap.objs.size (I.cu.fresh (dI _)) (I.cu.fresh (aE _)) (a6 (f7 _))
 have I2:=Inv.made (C:=C) I
 have r2:Vals (V.ref (s.heap.objs.size + 1) :: (vs ++ uR)) (Value.ref (s.heap.objs.size + 1) :: (us ++ ds)):= .cons rfl (r.append hd)
 have hl:(Value.ref (s.heap.objs.size + 1) :: us ++ ds).length=ps.length:=by
  have e:=r2.length
  rw[F.len _ _ _ _ hq] at e
  exact e.symm
 refine EG (IK (f:=f) I.gO M.makes M.init (F6.mp M.fn) (Dl (F.run _ X.stack _ _ ⟨Value.ref (s.heap.objs.size + 1) :: us,[]⟩ (Value.ref (s.heap.objs.size + 1) :: (us ++ ds)) _ _ E (hr.make C us [])
  (I2.IM.make C us []) (hb _ (Value.ref (s.heap.objs.size + 1) :: us) I2.gO hl) r2 hq) fun r s' sU=>?_))
 cases r with
 |error e=>exact hx pins σ _ _ e s' I2 sU
 |ok fl=>
  cases fl with
  |ret u=>
   obtain⟨v,H',I3,rv,ev,q3⟩:=I2.after sU
   subst ev
   exact⟨rv,⟨V.ref (s.heap.objs.size + 1),H',I3,rfl,q3⟩⟩
  |next=>exact False.elim sU
  |brk=>exact False.elim sU
  |cont=>exact False.elim sU
theorem Lz (M:Mk X.K C f)(F:l0 X.prog X.w X.K X.mg X.base CX k f fd ps sp)(hr:fb (k + 1) X.A)(hg:Gl X x)(hm:X.mg x=some (.ref C))(hb:Binds X.K fd ps ds)(hd:Vals uR ds)(hx:Passes CX X E)
  (ha:PA X (e :: es) t) (qB:(x == ("__debug__":Str))=false:=by decide) (he:starEach (e :: es) X.env=(false,eval e X.env) :: starEach es X.env:=by rfl) (gQ:(backTo pos (starEach es X.env)).any (·.1)=false:=by rfl):
  PE X (.Call (.Name x p) (e :: es) [] pos) (ER C sp uR E t):=by
 intro pins s σ H Q I h
 refine eJ (jy I hg hm ?_ qB)
 refine km (h₀:=X.base) I.ok.mod.Lm M.kp (dR (ha pos pins s σ H _ I h) fun us s1 ⟨vs,H1,I1,r,q⟩=>⟨I1.gO,?_⟩) he gQ
 exact Bq M F hr hb hd hx I1 r q
theorem IQ (M:Mk X.K C f)(F:l0 X.prog X.w X.K X.mg X.base CX k f fd ps sp)(hr:fb (k + 1) X.A)(hg:Gl X x)(hm:X.mg x=some (.ref C))(hb:Binds X.K fd ps ds)(hd:Vals uR ds)(hx:Passes CX X E)
  (qB:(x == ("__debug__":Str))=false:=by decide):PE X (.Call (.Name x p) [] [] pos) (ER C sp uR E DA):=by
 intro pins s σ H Q I h
 refine eJ (jy I hg hm ?_ qB)
 exact A9 I.gO M.kp (Bq (us:=[]) M F hr hb hd hx I .nil h)
end
section
variable {X:Cx}{CX:Gw}{k:Nat}{f C:Addr}{fd:FuncData}{ps ks:List Str}{sp:Sp}{E:XK}{x m:Str}{p pos apos RP:Pos}{e o:Expr}{es:List Expr}{kws:List Keyword}{te ta:TE}{t tk:TA}{nm:Option Str}
variable {g:List Value->List Value->List Value}{gV:List V->List V->List V}
end
structure aS (N P:List Str)(sc:Scope):Prop where
 kind:sc.kind= .function:=by rfl
 co:sc.isCoroutine=false:=by rfl
 gen:sc.isGenerator=false:=by rfl
 nd:N.Nodup:=by decide +kernel
 pre:N.take P.length=P:=by rfl
 par: ∀x∈P,sc.names.lookup x=some .local∨sc.names.lookup x=some .cell:=by decide +kernel
 Og: ∀y∈sc.names,y.2≠ .free:=by decide +kernel
theorem yb {kindOf:Str->Option NameKind}{x:Str}: ∀{binds:List (Str×Value)} {m:Str->Option Value},(∀v,(x,v)∉binds)->bindL kindOf binds m x=m x
 |[],_,_=>rfl
 |(n,v) :: r,m,h=>by
  unfold bindL
  rw[yb fun w hw=>h w (ba _ hw)]
  split
  ·have:x≠n:=by rintro rfl; exact h v bJ
   simp[this]
  ·rfl
theorem yc {kindOf:Str->Option NameKind}{x:Str}: ∀{binds:List (Str×Value)} {m:Str->Option Value},(∀v,(x,v)∉binds)->bindC kindOf binds m x=m x
 |[],_,_=>rfl
 |(n,v) :: r,m,h=>by
  unfold bindC
  rw[yc fun w hw=>h w (ba _ hw)]
  split
  ·rfl
  ·have:x≠n:=by rintro rfl; exact h v bJ
   simp[this]
theorem yd {kindOf:Str->Option NameKind}{x:Str}{v:Value}: ∀{P:List Str} {vs:List Value} {i:Nat} {m:Str->Option Value},P.Nodup->P[i]? =some x->vs[i]? =some v->kindOf x=some .local->
  bindL kindOf (P.zip vs) m x=some v
 |[],_,_,_,_,h,_,_=>by simp at h
 |_ :: _,[],_,_,_,_,h,_=>by simp at h
 |p :: P,w :: vs,0,m,nd,h1,h2,hk=>by
  simp at h1 h2; subst h1; subst h2
  show bindL kindOf ((p,w) :: P.zip vs) m p=_
  unfold bindL
  rw[yb fun v hv=>(fO.mp nd).1 (oz hv).1,a8 hk]
  simp
 |p :: P,w :: vs,i + 1,m,nd,h1,h2,hk=>by
  show bindL kindOf ((p,w) :: P.zip vs) m x=_
  unfold bindL
  exact yd (i:=i) (List.nodup_cons.mp nd).2 (by simpa using h1) (by simpa using h2) hk
theorem ye {kindOf:Str->Option NameKind}{x:Str}{v:Value}: ∀{P:List Str} {vs:List Value} {i:Nat} {m:Str->Option Value},P.Nodup->P[i]? =some x->vs[i]? =some v->kindOf x≠some .local->
  bindC kindOf (P.zip vs) m x=some v
 |[],_,_,_,_,h,_,_=>by simp at h
 |_ :: _,[],_,_,_,_,h,_=>by simp at h
 |p :: P,w :: vs,0,m,nd,h1,h2,hk=>by
  simp at h1 h2; subst h1; subst h2
  show bindC kindOf ((p,w) :: P.zip vs) m p=_
  unfold bindC
  rw[yc fun v hv=>(fO.mp nd).1 (oz hv).1,aU hk]
  simp
 |p :: P,w :: vs,i + 1,m,nd,h1,h2,hk=>by
  show bindC kindOf ((p,w) :: P.zip vs) m x=_
  unfold bindC
  exact ye (i:=i) (List.nodup_cons.mp nd).2 (by simpa using h1) (by simpa using h2) hk
def start (N:List Str)(vs:List V):St:=vs.map some ++ List.replicate (N.length - vs.length) none
def lp (CX:Gw)(P:Program)(w:World)(K:Frag)(mg:Str->Option Value)(base:Heap)(N:List Str)(qual:Str)(scope:Scope)(f:Addr)(cd:Value)(A:Around)(outer:List Env)(s:Shared)(H:Hp)(E:XK):Cx where
 prog:=P
 w:=w
 K:=K
 mg:=mg
 base:=base
 A:=A.deeper (envOfC qual scope s.heap.objs.size f cd)
 N:=N
 s₀:=s
 H₀:=H
 env:=envOfC qual scope s.heap.objs.size f cd
 outer:=outer
 stack:=envOfC qual scope s.heap.objs.size f cd :: outer
 ex:=[]
 calm:=true
 fn:=fun _=>true
 pn:=[]
 xe:=fun e s'=>wpAny (model P w) (A.deeper (envOfC qual scope s.heap.objs.size f cd)) (leaving (envOfC qual scope s.heap.objs.size f cd) e) (fun _ ET=>CX outer H s E e ET) (fun e' ET=>CX outer H s E e' ET) s'
theorem Br {sc:Scope}{n:Nat}{x:Str}(h:sc.names.lookup x=some .cell): ∃c,(cellsFrom n sc.names []).lookup x=some c:=by
 have q:=lg sc.names n [] (.inl h)
 exact QC.mp q
theorem yf {CX:Gw}{P:Program}{w:World}{K:Frag}{mg:Str->Option Value}{base:Heap}{N ps:List Str}{qual:Str}{scope:Scope}{f:Addr}{cd:Value}{A:Around}{outer:List Env}{s s1:Shared}{H:Hp}{E:XK}{us:List Value}{vs:List V}
  (S:aS N ps scope) (hd:A.handled=none) (e0:qA P w K mg base A outer s H) (hl:vs.length=ps.length) (r:Vals vs us)
  (x:InCallC s s.heap.objs.size (bindL (envOfC qual scope s.heap.objs.size f cd).kindOf (ps.zip us) fun _=>none) (cellsFrom (s.heap.objs.size + 1) scope.names []) (bindC (envOfC qual scope s.heap.objs.size f cd).kindOf (ps.zip us) fun _=>none) s1):
  Inv (lp CX P w K mg base N qual scope f cd A outer s H E) [] (start N vs) H s1:=by
 have gQ:ps.length<=N.length:=by have:=cL List.length S.pre; rw[bf] at this; lia
 obtain⟨h1,tk,rfl,hk⟩:=x.done
 have Wz: ∀b:Addr,b∉(lp CX P w K mg base N qual scope f cd A outer s H E).ex:=fun b z=>absurd (show b∈([]:List Addr) from z) (by simp)
 refine⟨⟨e0.mod,S.kind,rfl,rfl,aE _,fun y z c h1 h2=>?_,fun y hy=>?_,fun y c _ h=>?_,fun _=>hd,Around.frames_deeper e0.frames,.inr ⟨rfl,rfl⟩,fun b z=>absurd z (Wz b),e0.bs,e0.Be,fun b _ _=>Wz b,fun b z=>absurd z (Wz b),e0.lW,e0.EH⟩,
  rfl,e0.bare,Un.kept hk,⟨_,x.toInCall.ns,fun i y v h1 h2 h3=>?_⟩,fun y c h=>⟨_,x.cell y c h⟩,e0.cu.fresh (Nat.le_refl _),fun y c h=>?_,fun p hp=>absurd (show p∈([]:List (Addr×Obj)) from hp) (by simp),e0.cu.kept hk,?_⟩
 ·exact name_of_addr x.apart (b9 h1) (b9 h2)
 ·have hy:scope.names.lookup y=some .cell∨scope.names.lookup y=some .free:=hy
  rcases hy with hy|hy
  ·exact Br hy
  ·exact absurd rfl (S.Og _ (b9 hy))
 ·exact dz (x.above y c (b9 h))
 ·have hi:i < vs.length:=by
   unfold start at h2
   by_cases hi:i < vs.length
   ·exact hi
   ·rw[List.getElem?_append_right (by simpa using hi)] at h2
    rw[List.getElem?_replicate] at h2
    split at h2 <;> cases h2
  have ha:vs[i]? =some v:=by
   unfold start at h2
   rw[List.getElem?_append_left (by simpa using hi),List.getElem?_map] at h2
   cases e:vs[i]? with
   |none=>rw[e] at h2; cases h2
   |some a=>rw[e] at h2; cases h2; rfl
  obtain⟨u,hu,rv⟩:=r.get ha
  have hp:ps[i]? =some y:=by
   rw[← S.pre,List.getElem?_take_of_lt (by lia)]; exact h1
  have Zs:ps.Nodup:=by rw[← S.pre]; exact S.nd.sublist (List.take_sublist _ _)
  refine⟨u,rv,?_⟩
  rcases S.par y (fA hp) with k|k
  ·exact .inl ⟨k,yd Zs hp hu k⟩
  ·obtain⟨c,e⟩:=Br (n:=s.heap.objs.size + 1) k
   refine .inr ⟨.inl k,c,e,?_⟩
   have q:=x.cell y c e
   rw[ye Zs hp hu (by show scope.names.lookup y≠_; rw[k]; decide)] at q
   exact q
 ·exact e0.cu.fresh (dz (x.above y c (b9 h)))
 ·unfold start
  show _ =N.length
  rw[aC,ae,dM]
  lia
theorem IS {CX:Gw}{P:Program}{w:World}{K:Frag}{mg:Str->Option Value}{base:Heap}{k:Nat}{f:Addr}{name qual:Str}{params:Arguments}{body:List Stmt}{scope:Scope}{dV kV doc pm cU ct oc:Value}{an od:Option Addr}
  {Gx:Array (Option Value)} {N ps:List Str} {sp:Sp} (lk:K.lookup f=some ⟨oc,od,.func (fnOf name qual params body scope dV kV doc pm an cU ct),Gx⟩) (rK:codeIn K cU qual=true) (S:aS N ps scope)
  (len: ∀vs H Q E,sp vs H Q E->vs.length=ps.length)
  (fX: ∀(A:Around) (outer:List Env) (s:Shared) (H:Hp) (vs:List V) (Q:VK) (E:XK),fb k (A.deeper (envOfC qual scope s.heap.objs.size f cU))->sp vs H Q E->
   ∃t,oS (lp CX P w K mg base N qual scope f cU A outer s H E) body t/\t {nx:=fun _ H'=>Q .eu H',rt:=Q} (start N vs) H):
  l0 P w K mg base CX (k + 1) f (fnOf name qual params body scope dV kV doc pm an cU ct) ps sp:=by
 refine⟨len,fun A outer s H args us vs Q E hr e0 hb r y2=>?_⟩
 have hl:=len _ _ _ _ y2
 have KX:K.In s.heap:=e0.mod.Lm.keeps fun b o e=>(e0.bs b o e).1
 have lim:s.heap.NoLimit:=e0.mod.nolimit.keeps fun b o e=>(e0.bs b o e).1
 have mT: ∀y∈ps.zip us,scope.names.lookup y.1=some .local∨(scope.names.lookup y.1=some .cell/\((cellsFrom (s.heap.objs.size + 1) scope.names []).lookup y.1).isSome=true):=fun⟨n,v⟩ hy=>by
  rcases S.par n (oz hy).1 with q|q
  ·exact .inl q
  ·exact .inr ⟨q,lg _ _ _ (.inl q)⟩
 refine codeAny_call_function hr.depth (KX _ _ lk) rfl S.co S.gen rfl (PySem.W.codeRec_of KX rK) (hb _ _ _ _ ?_)
 refine tQ S.kind mT fun env he s1 x=>?_
 subst he
 refine⟨lim.keeps x.toInCall.keep,codeAny_func ?_⟩
 obtain⟨t,ht,hq⟩:=fX A outer s H vs Q E (hr.deeper _) y2
 have I:Inv (lp CX P w K mg base N qual scope f cU A outer s H E) [] (start N vs) H s1:=yf S hr.hd e0 hl r x
 refine cf (ht [] s1 (start N vs) H _ I hq) (fun fl s' hs=>?_) fun e s' hs=>hs
 have fin: ∀{σ':St} {H':Hp} {v:V} {u:Value},Inv (lp CX P w K mg base N qual scope f cU A outer s H E) [] σ' H' s'->RelV v u->Q v H'->CE outer P w H s Q u s':=
  fun{σ' H' v u} J rv q=>⟨v,H',J.os,J.bare,J.base,J.cu,rv,q⟩
 cases fl with
 |ret u=>
  obtain⟨v,σ',H',J,rv,q⟩:=hs
  exact fin J rv q
 |next=>
  obtain⟨σ',H',J,q⟩:=hs
  exact fin (v:=V.eu) (u:=Value.none) J rfl q
 |brk=>
  obtain⟨_,_,_,q⟩:=hs
  exact False.elim q
 |cont=>
  obtain⟨_,_,_,q⟩:=hs
  exact False.elim q
section
variable {X:Cx}{x:Str}{p pos:Pos}{e:Expr}{es:List Expr}{t:TA}{id T:String}{r:List V->Hp->VK->Prop}
def WA (r:List V->Hp->VK->Prop)(t:TA):TE:=fun σ H Q=>t σ H fun vs H1=>r vs H1 Q
theorem cD (hc:iN X (.builtin id) r)(hg:Gl X x)(hm:X.mg x=none)(hv:bootBuiltins x=some (.builtin id))(ha:PA X (e :: es) t)(hn:x≠"__name__":=by decide)(qB:(x == ("__debug__":Str))=false:=by decide)
  (he:starEach (e :: es) X.env=(false,eval e X.env) :: starEach es X.env:=by rfl) (gQ:(backTo pos (starEach es X.env)).any (·.1)=false:=by rfl):PE X (.Call (.Name x p) (e :: es) [] pos) (WA r t):=by
 intro pins s σ H Q I h
 refine eJ (lX I hg hm hv ?_ hn qB)
 exact PyProof.Rows.callWith_builtin1 (dR (ha pos pins s σ H _ I h) fun us s1 ⟨vs,H1,I1,r1,q1⟩=>hc pins s1 σ H1 vs us Q I1 r1 q1) he gQ
theorem gF (hc:iN X (.type T) r)(hg:Gl X x)(hm:X.mg x=none)(hv:bootBuiltins x=some (.type T))(ha:PA X (e :: es) t)(hn:x≠"__name__":=by decide)(qB:(x == ("__debug__":Str))=false:=by decide)
  (he:starEach (e :: es) X.env=(false,eval e X.env) :: starEach es X.env:=by rfl) (gQ:(backTo pos (starEach es X.env)).any (·.1)=false:=by rfl):PE X (.Call (.Name x p) (e :: es) [] pos) (WA r t):=by
 intro pins s σ H Q I h
 refine eJ (lX I hg hm hv ?_ hn qB)
 exact fN (dR (ha pos pins s σ H _ I h) fun us s1 ⟨vs,H1,I1,r1,q1⟩=>hc pins s1 σ H1 vs us Q I1 r1 q1) he gQ
end
end L2
namespace HT
open PySem PyProof.Rows
def lexLt:List Int->List Int->Bool
 |[],[]=>false
 |[],_ :: _=>true
 |_ :: _,[]=>false
 |x :: xs,y :: ys=>if x=y then lexLt xs ys else decide (x < y)
theorem l4 (x y:Int)(xs ys:List Int):lexLt (x :: xs) (y :: ys)=if x=y then lexLt xs ys else decide (x < y):=rfl
section
open PySem.SeqAt
open PySem.AutoSeq1 (wpAny_loadPart')
open PySem.MeetsSeq PySem.MeetsSeq2 PySem.MeetsSeq3
end
section
variable {prog:Program}{w:World}{A:Around}{E:Value->Shared->Prop}{s:Shared}
def Bs (n d:Nat):Option Int->Nat
 |none=>d
 |some v=>if v < 0 then(v + (n:Int)).toNat else min v.toNat n
theorem IT (n d:Nat):Bs n d none=d:=rfl
theorem y3 (n d k:Nat):Bs n d (some (k:Int))=min k n:=by
 show(if(k:Int) < 0 then((k:Int) + (n:Int)).toNat else min (k:Int).toNat n)=min k n
 rw[aU (by lia),dN]
end
end HT
namespace L2
open PySem PySem.Spec PyProof.Rows
abbrev TO:=St->Hp->(Option Int->Hp->Prop)->Prop
def PO (X:Cx)(e:Option Expr)(t:TO):Prop:=
 ∀(pins:List (Addr×Obj)) (s:Shared) (σ:St) (H:Hp) (Q:Option Int->Hp->Prop),Inv X pins σ H s->t σ H Q->
  wpAny (model X.prog X.w) X.A (evalPart e X.env) (fun u s'=> ∃o H',Inv X pins σ H' s'/\IsPart u o/\Q o H') X.xe s
def LA:TO:=fun _ H Q=>Q none H
inductive Zt (x:V)(k:Int->Prop):Prop
 |mk (i:Int)(h:x= .int i)(q:k i):Zt x k
def RQ (t:TE):TO:=fun σ H Q=>t σ H fun x H1=>Zt x fun i=>Q (some i) H1
theorem intsAre_of {ns:List Int}: ∀{us:List Value},Vals (ns.map V.int) us->IntsAre us ns:=by
 induction ns with
 |nil=>intro us r; rw[qk] at r; cases r; exact .nil
 |cons n ns ih=>
  intro us r
  rw[de] at r
  cases r with
  |cons r1 r2=>
   obtain⟨t,e⟩:=r1
   subst e
   exact .cons n t (ih r2)
section
variable {X:Cx}{e:Expr}{te:TE}{lo hi:Option Expr}{tl th:TO}{pos p2:Pos}
theorem uq:PO X none LA:=by
 intro pins s σ H Q I h
 rw[evalPart_none]
 exact bE ⟨none,H,I,.none,h⟩
theorem oj (h:PE X e te):PO X (some e) (RQ te):=by
 intro pins s σ H Q I hw
 rw[evalPart_some]
 refine dR (h pins s σ H _ I hw) fun u s1 ⟨x,H1,I1,r1,q1⟩=>?_
 obtain⟨i,rfl,q⟩:=q1
 obtain⟨t,rfl⟩:=r1
 exact⟨some i,H1,I1,.int i t,q⟩
def Oh (X:Cx)(r:V->Option Int->Option Int->Hp->VK->Prop):Prop:=
 ∀(pins:List (Addr×Obj)) (s:Shared) (σ:St) (H:Hp) (x:V) (v vl vu:Value) (lo hi:Option Int) (sl:Addr) (Q:VK),Inv X pins σ H s->RelV x v->s.heap.IsSliceOf sl vl vu .none->IsPart vl lo->IsPart vu hi->r x lo hi H Q->
  ∃T id,typeLookup (.type T) "__getitem__"=pure (some (.builtin id))/\s.TypeIs v T/\wpAny (model X.prog X.w) X.A (getItem v (.ref sl)) (EP X pins σ Q) X.xe s
def tSl (r:V->Option Int->Option Int->Hp->VK->Prop)(te:TE)(tl th:TO):TE:=fun σ H Q=>te σ H fun x H1=>tl σ H1 fun l H2=>th σ H2 fun u H3=>r x l u H3 Q
theorem mU {r:V->Option Int->Option Int->Hp->VK->Prop}(hr:Oh X r)(he:PE X e te)(hl:PO X lo tl)(hu:PO X hi th):PE X (.Subscript e (.Slice lo hi none p2) pos) (tSl r te tl th):=by
 intro pins s σ H Q I h
 refine Subscript_ (dR (he pins s σ H _ I h) fun v s1 ⟨x,H1,I1,r1,q1⟩=>?_)
 refine wpAny_Slice (dR (hl pins s1 σ H1 _ I1 q1) fun vl s2 ⟨l,H2,I2,pl,q2⟩=>dR (hu pins s2 σ H2 _ I2 q2) fun vu s3 ⟨u,H3,I3,pu,q3⟩=>?_)
 rw[evalPart_none]
 refine bE ?_
 have I4:Inv X pins σ H3 {s3 with heap:=s3.heap.push {cls:= .type "slice",data:= .fields #[vl,vu,.none]}}:=I3.kept (t':=s3.toks) fun b ob q=>ax _ q
 obtain⟨T,id,hT,ht,hg⟩:=hr pins {s3 with heap:=s3.heap.push {cls:= .type "slice",data:= .fields #[vl,vu,.none]}} σ H3 x v vl vu l u s3.heap.objs.size Q I4 r1 (Heap.IsSliceOf.new ..) pl pu q3
 show wpAny (model X.prog X.w) X.A (subscriptTail e (.Slice lo hi none p2) v (.ref s3.heap.objs.size)) (EP X pins σ Q) X.xe {s3 with heap:=s3.heap.push {cls:= .type "slice",data:= .fields #[vl,vu,.none]}}
 exact tail_any (ops:=[.ref s3.heap.objs.size,v]) ht hT hg (by with_unfolding_all rfl)
def qC (xs:List V)(lo hi:Option Int):List V:=(xs.drop (HT.Bs xs.length 0 lo)).take (HT.Bs xs.length xs.length hi - HT.Bs xs.length 0 lo)
theorem Bt (xs:List V)(lo hi:Option Int):(qC xs lo hi).length<=xs.length:=by
 unfold qC
 rw[bf,mG]
 lia
end
def LB (n:Nat)(i:Int):Option Nat:=if 0<=i then(if i < n then some i.toNat else none) else if -(n:Int)<=i then some (i + n).toNat else none
def se {α:Type}(xs:List α)(i:Int):Option α:=(LB xs.length i).bind fun j=>xs[j]?
theorem EU {n:Nat}{i:Int}{j:Nat}(h:LB n i=some j):seqIndex? i n=some j/\j < n/\ -(n:Int)<=i/\i < n:=by
 unfold LB at h
 by_cases h0:0<=i
 ·rw[a8 h0] at h
  by_cases h1:i < n
  ·rw[a8 h1] at h
   have e:i.toNat=j:=aF h
   exact⟨by rw[seqIndex_of h0 h1,e],by lia,by lia,h1⟩
  ·rw[aU h1] at h; cases h
 ·rw[aU h0] at h
  by_cases h1: -(n:Int)<=i
  ·rw[a8 h1] at h
   have e:(i + n).toNat=j:=aF h
   exact⟨by rw[seqIndex_neg (by lia) h1,e],by lia,h1,by lia⟩
  ·rw[aU h1] at h; cases h
theorem EV {α:Type}{xs:List α}{i:Int}{v:α}(h:se xs i=some v): ∃j,seqIndex? i xs.length=some j/\xs[j]? =some v/\j < xs.length/\ -(xs.length:Int)<=i/\i < xs.length:=by
 unfold se at h
 cases e:LB xs.length i with
 |none=>rw[e] at h; cases h
 |some j=>
  rw[e] at h
  obtain⟨h1,h2,h3,h4⟩:=EU e
  exact⟨j,h1,h,h2,h3,h4⟩
theorem cy {α:Type}{xs:List α}{j:Nat}{v:α}(h:xs[j]? =some v):se xs (j:Int)=some v:=by
 have hj:j < xs.length:=(ak.mp h).1
 have e:LB xs.length (j:Int)=some j:=by
  unfold LB
  rw[if_pos (by lia),if_pos (by lia)]; simp
 unfold se; rw[e]; exact h
def y4 (b:Expr):Prop:= ∀o i,subscripted b false o i=operate [o,i] (getItem o i)
def IU (X:Cx)(r:R2):Prop:=
 ∀(value slice:Expr) (pins:List (Addr×Obj)) (s:Shared) (σ:St) (H:Hp) (x y:V) (v u:Value) (Q:VK),Inv X pins σ H s->RelV x v->RelV y u->r x y H Q->
  subscripted slice false v u=operate [v,u] (getItem v u)->wpAny (model X.prog X.w) X.A (subscriptTail value slice v u) (EP X pins σ Q) X.xe s
def Zu (X:Cx)(id:String)(r:V->List V->Hp->VK->Prop):Prop:=
 ∀(pins:List (Addr×Obj)) (s:Shared) (σ:St) (H:Hp) (x:V) (xs:List V) (v:Value) (us:List Value) (Q:VK),Inv X pins σ H s->RelV x v->Vals xs us->r x xs H Q->
  wpAny (model X.prog X.w) X.A (call (.builtin id) (v :: us)) (EP X pins σ Q) X.xe s
section
variable {X:Cx}{a b:Expr}{ta tb:TE}{pos:Pos}
theorem jd {r:R2}(hr:IU X r)(ha:PE X a ta)(hb:PE X b tb)(hs:y4 b):PE X (.Subscript a b pos) (QI r ta tb):=by
 intro pins s σ H Q I h
 exact Subscript_ (Od ha hb I h fun v u s2 x y H2 I2 rx ry q=>hr a b pins s2 σ H2 x y v u Q I2 rx ry q (hs _ _))
inductive WB (x y:V)(S:Addr->List V->Prop)(k:V->Prop):Prop
 |mk (p:Addr)(xs:List V)(i:Int)(v:V)(h1:x= .ref p)(h2:y= .int i)(s:S p xs)(a:se xs i=some v)(q:k v):WB x y S k
def Oi (K:Frag):R2:=fun x y H Q=>WB x y (bA K H) fun v=>Q v H
def Oj (K:Frag):R2:=fun x y H Q=>WB x y (cg K H) fun v=>Q v H
theorem zd:IU X (Oi X.K):=by
 intro value slice pins s σ H x y v u Q I rx ry h hs
 obtain⟨p,xs,i,z,rfl,rfl,hq,he,q⟩:=h
 cases rx
 obtain⟨t,rfl⟩:=ry
 obtain⟨bZ,r,pl,hz⟩:=I.list hq
 obtain⟨j,h1,h2,h3,h4,h5⟩:=EV he
 obtain⟨w,ew,Gy⟩:=r.get h2
 have hl:=r.length
 have hn:=y0
 have fin:EP X pins σ Q w s:=⟨z,H,I,Gy,q⟩
 by_cases h0:0<=i
 ·have hj:i.toNat=j:=by
   rw[seqIndex_of h0 h5] at h1
   exact aF h1
  exact item_listR pl.isList h0 (by lia) (by rw[hj]; simpa using ew) fin hs
 ·have hj:(i + (bZ.toArray.size:Int)).toNat=j:=by
   rw[seqIndex_neg (by lia) h4] at h1
   rw[bB,← hl]
   exact aF h1
  exact subscriptTail_builtinR (x:=w) pl.isList.typeIs slot_list_getitem.lookup
   (wpAny_getItem_list_neg (Q:=fun r s'=>r=w/\EP X pins σ Q r s') pl.isList (by lia) (by rw[List.size_toArray] <;> lia) (by lia) (by rw[hj]; simpa using ew) ⟨rfl,fin⟩) hs
theorem DD:IU X (Oj X.K):=by
 intro value slice pins s σ H x y v u Q I rx ry h hs
 obtain⟨p,xs,i,z,rfl,rfl,hq,he,q⟩:=h
 cases rx
 obtain⟨t,rfl⟩:=ry
 obtain⟨bZ,r,pl,hz⟩:=I.tuple hq
 obtain⟨j,h1,h2,h3,h4,h5⟩:=EV he
 obtain⟨w,ew,Gy⟩:=r.get h2
 have hl:=r.length
 have hn:=y0
 have fin:EP X pins σ Q w s:=⟨z,H,I,Gy,q⟩
 exact subscriptTail_builtinR (x:=w) pl.typeIs slot_tuple_getitem.lookup
  (getItem_tuple (j:=j) (Q:=fun r s'=>r=w/\EP X pins σ Q r s') pl (by lia) (by lia) (by rw[List.size_toArray,← hl]; exact h1) (by simpa using ew) ⟨rfl,fin⟩) hs
theorem DE (bZ:List Value)(n j:Nat)(u:Value):Obj.mapSeq (·.setIfInBounds j u) {cls:= .type "list",data:= .seq bZ.toArray n}={cls:= .type "list",data:= .seq (bZ.set j u).toArray n}:=by
 simp[Obj.mapSeq]
theorem Inv.lst {pins:List (Addr×Obj)}{σ:St}{H:Hp}{s:Shared}{p:Addr}{xs:List V}(I:Inv X pins σ H s)(h:H p=some (.lst xs)):
  ∃(bZ:List Value) (n:Nat),Vals xs bZ/\s.heap.get? p=some {cls:= .type "list",data:= .seq bZ.toArray n}/\xs.length<=sizeLine:=by
 obtain⟨z,bZ,n,r,e⟩:=I.cu p _ h
 exact⟨bZ,n,r,e,z⟩
theorem Inv.Ol {pins:List (Addr×Obj)}{σ:St}{H:Hp}{s:Shared}{p:Addr}{xs ys:List V}{bZ qy:List Value}{n n':Nat}{f:Obj->Obj}(I:Inv X pins σ H s)(h:H p=some (.lst xs))
  (ho:s.heap.get? p=some {cls:= .type "list",data:= .seq bZ.toArray n}) (hf:f {cls:= .type "list",data:= .seq bZ.toArray n}={cls:= .type "list",data:= .seq qy.toArray n'}) (r:Vals ys qy) (hz:ys.length<=sizeLine) (t:Nat):
  Inv X pins σ (upd H p (.lst ys)) {s with heap:=s.heap.update p f,toks:=t}:=by
 have e:(s.heap.update p f).get? p=some {cls:= .type "list",data:= .seq qy.toArray n'}:=by
  rw[Dm f ho (by rw[hf] <;> rfl),hf]
 refine I.write (x:=p) (e:=p) (by rw[h]; trivial) (.inl rfl) (fun b u hb q=>(mN _ _ (wG hb)).trans q) ⟨_,e⟩ ?_
 exact⟨hz,qy,n',r,e⟩
def RS:V->V->V->Hp->(Hp->Prop)->Prop:=fun o i v H Q=> ∃p xs k j,o= .ref p/\i= .int k/\H p=some (.lst xs)/\LB xs.length k=some j/\Q (upd H p (.lst (xs.set j v)))
theorem set_list:RD X RS:=by
 intro pins s σ H o i v ov iv u Q I ro ri rv h
 obtain⟨p,xs,k,j,rfl,rfl,hp,hj,q⟩:=h
 cases ro
 obtain⟨t,rfl⟩:=ri
 obtain⟨bZ,n,r,ho,hz⟩:=I.lst hp
 obtain⟨h1,h2,h3,h4⟩:=EU hj
 have hl:=r.length
 have hn:=y0
 have I':Inv X pins σ (upd H p (.lst (xs.set j v))) {s with heap:=s.heap.update p (Obj.mapSeq (·.setIfInBounds j u))}:=
  I.Ol hp ho (DE bZ n j u) (r.set rv j) (by rw[eh]; exact hz) s.toks
 by_cases h0:0<=k
 ·have hk:k.toNat=j:=by
   rw[seqIndex_of h0 h4] at h1
   exact aF h1
  exact PySem.W.ki_setAt ho h0 (by lia) (by rw[bB,← hl]; exact h4) (by rw[hk]; exact⟨_,I',q⟩)
 ·have hk:(k + (bZ.toArray.size:Int)).toNat=j:=by
   rw[seqIndex_neg (by lia) h3] at h1
   rw[bB,← hl]
   exact aF h1
  exact PySem.W.ki_setBack ho (by lia) (by rw[bB,← hl]; exact h3) (by lia) (by rw[hk]; exact⟨_,I',q⟩)
theorem ze (lo hi:Option Int)(n:Nat):(sliceBounds lo hi none n).1=((HT.Bs n 0 lo:Nat):Int)/\(sliceBounds lo hi none n).2.1=((HT.Bs n n hi:Nat):Int)/\(sliceBounds lo hi none n).2.2=1:=by
 refine⟨?_,?_,rfl⟩
 ·cases lo with
  |none=>simp[sliceBounds,HT.Bs]
  |some i=>
   simp only[sliceBounds,HT.Bs,Option.getD_none,show(1:Int) > 0 by decide,if_true]
   by_cases h:i < 0
   ·simp only[h,if_true] <;> lia
   ·simp only[h,if_false] <;> lia
 ·cases hi with
  |none=>simp[sliceBounds,HT.Bs]
  |some i=>
   simp only[sliceBounds,HT.Bs,Option.getD_none,show(1:Int) > 0 by decide,if_true]
   by_cases h:i < 0
   ·simp only[h,if_true] <;> lia
   ·simp only[h,if_false] <;> lia
theorem wQ (bZ:List Value)(lo hi:Option Int):slicePick bZ.toArray lo hi none=((bZ.drop (HT.Bs bZ.length 0 lo)).take (HT.Bs bZ.length bZ.length hi - HT.Bs bZ.length 0 lo)).toArray:=by
 obtain⟨h1,h2,h3⟩:=ze lo hi bZ.toArray.size
 unfold slicePick
 rw[h1,h2,h3]
 simp only[sliceRange_one,pick_run,List.size_toArray] <;> rfl
def WC (K:Frag):V->Option Int->Option Int->Hp->VK->Prop:=fun x lo hi H Q=> ∃a xs,x= .ref a/\bA K H a xs/\ ∀p,H p=none->Q (.ref p) (upd H p (.lst (qC xs lo hi)))
theorem qD:Oh X (WC X.K):=by
 intro pins s σ H x v vl vu lo hi sl Q I rx hs pl pu h
 obtain⟨a,xs,rfl,hx,q⟩:=h
 cases rx
 obtain⟨bZ,r,ht,hz⟩:=I.list hx
 have hlen:=r.length
 refine⟨"list",_,slot_list_getitem.lookup,ht.isList.typeIs,?_⟩
 refine wpAny_getItem_list_slice ht.isList hs pl pu .none (by simp) ?_ (by rw[List.size_toArray] <;> lia)
 rw[wQ,← hlen]
 refine⟨.ref s.heap.objs.size,_,I.laid (t':=s.toks) (o:= .lst (qC xs lo hi)) (fun b ob q=>ax _ q) (aE _) ?_,rfl,q _ (I.cu.fresh (aE _))⟩
 exact⟨aZ (Bt xs lo hi) hz,_,0,(r.drop (HT.Bs xs.length 0 lo)).take (HT.Bs xs.length xs.length hi - HT.Bs xs.length 0 lo),bL _ rfl⟩
def sV:V->Bool
 | .eu=>true
 | .bl _=>true
 | .int _=>true
 | .str _=>true
 |_=>false
def LC:V->V->Bool
 | .eu,.eu=>true
 | .bl a,.bl b=>a == b
 | .bl a,.int b=>(if a then 1 else 0) == b
 | .int a,.bl b=>a == (if b then 1 else 0)
 | .int a,.int b=>a == b
 | .str a,.str b=>a == b
 |_,_=>false
theorem Om {A:Around}{s:Shared}{y x:V}{u v:Value}(ry:RelV y u)(rx:RelV x v)(fy:sV y=true)(fx:sV x=true):SeqAt.EqAt A s u v (LC y x):=by
 cases y with
 |eu=>
  cases ry
  cases x with
  |eu=>cases rx; exact SeqAt.EqAt.same _
  |bl b=>cases rx; exact SeqAt.EqAt.none_bool b
  |int b=>obtain⟨t,rfl⟩:=rx; exact SeqAt.EqAt.none_int b t
  |str b=>obtain⟨t,rfl⟩:=rx; exact SeqAt.EqAt.none_str b t
  |_=>exact absurd (show false=true from fx) aW
 |bl a=>
  cases ry
  cases x with
  |eu=>cases rx; exact SeqAt.EqAt.bool_none a
  |bl b=>cases rx; exact SeqAt.EqAt.bool_bool a b
  |int b=>obtain⟨t,rfl⟩:=rx; exact SeqAt.EqAt.bool_int a b t
  |str b=>obtain⟨t,rfl⟩:=rx; exact SeqAt.EqAt.bool_str a b t
  |_=>exact absurd (show false=true from fx) aW
 |int a=>
  obtain⟨t',rfl⟩:=ry
  cases x with
  |eu=>cases rx; exact SeqAt.EqAt.int_none a t'
  |bl b=>cases rx; exact SeqAt.EqAt.int_bool a t' b
  |int b=>obtain⟨t,rfl⟩:=rx; exact SeqAt.EqAt.int_int a t' b t
  |str b=>obtain⟨t,rfl⟩:=rx; exact SeqAt.EqAt.int_str a t' b t
  |_=>exact absurd (show false=true from fx) aW
 |str a=>
  obtain⟨t',rfl⟩:=ry
  cases x with
  |eu=>cases rx; exact SeqAt.EqAt.str_none a t'
  |bl b=>cases rx; exact SeqAt.EqAt.str_bool a t' b
  |int b=>obtain⟨t,rfl⟩:=rx; exact SeqAt.EqAt.str_int a t' b t
  |str b=>obtain⟨t,rfl⟩:=rx; exact SeqAt.EqAt.str_str a t' b t
  |_=>exact absurd (show false=true from fx) aW
 |_=>exact absurd (show false=true from fy) aW
def DF (x:V)(u:Value):Bool:=match u with
 | .none=>LC .eu x
 | .bool b=>LC (.bl b) x
 | .int i _=>LC (.int i) x
 | .str z _=>LC (.str z) x
 |_=>false
theorem IV {x y:V}{u:Value}(r:RelV y u)(f:sV y=true):DF x u=LC y x:=by
 cases y with
 |eu=>cases r; rfl
 |bl b=>cases r; rfl
 |int i=>obtain⟨t,rfl⟩:=r; rfl
 |str z=>obtain⟨t,rfl⟩:=r; rfl
 |_=>exact absurd (show false=true from f) aW
theorem qE {x:V}: ∀{xs:List V} {us:List Value},Vals xs us->xs.all sV=true->us.any (DF x)=xs.any fun y=>LC y x
 |_,_,.nil,_=>rfl
 |y :: xs,u :: us,.cons r t,f=>by
  rw[List.all_cons,uk] at f
  rw[tR,tR,IV r f.1,qE t f.2]
theorem mV {A:Around}{s:Shared}{x:V}{v:Value}(rx:RelV x v)(fx:sV x=true): ∀{xs:List V} {us:List Value},Vals xs us->xs.all sV=true-> ∀u∈us,SeqAt.EqAt A s u v (DF x u)
 |_,_,.nil,_=>fun u hu=>by cases hu
 |y :: xs,u :: us,.cons r t,f=>fun u' hu=>by
  rw[List.all_cons,uk] at f
  rcases aw.mp hu with rfl|hu
  ·rw[IV r f.1]; exact Om r rx f.1 fx
  ·exact mV rx fx t f.2 u' hu
def wR (x:V)(xs:List V):Bool:=xs.any fun y=>LC y x
def Zv (K:Frag)(neg:Bool):R2:=fun x y H Q=> ∃p xs,y= .ref p/\(bA K H p xs∨cg K H p xs)/\sV x=true/\xs.all sV=true/\Q (.bl (if neg then !wR x xs else wR x xs)) H
theorem om:oF X (compareOp .In) (Zv X.K false):=by
 intro pins s σ H x y v u Q I rx ry h
 obtain⟨p,xs,rfl,hq,fx,fs,q⟩:=h
 cases ry
 rcases hq with hq|hq
 ·obtain⟨bZ,r,pl,hz⟩:=I.list hq
  refine SeqAt.in_listAt (DF x) pl.isList (fun w hw=>mV rx fx r fs w (by simpa using hw)) ⟨.bl _,H,I,rfl,?_⟩
  rw[show bZ.toArray.any (DF x)=bZ.any (DF x) by simp,qE r fs]
  exact q
 ·obtain⟨bZ,r,pl,hz⟩:=I.tuple hq
  refine SeqAt.in_tupleAt (DF x) pl (fun w hw=>mV rx fx r fs w (by simpa using hw)) ⟨.bl _,H,I,rfl,?_⟩
  rw[show bZ.toArray.any (DF x)=bZ.any (DF x) by simp,qE r fs]
  exact q
theorem zf:oF X (compareOp .NotIn) (Zv X.K true):=by
 intro pins s σ H x y v u Q I rx ry h
 obtain⟨p,xs,rfl,hq,fx,fs,q⟩:=h
 cases ry
 rcases hq with hq|hq
 ·obtain⟨bZ,r,pl,hz⟩:=I.list hq
  refine SeqAt.notIn_listAt (DF x) pl.isList (fun w hw=>mV rx fx r fs w (by simpa using hw)) ⟨.bl _,H,I,rfl,?_⟩
  rw[show bZ.toArray.any (DF x)=bZ.any (DF x) by simp,qE r fs]
  exact q
 ·obtain⟨bZ,r,pl,hz⟩:=I.tuple hq
  refine SeqAt.notIn_tupleAt (DF x) pl (fun w hw=>mV rx fx r fs w (by simpa using hw)) ⟨.bl _,H,I,rfl,?_⟩
  rw[show bZ.toArray.any (DF x)=bZ.any (DF x) by simp,qE r fs]
  exact q
theorem zh:iN X (.builtin "len") (fun xs H Q=> ∃p ys,xs=[.ref p]/\(bA X.K H p ys∨cg X.K H p ys)/\Q (.int ys.length) H):=by
 intro pins s σ H xs us Q I r h
 obtain⟨p,ys,rfl,hq,q⟩:=h
 obtain⟨u,rfl,rx⟩:=vals1 r
 cases rx
 have hn:=y0
 rcases hq with hq|hq
 ·obtain⟨bZ,r',pl,hz⟩:=I.list hq
  have hlen:=r'.length
  exact Calls.call_len_list pl.isList (by simp only[List.size_toArray] <;> lia) ⟨.int ys.length,H,I.tok _,⟨s.toks + 1,by rw[List.size_toArray,hlen]⟩,q⟩
 ·obtain⟨bZ,r',pl,hz⟩:=I.tuple hq
  have hlen:=r'.length
  exact len_tuple pl (by simp only[List.size_toArray] <;> lia) ⟨.int ys.length,H,I.tok _,⟨s.toks + 1,by rw[List.size_toArray,hlen]⟩,q⟩
theorem zi:iN X (.type "list") (fun xs H Q=> ∃p ys,xs=[.ref p]/\(bA X.K H p ys∨cg X.K H p ys)/\ ∀l,H l=none->Q (.ref l) (upd H l (.lst ys))):=by
 intro pins s σ H xs us Q I r h
 obtain⟨p,ys,rfl,hq,q⟩:=h
 obtain⟨u,rfl,rx⟩:=vals1 r
 cases rx
 have fin: ∀(bZ:List Value),Vals ys bZ->ys.length<=sizeLine-> ∀(h':Heap) (c':Nat),(∀b o',s.heap.get? b=some o'->h'.get? b=some o')->
   h'.get? s.heap.objs.size=some {cls:= .type "list",dict:=none,data:= .seq bZ.toArray c',slots:= #[]}->EP X pins σ Q (.ref s.heap.objs.size) {s with heap:=h'}:=fun bZ r' hz h' c' kp e=>
  ⟨.ref s.heap.objs.size,_,I.laid (t':=s.toks) kp (aE _) (show dA X.prog X.w _ h' _ (.lst ys) from⟨hz,bZ,c',r',e⟩),rfl,q _ (I.cu.fresh (aE _))⟩
 rcases hq with hq|hq
 ·obtain⟨bZ,r',pl,hz⟩:=I.list hq
  have hlen:=r'.length
  obtain⟨o,ho,hc,n,hd⟩:=pl.isList
  exact call_list_seq p (.inl rfl) ho hc hd (fun h' c' kp e=>fin bZ r' hz h' c' kp e) (by simp only[List.size_toArray] <;> lia)
 ·obtain⟨bZ,r',pl,hz⟩:=I.tuple hq
  have hlen:=r'.length
  obtain⟨o,ho,hc,n,hd⟩:=pl
  exact call_list_seq p (.inr rfl) ho hc hd (fun h' c' kp e=>fin bZ r' hz h' c' kp e) (by simp only[List.size_toArray] <;> lia)
theorem wU:iN X (.type "tuple") (fun xs H Q=> ∃p ys,xs=[.ref p]/\((bA X.K H p ys/\ ∀l,H l=none->Q (.ref l) (upd H l (.tup ys)))∨(cg X.K H p ys/\Q (.ref p) H))):=by
 intro pins s σ H xs us Q I r h
 obtain⟨p,ys,rfl,h⟩:=h
 obtain⟨u,rfl,rx⟩:=vals1 r
 cases rx
 rcases h with⟨hq,q⟩|⟨hq,q⟩
 ·obtain⟨bZ,r',pl,hz⟩:=I.list hq
  have hlen:=r'.length
  refine call_tuple_list pl.isList (fun h' kp=>?_) (by simp only[List.size_toArray] <;> lia)
  have I1:Inv X pins σ H {s with heap:=h'}:=I.kept (t':=s.toks) kp
  have I2:Inv X pins σ (upd H h'.objs.size (.tup ys)) {s with heap:=h'.push {cls:= .type "tuple",data:= .seq bZ.toArray}}:=
   I1.laid (t':=s.toks) (fun b o e=>ax _ e) (aE _) (show dA X.prog X.w _ _ _ (.tup ys) from⟨hz,bZ,r',IsTup.new _ _⟩)
  exact⟨.ref h'.objs.size,_,I2,rfl,q _ (I1.cu.fresh (aE _))⟩
 ·obtain⟨bZ,r',pl,hz⟩:=I.tuple hq
  exact call_tuple_same pl ⟨.ref p,H,I,rfl,q⟩
def WD (K:Frag)(T:String)(x:V)(H:Hp):Prop:=match x with
 | .str _=>T="str"
 | .int _=>T="int"
 | .ref p=>(T="list"/\ ∃xs,bA K H p xs)∨(T="tuple"/\ ∃o,K.lookup p=some o/\o.cls= .type "tuple"/\o.dict=none)∨
   (T="dict"/\((∃bc,H p=some (.dK bc))∨ ∃bc,H p=some (.dT bc)))∨(T="set"/\ ∃S n,H p=some (.set S n))
 |_=>False
theorem IW {pins:List (Addr×Obj)}{σ:St}{H:Hp}{s:Shared}{T:String}{x:V}{v:Value}(I:Inv X pins σ H s)(r:RelV x v)(ty:WD X.K T x H):
  s.TypeIs v T/\ ∀a,v= .ref a-> ∃ob,s.heap.get? a=some ob/\ob.dict=none:=by
 cases x with
 |str z=>
  obtain⟨t,rfl⟩:=r
  cases(show T="str" from ty)
  exact⟨typeIs_str s z t,fun _ e=>nomatch e⟩
 |int i=>
  obtain⟨t,rfl⟩:=r
  cases(show T="int" from ty)
  exact⟨typeIs_int s i t,fun _ e=>nomatch e⟩
 |ref p=>
  cases r
  rcases ty with⟨rfl,xs,hq⟩|⟨rfl,o,hk,hc,hd⟩|⟨rfl,hk⟩|⟨rfl,S,n,hk⟩
  ·obtain⟨bZ,_,pl,_⟩:=I.list hq
   refine⟨pl.isList.typeIs,fun a e=>?_⟩
   cases e
   obtain⟨o,n,e,c,hd,_⟩:=pl
   exact⟨o,e,hd⟩
  ·refine⟨⟨o,I.gO p o hk,hc⟩,fun a e=>?_⟩
   cases e
   exact⟨o,I.gO _ o hk,hd⟩
  ·have z: ∃o,s.heap.get? p=some o/\o.ExactDict:=by
    rcases hk with⟨bc,hk⟩|⟨bc,hk⟩
    ·obtain⟨_,_,_,_,o,_,_,e,ex,_⟩:=I.cu p _ hk
     exact⟨o,e,ex⟩
    ·obtain⟨_,_,_,_,o,_,_,e,ex,_⟩:=I.cu p _ hk
     exact⟨o,e,ex⟩
   obtain⟨o,e,ex⟩:=z
   refine⟨⟨o,e,ex.1⟩,fun a e2=>?_⟩
   cases e2
   exact⟨o,e,ex.2.1⟩
  ·obtain⟨o,_,_,_,e,ex,_⟩:=I.cu p _ hk
   refine⟨⟨o,e,ex.1⟩,fun a e2=>?_⟩
   cases e2
   exact⟨o,e,ex.2.1⟩
 |_=>exact False.elim ty
def WE (K:Frag)(T:String)(r:V->List V->Hp->VK->Prop)(to:TE):TE:=fun σ H Q=>to σ H fun x H1=>WD K T x H1/\r x [] H1 Q
def Zw (K:Frag)(T:String)(r:V->List V->Hp->VK->Prop)(to:TE)(t:TA):TE:=fun σ H Q=>to σ H fun x H1=>WD K T x H1/\t σ H1 fun xs H2=>r x xs H2 Q
variable {o e:Expr}{es:List Expr}{to:TE}{t:TA}{name:Str}{apos gG:Pos}{T id:String}{r:V->List V->Hp->VK->Prop}
theorem Oo (pa:PlainAttrs T)(slot:Slot T name id)(U9:typeOf (.builtin id)=pure (.type "method_descriptor"))(hm:Zu X id r)(ho:PE X o to)
  (qF:attributeBase o name X.env (eval o X.env)=eval o X.env:=by rfl) (uS:(apos.endLine == gG.line)=true:=by rfl):PE X (.Call (.Attribute o name apos) [] [] gG) (WE X.K T r to):=by
 intro pins s σ H Q I h
 refine wpAny_Call_method0_late qF uS (dR (ho pins s σ H _ I h) fun v s1 ⟨x,H1,I1,r1,ty,q1⟩=>?_)
 obtain⟨h1,h2⟩:=IW I1 r1 ty
 exact⟨T,id,pa,slot,U9,h1,h2,iR rfl (PySem.evalArgs_none (hm pins s1 σ H1 x [] v [] Q I1 r1 .nil q1))⟩
theorem RT (pa:PlainAttrs T)(slot:Slot T name id)(U9:typeOf (.builtin id)=pure (.type "method_descriptor"))(hm:Zu X id r)(ho:PE X o to)(ha:PA X (e :: es) t)
  (qF:attributeBase o name X.env (eval o X.env)=eval o X.env:=by rfl)
  (Oq:((backTo gG (starEach (e :: es) X.env)).all (fun x=> !x.1) && (backToKw gG (keywordEach [] X.env)).all (fun x=>x.1.isSome)
   && decide ((e :: es).length + ([]:List Keyword).length + (if([]:List Keyword).isEmpty then 0 else 1) < 30))=true:=by rfl)
  (uS:(apos.endLine == gG.line)=true:=by rfl) (hs:starEach (e :: es) X.env=(false,eval e X.env) :: starEach es X.env:=by rfl) (uT:(backTo gG (starEach es X.env)).any (·.1)=false:=by rfl):
  PE X (.Call (.Attribute o name apos) (e :: es) [] gG) (Zw X.K T r to t):=by
 intro pins s σ H Q I h
 refine wpAny_Call_method_late qF Oq uS rfl (dR (ho pins s σ H _ I h) fun v s1 ⟨x,H1,I1,r1,ty,q1⟩=>?_)
 obtain⟨h1,h2⟩:=IW I1 r1 ty
 refine⟨T,id,pa,slot,U9,h1,h2,?_⟩
 have hA:=ha gG pins s1 σ H1 _ I1 q1
 rw[hs] at hA ⊢
 refine iR (by show(false || (backTo gG (starEach es X.env)).any (·.1))=false; rw[uT] <;> rfl) (F9 ?_)
 exact dR hA fun us s2 ⟨vs,H2,I2,r2,q2⟩=>hm pins s2 σ H2 x vs v us Q I2 r1 r2 q2
end
def Zx (X:Cx)(id:String)(r:V->List V->Hp->VK->Prop):Prop:=
 ∀(pins:List (Addr×Obj)) (s:Shared) (σ:St) (H:Hp) (x:V) (xs:List V) (v:Value) (us:List Value) (Q:VK),Inv X pins σ H s->RelV x v->Vals xs us->r x xs H Q->
  wpAny (model X.prog X.w) X.A (call (.builtin id) (v :: us)) (EP X pins σ Q) X.xe s
theorem Vals.one: ∀{x:V} {us:List Value},Vals [x] us-> ∃u,us=[u]/\RelV x u
 |_,_,.cons r .nil=>⟨_,rfl,r⟩
theorem Vals.zero: ∀{us:List Value},Vals [] us->us=[]
 |_,.nil=>rfl
theorem Vals.dropLast {xs:List V}{us:List Value}(h:Vals xs us):Vals xs.dropLast us.dropLast:=by
 induction h with
 |nil=>exact .nil
 |cons r t ih=>
  cases t with
  |nil=>exact .nil
  |cons q t'=>exact .cons r ih
theorem Vals.rep {xs:List V}{us:List Value}(h:Vals xs us): ∀k:Nat,Vals (List.replicate k xs).flatten (List.replicate k us).flatten
 |0=> .nil
 |k + 1=>by
  rw[cM,cM,iS,iS]
  exact Vals.append h (Vals.rep h k)
theorem DG {α:Type}(l:List α):l.eraseIdx (l.length - 1)=l.dropLast:=by
 induction l with
 |nil=>rfl
 |cons a r ih=>
  cases r with
  |nil=>rfl
  |cons b r=>
   have e:(a :: b :: r).length - 1=((b :: r).length - 1) + 1:=by
    have h1:(a :: b :: r).length=r.length + 2:=rfl
    have h2:(b :: r).length=r.length + 1:=rfl
    lia
   rw[e,List.eraseIdx_cons_succ,ih]
   all_goals rfl
theorem foldl_rep (bZ:List Value): ∀(k:Nat) (acc:List Value),
  List.foldl (fun x1 x2=>x1 ++ x2) acc.toArray (List.replicate k bZ.toArray)=(acc ++ (List.replicate k bZ).flatten).toArray
 |0,acc=>by simp
 |k + 1,acc=>by
  have e:acc.toArray ++ bZ.toArray=(acc ++ bZ).toArray:=by simp
  have e2:(acc ++ bZ) ++ (List.replicate k bZ).flatten=acc ++ (List.replicate (k + 1) bZ).flatten:=by
   rw[cM,iS,eL]
  rw[← e2,← foldl_rep bZ k (acc ++ bZ),← e,cM,fP]
section
variable {X:Cx}{pins:List (Addr×Obj)}{σ:St}{H:Hp}{s:Shared}{l b:Addr}{xs ys zs:List V}
theorem Inv.RU {bZ qy:List Value}{n:Nat}{f:Array Value->Array Value}{t':Nat}(I:Inv X pins σ H s)(hH:H l=some (.lst xs))
  (e:s.heap.get? l=some {cls:= .type "list",data:= .seq bZ.toArray n}) (hf:f bZ.toArray=qy.toArray) (hv:Vals ys qy) (hz:ys.length<=sizeLine):
  Inv X pins σ (upd H l (.lst ys)) {s with heap:=s.heap.update l (Obj.mapSeq f),toks:=t'}:=by
 have q:=PySem.IsL.update e f
 rw[hf] at q
 refine I.write (x:=l) (e:=l) (by rw[hH]; exact trivial) (.inl rfl) (fun b' u hb hu=>(mN s.heap (Obj.mapSeq f) (wG hb)).trans hu) ⟨_,q⟩ ?_
 exact⟨hz,qy,_,hv,q⟩
theorem Inv.Ot {bZ:List Value}{t':Nat}(I:Inv X pins σ H s)(hv:Vals ys bZ)(hz:ys.length<=sizeLine):
  Inv X pins σ (upd H s.heap.objs.size (.lst ys)) {s with heap:=s.heap.push {cls:= .type "list",data:= .seq bZ.toArray},toks:=t'}:=
 I.laid (fun _ _ q=>ax _ q) (aE _) ⟨hz,bZ,0,hv,bL _ rfl⟩
theorem Inv.fresh (I:Inv X pins σ H s):H s.heap.objs.size=none:=I.cu.fresh (aE _)
theorem Inv.IX (I:Inv X pins σ H s)(hH:H l=some (.lst xs)):xs.length<=sizeLine/\ ∃(bZ:List Value) (n:Nat),Vals xs bZ/\xs.length=bZ.length/\s.heap.get? l=some {cls:= .type "list",data:= .seq bZ.toArray n}:=by
 obtain⟨z,bZ,n,r,e⟩:=I.cu l _ hH
 exact⟨z,bZ,n,r,r.length,e⟩
theorem IZ {n:Nat}(h:n<=sizeLine):Builtin.List.listTooLong n=false:=by
 unfold Builtin.List.listTooLong
 exact bp (by lia)
end
section
variable {X:Cx}
inductive WG (x:V)(vs:List V)(H:Hp)(k:Addr->List V->V->Prop):Prop
 |mk (l:Addr)(xs:List V)(y:V)(h1:x= .ref l)(h2:vs=[y])(h3:H l=some (.lst xs))(h4:xs.length < sizeLine)(q:k l xs y):WG x vs H k
def EW:V->List V->Hp->VK->Prop:=fun x vs H Q=>WG x vs H fun l xs y=>Q .eu (upd H l (.lst (xs ++ [y])))
theorem yg:Zx X "list.append" EW:=by
 intro pins s σ H x vs v us Q I rx rv h
 obtain⟨l,xs,y,rfl,rfl,hH,hz,q⟩:=h
 cases rx
 obtain⟨u,rfl,ru⟩:=rv.one
 obtain⟨z,bZ,n,r,hl,e⟩:=I.IX hH
 refine call_meets F.slot_list_append ⟨_,e,rfl⟩ F.entry_list_append (F.args_list_append_2 _ _) (PySem.list_append l bZ.toArray n u (by rw[bB]; lia)) ⟨e,?_⟩
 refine⟨.eu,_,I.RU (qy:=bZ ++ [u]) hH e (by simp) (r.append (.cons ru .nil)) ?_,rfl,q⟩
 rw[aC,List.length_singleton]
 lia
def WH:V->List V->Hp->VK->Prop:=fun x vs H Q=> ∃l xs y,x= .ref l/\vs=[]/\H l=some (.lst xs)/\xs[xs.length - 1]? =some y/\Q y (upd H l (.lst xs.dropLast))
theorem Ou:Zx X "list.pop" WH:=by
 intro pins s σ H x vs v us Q I rx rv h
 obtain⟨l,xs,y,rfl,rfl,hH,hy,q⟩:=h
 cases rx
 have RV:=rv.zero
 subst RV
 obtain⟨z,bZ,n,r,hl,e⟩:=I.IX hH
 obtain⟨u,hu,ru⟩:=r.get hy
 have hy':bZ.toArray[bZ.toArray.size - 1]? =some u:=by
  show bZ.toArray[bZ.length - 1]? =some u
  rw[← Array.getElem?_toList,← hl]
  exact hu
 refine call_meets F.slot_list_pop ⟨_,e,rfl⟩ F.entry_list_pop (F.args_list_pop_1 _) (MeetsSeq.list_pop_last l bZ.toArray n u hy' (by rw[bB]; lia)) ⟨e,?_⟩
 refine⟨y,_,I.RU (qy:=bZ.dropLast) hH e ?_ r.dropLast ?_,ru,q⟩
 ·show bZ.toArray.eraseIdxIfInBounds (bZ.toArray.size - 1)=bZ.dropLast.toArray
  rw[bB,List.eraseIdxIfInBounds_toArray,DG]
 ·rw[List.length_dropLast]
  lia
def RW:R2:=fun x y H Q=> ∃l b xs zs,x= .ref l/\y= .ref b/\H l=some (.lst xs)/\H b=some (.lst zs)/\xs.length + zs.length<=sizeLine/\ ∀p,H p=none->Q (.ref p) (upd H p (.lst (xs ++ zs)))
theorem mW:oF X (binaryOp .Add) RW:=by
 intro pins s σ H x y v u Q I rx ry h
 obtain⟨l,b,xs,zs,rfl,rfl,hH,hB,hz,q⟩:=h
 cases rx
 cases ry
 obtain⟨z,bZ,n,r,hl,e⟩:=I.IX hH
 obtain⟨z2,Gz,n2,r2,Va,e2⟩:=I.IX hB
 refine PySem.P.add_list e e2 ?_ (by rw[bB,bB]; lia)
 have ea:bZ.toArray ++ Gz.toArray=(bZ ++ Gz).toArray:=by simp
 rw[ea]
 exact⟨.ref _,_,I.Ot (t':=s.toks) (r.append r2) (by rw[aC]; lia),rfl,q _ I.fresh⟩
def RX:R2:=fun x y H Q=> ∃l k xs,x= .ref l/\y= .int k/\H l=some (.lst xs)/\ -(2 ^ 63)<=k/\k < 2 ^ 63/\xs.length * k.toNat<=sizeLine/\
 ∀p,H p=none->Q (.ref p) (upd H p (.lst (List.replicate k.toNat xs).flatten))
theorem len_rep {α:Type}(xs:List α)(k:Nat):(List.replicate k xs).flatten.length=k * xs.length:=by
 induction k with
 |zero=>simp
 |succ k ih=>rw[cM,iS,aC,ih,wI,Nat.add_comm]
theorem zj:oF X (binaryOp .Mult) RX:=by
 intro pins s σ H x y v u Q I rx ry h
 obtain⟨l,k,xs,rfl,rfl,hH,h1,h2,hz,q⟩:=h
 cases rx
 obtain⟨t,rfl⟩:=ry
 obtain⟨z,bZ,n,r,hl,e⟩:=I.IX hH
 have hlen:bZ.toArray.size * k.toNat<=sizeLine:=by rw[bB,← hl]; exact hz
 have WI: ¬ bZ.toArray.size * k.toNat > (2 ^ 63 - 1) / 8:=by
  have:(sizeLine:Nat)<=(2 ^ 63 - 1) / 8:=by decide
  lia
 have WJ: ¬ (!Builtin.List.listFitsIndex k)=true:=by
  rw[fitsIndex_both h1 h2]
  exact aW
 have RY: ¬ Builtin.List.listTooLong (bZ.toArray.size * k.toNat)=true:=by
  rw[IZ hlen]
  exact aW
 have WK:List.foldl (fun x1 x2=>x1 ++ x2) #[] (List.replicate (if bZ.toArray.isEmpty=true then 0 else k.toNat) bZ.toArray)=(List.replicate k.toNat bZ).flatten.toArray:=by
  have f0: ∀m:Nat,List.foldl (fun x1 x2=>x1 ++ x2) #[] (List.replicate m bZ.toArray)=(List.replicate m bZ).flatten.toArray:=fun m=>by
   have:=foldl_rep bZ m []
   rw[List.nil_append] at this
   exact this
  rw[f0]
  cases bZ with
  |nil=>simp
  |cons a r'=>rw[if_neg (by simp)]
 refine wpAny_binaryOp_repeat_ref (T:="list") (U:="int") (by decide) ⟨_,e,rfl⟩ (fun s'=>typeIs_int s' k t) noFill_list_mul F.fills_int_mul F.slot_int_rmul repeat_list F.slot_int_index.lookup
  (call_meets F.slot_int_rmul (typeIs_int s k t) F.entry_int_rmul (F.args_int_rmul_2 _ _) (int___rmul___int_list k t l bZ.toArray n)
   ⟨e,rfl,⟨_,e,rfl⟩,call_meets F.slot_list_mul ⟨_,e,rfl⟩ F.entry_list_mul (F.args_list_mul_2 _ _) (AutoListH.list___mul___list_int_3 l bZ.toArray n k t WJ WI RY) ⟨e,?_⟩⟩)
 rw[WK]
 exact⟨.ref _,_,I.Ot (t':=s.toks) (r.rep k.toNat) (by rw[len_rep,Nat.mul_comm]; exact hz),rfl,q _ I.fresh⟩
end
section
variable {prog:Program}{w:World}{A:Around}{E:Value->Shared->Prop}{s:Shared}
end
section
variable {X:Cx}
end
section
variable {κ:Type}[DecidableEq κ]
def gh (bc:List (κ×V))(k:κ):Option V:=(bc.find? fun kv=>decide (kv.1=k)).map (·.2)
def putK (bc:List (κ×V))(k:κ)(v:V):List (κ×V):=
 if(bc.any fun kv=>decide (kv.1=k))=true then bc.map (fun kv=>if kv.1=k then(kv.1,v) else kv) else bc ++ [(k,v)]
def lu (bc:List (κ×V))(k:κ):List (κ×V):=bc.filter fun kv=>decide (kv.1≠k)
theorem fI {p:κ×V}{r:List (κ×V)}{k:κ}(e:p.1=k):gh (p :: r) k=some p.2:=by simp[gh,List.find?_cons,e]
theorem fq {p:κ×V}{r:List (κ×V)}{k:κ}(e: ¬ p.1=k):gh (p :: r) k=gh r k:=by simp[gh,List.find?_cons,e]
theorem mX (k:κ): ∀bc:List (κ×V),(bc.any fun kv=>decide (kv.1=k))=(gh bc k).isSome
 |[]=>rfl
 |p :: r=>by
  rw[tR]
  by_cases e:p.1=k
  ·simp only[fI e,decide_eq_true e,Bool.true_or,Option.isSome_some]
  ·rw[fq e,bp e,Bool.false_or]; exact mX k r
theorem Bu (k j:κ)(y:V): ∀bc:List (κ×V),gh (bc.map fun kv=>if kv.1=k then(kv.1,y) else kv) j=(gh bc j).map fun x=>if j=k then y else x
 |[]=>rfl
 |p :: r=>by
  have ih:=Bu k j y r
  rw[de]
  by_cases h:p.1=k
  ·rw[a8 h]
   by_cases e:p.1=j
   ·rw[fI (p:=(p.1,y)) e,fI e,oA,a8 (e.symm.trans h)]
   ·rw[fq (p:=(p.1,y)) e,fq e,ih]
  ·rw[aU h]
   by_cases e:p.1=j
   ·rw[fI (p:=p) e,fI e,oA,aU (fun z=>h (e.trans z))]
   ·rw[fq (p:=p) e,fq e,ih]
theorem yh (k j:κ)(y:V): ∀bc:List (κ×V),gh bc k=none->gh (bc ++ [(k,y)]) j=if j=k then some y else gh bc j
 |[],_=>by
  by_cases e:k=j
  ·rw[a8 e.symm]; exact fI (p:=(k,y)) e
  ·rw[aU (fun z=>e z.symm)]; exact fq (p:=(k,y)) e
 |p :: r,hn=>by
  rw[List.cons_append]
  have hk: ¬ p.1=k:=fun z=>by rw[fI z] at hn; cases hn
  rw[fq hk] at hn
  have ih:=yh k j y r hn
  by_cases e:p.1=j
  ·rw[fI e,fI e,aU (fun z=>hk (e.trans z))]
  ·rw[fq e,fq e,ih]
theorem I9 (bc:List (κ×V))(k j:κ)(y:V):gh (putK bc k y) j=if j=k then some y else gh bc j:=by
 unfold putK
 by_cases a:(bc.any fun kv=>decide (kv.1=k))=true
 ·rw[a8 a,Bu]
  rw[mX] at a
  by_cases e:j=k
  ·obtain⟨x,hx⟩:=QC.mp a
   rw[a8 e,e,hx,oA,a8 rfl]
  ·rw[aU e]
   cases gh bc j with
   |none=>rfl
   |some x=>rw[oA,aU e]
 ·rw[aU a]
  refine yh k j y bc ?_
  rw[mX] at a
  cases q:gh bc k with
  |none=>rfl
  |some x=>rw[q] at a; exact(a rfl).elim
theorem kC (bc:List (κ×V))(k:κ)(v:V):(putK bc k v).length<=bc.length + 1:=by
 unfold putK
 split
 ·rw[ae]; lia
 ·rw[aC,bS,wJ]; lia
theorem Ja {bc:List (κ×V)}{k:κ}(v:V)(h:gh bc k=none):putK bc k v=bc ++ [(k,v)]:=by
 unfold putK
 rw[mX,h]
 exact aU (by decide)
theorem lh.lx {o:Option V}{u:Option Value}(r:lh o u):o.isSome=u.isSome:=by
 cases o with
 |none=>cases u with
  |none=>rfl
  |some _=>exact(show False from r).elim
 |some _=>cases u with
  |none=>exact(show False from r).elim
  |some _=>rfl
theorem KV.val {bc:List (κ×V)}{vs:List (κ×Value)}(r:KV bc vs)(k:κ):lh (gh bc k) (valueAt vs k):=by
 unfold KV at r
 induction r with
 |nil=>exact True.intro
 | @cons p q ps qs h t ih=>
  obtain⟨h1,h2⟩:=h
  by_cases e:p.1=k
  ·have e':q.1=k:=h1.symm.trans e
   have b:valueAt (q :: qs) k=some q.2:=by simp[valueAt,List.find?_cons,e']
   rw[fI e,b]; exact h2
  ·have e': ¬ q.1=k:=fun z=>e (h1.trans z)
   have b:valueAt (q :: qs) k=valueAt qs k:=by simp[valueAt,List.find?_cons,e']
   rw[fq e,b]; exact ih
theorem KV.any {bc:List (κ×V)}{vs:List (κ×Value)}(r:KV bc vs)(k:κ):(bc.any fun kv=>decide (kv.1=k))=vs.any fun kv=>decide (kv.1=k):=by
 unfold KV at r
 induction r with
 |nil=>rfl
 |cons h t ih=>rw[tR,tR,ih,h.1]
theorem KV.Ov {bc:List (κ×V)}{vs:List (κ×Value)}(r:KV bc vs)(k:κ){y:V}{u:Value}(ry:RelV y u):
  KV (bc.map fun kv=>if kv.1=k then(kv.1,y) else kv) (vs.map fun kv=>if kv.1=k then(kv.1,u) else kv):=by
 unfold KV at r ⊢
 induction r with
 |nil=>exact .nil
 | @cons p q ps qs h t ih=>
  rw[de,de]
  refine .cons ?_ ih
  obtain⟨h1,h2⟩:=h
  by_cases e:p.1=k
  ·rw[a8 e,a8 (h1.symm.trans e)]; exact⟨h1,ry⟩
  ·rw[aU e,aU (fun z=>e (h1.trans z))]; exact⟨h1,h2⟩
theorem KV.put {bc:List (κ×V)}{vs:List (κ×Value)}(r:KV bc vs)(k:κ){y:V}{u:Value}(ry:RelV y u):KV (putK bc k y) (stored vs k u):=by
 unfold putK stored
 rw[r.any k]
 by_cases e:(vs.any fun kv=>decide (kv.1=k))=true
 ·rw[a8 e,a8 e]; exact r.Ov k ry
 ·rw[aU e,aU e]; exact cz r ⟨rfl,ry⟩
theorem KV.drop {bc:List (κ×V)}{vs:List (κ×Value)}(r:KV bc vs)(k:κ):KV (lu bc k) (without vs k):=by
 unfold KV at r ⊢
 unfold lu without
 induction r with
 |nil=>exact .nil
 | @cons p q ps qs h t ih=>
  obtain⟨h1,h2⟩:=h
  rw[List.filter_cons,List.filter_cons]
  by_cases e:p.1=k
  ·have a: ¬ decide (p.1≠k)=true:=by simp[e]
   have b: ¬ decide (q.1≠k)=true:=by simp[h1.symm.trans e]
   rw[aU a,aU b]; exact ih
  ·have e': ¬ q.1=k:=fun z=>e (h1.trans z)
   have a:decide (p.1≠k)=true:=by simp[e]
   have b:decide (q.1≠k)=true:=by simp[e']
   rw[a8 a,a8 b]; exact .cons ⟨h1,h2⟩ ih
theorem KV.length {bc:List (κ×V)}{vs:List (κ×Value)}(r:KV bc vs):bc.length=vs.length:=aL r
theorem Jb (bc:List (κ×V))(k:κ):(lu bc k).length<=bc.length:=aX _ _
end
theorem uU {P:Program}{w:World}{k:Key}{u:Value}(r:RelV (kV k) u):(dS P w).is k u=true:=by
 cases k with
 |inl i=>obtain⟨t,e⟩:=(show ∃t,u=Value.int i t from r); subst e; exact Bc P w i t
 |inr x=>obtain⟨t,e⟩:=(show ∃t,u=Value.str x t from r); subst e; exact Bd P w x t
theorem yi {P:Program}{w:World}: ∀{ks:List Key} {us:List Value},Vals (ks.map kV) us->ItemsAre (dS P w) ks us
 |[],_,r=>by rw[qk] at r; cases r; exact .nil
 |k :: ks,_,r=>by
  rw[de] at r
  cases r with
  |cons h t=>exact .cons (uU h) (yi t)
abbrev KT (H:Hp):List (List Key×V)->List (List Key×Addr×Value)->Prop:=Paired fun p q=>p.1=q.1/\H q.2.1=some (.tup (p.1.map kV))/\RelV p.2 q.2.2
theorem KT.val {H:Hp}{bc:List (List Key×V)}{xs:List (List Key×Addr×Value)}(r:KT H bc xs)(k:List Key):lh (gh bc k) ((atKey xs k).map (·.2)):=by
 induction r with
 |nil=>exact True.intro
 | @cons p q ps qs h t ih=>
  obtain⟨h1,_,h2⟩:=h
  by_cases e:p.1=k
  ·have e':q.1=k:=h1.symm.trans e
   have b:atKey (q :: qs) k=some q.2:=by simp[atKey,List.find?_cons,e']
   rw[fI e,b]; exact h2
  ·have e': ¬ q.1=k:=fun z=>e (h1.trans z)
   have b:atKey (q :: qs) k=atKey qs k:=by simp[atKey,List.find?_cons,e']
   rw[fq e,b]; exact ih
theorem KT.Ov {H:Hp}{bc:List (List Key×V)}{xs:List (List Key×Addr×Value)}(r:KT H bc xs)(k:List Key){y:V}{u:Value}(ry:RelV y u):
  KT H (bc.map fun kv=>if kv.1=k then(kv.1,y) else kv) (xs.map (putAt k u)):=by
 induction r with
 |nil=>exact .nil
 | @cons p q ps qs h t ih=>
  rw[de,de]
  refine .cons ?_ ih
  obtain⟨h1,h2,h3⟩:=h
  unfold putAt
  by_cases e:p.1=k
  ·rw[a8 e,a8 (h1.symm.trans e)]; exact⟨h1,h2,ry⟩
  ·rw[aU e,aU (fun z=>e (h1.trans z))]; exact⟨h1,h2,h3⟩
theorem KT.put {H:Hp}{bc:List (List Key×V)}{xs:List (List Key×Addr×Value)}(r:KT H bc xs)(k:List Key){b:Addr}{y:V}{u:Value}(hb:H b=some (.tup (k.map kV)))(ry:RelV y u):
  KT H (putK bc k y) (storedH xs k b u):=by
 have e:(bc.any fun kv=>decide (kv.1=k))=(atKey xs k).isSome:=by
  rw[mX,(r.val k).lx,Ga]
 unfold putK storedH
 rw[e]
 by_cases q:(atKey xs k).isSome=true
 ·rw[a8 q,a8 q]; exact r.Ov k ry
 ·rw[aU q,aU q]; exact cz r ⟨rfl,hb,ry⟩
theorem KT.keeps {H H':Hp}{bc:List (List Key×V)}{xs:List (List Key×Addr×Value)}(r:KT H bc xs)(ht: ∀b ys,H b=some (.tup ys)->H' b=some (.tup ys)):KT H' bc xs:=
 Paired.gP r fun _ _ z=>⟨z.1,ht _ _ z.2.1,z.2.2⟩
section
variable {P:Program}{w:World}{H:Hp}{h:Heap}{a:Addr}
theorem Nf {u:HO}(ok:oE P w H h)(e:Rd H a u):dA P w H h a u:=e.ok ok
theorem uV {bc:List (Key×V)}(ok:oE P w H h)(e:Rd H a (.dK bc)):bc.length<=sizeLine/\(a == sysModules)=false/\ ∃vs,KV bc vs/\h.DictOf (dS P w) a vs:=
 show dA P w H h a (.dK bc) from Nf ok e
theorem EY {bc:List (Key×V)}(ok:oE P w H h)(e:H a=some (.dK bc)):bc.length<=sizeLine/\(a == sysModules)=false/\ ∃vs,KV bc vs/\h.DictOf (dS P w) a vs:=uV ok (.inl e)
theorem uW {ks:List Key}(ok:oE P w H h)(e:H a=some (.tup (ks.map kV))):(tupleKind (dS P w)).is h ks a:=by
 obtain⟨_,bZ,r,o,h1,h2,n,h3⟩:=(show dA P w H h a (.tup (ks.map kV)) from ok a _ e)
 exact⟨o,bZ.toArray,n,h1,h2,h3,by simpa using yi r⟩
theorem yj {bc:List (List Key×V)}(ok:oE P w H h)(e:Rd H a (.dT bc)):bc.length<=sizeLine/\(a == sysModules)=false/\
  ∃xs,KT H bc xs/\h.DictOfH (tupleKind (dS P w)) a xs:=by
 obtain⟨z,y,xs,r,o,es,ep,h1,h2,h3,h4,h5⟩:=(show dA P w H h a (.dT bc) from Nf ok e)
 refine⟨z,y,xs,r,o,es,ep,h1,h2,h3,h4,fun x hx=>?_,h5⟩
 have all: ∀{l:List (List Key×V)} {m:List (List Key×Addr×Value)},KT H l m-> ∀x∈m,(tupleKind (dS P w)).is h x.1 x.2.1:=by
  intro l m q
  induction q with
  |nil=>intro x hx; exact nomatch hx
  | @cons p q ps qs hq t ih=>
   intro x hx
   rcases aw.mp hx with e|hx
   ·subst e
    exact uW ok (by rw[← hq.1]; exact hq.2.1)
   ·exact ih x hx
 exact all r x hx
theorem RZ {bc:List (List Key×V)}(ok:oE P w H h)(e:H a=some (.dT bc)):bc.length<=sizeLine/\(a == sysModules)=false/\
  ∃xs,KT H bc xs/\h.DictOfH (tupleKind (dS P w)) a xs:=yj ok (.inl e)
end
def mJ (H:Hp)(a:Addr)(y:V)(r:Option V):Prop:=
 (∃bc k,Rd H a (.dK bc)/\y=kV k/\r=gh bc k)∨ ∃bc k b,Rd H a (.dT bc)/\y= .ref b/\H b=some (.tup (k.map kV))/\r=gh bc k
def GA (H:Hp)(a:Addr)(y v:V)(H':Hp):Prop:=
 (∃bc k,H a=some (.dK bc)/\y=kV k/\bc.length < sizeLine/\H'=upd H a (.dK (putK bc k v)))∨
 ∃bc k b,H a=some (.dT bc)/\y= .ref b/\H b=some (.tup (k.map kV))/\bc.length < sizeLine/\H'=upd H a (.dT (putK bc k v))
theorem mJ.k {H:Hp}{a:Addr}{bc:List (Key×V)}{k:Key}(e:H a=some (.dK bc)):mJ H a (kV k) (gh bc k):= .inl ⟨bc,k,.inl e,rfl,rfl⟩
theorem GA.k {H:Hp}{a:Addr}{bc:List (Key×V)}{k:Key}{v:V}(e:H a=some (.dK bc))(hl:bc.length < sizeLine):GA H a (kV k) v (upd H a (.dK (putK bc k v))):= .inl ⟨bc,k,e,rfl,hl,rfl⟩
section
variable {X:Cx}{pins:List (Addr×Obj)}{σ:St}{H:Hp}{s:Shared}{a:Addr}{y v:V}{u r:Value}{o:Option V}{A:Around}{E:Value->Shared->Prop}
theorem Inv.big (I:Inv X pins σ H s):sysModules < s.heap.objs.size:=by
 have h:mainGlobals < s.heap.objs.size:=(I.mod.glob.keeps I.bk).lt
 exact Nat.lt_trans (by decide) h
theorem GB {Q:Value->Shared->Prop}(hu:A.units + 1 < cLine)(I:Inv X pins σ H s)(g:mJ H a y (some v))(ry:RelV y u)(h: ∀w' s',Inv X pins σ H s'->RelV v w'->Q w' s'):
  wpAny (model X.prog X.w) A (getItem (.ref a) u) Q E s:=by
 rcases g with⟨bc,k,e,ey,l⟩|⟨bc,k,b,e,ey,eb,l⟩
 ·subst ey
  obtain⟨z,hd,vs,rel,dd⟩:=uV I.cu e
  obtain⟨w',hw,Gy⟩:=lh.some_of (v:=v) (o:=valueAt vs k) (by rw[l]; exact rel.val k)
  exact wpAny_getItem_of (uU ry) dd.mapOf hw (h w' _ (I.tok _) Gy)
 ·subst ey
  cases(show u=Value.ref b from ry)
  obtain⟨z,hd,xs,rel,dd⟩:=yj I.cu e
  obtain⟨w',hw,Gy⟩:=lh.some_of (v:=v) (o:=(atKey xs k).map (·.2)) (by rw[l]; exact rel.val k)
  obtain⟨p,hp,tU⟩:=bo.mp hw
  refine wpAny_getItem_heap (um hu) (uW I.cu eb) dd hp ?_
  rw[tU]
  exact h w' _ (I.tok _) Gy
theorem WL {Q:Value->Shared->Prop}(hu:A.units + 1 < cLine)(I:Inv X pins σ H s)(g:mJ H a y o)(ry:RelV y u)(h: ∀s',Inv X pins σ H s'->Q (.bool o.isSome) s'):
  wpAny (model X.prog X.w) A (compareOp .In u (.ref a)) Q E s:=by
 rcases g with⟨bc,k,e,ey,l⟩|⟨bc,k,b,e,ey,eb,l⟩
 ·subst ey
  obtain⟨z,hd,vs,rel,dd⟩:=uV I.cu e
  refine wpAny_in_of (uU ry) hd dd.mapOf ?_
  rw[← (rel.val k).lx,← l]
  exact h _ (I.tok _)
 ·subst ey
  cases(show u=Value.ref b from ry)
  obtain⟨z,hd,xs,rel,dd⟩:=yj I.cu e
  refine wpAny_in_heap (um hu) (uW I.cu eb) hd dd ?_
  have q:=(rel.val k).lx
  rw[Ga] at q
  rw[← q,← l]
  exact h _ (I.tok _)
theorem LD {Q:Value->Shared->Prop}(hu:A.units + 1 < cLine)(I:Inv X pins σ H s)(g:mJ H a y o)(ry:RelV y u)(h: ∀s',Inv X pins σ H s'->Q (.bool (!o.isSome)) s'):
  wpAny (model X.prog X.w) A (compareOp .NotIn u (.ref a)) Q E s:=by
 rcases g with⟨bc,k,e,ey,l⟩|⟨bc,k,b,e,ey,eb,l⟩
 ·subst ey
  obtain⟨z,hd,vs,rel,dd⟩:=uV I.cu e
  refine wpAny_notIn_of (uU ry) hd dd.mapOf ?_
  rw[← (rel.val k).lx,← l]
  exact h _ (I.tok _)
 ·subst ey
  cases(show u=Value.ref b from ry)
  obtain⟨z,hd,xs,rel,dd⟩:=yj I.cu e
  refine wpAny_notIn_heap (um hu) (uW I.cu eb) hd dd ?_
  have q:=(rel.val k).lx
  rw[Ga] at q
  rw[← q,← l]
  exact h _ (I.tok _)
theorem ur {h':Heap}{t':Nat}{ob:HO}(I:Inv X pins σ H s)(mu:Rm (H a))(hs:Heap.SameBut a s.heap h')(he: ∃q,h'.get? a=some q)(new:dA X.prog X.w (upd H a ob) h' a ob):
  Inv X pins σ (upd H a ob) {s with heap:=h',toks:=t'}:=
 I.write (x:=a) (e:=a) mu (.inl rfl) (fun b q hb z=>(hs.2 b hb).trans z) he new
theorem zk {P:Program}{w:World}{H':Hp}{h':Heap}{bc:List (Key×V)}{vs:List (Key×Value)}(z:bc.length<=sizeLine)(hd:(a == sysModules)=false)(rel:KV bc vs)(dd:h'.DictOf (dS P w) a vs):
  dA P w H' h' a (.dK bc):=⟨z,hd,vs,rel,dd⟩
theorem GC {H':Hp}{Q:Unit->Shared->Prop}(hu:A.units + 1 < cLine)(I:Inv X pins σ H s)(g:GA H a y v H')(ry:RelV y u)(rv:RelV v r)(h: ∀s',Inv X pins σ H' s'->Q () s'):
  wpAny (model X.prog X.w) A (setItem (.ref a) u r) Q E s:=by
 rcases g with⟨bc,k,e,ey,l,eH⟩|⟨bc,k,b,e,ey,eb,l,eH⟩
 ·subst ey eH
  obtain⟨z,hd,vs,rel,dd⟩:=EY I.cu e
  have hz:vs.length<=sizeLine:=by rw[← rel.length]; exact z
  have hl:(putK bc k v).length<=sizeLine:=by have:=kC bc k v; lia
  refine wpAny_setItem_pairs (hsz:=hz) (uU ry) dd fun h' EZ hs=>h _ ?_
  have he: ∃q,h'.get? a=some q:=let⟨q,_,_,hq,_⟩:=EZ; ⟨q,hq⟩
  exact ur I (by rw[e]; exact True.intro) hs he (zk hl hd (rel.put k rv) EZ)
 ·subst ey eH
  cases(show u=Value.ref b from ry)
  obtain⟨z,hd,xs,rel,dd⟩:=RZ I.cu e
  have hz:xs.length<=sizeLine:=by rw[← aL rel]; exact z
  have hl:(putK bc k v).length<=sizeLine:=by have:=kC bc k v; lia
  refine wpAny_setItem_heap (hsz:=hz) (um hu) (uW I.cu eb) dd fun h' EZ hs=>h _ ?_
  obtain⟨q,es,ep,hq,h2,h3,h4,_,h5⟩:=EZ
  refine ur I (by rw[e]; exact True.intro) hs ⟨q,hq⟩ ⟨hl,hd,_,(rel.put k eb rv).keeps fun c ys ec=>?_,q,es,ep,hq,h2,h3,h4,h5⟩
  rw[az (mz ec e (fun z=>nomatch z))]
  exact ec
end
section
variable {X:Cx}{pins:List (Addr×Obj)}{σ:St}{H:Hp}{s:Shared}{a:Addr}{bc:List (Key×V)}{k:Key}{u:Value}{A:Around}{E:Value->Shared->Prop}
theorem R0 {v:V}{more:List Value}{Q:Value->Shared->Prop}(I:Inv X pins σ H s)(e:H a=some (.dK bc))(ry:RelV (kV k) u)(l:gh bc k=some v)(hm:more=[]∨ ∃x,more=[x])
  (h: ∀w' s',Inv X pins σ (upd H a (.dK (lu bc k))) s'->RelV v w'->Q w' s'):wpAny (model X.prog X.w) A (call (.builtin "dict.pop") (.ref a :: u :: more)) Q E s:=by
 obtain⟨z,hd,vs,rel,dd⟩:=EY I.cu e
 obtain⟨w',hw,Gy⟩:=lh.some_of (v:=v) (o:=valueAt vs k) (by rw[← l]; exact rel.val k)
 have hp:(keyPart u).isSome=true:=by
  cases k with
  |inl i=>obtain⟨t,q⟩:=(show ∃t,u=Value.int i t from ry); subst q; rfl
  |inr x=>obtain⟨t,q⟩:=(show ∃t,u=Value.str x t from ry); subst q; rfl
 have ha:argsOk "dict.pop" ⟨.ref a :: u :: more,[]⟩:=by
  rcases hm with q|⟨x,q⟩
  ·subst q; exact PySem.F.args_dict_pop_2 _ _
  ·subst q; exact PySem.F.args_dict_pop_3 _ _ _
 refine call_meetsIn PySem.F.slot_dict_pop dd.typeIs PySem.F.entry_dict_pop ha (meets_dict_pop_there (dS X.prog X.w) a (uU ry) more hm hp)
  ⟨vs,w',dd,by rw[← rel.length]; exact z,hw,fun h' EZ hs=>h w' _ ?_ Gy⟩
 have he: ∃q,h'.get? a=some q:=let⟨q,_,_,hq,_⟩:=EZ; ⟨q,hq⟩
 exact ur I (by rw[e]; exact True.intro) hs he (zk (aZ (Jb bc k) z) hd (rel.drop k) EZ)
end
def R3 (i:Expr):Prop:= ∀ov iv,subscripted i false ov iv=operate [ov,iv] (getItem ov iv)
theorem LF {prog:Program}{w:World}{A:Around}{E:Value->Shared->Prop}{s:Shared}{env:Env}{value slice:Expr}{pos:Pos}{T id:String}{Q:Value->Shared->Prop}
  (hl:typeLookup (.type T) "__getitem__"=pure (some (.builtin id))) (hs:R3 slice)
  (h:wpAny (model prog w) A (eval value env) (fun o s₁=>wpAny (model prog w) A (eval slice env) (fun i s₂=>s₂.TypeIs o T/\wpAny (model prog w) A (getItem o i) Q E s₂) E s₁) E s):
  wpAny (model prog w) A (eval (.Subscript value slice pos) env) Q E s:=by
 refine Subscript_ (cf h (fun o s₁ h₁=>cf h₁ (fun i s₂ h₂=>?_) fun _ _ x=>x) fun _ _ x=>x)
 obtain⟨hT,h₂⟩:=h₂
 unfold subscriptTail
 refine aA ?_
 rw[getitemInPython_of_ne hT.not_modules]
 refine aA (wpAny_specialOf hT hl ?_)
 have fin:wpAny (model prog w) A (subscripted slice false o i) (fun r s₃=>wpAny (model prog w) A (letTemporaryGo value o r >>=fun _=>pure r) Q E s₃) E s₂:=by
  rw[hs o i]
  exact wpAny_operating (cf h₂ (fun r s₃ h₃=>aA (wpAny_letTemporaryGo (bE h₃))) fun _ _ x=>x)
 first
  |exact bE (aA fin)
  |exact aA (bE (aA fin))
  |exact aA fin
theorem Bv {X:Cx}{pins:List (Addr×Obj)}{σ:St}{H:Hp}{s:Shared}{a:Addr}{y:V}{o:Option V}(I:Inv X pins σ H s)(g:mJ H a y o):s.TypeIs (.ref a) "dict":=by
 rcases g with⟨bc,k,e,_,_⟩|⟨bc,k,b,e,_,_,_⟩
 ·obtain⟨_,_,vs,_,dd⟩:=uV I.cu e
  exact dd.typeIs
 ·obtain⟨_,_,xs,_,dd⟩:=yj I.cu e
  exact dd.typeIs
def R4 (td ty:TE):TE:=fun σ H Q=>td σ H fun x H1=>ty σ H1 fun y H2=> ∃a v,x= .ref a/\mJ H2 a y (some v)/\Q v H2
def WM (ty td:TE):TE:=fun σ H Q=>ty σ H fun y H1=>td σ H1 fun x H2=> ∃a o,x= .ref a/\mJ H2 a y o/\Q (.bl o.isSome) H2
def LG (ty td:TE):TE:=fun σ H Q=>ty σ H fun y H1=>td σ H1 fun x H2=> ∃a o,x= .ref a/\mJ H2 a y o/\Q (.bl (!o.isSome)) H2
def R5 (td ty tv:TE):TS:=fun D σ H=>tv σ H fun v H1=>td σ H1 fun x H2=>ty σ H2 fun y H3=> ∃a H4,x= .ref a/\GA H3 a y v H4/\D.nx σ H4
section
variable {X:Cx}{o i e value:Expr}{pos pos' Of:Pos}{td ty tv:TE}
theorem cE (hu:X.A.units + 1 < cLine)(ho:PE X o td)(hi:PE X i ty)(hs:R3 i):PE X (.Subscript o i pos) (R4 td ty):=by
 intro pins s σ H Q I h
 refine LF PySem.F.slot_dict_getitem.lookup hs (dR (ho pins s σ H _ I h) fun u s1 ⟨x,H1,I1,rx,q1⟩=>dR (hi pins s1 σ H1 _ I1 q1) fun iv s2 ⟨y,H2,I2,ry,a,v,ex,g,q2⟩=>?_)
 subst ex
 obtain rfl:u=Value.ref a:=rx
 exact⟨Bv I2 g,GB hu I2 g ry fun w' s3 I3 Gy=>⟨v,H2,I3,Gy,q2⟩⟩
theorem Ow (hu:X.A.units + 1 < cLine)(hi:PE X i ty)(ho:PE X o td):PC X .In i o (WM ty td):=by
 intro pins s σ H Q I h
 refine dR (hi pins s σ H _ I h) fun iv s1 ⟨y,H1,I1,ry,q1⟩=>dR (ho pins s1 σ H1 _ I1 q1) fun u s2 ⟨x,H2,I2,rx,a,ov,ex,g,q2⟩=>?_
 subst ex
 obtain rfl:u=Value.ref a:=rx
 exact WL hu I2 g ry fun s3 I3=>⟨.bl ov.isSome,H2,I3,rfl,q2⟩
theorem GD (hu:X.A.units + 1 < cLine)(hi:PE X i ty)(ho:PE X o td):PC X .NotIn i o (LG ty td):=by
 intro pins s σ H Q I h
 refine dR (hi pins s σ H _ I h) fun iv s1 ⟨y,H1,I1,ry,q1⟩=>dR (ho pins s1 σ H1 _ I1 q1) fun u s2 ⟨x,H2,I2,rx,a,ov,ex,g,q2⟩=>?_
 subst ex
 obtain rfl:u=Value.ref a:=rx
 exact LD hu I2 g ry fun s3 I3=>⟨.bl (!ov.isSome),H2,I3,rfl,q2⟩
theorem E1 (hu:X.A.units + 1 < cLine)(ho:PE X o td)(hi:PE X i ty)(hv:PE X value tv)(hs:swapsWith value (some (.Subscript o i pos')) pos.line X.env=pure false):
  PS X (.Assign [.Subscript o i pos'] value pos) (R5 td ty tv):=by
 intro pins s σ H D I h
 refine wpAny_Assign_Subscript (dR (hv pins s σ H _ I h) fun r s1 ⟨v,H1,I1,rv,q1⟩=>dR (ho pins s1 σ H1 _ I1 q1) fun u s2 ⟨x,H2,I2,rx,q2⟩=>dR (hi pins s2 σ H2 _ I2 q2) fun iv s3 ⟨y,H3,I3,ry,a,H4,ex,g,q3⟩=>?_) hs
 subst ex
 obtain rfl:u=Value.ref a:=rx
 exact GC hu I3 g ry rv fun s4 I4=>⟨σ,H4,I4,q3⟩
end
theorem Bw {P:Program}{w:World}{H:Hp}(h:Heap)(hb:sysModules < h.objs.size):dA P w H (h.push {cls:= .type "dict",data:= .dict #[]}) h.objs.size (.dK []):=
 ⟨bh _,gR.mpr (wG (a6 hb)),[],.nil,Heap.DictOf.new h⟩
def Ox:TE:=fun _ H Q=> ∀p,H p=none->Q (.ref p) (upd H p (.dK []))
section
variable {X:Cx}{pos:Pos}
theorem Bx:PE X (.Dict [] [] pos) Ox:=fun pins s σ H Q I h=>
 wpAny_Dict_empty ⟨.ref s.heap.objs.size,_,I.laid (a:=s.heap.objs.size) (o:= .dK []) (t':=s.toks) (fun _ _ q=>ax _ q) (aE _) (Bw s.heap I.big),rfl,h _ (I.cu.fresh (aE _))⟩
end
def DH:List (TE×TE)->St->Hp->(List (V×V)->Hp->Prop)->Prop
 |[],_,H,Q=>Q [] H
 |(tk,tv) :: r,σ,H,Q=>tk σ H fun x H1=>tv σ H1 fun y H2=>DH r σ H2 fun ps H3=>Q ((x,y) :: ps) H3
abbrev VV:List (V×V)->List (Value×Value)->Prop:=Paired fun p q=>RelV p.1 q.1/\RelV p.2 q.2
def LH (X:Cx)(pos:Pos)(keys:List (Option Expr))(values:List Expr)(LI:List (TE×TE)):Prop:=
 ∀(pins:List (Addr×Obj)) (s:Shared) (σ:St) (H:Hp) (Q:List (V×V)->Hp->Prop),Inv X pins σ H s->DH LI σ H Q->
  wpAny (model X.prog X.w) X.A (evalPairs (pairTrees keys values X.env pos)) (fun vs s'=> ∃ps H',Inv X pins σ H' s'/\VV ps vs/\Q ps H') X.xe s
theorem LJ {X:Cx}{pos:Pos}:LH X pos [] [] []:=fun pins s σ H Q I h=>pairTrees_nil_walk ⟨[],H,I,.nil,h⟩
theorem uX {X:Cx}{pos:Pos}{k v:Expr}{ks:List (Option Expr)}{vs:List Expr}{tk tv:TE}{LI:List (TE×TE)}(hk:PE X k tk)(hv:PE X v tv)(hr:LH X pos ks vs LI):
  LH X pos (some k :: ks) (v :: vs) ((tk,tv) :: LI):=fun pins s σ H Q I h=>
 pairTrees_cons_walk (dR (hk pins s σ H _ I h) fun u s1 ⟨x,H1,I1,rx,q1⟩=>dR (hv pins s1 σ H1 _ I1 q1) fun w2 s2 ⟨y,H2,I2,ry,q2⟩=>
  dR (hr pins s2 σ H2 _ I2 q2) fun ws s3 ⟨ps,H3,I3,rel,q3⟩=>⟨(x,y) :: ps,H3,I3,.cons ⟨rx,ry⟩ rel,q3⟩)
def pK (bc more:List (Key×V)):List (Key×V):=more.foldl (fun acc kv=>putK acc kv.1 kv.2) bc
theorem KV.merge: ∀{more:List (Key×V)} {rs:List (Key×Value)} {bc:List (Key×V)} {vs:List (Key×Value)},KV more rs->KV bc vs->KV (pK bc more) (merged vs rs):=by
 intro more rs bc vs r
 unfold KV at r
 induction r generalizing bc vs with
 |nil=>intro q; exact q
 | @cons p q ps qs h t ih=>
  intro r0
  have e:KV (putK bc p.1 p.2) (stored vs q.1 q.2):=by
   have:=r0.put p.1 h.2
   rw[← h.1]; exact this
  exact ih e
theorem oV: ∀(more bc:List (Key×V)),(pK bc more).length<=bc.length + more.length
 |[],bc=>by show bc.length<=bc.length + 0; lia
 |p :: r,bc=>by
  have h1:=oV r (putK bc p.1 p.2)
  have h2:=kC bc p.1 p.2
  show(pK (putK bc p.1 p.2) r).length<=_
  rw[bS]; lia
theorem uY {P:Program}{w:World}: ∀{bc:List (Key×V)} {ws:List (Value×Value)},VV (bc.map fun kv=>(kV kv.1,kv.2)) ws-> ∃rs,Carries (dS P w) ws rs/\KV bc rs
 |[],_,r=>by rw[qk] at r; cases r; exact⟨[],True.intro,.nil⟩
 |p :: bc,_,r=>by
  rw[de] at r
  cases r with
  | @cons a b as bs h t=>
   obtain⟨rs,c,q⟩:=uY (P:=P) (w:=w) t
   obtain⟨b1,b2⟩:=b
   exact⟨(p.1,b2) :: rs,⟨uU h.1,rfl,c⟩,.cons ⟨rfl,h.2⟩ q⟩
def R6 (LI:List (TE×TE)):TE:=fun σ H Q=> ∀p,H p=none->DH LI σ (upd H p (.dK [])) fun ps H2=>H2 p=some (.dK [])/\ ∃bc:List (Key×V),ps=bc.map (fun kv=>(kV kv.1,kv.2))/\bc.length<=15/\Q (.ref p) (upd H2 p (.dK (pK [] bc)))
theorem LK {X:Cx}{pos:Pos}{keys:List (Option Expr)}{values:List Expr}{LI:List (TE×TE)}(h:LH X pos keys values LI)(Oy:keys.all (·.isSome)=true)(hl:keys.length=values.length)(h0:keys≠[])
  (WN:keys.length<=15):PE X (.Dict keys values pos) (R6 LI):=by
 intro pins s σ H Q I q
 have hn:=I.cu.fresh (aE s.heap.objs.size)
 have I1:=I.laid (a:=s.heap.objs.size) (o:= .dK []) (h':=s.heap.push {cls:= .type "dict",data:= .dict #[]}) (t':=s.toks) (fun _ _ q=>ax _ q) (aE _) (Bw s.heap I.big)
 refine wpAny_Dict_walk (knd:=dS X.prog X.w) Oy hl h0 WN (dR (h pins _ σ _ _ I1 (q _ hn)) fun ws s2 ⟨ps,H2,I2,rel,e,bc,ep,lk,q2⟩=>?_)
 subst ep
 obtain⟨rs,c,rk⟩:=uY (P:=X.prog) (w:=X.w) rel
 obtain⟨z,hd,R7,r0,dd⟩:=EY I2.cu e
 cases r0
 refine⟨rs,c,dd,fun h' EZ hs=>⟨.ref s.heap.objs.size,_,?_,rfl,q2⟩⟩
 have hz:(pK [] bc).length<=sizeLine:=by
  have h1:=oV bc []
  rw[wJ] at h1
  rw[eI]; lia
 have he: ∃q,h'.get? s.heap.objs.size=some q:=let⟨q,_,_,hq,_⟩:=EZ; ⟨q,hq⟩
 exact ur I2 (by rw[e]; exact True.intro) hs he (zk hz hd (rk.merge .nil) EZ)
structure M1 (X:Cx)(o:Expr)(m:Str)(apos:Pos)(e:Expr)(gG:Pos):Prop where
 base:attributeBase o m X.env (eval o X.env)=eval o X.env
 few:((backTo gG (starEach [e] X.env)).all (fun x=> !x.1) && (backToKw gG (keywordEach [] X.env)).all (fun x=>x.1.isSome)
  && decide (([e]:List Expr).length + ([]:List Keyword).length + (if([]:List Keyword).isEmpty then 0 else 1) < 30))=true
 line:(apos.endLine == gG.line)=true
 trees:backTo gG (starEach [e] X.env)=[(false,eval e X.env)]
def Zy (H:Hp)(a:Addr):Prop:=(∃bc,Rd H a (.dK bc))∨ ∃bc,Rd H a (.dT bc)
theorem Oz {X:Cx}{pins:List (Addr×Obj)}{σ:St}{H:Hp}{s:Shared}{a:Addr}(I:Inv X pins σ H s)(d:Zy H a):
  s.TypeIs (.ref a) "dict"/\(∀b,Value.ref a= .ref b-> ∃ob,s.heap.get? b=some ob/\ob.dict=none)/\(a == sysModules)=false:=by
 rcases d with⟨bc,e⟩|⟨bc,e⟩
 ·obtain⟨_,hd,vs,_,dd⟩:=uV I.cu e
  refine⟨dd.typeIs,fun b q=>?_,hd⟩
  cases q
  obtain⟨ob,_,_,h1,h2,_⟩:=dd
  exact⟨ob,h1,h2.2.1⟩
 ·obtain⟨_,hd,xs,_,dd⟩:=yj I.cu e
  refine⟨dd.typeIs,fun b q=>?_,hd⟩
  cases q
  obtain⟨ob,_,_,h1,h2,_⟩:=dd
  exact⟨ob,h1,h2.2.1⟩
section
variable {X:Cx}{pins:List (Addr×Obj)}{σ:St}{H:Hp}{s:Shared}{a:Addr}{y d:V}{u r:Value}{o:Option V}{A:Around}{E:Value->Shared->Prop}
end
def OA (td ty:TE):TE:=fun σ H Q=>td σ H fun x H1=> ∃a,x= .ref a/\Zy H1 a/\ty σ H1 fun y H2=> ∃bc k v,H2 a=some (.dK bc)/\y=kV k/\gh bc k=some v/\Q v (upd H2 a (.dK (lu bc k)))
section
variable {X:Cx}{o e f:Expr}{apos gG:Pos}{td ty tx:TE}
theorem Jc (ho:PE X o td)(he:PE X e ty)(m:M1 X o "pop" apos e gG):PE X (.Call (.Attribute o "pop" apos) [e] [] gG) (OA td ty):=by
 intro pins s σ H Q I h
 refine wpAny_Call_method m.base m.few m.line PySem.F.plainAttrs_dict PySem.F.slot_dict_pop PySem.F.type_dict_pop (dR (ho pins s σ H _ I h) fun u s1 ⟨x,H1,I1,rx,a,ex,d,q1⟩=>?_)
 subst ex
 obtain rfl:u=Value.ref a:=rx
 obtain⟨t1,t2,_⟩:=Oz I1 d
 refine⟨t1,t2,?_⟩
 rw[m.trees]
 refine iR rfl (F9 (Calls.spliced_cons (dR (he pins s1 σ H1 _ I1 q1) fun iv s2 ⟨y,H2,I2,ry,bc,k,v,ea,ey,l,q2⟩=>Calls.spliced_nil ?_)))
 subst ey
 exact R0 I2 ea ry l (.inl rfl) fun w' s3 I3 Gy=>⟨v,_,I3,Gy,q2⟩
end
section
variable {X:Cx}{pins:List (Addr×Obj)}{σ:St}{H:Hp}{s:Shared}{a:Addr}{bc:List (Key×V)}{A:Around}{E:Value->Shared->Prop}
theorem Jd {Q:Value->Shared->Prop}(I:Inv X pins σ H s)(e:Rd H a (.dK bc))(h: ∀p s',H p=none->Inv X pins σ (upd H p (.dK bc)) s'->Q (.ref p) s'):wpAny (model X.prog X.w) A (call (.type "dict") [.ref a]) Q E s:=by
 obtain⟨z,hd,vs,rel,dd⟩:=uV I.cu e
 refine kt_call_dict hd dd (by rw[← rel.length]; exact z) fun h' EZ hs=>?_
 refine h _ _ (I.cu.fresh (aE _)) (I.laid (a:=s.heap.objs.size) (o:= .dK bc) (t':=s.toks) (fun b q hq=>?_) (aE _) (zk z (gR.mpr (wG (a6 I.big))) rel EZ))
 exact(hs.2 b (a6 (aM hq))).trans (ax _ hq)
end
section
variable {X:Cx}{pins:List (Addr×Obj)}{σ:St}{H:Hp}{s:Shared}{a:Addr}{y:V}{u:Value}{A:Around}{E:Value->Shared->Prop}
end
end L2
namespace Zz
open PySem PySem.W PySem.Calls PyProof.Rows
theorem tV {P:Params}{h:Heap}: ∀(ns:List Int) (vs:List Value),WellAll P h vs (ns.map WData.int)->IntsAre vs ns:=by
 intro ns
 induction ns with
 |nil=>
  intro vs w
  rw[qk] at w
  cases w
  exact .nil
 |cons n ns ih=>
  intro vs w
  rw[de] at w
  cases w with
  |cons a b=>
   cases a
   exact .cons _ _ (ih _ b)
theorem GF {l:OpenLaw}{n:Nat}(hn:l.most=some n){P:Params}{h:Heap}{args:List WData}{vals:List Value}
  (LL:l.row.toRowW.claim.pre args=true) (E2:WellAll P h vals args):
  ∃a vs ns,vals=[Value.ref a]/\args=[WData.list (ns.map WData.int)]/\h.get? a=some {cls:= .type "list",data:= .seq vs.toArray}/\IntsAre vs ns/\ns.length<=n:=by
 have hsh:WShape.hasAll [] args [.list .int]=true:=(pre_splitW LL).1
 have hc:l.pre.holds [] {args:=args}=true:=(pre_splitW LL).2
 obtain⟨d,r,rfl,h1,h2⟩:=hasAllW_cons hsh
 obtain rfl:=hasAllW_nil h2
 obtain⟨xs,rfl,h3⟩:=hasW_list h1
 obtain⟨ns,rfl⟩:=items_int h3
 have hlen:ns.length<=n:=by
  unfold OpenLaw.pre at hc
  have h4:(WTm.not (.lt (.lit (.int (n:Int))) (.len (.arg 0)))).holds [] {args:=[.list (ns.map .int)]}=true:=by
   have h4:=(holds_andW hc).1
   rw[hn] at h4
   exact h4
  have h5:=condW_of h4 (w_not (w_lt w_lit (w_len_list (w_arg rfl))))
  rw[ae] at h5
  refine Nat.le_of_not_lt fun q=>?_
  have q':(n:Int) < ((ns.length:Nat):Int):=by lia
  first
   |(rw[aG q'] at h5; exact absurd h5 (by decide))
   |(simp at h5; lia)
 cases E2 with
 |cons w1 w2=>
  cases w2
  cases w1 with
  |list ho Oy=>exact⟨_,_,ns,rfl,rfl,ho,tV ns _ Oy,hlen⟩
theorem GG (l:OpenLaw)(args:List WData):l.row.toRowW.claim.post args (.bool true) args=true:=
 postW_of (r:=l.row.toRowW) (X:=(true == true))
  (show WShape.has [] (.bool true) .bool=true by first|rfl|decide|simp[WShape.has,WShape.arms,WShape.armsAll])
  (show(WTm.eq .res (.lit (.bool true))).value [] {args:=args,res:=some (.bool true),after:=args}=some (.bool (true == true)) from w_eq_bool (w_res rfl) w_lit) rfl
theorem By {l:OpenLaw}{n:Nat}{q:Program}{loose:List Str}{XP:(Str->Option Value)->Heap->Prop}{YP:World->Heap->Prop}{d:DefRec}
  (hn:l.most=some n) (WO:d.params.defaults=[])
  (call: ∀(w:World) (s₀ s₁:Shared) (mg mb:Str->Option Value) (fa:Addr) (o:Obj) (pm cd doc:Value) (a:Addr) (vs:List Value) (ns:List Int),
   Ground q loose [] XP w s₀ mg mb s₁.heap->YP w s₁.heap->
   s₁.heap.get? fa=some o->o.data= .func (docDef d.name d.params d.body d.scope pm cd doc)->s₁.heap.CodeRec cd d.name->mg d.name=some (.ref fa)->
   s₁.heap.get? a=some {cls:= .type "list",data:= .seq vs.toArray}->IntsAre vs ns->ns.length<=n->s₁.gens= #[]->
   codeAny (model l.prog w) callerA (.call (.ref fa) ⟨[.ref a],[]⟩) (fun r s'=>r= .ok (.ret (.bool true))/\OldK s₁.heap s'.heap/\s'.os=s₁.os/\AllBare s'.gens) s₁):
  WalkO q loose XP YP l.row.toRowW d [] (fun f vs=>PySem.call f vs):=by
 intro w s₀ s₁ mg mb G Y fa o pm cd doc dV kV ho hd rK hD R8 hg args vals as LL abn ZA E2 hlo
 obtain rfl:dV= .none:=Dflts.none hD WO
 obtain rfl:kV= .none:=Dflts.noKw hD
 obtain⟨a,vs,ns,rfl,rfl,OB,hints,hlen⟩:=GF hn LL E2
 refine enter_call (Dl (call w s₀ s₁ mg mb fa o pm cd doc a vs ns G Y ho (fd_plain hd) rK R8 OB hints hlen hg) fun r s' hq=>?_)
 obtain⟨rfl,h2,h3,h4⟩:=hq
 exact⟨.inl ⟨.bool true,.bool true,[],rfl,fun _=>rfl,.bool true,GG l _,fun _=>⟨List.Pairwise.nil,fun _ hm=>(nomatch hm)⟩⟩,h2,h3,h4⟩
section
variable {prog:Program}{w:World}{A:Around}{E:Value->Shared->Prop}{s:Shared}{K:Frag}
end
end Zz
namespace L2
open PySem PySem.Spec PyProof.Rows
theorem yk: ∀{vs:List Value} {ns:List Int},IntsAre vs ns->Vals (ns.map V.int) vs
 |_,_,.nil=> .nil
 |_,_,.cons n t h=> .cons ⟨t,rfl⟩ (yk h)
def gH (s:Stmt):Arguments:=match s with
 | .FunctionDef _ a _ _ _ _ _ _ _ _=>a
 |_=>{posonlyargs:=[],args:=[],vararg:=none,kwonlyargs:=[],kw_defaults:=[],kwarg:=none,defaults:=[]}
def dB (s:Stmt):List Stmt:=match s with
 | .FunctionDef _ _ b _ _ _ _ _ _ _=>b
 |_=>[]
def ay (s:Stmt):Scope:=match s with
 | .FunctionDef _ _ _ _ _ _ sc _ _ _=>sc
 |_=>{kind:= .function,names:=[],isGenerator:=false,isCoroutine:=false}
abbrev sf:Gw:=fun _ _ _ _ _ _=>False
abbrev E0:XK:=fun _ _ _=>False
theorem mY {X:Cx}:Passes sf X E0:=fun _ _ _ _ _ _ _ h=>h.elim
structure gp (K:Frag)(x qual:Str)(st:Stmt)(f:Addr)(fd:FuncData):Prop where
 ex: ∃(oc:Value) (od:Option Addr) (kV doc pm:Value) (an:Option Addr) (cU ct:Value) (Gx:Array (Option Value)),
  fd=fnOf x qual (gH st) (dB st) (ay st) .none kV doc pm an cU ct/\K.lookup f=some ⟨oc,od,.func fd,Gx⟩/\codeIn K cU qual=true
 kp:keepIn K (.ref f)=true
section
variable {P:Program}{w:World}{K:Frag}{mg:Str->Option Value}{base:Heap}
theorem gp.ok {x qual:Str}{st:Stmt}{f:Addr}{fd:FuncData}{N ps:List Str}{k:Nat}{sp:Sp}(F:gp K x qual st f fd)(S:aS N ps (ay st))(len: ∀vs H Q E,sp vs H Q E->vs.length=ps.length)
  (fX: ∀(cU:Value) (A:Around) (outer:List Env) (s:Shared) (H:Hp) (vs:List V) (Q:VK) (E:XK),fb k (A.deeper (envOfC qual (ay st) s.heap.objs.size f cU))->sp vs H Q E->
   ∃t,oS (lp sf P w K mg base N qual (ay st) f cU A outer s H E).EK (dB st) t/\t {nx:=fun _ H'=>Q .eu H',rt:=Q} (start N vs) H):l0 P w K mg base sf (k + 1) f fd ps sp:=by
 obtain⟨oc,od,kV,doc,pm,an,cU,ct,Gx,rfl,lk,rK⟩:=F.ex
 refine IS lk rK S len fun A outer s H vs Q E hr y2=>?_
 obtain⟨t,h,q⟩:=fX cU A outer s H vs Q E hr y2
 exact⟨t,h.EK,q⟩
theorem gp.binds {x qual:Str}{st:Stmt}{f:Addr}{fd:FuncData}{ps:List Str}(F:gp K x qual st f fd)
  (h: ∀(kV doc pm:Value) (an:Option Addr) (cU ct:Value) (us:List Value),us.length=ps.length->bindArgs (fnOf x qual (gH st) (dB st) (ay st) .none kV doc pm an cU ct) ⟨us,[]⟩=pure (ps.zip us)):Binds K fd ps []:=by
 obtain⟨oc,od,kV,doc,pm,an,cU,ct,Gx,rfl,lk,rK⟩:=F.ex
 exact .all (h kV doc pm an cU ct)
theorem pL {x qual:Str}{st:Stmt}{f:Addr}{oc:Value}{od an:Option Addr}{Gx:Array (Option Value)}{kV doc pm cU ct:Value}(l:K.lookup f=some ⟨oc,od,.func (fnOf x qual (gH st) (dB st) (ay st) .none kV doc pm an cU ct),Gx⟩)
  (c:codeIn K cU qual=true) (k:keepIn K (.ref f)=true):gp K x qual st f (fnOf x qual (gH st) (dB st) (ay st) .none kV doc pm an cU ct):=⟨⟨oc,od,kV,doc,pm,an,cU,ct,Gx,rfl,l,c⟩,k⟩
end
theorem jM {A:Around}{k:Nat}(hr:fb k A):A.units + 1 < cLine:=qm (Nat.add_le_add_left (by decide:1<=64) _) hr.units
theorem a9 {n:Nat}(h:n<=1000):n < sizeLine:=qm h (by decide)
section
variable {X:Cx}
theorem pv (i:Nat){x:Str}{pos:Pos}(hN:X.N[i]? =some x:=by rfl)(hv:Ro X.env.scope x:=by first|exact Or.inl rfl|exact Or.inr (Or.inl rfl)|exact Or.inr (Or.inr rfl))(hd:(x == ("__debug__":Str))=false:=by decide)
  (rK:(x == ("__classdict__":Str))=false:=by decide):PE X (.Name x pos) (Rv i):=Dp hN hv hd rK
end
theorem bT {A B:Prop}(h:B):if false=true then A else B:=by
 rw[aU aW]
 exact h
theorem fG {A B:Prop}(h:A):if true=true then A else B:=by
 rw[a8 rfl]
 exact h
theorem cm {c A B:Prop}[Decidable c](h1:c->A)(h2: ¬ c->B):if c then A else B:=by
 by_cases h:c
 ·rw[a8 h]
  exact h1 h
 ·rw[aU h]
  exact h2 h
theorem Bz {c A B:Prop}[Decidable c](hc:c)(h:B):if(!decide c)=true then A else B:=by
 rw[aG hc]
 exact bT h
def aD (H H':Hp):Prop:= ∀b o,H b=some o->H' b=some o
theorem aD.refl (H:Hp):aD H H:=fun _ _ h=>h
theorem aD.trans {H H1 H2:Hp}(a:aD H H1)(b:aD H1 H2):aD H H2:=fun c o h=>b c o (a c o h)
theorem aD.free {H H':Hp}(e:aD H H'){l:Addr}(h:H' l=Option.none):H l=Option.none:=by
 cases q:H l with
 |none=>rfl
 |some o=>
  rw[e l o q] at h
  cases h
theorem aD.seq {K:Frag}{H H':Hp}{a:Addr}{xs:List V}(e:aD H H')(h:bA K H a xs):bA K H' a xs:=by
 rcases h with(h|⟨o,h⟩)|h
 ·exact .inl (.inl (e _ _ h))
 ·exact .inl (.inr ⟨o,e _ _ h⟩)
 ·exact .inr h
section
variable {X:Cx}
end
section
variable {κ:Type}[DecidableEq κ]
end
theorem GH {prog:Program}{w:World}{A:Around}{R:Result->Shared->Prop}{s:Shared}{elt target iter:Expr}{ifs:List Expr}{scope:Scope}{pos:Pos}{it acc:Value}{env:Env}(I:Nat->Shared->Prop)
  (turn: ∀n s,I n s->wpAny (model prog w) A (pyNext it) (fun r s₁=>match r with
   |none=>R (.ok .next) s₁
   |some v=>wpAny (model prog w) A (letOwnedTupleGo target it v) (fun _ ZC=>wpAny (model prog w) A (assign target env v) (fun _ s₂=>
     wpAny (model prog w) A (forIn ifs true fun c r=>if r=true then do let ok ← isTrue c env (eval c env); pure (ForInStep.yield ok) else pure (ForInStep.yield r)) (fun ok s₃=>
      if ok=true then wpAny (model prog w) A (eval elt env) (fun x s₄=>
       wpAny (model prog w) A (call (.builtin "list.append") [acc,x]) (fun _ s₅=> ∃m,m < n/\I m s₅) (fun _ _=>False) s₄) (fun _ _=>False) s₃
      else ∃m,m < n/\I m s₃) (fun _ _=>False) s₂) (fun _ _=>False) ZC) (fun _ _=>False) s₁) (fun _ _=>False) s)
  (n:Nat) (h:I n s):
  codeAny (model prog w) A (.compLoop (.ListComp elt [⟨target,iter,ifs,0⟩] scope pos) 0 it acc env) R s:=by
 refine codeAny_loop rfl I (fun n s hI=>?_) n h
 show wpAny _ A ((compTurn (.ListComp elt [⟨target,iter,ifs,0⟩] scope pos) 0 it acc env).onRaise (fun x=>do noteFrame x env; theTreesLotGoes x)) _ _ s
 refine wpAny_noted ?_
 rw[compTurn_list]
 refine aA (ir (aA (cf (turn n s hI) (fun r s₁ h₁=>?_) fun _ _ h'=>h'.elim)))
 cases r with
 |none=>exact bE h₁
 |some v=>
  refine aA (cf h₁ (fun _ ZC h₁'=>?_) fun _ _ h'=>h'.elim)
  refine aA (cf h₁' (fun _ s₂ h₂=>aA (cf h₂ (fun ok s₃ h₃=>?_) fun _ _ h'=>h'.elim)) fun _ _ h'=>h'.elim)
  cases ok with
  |false=>exact bE ⟨rfl,h₃⟩
  |true=>
   exact aA (aA (cf h₃ (fun x s₄ h₄=>aA (cf h₄ (fun _ s₅ h₅=>bE (bE ⟨rfl,h₅⟩)) fun _ _ h'=>h'.elim)) fun _ _ h'=>h'.elim))
def BA (X:Cx)(N:List Str)(scope:Scope)(cl:List (Str×Addr))(C:Addr)(s3:Shared)(H3:Hp)(fp:List Addr):Cx:=
 {X with N:=N,s₀:=s3,H₀:=H3,env:=compEnvC scope cl C X.env,outer:=X.stack,stack:=X.stack,ex:=fp,fn:=fun _=>false,pn:=[],xe:=fun _ _=>False}
def K0 (X:Cx)(ifs:List Expr)(t:TT):Prop:=
 ∀(pins:List (Addr×Obj)) (s:Shared) (σ:St) (H:Hp) (Q:Bool->Hp->Prop),Inv X pins σ H s->t σ H Q->
  wpAny (model X.prog X.w) X.A (forIn ifs true fun c r=>if r=true then do let ok ← isTrue c X.env (eval c X.env); pure (ForInStep.yield ok) else pure (ForInStep.yield r)) (TP X pins σ Q) X.xe s
def WQ:TT:=fun _ H Q=>Q true H
theorem kQ {X:Cx}:K0 X [] WQ:=fun pins s σ H Q I h=>wpAny_tests_nil ⟨H,I,h⟩
theorem mZ {X:Cx}{c:Expr}{t:TT}(h:PT X c t):K0 X [c] t:=fun pins s σ H Q I hw=>wpAny_tests_one (h pins s σ H Q I hw)
def yl (J:It)(g:TG)(tc:TT)(te:TE)(σ0:St)(H2:Hp)(Q:VK):Prop:=
 ∀D,H2 D=none-> ∃W:Nat->Nat->St->Hp->Prop,(∃m,W 0 m σ0 (upd H2 D (.lst [])))/\ ∀i m σ' H',W i m σ' H'->
  (J.stop i H'/\Q (.ref D) H')∨(J.go i H'/\ ∃N:St->Hp->Prop,(∀LM sh,N LM sh-> ∃m',m' < m/\W (i + 1) m' LM sh)/\
   ∀x sh,J.Ob i H' x sh->g x σ' sh fun σ2 H2=>tc σ2 H2 fun ok H3=>if ok=true then te σ2 H3 fun y H4=> ∃ys,H4 D=some (.lst ys)/\ys.length < sizeLine/\N σ2 (upd H4 D (.lst (ys ++ [y]))) else N σ2 H3)
structure sj (X:Cx)(scope:Scope)(cl:List (Str×Addr))(cn:List Str)(cj:List Nat):Prop where
 GI:closureFor scope X.env=pure cl
 cell: ∀y∈scope.names,y.2≠ .cell
 kind:scope.kind= .function
 names: ∀x∈scope.names,x.2= .local->scope.names.lookup x.1=some .local
 sub: ∀x c,cl.lookup x=some c->X.env.cells.lookup x=some c
 all: ∀x,((relabel scope X.env).names.lookup x=some .cell∨(relabel scope X.env).names.lookup x=some .free)-> ∃c,cl.lookup x=some c
 ZD:Paired (fun x j=>X.N[j]? =some x/\(X.env.kindOf x=some .cell∨X.env.kindOf x=some .free)/\((relabel scope X.env).names.lookup x=some .cell∨(relabel scope X.env).names.lookup x=some .free)) cn cj
theorem bI {α β:Type}{F:α->β->Prop}: ∀{l₁:List α} {l₂:List β} {i:Nat} {a:α},Paired F l₁ l₂->l₁[i]? =some a-> ∃b,l₂[i]? =some b/\F a b
 |_,_,_,_,.nil,e=>by simp at e
 |_,_,0,_,.cons r _,e=>by simp at e; subst e; exact⟨_,rfl,r⟩
 |_,_,i + 1,a,.cons _ t,e=>by
  obtain⟨b,h1,h2⟩:=bI (i:=i) (a:=a) t (by simpa using e)
  exact⟨b,by simpa using h1,h2⟩
def uZ (tn:List Str)(cj:List Nat)(σ:St):St:=tn.map (fun _=>none) ++ cj.map fun j=>(σ[j]?).join
theorem u0 {X:Cx}{pins:List (Addr×Obj)}{σ:St}{H2:Hp}{s2:Shared}{elt tg iter:Expr}{ifs:List Expr}{scope:Scope}{pos:Pos}{cl:List (Str×Addr)}{tn cn:List Str}{cj:List Nat}{g:TG}{tc:TT}{te:TE}
  {it:Addr} {fp:List Addr} {OC:Nat->Heap->Prop} {J:It} {RR:Value->Addr->Result->Shared->Prop} {E:Value->Shared->Prop} {Q:VK}
  (ym:X.calm=true) (S:sj X scope cl cn cj)
  (hg: ∀C s3 H3 fp,PG (BA X (tn ++ cn) scope cl C s3 H3 fp) tg g) (hc: ∀C s3 H3 fp,K0 (BA X (tn ++ cn) scope cl C s3 H3 fp) ifs tc) (he: ∀C s3 H3 fp,PE (BA X (tn ++ cn) scope cl C s3 H3 fp) elt te)
  (I2:Inv X pins σ H2 s2) (T:Turn X.prog X.w X.K tg J fp it OC) (Nb:OC 0 s2.heap) (f2: ∀b∈fp,uM X pins H2 b)
  (hw:yl J g tc te (uZ tn cj σ) H2 Q)
  (hRR: ∀D C (s':Shared) H' m',Inv X pins σ H' s'->uM X pins H' C->s'.heap.Ns C m'->Q (.ref D) H'->RR (.ref D) C (.ok .next) s'):
  wpAny (model X.prog X.w) X.A (newList []) (fun acc s₃=>wpAny (model X.prog X.w) X.A (newFunctionEnv scope X.env.globals cl [] X.env.qual none .none (some X.env)) (fun R9 s₄=>
   codeAny (model X.prog X.w) X.A (.compStart (.ListComp elt [⟨tg,iter,ifs,0⟩] scope pos) 0 (.ref it) acc {R9 with scope:=relabel scope X.env}) (RR acc R9.locals) s₄) E s₃) E s2:=by
 have hD0:H2 s2.heap.objs.size=none:=I2.cu.fresh (aE _)
 obtain⟨W,⟨m0,w0⟩,turn⟩:=hw _ hD0
 refine wpAny_newObj_type (wpAny_newFunctionEnv S.cell (by intro y hy; simp at hy) (fun h₁ OD OE=>?_) S.kind)
 dsimp only at OD OE ⊢
 have I3:Inv X pins σ (upd H2 s2.heap.objs.size (.lst [])) {s2 with heap:=s2.heap.push {cls:= .type "list",dict:=none,data:= .seq ([]:List Value).toArray}}:=I2.Ot (t':=s2.toks) (ys:=[]) (bZ:=[]) .nil (bh _)
 generalize Vb:s2.heap.push {cls:= .type "list",dict:=none,data:= .seq ([]:List Value).toArray}=HH at OD OE I3 ⊢
 have hC:HH.objs.size=s2.heap.objs.size + 1:=by rw[← Vb,oh]
 have old: ∀b o,HH.get? b=some o->h₁.get? b=some o:=fun b o e=>OE.extBut b o (a6 (aM e)) (ax _ e)
 have WR: ∀b o,s2.heap.get? b=some o->HH.get? b=some o:=fun b o e=>Vb▸ax _ e
 have Sa: ∀b∈fp,b < s2.heap.objs.size:=fun b hb=>by
  obtain⟨o,e,_⟩:=T.obj 0 _ Nb b hb
  exact aM e
 have Vc:(BA X (tn ++ cn) scope cl HH.objs.size {s2 with heap:=HH} (upd H2 s2.heap.objs.size (.lst [])) fp).Ok:=by
  refine⟨I3.ok.mod,S.kind,I3.ok.glob,I3.ok.blt,aE _,fun x y c h1 h2=>I3.ok.inj x y c (S.sub x c h1) (S.sub y c h2),fun x hx=>S.all x hx,fun x c z=>absurd z aW,I3.ok.hd,I3.ok.frames,.inl rfl,fun b hb=>⟨?_,fun x c e z=>?_⟩,I3.bs,?_,fun b o e hb=>?_,fun b hb z=>?_,I3.stack,I3.qx⟩
  ·show b≠HH.objs.size
   rw[hC]
   exact a6 (iT (Sa b hb))
  ·exact(f2 b hb).2.2.2.2.1 x c (S.sub x c e) z
  ·exact aZ I3.ok.Be I3.sz
  ·rcases(f2 b hb).2.2.2.1 with z|z
   ·exact I3.ok.wL b o e z
   ·have h1:b < X.base.objs.size:=aM e
    exact absurd (bg h1 (aZ I3.ok.Be z)) (iQ _)
  ·rcases aw.mp (I3.uJ b z) with z|z
   ·exact(f2 b hb).2.1 z
   ·exact(f2 b hb).2.2.1 z
 have IY:Inv (BA X (tn ++ cn) scope cl HH.objs.size {s2 with heap:=HH} (upd H2 s2.heap.objs.size (.lst [])) fp) [] (uZ tn cj σ) (upd H2 s2.heap.objs.size (.lst [])) {s2 with heap:=h₁,toks:=s2.toks + ([]:List (Str×Value)).length}:=by
  refine⟨Vc,rfl,I3.bare,Un.kept old,⟨_,OD,fun i x v e1 e2 e3=>?_⟩,fun x c e=>?_,?_,fun x c e=>I3.iM x c (S.sub x c e),fun p hp=>absurd hp (by intro z; exact nomatch z),I3.cu.kept old,?_⟩
  ·have ZE:(tn ++ cn)[i]? =some x:=e1
   by_cases hi:i < tn.length
   ·unfold uZ at e2
    rw[List.getElem?_append_left (by simpa using hi),List.getElem?_map] at e2
    cases h:tn[i]? with
    |none=>rw[h] at e2; cases e2
    |some _=>rw[h] at e2; cases e2
   ·rw[i7 (by lia)] at ZE
    obtain⟨j,hj,hN,hk,Ng⟩:=bI S.ZD ZE
    unfold uZ at e2
    rw[List.getElem?_append_right (by simpa using hi),List.getElem?_map] at e2
    simp only[List.length_map,hj,Option.map_some] at e2
    have Sb:σ[j]? =some (some v):=by
     cases h:σ[j]? with
     |none=>rw[h] at e2; cases e2
     |some q=>
      rw[h] at e2
      have Sb:q=some v:=aF e2
      rw[Sb]
    obtain⟨m,hn,hl⟩:=I3.loc
    have hv:Ro X.env.scope x:=by
     rcases hk with hk|hk
     ·exact .inr (.inl hk)
     ·exact .inr (.inr hk)
    obtain⟨u,r,l⟩:=hl j x v hN Sb hv
    refine⟨u,r,?_⟩
    rcases l with⟨k,_⟩|⟨_,c,hc,mB⟩
    ·rcases hk with hk|hk <;> (rw[k] at hk; cases hk)
    ·obtain⟨c',Ru⟩:=S.all x Ng
     have:=S.sub x c' Ru
     rw[hc] at this
     cases this
     obtain⟨o,ho,hd⟩:=mB
     exact .inr ⟨Ng,c,Ru,⟨o,old _ _ ho,hd⟩⟩
  ·obtain⟨v,o,ho,hd⟩:=I3.cell x c (S.sub x c e)
   exact⟨v,o,old _ _ ho,hd⟩
  ·exact I3.cu.fresh (aE _)
  ·show(uZ tn cj σ).length=(tn ++ cn).length
   unfold uZ
   rw[aC,aC,ae,ae,S.ZD.length]
 have ZF:OC 0 h₁:=T.keep 0 _ _ Nb fun b _ o e=>old b o (WR b o e)
 have rY: ∀{H':Hp},(∀b∈fp,H' b=none)-> ∀b∈fp,uM (BA X (tn ++ cn) scope cl HH.objs.size {s2 with heap:=HH} (upd H2 s2.heap.objs.size (.lst [])) fp) [] H' b:=fun hn b hb=>
  ⟨hn b hb,(Vc.Ln b hb).1,Vc.wM b hb,.inl hb,(Vc.Ln b hb).2,fun p hp=>absurd hp (by intro z; exact nomatch z)⟩
 have fp1: ∀b∈fp,upd H2 s2.heap.objs.size (.lst []) b=none:=fun b hb=>by
  rw[az (a6 (Sa b hb))]
  exact(f2 b hb).1
 have loop:codeAny (model X.prog X.w) X.A (.compLoop (.ListComp elt [⟨tg,iter,ifs,0⟩] scope pos) 0 (.ref it) (.ref s2.heap.objs.size) (compEnvC scope cl HH.objs.size X.env))
    (RR (.ref s2.heap.objs.size) HH.objs.size) {s2 with heap:=h₁,toks:=s2.toks + ([]:List (Str×Value)).length}:=by
  refine GH (fun n s'=> ∃i σ' H',Inv (BA X (tn ++ cn) scope cl HH.objs.size {s2 with heap:=HH} (upd H2 s2.heap.objs.size (.lst [])) fp) [] σ' H' s'/\OC i s'.heap/\(∀b∈fp,H' b=none)/\W i n σ' H') ?_ m0 ⟨0,_,_,IY,ZF,fp1,w0⟩
  rintro n s3 ⟨i,σ3,H3,J3,RJ,Lv,w3⟩
  rcases turn i n σ3 H3 w3 with⟨stop,qn⟩|⟨go,N,hN,step⟩
  ·refine dR (T.done (BA X (tn ++ cn) scope cl HH.objs.size {s2 with heap:=HH} (upd H2 s2.heap.objs.size (.lst [])) fp) rfl rfl rfl ym i [] s3 σ3 H3 _ J3 (rY Lv) RJ stop) fun r s4 ⟨hr,J4⟩=>?_
   subst hr
   obtain⟨m',Wa,_⟩:=J4.loc
   exact hRR _ _ s4 H3 m' (I3.EI (ch:=fp) J4.os J4.base J4.cu J4.bare fun b hb=>⟨(f2 b hb).2.2.2.1,(f2 b hb).2.1,(f2 b hb).2.2.2.2.1,(f2 b hb).2.2.2.2.2⟩) (I3.Dr (aE _) J4.free) Wa qn
  ·refine dR (T.item (BA X (tn ++ cn) scope cl HH.objs.size {s2 with heap:=HH} (upd H2 s2.heap.objs.size (.lst [])) fp) rfl rfl rfl ym i [] s3 σ3 H3 _ J3 (rY Lv) RJ go) fun r s4 ⟨u,hr,h4⟩=>?_
   subst hr
   refine dR h4 fun _ s5 ⟨x,H5,J5,r5,y5,Oc,QH⟩=>?_
   have J5':=J5.pinned (rY QH) (T.obj _ _ Oc)
   refine dR (hg _ _ _ _ _ s5 σ3 H5 x u _ J5' r5 (step x H5 y5)) fun _ s6 ⟨σ6,H6,J6,q6⟩=>?_
   have again: ∀{s7:Shared} {σ7:St} {H7:Hp},Inv (BA X (tn ++ cn) scope cl HH.objs.size {s2 with heap:=HH} (upd H2 s2.heap.objs.size (.lst [])) fp) ([] ++ pJ fp s5.heap) σ7 H7 s7->N σ7 H7->
     ∃m,m < n/\ ∃i σ' H',Inv (BA X (tn ++ cn) scope cl HH.objs.size {s2 with heap:=HH} (upd H2 s2.heap.objs.size (.lst [])) fp) [] σ' H' s7/\OC i s7.heap/\(∀b∈fp,H' b=none)/\W i m σ' H':=fun{s7 σ7 H7} I7 n7=>by
    obtain⟨m',hm,w7⟩:=hN σ7 H7 n7
    refine⟨m',hm,i + 1,σ7,H7,I7.jc,T.keep _ _ _ Oc fun b hb o e=>(I7.pin (b,o) (bu _ (bu _ (jL hb e)))).1,fun b hb=>?_,w7⟩
    obtain⟨o,e,d⟩:=T.obj _ _ Oc b hb
    exact(I7.pin (b,o) (bu _ (bu _ (jL hb e)))).2.1
   refine dR (hc _ _ _ _ _ s6 σ6 H6 _ J6 q6) fun ok s7 ⟨H7,J7,q7⟩=>?_
   cases ok with
   |false=>exact again J7 q7
   |true=>
    refine dR (he _ _ _ _ _ s7 σ6 H7 _ J7 q7) fun y s8 ⟨yv,H8,J8,r8,ys,hD,hz,q8⟩=>?_
    refine dR (yg _ s8 σ6 H8 (.ref s2.heap.objs.size) [yv] (.ref s2.heap.objs.size) [y] (fun _ H'=>N σ6 H') J8 rfl (.cons r8 .nil) ⟨_,ys,yv,rfl,rfl,hD,hz,q8⟩) fun _ s9 ⟨_,H9,J9,_,q9⟩=>?_
    exact again J9 q9
 exact codeAny_compStart_list loop (T.self _ 0 _ _ _ ZF loop)
def Nh (wi:TI)(tn:List Str)(cj:List Nat)(g:TG)(tc:TT)(te:TE):TE:=fun σ H Q=>wi σ H fun J H2=>yl J g tc te (uZ tn cj σ) H2 Q
theorem gq {X:Cx}{elt tg iter:Expr}{ifs:List Expr}{scope:Scope}{pos:Pos}{cl:List (Str×Addr)}{tn cn:List Str}{cj:List Nat}{wi:TI}{g:TG}{tc:TT}{te:TE}
  (ym:X.calm=true) (S:sj X scope cl cn cj) (hi:PI X tg iter wi)
  (hg: ∀C s3 H3 fp,PG (BA X (tn ++ cn) scope cl C s3 H3 fp) tg g) (hc: ∀C s3 H3 fp,K0 (BA X (tn ++ cn) scope cl C s3 H3 fp) ifs tc) (he: ∀C s3 H3 fp,PE (BA X (tn ++ cn) scope cl C s3 H3 fp) elt te)
  (hs: ∀x,foldedSetIterable iter X.env x=pure x:=by intro _; rfl):
  PE X (.ListComp elt [⟨tg,iter,ifs,0⟩] scope pos) (Nh wi tn cj g tc te):=by
 intro pins s σ H Q I h
 rw[eval_ListComp]
 refine wpAny_comprehension_free (use:=none) rfl hs S.GI S.kind S.names (dR (hi pins s σ H _ I h) fun v s1 h1=>dR h1 fun U7 s2 h2=>?_)
 obtain⟨it,fp,OC,J,H2,e,I2,T,Nb,f2,hw⟩:=h2
 subst e
 refine u0 (RR:=fun acc C=>compPost (model X.prog X.w) X.A X.xe none (EP X pins σ Q) acc C) ym S hg hc he I2 T Nb f2 hw ?_
 intro D C s' H' m' I' GJ hn q
 exact⟨m',hn,fun h' LN=>⟨.ref D,H',I'.turned (t':=s'.toks) (fun b o hb e=>(LN.2 b hb).trans e) GJ.1 GJ.2.1 GJ.2.2.2.1 GJ.2.2.2.2.1 GJ.2.2.2.2.2,rfl,q⟩⟩
theorem jN {X:Cx}{i:Nat}{y:Str}{py Sd:Pos}{elt tg iter:Expr}{ifs:List Expr}{scope:Scope}{pos:Pos}{cl:List (Str×Addr)}{tn cn:List Str}{cj:List Nat}{wi:TI}{g:TG}{tc:TT}{te:TE}
  (hN:X.N.Nodup) (hy:X.N[i]? =some y) (hx:Loc X.env.scope y)
  (ym:X.calm=true) (S:sj X scope cl cn cj) (hi:PI X tg iter wi)
  (hg: ∀C s3 H3 fp,PG (BA X (tn ++ cn) scope cl C s3 H3 fp) tg g) (hc: ∀C s3 H3 fp,K0 (BA X (tn ++ cn) scope cl C s3 H3 fp) ifs tc) (he: ∀C s3 H3 fp,PE (BA X (tn ++ cn) scope cl C s3 H3 fp) elt te)
  (WS:swapsWith (.ListComp elt [⟨tg,iter,ifs,0⟩] scope pos) (some (.Name y py)) Sd.line X.env=pure true:=by rfl)
  (hs: ∀x,foldedSetIterable iter X.env x=pure x:=by intro _; rfl)
  (hf:X.fn y=true∨X.env.scope.names.lookup y=some .local:=by first|exact .inl rfl|exact .inr rfl|assumption):
  PS X (.Assign [.Name y py] (.ListComp elt [⟨tg,iter,ifs,0⟩] scope pos) Sd) (Lr (Nh wi tn cj g tc te) (Bm i)):=by
 intro pins s σ H D I h
 rw[exec_Assign_Name_used _ _ _ _ WS]
 refine aA (ir (aA ?_))
 show wpAny _ X.A (do let _ ← comprehension (.ListComp elt [⟨tg,iter,ifs,0⟩] scope pos) scope X.env _ (newList []) false (eval iter X.env) (some (assign (.Name y py) X.env))) _ _ s
 refine aA (cf (wpAny_comprehension_free (use:=some (assign (.Name y py) X.env)) (Q:=fun _ s'=>SP X pins D .next s') rfl hs S.GI S.kind S.names
  (dR (hi pins s σ H _ I h) fun v s1 h1=>dR h1 fun U7 s2 h2=>?_)) (fun _ s' hq=>bE (bE hq)) fun _ _ e=>e)
 obtain⟨it,fp,OC,J,H2,e,I2,T,Nb,f2,hw⟩:=h2
 subst e
 refine u0 (RR:=fun acc C=>compPost (model X.prog X.w) X.A X.xe (some (assign (.Name y py) X.env)) (fun _ s'=>SP X pins D .next s') acc C) ym S hg hc he I2 T Nb f2 hw ?_
 intro D' C s' H' m' I' GJ hn q
 show wpAny _ X.A (assign (.Name y py) X.env (.ref D')) _ _ _
 refine wpAny_assign_Name (xY I' hN hy hx (v:= .ref D') rfl (fun ET I'' ⟨a,sb,ha⟩=>?_) hf)
 have hCa:C≠a:=by
  rcases ha with rfl|ha
  ·exact GJ.2.1
  ·exact fun z=>GJ.2.2.2.2.1 y a ha z.symm
 refine⟨m',hn.sameBut sb hCa,fun h3 Je=>⟨_,H',I''.turned (t':=ET.toks) (fun b o hb e=>(Je.2 b hb).trans e) GJ.1 GJ.2.1 GJ.2.2.2.1 GJ.2.2.2.2.1 GJ.2.2.2.2.2,q⟩⟩
theorem dO {K:Frag}{a:Addr}{xs:List V}{g:TG}{tc:TT}{te:TE}{σ0:St}{H2:Hp}{Q:VK}(Pv:Addr->Nat->St->Hp->Prop)(h0: ∀D,H2 D=none->Pv D 0 σ0 (upd H2 D (.lst [])))
  (hl: ∀D i σ H,i<=xs.length->Pv D i σ H->bA K H a xs)
  (hs: ∀D i x σ H,xs[i]? =some x->Pv D i σ H->g x σ H fun σ2 H2=>tc σ2 H2 fun ok H3=>if ok=true then te σ2 H3 fun y H4=> ∃ys,H4 D=some (.lst ys)/\ys.length < sizeLine/\Pv D (i + 1) σ2 (upd H4 D (.lst (ys ++ [y]))) else Pv D (i + 1) σ2 H3)
  (hd: ∀D σ H,H2 D=none->Pv D xs.length σ H->Q (.ref D) H):yl (QG K a) g tc te σ0 H2 Q:=by
 intro D hD
 refine⟨fun i m σ H=>m=xs.length - i/\i<=xs.length/\Pv D i σ H,⟨xs.length,by simp,Nat.zero_le _,h0 D hD⟩,?_⟩
 rintro i m σ H ⟨rfl,hi,p⟩
 have q:=hl D i σ H hi p
 by_cases iu:i < xs.length
 ·refine .inr ⟨⟨xs,xs[i],q,by simp[iu]⟩,Pv D (i + 1),fun σ' H' p'=>⟨xs.length - (i + 1),by lia,rfl,iu,p'⟩,fun x H' y=>?_⟩
  obtain⟨e,y⟩:=y
  subst e
  exact hs D i x σ _ (y xs q) p
 ·have e:i=xs.length:=by lia
  subst e
  exact .inl ⟨⟨xs,q,aE _⟩,hd D σ H hD p⟩
theorem BB {K:Frag}{a:Addr}{xs:List V}{g:TG}{tc:TT}{te:TE}{σ0:St}{H2:Hp}{Q:VK}(Pv:Addr->Nat->St->Hp->Prop)(h0: ∀D,H2 D=none->Pv D 0 σ0 (upd H2 D (.lst [])))
  (hl: ∀D i σ H,i<=xs.length->Pv D i σ H->cg K H a xs)
  (hs: ∀D i x σ H,xs[i]? =some x->Pv D i σ H->g x σ H fun σ2 H2=>tc σ2 H2 fun ok H3=>if ok=true then te σ2 H3 fun y H4=> ∃ys,H4 D=some (.lst ys)/\ys.length < sizeLine/\Pv D (i + 1) σ2 (upd H4 D (.lst (ys ++ [y]))) else Pv D (i + 1) σ2 H3)
  (hd: ∀D σ H,H2 D=none->Pv D xs.length σ H->Q (.ref D) H):yl (Wm K a) g tc te σ0 H2 Q:=by
 intro D hD
 refine⟨fun i m σ H=>m=xs.length - i/\i<=xs.length/\Pv D i σ H,⟨xs.length,by simp,Nat.zero_le _,h0 D hD⟩,?_⟩
 rintro i m σ H ⟨rfl,hi,p⟩
 have q:=hl D i σ H hi p
 by_cases iu:i < xs.length
 ·refine .inr ⟨⟨xs,xs[i],q,by simp[iu]⟩,Pv D (i + 1),fun σ' H' p'=>⟨xs.length - (i + 1),by lia,rfl,iu,p'⟩,fun x H' y=>?_⟩
  obtain⟨e,y⟩:=y
  subst e
  exact hs D i x σ _ (y xs q) p
 ·have e:i=xs.length:=by lia
  subst e
  exact .inl ⟨⟨xs,q,aE _⟩,hd D σ H hD p⟩
theorem DI {lo:Int}{n:Nat}{g:TG}{tc:TT}{te:TE}{σ0:St}{H2:Hp}{Q:VK}(Pv:Addr->Nat->St->Hp->Prop)(h0: ∀D,H2 D=none->Pv D 0 σ0 (upd H2 D (.lst [])))
  (hs: ∀D i σ H,i < n->Pv D i σ H->g (.int (lo + i)) σ H fun σ2 H2=>tc σ2 H2 fun ok H3=>if ok=true then te σ2 H3 fun y H4=> ∃ys,H4 D=some (.lst ys)/\ys.length < sizeLine/\Pv D (i + 1) σ2 (upd H4 D (.lst (ys ++ [y]))) else Pv D (i + 1) σ2 H3)
  (hd: ∀D σ H,H2 D=none->Pv D n σ H->Q (.ref D) H):yl (Ls lo n) g tc te σ0 H2 Q:=by
 intro D hD
 refine⟨fun i m σ H=>m=n - i/\i<=n/\Pv D i σ H,⟨n,by simp,Nat.zero_le _,h0 D hD⟩,?_⟩
 rintro i m σ H ⟨rfl,hi,p⟩
 by_cases iu:i < n
 ·refine .inr ⟨iu,Pv D (i + 1),fun σ' H' p'=>⟨n - (i + 1),by lia,rfl,iu,p'⟩,fun x H' y=>?_⟩
  obtain⟨e,y⟩:=y
  subst e y
  exact hs D i σ _ iu p
 ·have e:i=n:=by lia
  subst e
  exact .inl ⟨aE _,hd D σ H hD p⟩
theorem Inv.DJ {X:Cx}{pins:List (Addr×Obj)}{σ:St}{H:Hp}{s:Shared}{h':Heap}{a:Addr}{o:HO}{t':Nat}{ch:List Addr}(I:Inv X pins σ H s)(k: ∀b ob,b∉ch->s.heap.get? b=some ob->h'.get? b=some ob)
  (Bf: ∀b∈ch,uM X pins H b) (hp:s.heap.objs.size<=a) (new:dA X.prog X.w (upd H a o) h' a o):Inv X pins σ (upd H a o) {s with heap:=h',toks:=t'}:=by
 have hn:H a=none:=I.cu.fresh hp
 have Rt: ∀b u,H b=some u->b∉ch:=fun b u e z=>by rw[(Bf b z).1] at e; cases e
 refine I.step (g':=s.gens) (d':=s.drawn) (ch:=ch) (fun b hb=>⟨(Bf b hb).2.2.2.1,(Bf b hb).2.1,(Bf b hb).2.2.2.2.1,(Bf b hb).2.2.2.2.2⟩) (fun b ob _ _ hc e _=>k b ob hc e) (fun b ob _ _ hc e _=>⟨ob.slots,k b ob hc e⟩)
  (fun b ob _ e n=>by rw[az (a6 (bg (aM e) hp))]; exact n)
  (fun b ob hc e=>⟨ob,k b ob hc e⟩) (fun b xs e=>by rw[az (aJ e hn)]; exact e) (fun b ob u e=>by rw[az (aJ e hn)]; exact e) (fun b ps e=>⟨#[],by rw[az (aJ e hn),e]; simp⟩) (fun m hm=>?_) (fun b u e=>?_) I.bare
 ·obtain⟨ob,es,ep,ho,r⟩:=hm
  exact⟨ob,es,ep,k _ ob (fun z=>(Bf _ z).2.1 rfl) ho,r⟩
 ·by_cases hb:b=a
  ·subst hb
   rw[ag] at e
   cases e
   exact new
  ·rw[az hb] at e
   refine(I.cu b u e).tT (fun c v hc q=>k c v ?_ q) (fun c q=>by rw[az (aJ q hn)]; exact q) fun c xs q=>by rw[az (aJ q hn)]; exact q
   rcases hc with z|z
   ·rw[z]; exact Rt b u e
   ·exact Rt c _ z
def Se (K:Frag)(a:Addr):It:=
 ⟨fun i H=> ∃xs x,bA K H a xs/\xs[i]? =some x,fun i H x H'=> ∃p y,H p=none/\x= .ref p/\H'=upd H p (.tup [.int i,y])/\ ∀xs,bA K H a xs->xs[i]? =some y,fun i H=> ∃xs,bA K H a xs/\xs.length<=i⟩
theorem GK {P:Program}{w:World}{K:Frag}{elts:List Expr}{k1}{pos:Pos}(a e it:Addr)(je:e≠it):Turn P w K (.Tuple elts k1 pos) (Se K a) [e,it] e (fun i h=>(∃old,IsEnum h e it i old)/\h.IsListIter it a i) where
 mem:=by simp
 obj:=fun i h st b hb=>by
  obtain⟨⟨old,he⟩,hit⟩:=st
  have e1:b=e∨b=it:=by simpa using hb
  rcases e1 with rfl|rfl
  ·exact⟨_,he,fun v z=>by have z':Data.fields _ =Data.cell v:=z; cases z'⟩
  ·obtain⟨o,e,c,d⟩:=hit
   exact⟨o,e,fun v z=>by rw[d] at z; cases z⟩
 keep:=fun i h h' st k=>by
  obtain⟨⟨old,he⟩,hit⟩:=st
  exact⟨⟨old,k e (by simp) _ he⟩,hit.at fun o e=>k it (by simp) o e⟩
 item:=by
  intro X hP hw hK hc i pins s σ H E I hf st hg
  subst hP hw hK
  obtain⟨⟨old,he⟩,hit⟩:=st
  obtain⟨xs,x,hq,hx⟩:=hg
  obtain⟨bZ,rv,p,hz⟩:=I.list hq
  obtain⟨u,hu,ru⟩:=rv.get hx
  refine wpAny_pyNext_enum_item he hit p.isList (x:=u) (by simpa using hu) je fun h' ho WT hT hsz hk=>⟨_,rfl,?_⟩
  refine wpAny_letOwnedTupleGo_enum ho fun h2 he2 Lu=>?_
  have iu:e < s.heap.objs.size:=aM he
  have GL:h2.get? s.heap.objs.size=some {cls:= .type "tuple",data:= .seq #[.int i s.toks,u]}:=(Lu.2 _ (qj iu)).trans hT
  have hn:H s.heap.objs.size=none:=I.cu.fresh (aE _)
  have I2:Inv X pins σ (upd H s.heap.objs.size (.tup [.int i,x])) {s with heap:=h2,toks:=s.toks + 1}:=by
   refine I.DJ (ch:=[e,it]) (fun b ob hb q=>?_) hf (aE _) ⟨by show 2<=sizeLine; decide,[.int i s.toks,u],.cons ⟨_,rfl⟩ (.cons ru .nil),⟨_,GL,rfl,_,rfl⟩⟩
   have E3:b≠e/\b≠it:=⟨fun z=>hb (by simp[z]),fun z=>hb (by simp[z])⟩
   exact(Lu.2 b E3.1).trans (hk b ob E3.1 E3.2 q)
  refine⟨.ref s.heap.objs.size,_,I2,rfl,⟨_,x,hn,rfl,rfl,fun ys hy=>by rw[I.Bl hy hq]; exact hx⟩,⟨⟨u,by simpa using he2⟩,WT.at fun o q=>(Lu.2 it je.symm).trans q⟩,fun b hb=>?_⟩
  have Vd:=hf b hb
  rw[az]
  ·exact Vd.1
  ·have e1:b=e∨b=it:=by simpa using hb
   rcases e1 with rfl|rfl
   ·exact a6 iu
   ·obtain⟨o,q,_⟩:=hit
    exact a6 (aM q)
 done:=by
  intro X hP hw hK hc i pins s σ H E I hf st hg
  subst hP hw hK
  obtain⟨⟨old,he⟩,hit⟩:=st
  obtain⟨xs,hq,hx⟩:=hg
  obtain⟨bZ,rv,p,hz⟩:=I.list hq
  obtain⟨f0,f1,f2,f3,f4,f5⟩:=hf it (by simp)
  have hl:=rv.length
  exact wpAny_pyNext_enum_end (I.ok.hd hc) he hit p.isList (by simp; lia) fun h' eb=>⟨rfl,I.turned (t':=s.toks) (fun b o hb e=>eb b o hb e) f0 f1 f3 f4 f5⟩
 self:=fun _ _ _ _ _ st h=>by
  obtain⟨⟨old,he⟩,hit⟩:=st
  exact wpAny_pyIter_enum he h
def Sf (K:Frag)(ta:TA):TI:=fun σ H R=>ta σ H fun vs H1=> ∃a,vs=[.ref a]/\(∃xs,bA K H1 a xs)/\R (Se K a) H1
theorem qG {X:Cx}{elts:List Expr}{k1}{Of:Pos}{l:Expr}{ta:TA}{p pos:Pos}(hg:Gl X "enumerate")(hm:X.mg "enumerate"=none)(ha:PA X [l] ta)(hs:starEach [l] X.env=[(false,eval l X.env)]:=by rfl):
  PI X (.Tuple elts k1 Of) (.Call (.Name "enumerate" p) [l] [] pos) (Sf X.K ta):=by
 intro pins s σ H R I h
 refine Call_ (lX I hg hm boot_enumerate (fN (dR (ha pos pins s σ H _ I h) fun us s1 ⟨vs,H1,I1,r1,q1⟩=>?_) hs rfl))
 obtain⟨a,e,⟨xs,hq⟩,q⟩:=q1
 subst e
 obtain⟨u,rfl,ru⟩:=vals1 r1
 cases ru
 obtain⟨bZ,rv,pl,hz⟩:=I1.list hq
 refine call_enumerate_list pl.isList fun h' he hit hsz kp=>?_
 have I2:Inv X pins σ H1 {s1 with heap:=h'}:=I1.kept (t':=s1.toks) kp
 refine wpAny_pyIter_enum he ⟨s1.heap.objs.size + 1,[s1.heap.objs.size + 1,s1.heap.objs.size],_,_,H1,rfl,I2,GK a _ _ (Nat.succ_ne_self _),⟨⟨_,he⟩,hit⟩,fun b hb=>?_,q⟩
 have e1:b=s1.heap.objs.size + 1∨b=s1.heap.objs.size:=by simpa using hb
 have E3:s1.heap.objs.size<=b:=by
  rcases e1 with rfl|rfl
  ·exact dI _
  ·exact aE _
 exact I1.Dr E3 (I1.cu.fresh E3)
theorem m8 {K:Frag}{a:Addr}{xs:List V}{g:TG}{tb:TS}{D:Ends}{σ:St}{H:Hp}(Pv:Nat->St->Hp->Prop)(h0:Pv 0 σ H)(hl: ∀i σ H,i<=xs.length->Pv i σ H->bA K H a xs)
  (hs: ∀i x p σ H,xs[i]? =some x->H p=none->Pv i σ H->g (.ref p) σ (upd H p (.tup [.int i,x])) fun σ2 H2=>tb {D with nx:=Pv (i + 1),ct:=Pv (i + 1),bk:=D.nx} σ2 H2) (hd: ∀σ H,Pv xs.length σ H->D.nx σ H):
  ∃W:Nat->Nat->St->Hp->Prop,(∃m,W 0 m σ H)/\ ∀i m σ H,W i m σ H->
   ((Se K a).stop i H/\D.nx σ H)∨((Se K a).go i H/\ ∃N:St->Hp->Prop,(∀σ' H',N σ' H'-> ∃m',m' < m/\W (i + 1) m' σ' H')/\ ∀x H',(Se K a).Ob i H x H'->g x σ H' fun σ2 H2=>tb {D with nx:=N,ct:=N,bk:=D.nx} σ2 H2):=by
 refine⟨fun i m σ H=>m=xs.length - i/\i<=xs.length/\Pv i σ H,⟨xs.length,by simp,Nat.zero_le _,h0⟩,?_⟩
 rintro i m σ H ⟨rfl,hi,p⟩
 have q:=hl i σ H hi p
 by_cases iu:i < xs.length
 ·refine .inr ⟨⟨xs,xs[i],q,by simp[iu]⟩,Pv (i + 1),fun σ' H' p'=>⟨xs.length - (i + 1),by lia,rfl,iu,p'⟩,fun x H' y=>?_⟩
  obtain⟨pp,y,h1,e1,e2,h2⟩:=y
  subst e1 e2
  exact hs i y pp σ _ (h2 xs q) h1 p
 ·have e:i=xs.length:=by lia
  subst e
  exact .inl ⟨⟨xs,q,aE _⟩,hd σ H p⟩
structure eM (P:Program)(w:World)(K:Frag)(mg:Str->Option Value)(base:Heap)(x:Str)(k:Nat)(ps:List Str)(sp:Sp):Prop where
 ex: ∃(f:Addr) (fd:FuncData),l0 P w K mg base sf k f fd ps sp/\mg x=some (.ref f)/\keepIn K (.ref f)=true/\Binds K fd ps []
section
variable {X:Cx}{x:Str}{k:Nat}{ps:List Str}{sp:Sp}{e:Expr}{es:List Expr}{t:TA}{p pos:Pos}
theorem Sg (C:eM X.prog X.w X.K X.mg X.base x k ps sp)(hr:fb k X.A)(hg:Gl X x)(ha:PA X (e :: es) t)(qB:(x == ("__debug__":Str))=false:=by decide)
  (he:starEach (e :: es) X.env=(false,eval e X.env) :: starEach es X.env:=by rfl) (gQ:(backTo pos (starEach es X.env)).any (·.1)=false:=by rfl):PE X (.Call (.Name x p) (e :: es) [] pos) (uQ sp [] E0 t):=by
 obtain⟨f,fd,F,hm,hk,hb⟩:=C.ex
 exact ES F hr hg hm hk hb .nil mY ha qB he gQ
theorem Jf (C:eM X.prog X.w X.K X.mg X.base x k ps sp)(hr:fb k X.A)(hg:Gl X x)(qB:(x == ("__debug__":Str))=false:=by decide):PE X (.Call (.Name x p) [] [] pos) (uQ sp [] E0 DA):=by
 obtain⟨f,fd,F,hm,hk,hb⟩:=C.ex
 exact IP F hr hg hm hk hb .nil mY qB
end
structure Df (K:Frag)(mg:Str->Option Value)(x:Str)(st:Stmt):Prop where
 ex: ∃(f:Addr) (fd:FuncData),gp K x x st f fd/\mg x=some (.ref f)
theorem Df.cal {P:Program}{w:World}{K:Frag}{mg:Str->Option Value}{base:Heap}{x:Str}{st:Stmt}{N ps:List Str}{k:Nat}{sp:Sp}(D:Df K mg x st)(S:aS N ps (ay st))
  (hb: ∀(kV doc pm:Value) (an:Option Addr) (cU ct:Value) (us:List Value),us.length=ps.length->bindArgs (fnOf x x (gH st) (dB st) (ay st) .none kV doc pm an cU ct) ⟨us,[]⟩=pure (ps.zip us))
  (len: ∀vs H Q E,sp vs H Q E->vs.length=ps.length)
  (fX: ∀(f:Addr) (cU:Value) (A:Around) (outer:List Env) (s:Shared) (H:Hp) (vs:List V) (Q:VK) (E:XK),fb k (A.deeper (envOfC x (ay st) s.heap.objs.size f cU))->sp vs H Q E->
   ∃t,oS (lp sf P w K mg base N x (ay st) f cU A outer s H E).EK (dB st) t/\t {nx:=fun _ H'=>Q .eu H',rt:=Q} (start N vs) H):eM P w K mg base x (k + 1) ps sp:=by
 obtain⟨f,fd,F,hm⟩:=D.ex
 exact⟨f,fd,F.ok S len (fX f),hm,F.kp,F.binds hb⟩
theorem zl {X:Cx}{scope:Scope}(xZ: ∀y∈scope.names,y.2≠ .free:=by decide +kernel)(mB: ∀y∈scope.names,y.2≠ .cell:=by decide +kernel)(mT:scope.kind= .function:=by rfl)(u5: ∀x∈scope.names,x.2= .local->scope.names.lookup x.1=some .local:=by decide +kernel):sj X scope [] [] []:=by
 have e:(relabel scope X.env).names=scope.names:=map_eq_self (l:=scope.names) (fun x hx=>by
  obtain⟨n,k⟩:=x
  have:(k == NameKind.free)=false:=by simpa using xZ _ hx
  simp[this])
 refine⟨closureFor_none xZ,mB,mT,u5,fun x c h=>by simp at h,fun x h=>?_,.nil⟩
 rw[e] at h
 rcases h with h|h
 ·exact absurd rfl (mB _ (b9 h))
 ·exact absurd rfl (xZ _ (b9 h))
theorem gY {X:Cx}{scope:Scope}{x:Str}{c:Addr}{j:Nat}(GI:closureFor scope X.env=pure [(x,c)]:=by rfl)(mB: ∀y∈scope.names,y.2≠ .cell:=by decide +kernel)(mT:scope.kind= .function:=by rfl)(u5: ∀x∈scope.names,x.2= .local->scope.names.lookup x.1=some .local:=by decide +kernel)
  (hx:X.env.cells.lookup x=some c:=by rfl) (zo:List (Str×NameKind)) (Sh:(relabel scope X.env).names=zo:=by rfl) (BC: ∀y∈zo,(y.2= .cell∨y.2= .free)->y.1=x:=by decide +kernel) (hN:X.N[j]? =some x:=by rfl) (hk:X.env.kindOf x=some .cell∨X.env.kindOf x=some .free:=by exact Or.inl rfl)
  (Ng:(relabel scope X.env).names.lookup x=some .cell∨(relabel scope X.env).names.lookup x=some .free:=by exact Or.inl rfl):sj X scope [(x,c)] [x] [j]:=by
 refine⟨GI,mB,mT,u5,fun y c' h=>?_,fun y h=>?_,.cons ⟨hN,hk,Ng⟩ .nil⟩
 ·have h':=b9 h
  have e:(y,c')=(x,c):=by simpa using h'
  cases e
  exact hx
 ·have e:y=x:=by
   rcases h with h|h
   ·rw[Sh] at h
    exact BC _ (b9 h) (.inl rfl)
   ·rw[Sh] at h
    exact BC _ (b9 h) (.inr rfl)
  subst e
  exact⟨c,by simp[List.lookup_cons]⟩
section
variable {X:Cx}
def Sk (i j:Int):Prop:=Builtin.Int.intBits i<=2 ^ 20/\Builtin.Int.intBits j<=2 ^ 20
theorem LO:oF X (binaryOp .Mult) (rI Sk fun i j=> .int (i * j)):=RK fun _ _ _ _ _ _ _ hc q=>mul_int q (.of_bits hc.1 hc.2)
end
section
variable {prog:Program}{w:World}{A:Around}{E:Value->Shared->Prop}{s:Shared}
end
section
variable {X:Cx}
theorem eQ:iN X (.builtin "isinstance") (fun xs H Q=> ∃x c t b,xs=[x,.ty c]/\mS X.K H x t/\PySem.W.kitOne X.K t (.type c)=some b/\Q (.bl b) H):=by
 intro pins s σ H xs us Q I r h
 obtain⟨x,c,t,b,rfl,ty,e,q⟩:=h
 obtain⟨u,u2,rfl,r1,r2⟩:=vals2 r
 obtain rfl:u2=Value.type c:=r2
 exact Gv I r1 ty e fun tk=>⟨.bl b,H,I.tok _,rfl,q⟩
theorem E4: ∀{cs:List String} {us:List Value},Vals (cs.map V.ty) us->us=cs.map Value.type
 |[],_,r=>by rw[qk] at r; cases r; rfl
 |c :: cs,_,r=>by
  rw[de] at r
  cases r with
  |cons r1 r2=>
   have e1:_ =Value.type c:=r1
   rw[e1,E4 r2,de]
theorem DK {pins:List (Addr×Obj)}{σ:St}{H:Hp}{s:Shared}{A:Around}{E:Value->Shared->Prop}{Q:Value->Shared->Prop}{x:V}{u t:Value}{tp:Addr}{cs:List String}{b:Bool}(I:Inv X pins σ H s)(rx:RelV x u)(ty:mS X.K H x t)
  (hp:H tp=some (.tup (cs.map V.ty))) (e:PySem.W.kitAny X.K t (cs.map Value.type)=some b) (h: ∀tk,Q (.bool b) {s with toks:=tk}):
  wpAny (model X.prog X.w) A (call (.builtin "isinstance") [u,.ref tp]) Q E s:=by
 obtain⟨_,bZ,rv,⟨cl,dd,dt,sl⟩,hg,hc,n,hd⟩:=(show dA X.prog X.w H s.heap tp (.tup (cs.map V.ty)) from I.cu tp _ hp)
 have ei:=E4 rv
 subst ei
 simp only at hc hd
 subst hc hd
 cases ty with
 |eu=>cases(show u=Value.none from rx); exact ej PySem.W.kitx_none I.gO True.intro hg e (fun z=>nomatch z) h
 |bl y=>cases(show u=Value.bool y from rx); exact ej PySem.W.kitx_bool I.gO True.intro hg e (fun z=>nomatch z) h
 |int i=>obtain⟨t,q⟩:=(show ∃t,u=Value.int i t from rx); cases q; exact ej PySem.W.kitx_int I.gO True.intro hg e (fun z=>nomatch z) h
 |str y=>obtain⟨t,q⟩:=(show ∃t,u=Value.str y t from rx); cases q; exact ej PySem.W.kitx_str I.gO True.intro hg e (fun z=>nomatch z) h
 |Lk y=>obtain⟨t,q⟩:=(show ∃t,u=Value.float y t from rx); cases q; exact ej PySem.W.kitx_float I.gO True.intro hg e (fun z=>nomatch z) h
 | @lst a xs ea=>
  cases(show u=Value.ref a from rx)
  obtain⟨_,_,n,_,h1⟩:=(show dA X.prog X.w H s.heap a (.lst xs) from I.cu a _ ea)
  exact ej rO I.gO ⟨_,h1,rfl⟩ hg e (fun z=>nomatch z) h
 | @C9 a ob xs ea=>
  cases(show u=Value.ref a from rx)
  obtain⟨_,_,_,n,_,h1⟩:=(show dA X.prog X.w H s.heap a (.C9 ob (.lst xs)) from I.cu a _ ea)
  exact ej rO I.gO ⟨_,h1,rfl⟩ hg e (fun z=>nomatch z) h
 | @tup a xs ea=>
  cases(show u=Value.ref a from rx)
  obtain⟨_,_,_,p⟩:=(show dA X.prog X.w H s.heap a (.tup xs) from I.cu a _ ea)
  obtain⟨o,h1,h2,_⟩:=p
  exact ej PySem.W.kitx_tuple I.gO ⟨o,h1,h2⟩ hg e (fun z=>nomatch z) h
 | @dK a bc ea=>
  cases(show u=Value.ref a from rx)
  obtain⟨_,_,vs,_,p⟩:=(show dA X.prog X.w H s.heap a (.dK bc) from I.cu a _ ea)
  obtain⟨o,es,ep,h1,h2,_⟩:=p
  exact ej rP I.gO ⟨o,h1,h2.1⟩ hg e (fun z=>nomatch z) h
 | @dT a bc ea=>
  cases(show u=Value.ref a from rx)
  obtain⟨_,_,xs,_,o,es,ep,h1,h2,_⟩:=(show dA X.prog X.w H s.heap a (.dT bc) from I.cu a _ ea)
  exact ej rP I.gO ⟨o,h1,h2.1⟩ hg e (fun z=>nomatch z) h
 | @ins a C dx fs ea cl ha hn lT hm=>
  cases(show u=Value.ref a from rx)
  obtain⟨mA,O,_⟩:=qz I.cu ea
  obtain⟨od,J,_⟩:=O.look
  exact ej (PySem.W.kitx_own (cl.get _) cl.hd ha hn lT hm) I.gO J hg e (fun z=>nomatch z) h
theorem DM:iN X (.builtin "isinstance") (fun xs H Q=> ∃(x:V) (tp:Addr) (cs:List String) (t:Value) (b:Bool),xs=[x,.ref tp]/\H tp=some (.tup (cs.map V.ty))/\mS X.K H x t/\PySem.W.kitAny X.K t (cs.map Value.type)=some b/\Q (.bl b) H):=by
 intro pins s σ H xs us Q I r h
 obtain⟨x,tp,cs,t,b,rfl,hp,ty,e,q⟩:=h
 obtain⟨u,u2,rfl,r1,r2⟩:=vals2 r
 obtain rfl:u2=Value.ref tp:=r2
 exact DK I r1 ty hp e fun tk=>⟨.bl b,H,I.tok _,rfl,q⟩
def OF (K:Frag):R2:=fun x y H Q=> ∃a b xs,x= .ref a/\y= .ref b/\bA K H a xs/\bA K H b []/\Q (.bl (!xs.isEmpty)) H
theorem Jg {n:Nat}(hu:X.A.units + n < cLine):oF X (compareOp .NotEq) (OF X.K):=by
 intro pins s σ H x y v u Q I rx ry h
 obtain⟨a,b,xs,rfl,rfl,ha,hb,q⟩:=h
 cases rx
 cases ry
 obtain⟨bZ,r1,p1,_⟩:=I.list ha
 obtain⟨Gz,r2,p2,_⟩:=I.list hb
 have e2:Gz=[]:=r2.zero
 subst e2
 cases xs with
 |nil=>
  have e1:bZ=[]:=r1.zero
  subst e1
  exact SeqAt.RcNeAt.lists (e:=fun _=>true) p1.isList p2.isList rfl (by lia) (fun j h1 _=>absurd h1 (by simp)) X.prog X.w X.xe _ ⟨.bl false,H,I,rfl,q⟩
 |cons z zs=>
  have l1:=r1.length
  exact SeqAt.RcNeAt.lists_lengths p1.isList p2.isList (by simp only[List.size_toArray,← l1]; simp) (by lia) X.prog X.w X.xe _ ⟨.bl true,H,I,rfl,q⟩
def WU (K:Frag):R2:=fun x y H Q=> ∃p xs i v,x= .ref p/\y= .int i/\(bA K H p xs∨cg K H p xs)/\se xs i=some v/\Q v H
theorem Ni:IU X (WU X.K):=by
 intro value slice pins s σ H x y v u Q I rx ry h hs
 obtain⟨p,xs,i,z,e1,e2,hq|hq,he,q⟩:=h
 ·exact zd value slice pins s σ H x y v u Q I rx ry ⟨p,xs,i,z,e1,e2,hq,he,q⟩ hs
 ·exact DD value slice pins s σ H x y v u Q I rx ry ⟨p,xs,i,z,e1,e2,hq,he,q⟩ hs
end
theorem aD.new {H:Hp}{p:Addr}{o:HO}(h:H p=none):aD H (upd H p o):=fun b u e=>by rw[az (aJ e h)]; exact e
def WV (t u:TS):TS:=fun D σ H=> ∃M:St->Hp->Prop,t {D with nx:=M} σ H/\ ∀σ' H',M σ' H'->u D σ' H'
theorem iw {X:Cx}{st:Stmt}{rest:List Stmt}{t u:TS}(h1:PS X st t)(h2:oS X rest u):oS X (st :: rest) (WV t u):=by
 intro pins s σ H D I ⟨M,h,hM⟩
 refine wpAny_execs_cons (dR (h1 pins s σ H {D with nx:=M} I h) fun f s1 q=>?_)
 cases f with
 |next=>
  obtain⟨σ',H',I',q⟩:=q
  exact h2 pins s1 σ' H' D I' (hM _ _ q)
 |ret v=>exact q
 |brk=>exact q
 |cont=>exact q
section
variable {X:Cx}{K:Frag}
theorem ly (h:X.K=K):IU X (Oi K):=by subst h; exact zd
theorem l5 (h:X.K=K):IU X (Oj K):=by subst h; exact DD
end
inductive Dt where
 |eu|bl (b:Bool)|int (i:Int)|str (x:Str)|tup (ds:List Dt)|lst (ds:List Dt)
mutual
def Rp (H:Hp):Dt->V->Prop
 | .eu,v=>v= .eu
 | .bl b,v=>v= .bl b
 | .int i,v=>v= .int i
 | .str x,v=>v= .str x
 | .tup ds,v=> ∃a xs,v= .ref a/\H a=some (.tup xs)/\hV H ds xs
 | .lst ds,v=> ∃a xs,v= .ref a/\H a=some (.lst xs)/\hV H ds xs
def hV (H:Hp):List Dt->List V->Prop
 |[],vs=>vs=[]
 |d :: ds,vs=> ∃v r,vs=v :: r/\Rp H d v/\hV H ds r
end
mutual
def Dt.size:Dt->Nat
 | .tup ds=>1 + Dt.fJ ds
 | .lst ds=>1 + Dt.fJ ds
 | .eu=>1
 | .bl _=>1
 | .int _=>1
 | .str _=>1
def Dt.fJ:List Dt->Nat
 |[]=>0
 |d :: ds=>d.size + Dt.fJ ds
end
theorem Dt.size_pos (d:Dt):1<=d.size:=by cases d <;> simp[Dt.size]
theorem Dt.ix (a b:List Dt):Dt.fJ (a ++ b)=Dt.fJ a + Dt.fJ b:=by
 induction a with
 |nil=>simp[Dt.fJ]
 |cons d ds ih=>simp[Dt.fJ,ih]; lia
theorem Dt.qH (a:List Dt):a.length<=Dt.fJ a:=by
 induction a with
 |nil=>simp[Dt.fJ]
 |cons d ds ih=>
  have:=d.size_pos
  simp[Dt.fJ]; lia
theorem u6 {H:Hp}{v:V}:Rp H .eu v↔v= .eu:=by unfold Rp; exact Iff.rfl
theorem qI {H:Hp}{v:V}{b:Bool}:Rp H (.bl b) v↔v= .bl b:=by unfold Rp; exact Iff.rfl
theorem dm {H:Hp}{v:V}{i:Int}:Rp H (.int i) v↔v= .int i:=by unfold Rp; exact Iff.rfl
theorem fL {H:Hp}{v:V}{x:Str}:Rp H (.str x) v↔v= .str x:=by unfold Rp; exact Iff.rfl
theorem jO {H:Hp}{v:V}{ds:List Dt}:Rp H (.tup ds) v↔ ∃a xs,v= .ref a/\H a=some (.tup xs)/\hV H ds xs:=by unfold Rp; exact Iff.rfl
theorem jP {H:Hp}{v:V}{ds:List Dt}:Rp H (.lst ds) v↔ ∃a xs,v= .ref a/\H a=some (.lst xs)/\hV H ds xs:=by unfold Rp; exact Iff.rfl
theorem cQ {H:Hp}{vs:List V}:hV H [] vs↔vs=[]:=by unfold hV; exact Iff.rfl
theorem bC {H:Hp}{d:Dt}{ds:List Dt}{vs:List V}:hV H (d :: ds) vs↔ ∃v r,vs=v :: r/\Rp H d v/\hV H ds r:=by
 conv=>lhs; unfold hV
mutual
theorem Rp.mono {H H':Hp}(s:aD H H'): ∀(d:Dt) {v:V},Rp H d v->Rp H' d v
 | .eu,_,h=>u6.mpr (u6.mp h)
 | .bl _,_,h=>qI.mpr (qI.mp h)
 | .int _,_,h=>dm.mpr (dm.mp h)
 | .str _,_,h=>fL.mpr (fL.mp h)
 | .tup ds,_,h=>by
  obtain⟨a,xs,e,h1,h2⟩:=jO.mp h
  exact jO.mpr ⟨a,xs,e,s _ _ h1,hV.mono s ds h2⟩
 | .lst ds,_,h=>by
  obtain⟨a,xs,e,h1,h2⟩:=jP.mp h
  exact jP.mpr ⟨a,xs,e,s _ _ h1,hV.mono s ds h2⟩
theorem hV.mono {H H':Hp}(s:aD H H'): ∀(ds:List Dt) {vs:List V},hV H ds vs->hV H' ds vs
 |[],_,h=>cQ.mpr (cQ.mp h)
 |d :: ds,_,h=>by
  obtain⟨v,r,e,h1,h2⟩:=bC.mp h
  exact bC.mpr ⟨v,r,e,Rp.mono s d h1,hV.mono s ds h2⟩
end
theorem hV.length {H:Hp}: ∀{ds:List Dt} {vs:List V},hV H ds vs->ds.length=vs.length
 |[],_,h=>by rw[cQ.mp h]; rfl
 |d :: ds,_,h=>by
  obtain⟨v,r,e,_,h2⟩:=bC.mp h
  rw[e,bS,bS,hV.length h2]
theorem hV.get {H:Hp}: ∀{ds:List Dt} {vs:List V} {i:Nat} {d:Dt},hV H ds vs->ds[i]? =some d-> ∃v,vs[i]? =some v/\Rp H d v
 |[],_,_,_,_,e=>by simp at e
 |d :: ds,_,0,_,h,e=>by
  obtain⟨v,r,rfl,h1,_⟩:=bC.mp h
  simp at e; subst e
  exact⟨v,rfl,h1⟩
 |d :: ds,_,i + 1,_,h,e=>by
  obtain⟨v,r,rfl,_,h2⟩:=bC.mp h
  obtain⟨u,h3,h4⟩:=hV.get (i:=i) h2 (by simpa using e)
  exact⟨u,by simpa using h3,h4⟩
theorem hV.append {H:Hp}: ∀{ds es:List Dt} {vs us:List V},hV H ds vs->hV H es us->hV H (ds ++ es) (vs ++ us)
 |[],_,_,_,h,h'=>by rw[cQ.mp h]; exact h'
 |d :: ds,_,_,_,h,h'=>by
  obtain⟨v,r,rfl,h1,h2⟩:=bC.mp h
  exact bC.mpr ⟨v,r ++ _,rfl,h1,hV.append h2 h'⟩
theorem hV.one {H:Hp}{d:Dt}{v:V}(h:Rp H d v):hV H [d] [v]:=bC.mpr ⟨v,[],rfl,h,cQ.mpr rfl⟩
theorem hV.ints {H:Hp}: ∀(ns:List Int),hV H (ns.map Dt.int) (ns.map V.int)
 |[]=>cQ.mpr rfl
 |n :: ns=>bC.mpr ⟨_,_,rfl,dm.mpr rfl,hV.ints ns⟩
theorem jz {H:Hp}{a:Addr}{xs:List V}{ds:List Dt}(h:H a=some (.lst xs))(r:hV H ds xs):Rp H (.lst ds) (.ref a):=jP.mpr ⟨a,xs,rfl,h,r⟩
theorem eF {H:Hp}{a:Addr}{xs:List V}{ds:List Dt}(h:H a=some (.tup xs))(r:hV H ds xs):Rp H (.tup ds) (.ref a):=jO.mpr ⟨a,xs,rfl,h,r⟩
def OG:Dt->String
 | .eu=>"NoneType"| .bl _=>"bool"| .int _=>"int"| .str _=>"str"| .tup _=>"tuple"| .lst _=>"list"
theorem Rp.ty {K:Frag}{H:Hp}{d:Dt}{v:V}(h:Rp H d v):mS K H v (.type (OG d)):=by
 cases d with
 |eu=>rw[u6.mp h]; exact .eu
 |bl b=>rw[qI.mp h]; exact .bl b
 |int i=>rw[dm.mp h]; exact .int i
 |str x=>rw[fL.mp h]; exact .str x
 |tup ds=>obtain⟨a,xs,e,h1,_⟩:=jO.mp h; rw[e]; exact .tup h1
 |lst ds=>obtain⟨a,xs,e,h1,_⟩:=jP.mp h; rw[e]; exact .lst h1
def WW:Dt->Bool| .lst _=>true|_=>false
def WX:Dt->Bool| .tup _=>true|_=>false
def isLT:Dt->Bool| .lst _=>true| .tup _=>true|_=>false
def Ve:Dt->Bool| .str _=>true|_=>false
def isB:Dt->Bool| .bl _=>true|_=>false
def ZG:Dt->Bool| .int _=>true| .bl _=>true|_=>false
def isW:Dt->Bool| .int _=>true|_=>false
theorem E5 {K:Frag}(d:Dt):PySem.W.kitOne K (.type (OG d)) (.type "list")=some (WW d):=by cases d <;> (first|rfl|decide +kernel)
theorem Jh {K:Frag}(d:Dt):PySem.W.kitOne K (.type (OG d)) (.type "tuple")=some (WX d):=by cases d <;> (first|rfl|decide +kernel)
theorem yn {K:Frag}(d:Dt):PySem.W.kitOne K (.type (OG d)) (.type "str")=some (Ve d):=by cases d <;> (first|rfl|decide +kernel)
theorem Nj {K:Frag}(d:Dt):PySem.W.kitOne K (.type (OG d)) (.type "bool")=some (isB d):=by cases d <;> (first|rfl|decide +kernel)
theorem Sl {K:Frag}(d:Dt):PySem.W.kitOne K (.type (OG d)) (.type "int")=some (ZG d):=by cases d <;> (first|rfl|decide +kernel)
theorem OH {K:Frag}(d:Dt):PySem.W.kitAny K (.type (OG d)) [.type "list",.type "tuple"]=some (isLT d):=by
 unfold PySem.W.kitAny
 rw[E5]
 cases d <;> (first|rfl|(show PySem.W.kitAny K _ [.type "tuple"]=_; unfold PySem.W.kitAny; rw[Jh]; rfl))
theorem sW {α β:Type}{F:α->β->Prop}: ∀{l₁:List α} {l₂:List β} {y:β},Paired F l₁ l₂->l₂[l₂.length - 1]? =some y-> ∃l d,l₁=l ++ [d]/\F d y/\Paired F l l₂.dropLast
 |_,_,_,.nil,e=>by simp at e
 |a :: l₁,b :: l₂,y,.cons r t,e=>by
  cases t with
  |nil=>
   simp at e; subst e
   exact⟨[],a,rfl,r,.nil⟩
  |cons r' t'=>
   rename_i a' b' m₁ m₂
   have e':(b' :: m₂)[(b' :: m₂).length - 1]? =some y:=by
    have h1:(b :: b' :: m₂).length - 1=((b' :: m₂).length - 1) + 1:=by simp
    rw[h1] at e
    simpa using e
   obtain⟨l,d,e1,h1,h2⟩:=sW (.cons r' t') e'
   refine⟨a :: l,d,by rw[e1]; rfl,h1,?_⟩
   rw[List.dropLast_cons_of_ne_nil (by simp)]
   exact .cons r h2
def l6 (H H':Hp)(d:Dt)(v:V):Prop:= ∃t u1 u2,v= .ref t/\H' t=some (.tup [u1,u2])/\Rp H d u1/\Rp H d u2
theorem l6.mono {H H' H2:Hp}{d:Dt}{v:V}(h:l6 H H' d v)(k: ∀b xs,H' b=some (.tup xs)->H2 b=some (.tup xs)):l6 H H2 d v:=by
 obtain⟨t,u1,u2,e,h1,h2⟩:=h
 exact⟨t,u1,u2,e,k _ _ h1,h2⟩
theorem Ji {H:Hp}{p:Addr}{o:HO}(h:H p=none): ∀b xs,H b=some (.tup xs)->upd H p o b=some (.tup xs):=fun b xs e=>aD.new h b _ e
theorem dC {H:Hp}{p:Addr}{o:HO}{ys:List V}(h:H p=some (.lst ys)): ∀b xs,H b=some (.tup xs)->upd H p o b=some (.tup xs):=fun b xs e=>by
 rw[az (mz e h (by intro z; cases z))]; exact e
theorem aD.cI {H0 H:Hp}{p:Addr}{o:HO}(s:aD H0 H)(h:H0 p=none):aD H0 (upd H p o):=fun b u e=>by
 rw[az (aJ e h)]; exact s b u e
def kids:Dt->List Dt
 | .tup ds=>ds
 | .lst ds=>ds
 |_=>[]
theorem E6 {H:Hp}{d:Dt}{v:V}(h:Rp H d v)(hd:isLT d=true): ∃a xs,v= .ref a/\(∀(K:Frag) (H':Hp),aD H H'->bA K H' a xs∨cg K H' a xs)/\hV H (kids d) xs:=by
 cases d with
 |tup ds=>
  obtain⟨a,xs,e,h1,h2⟩:=jO.mp h
  exact⟨a,xs,e,fun K H' s=> .inr (cg.of (s _ _ h1)),h2⟩
 |lst ds=>
  obtain⟨a,xs,e,h1,h2⟩:=jP.mp h
  exact⟨a,xs,e,fun K H' s=> .inl (bA.of (s _ _ h1)),h2⟩
 |_=>cases hd
theorem GN {d:Dt}(hd:isLT d=true):d.size=1 + Dt.fJ (kids d):=by
 cases d with
 |tup ds=>simp[Dt.size,kids]
 |lst ds=>simp[Dt.size,kids]
 |_=>cases hd
mutual
def Dt.plain:Dt->Bool
 | .int _=>true
 | .str _=>true
 | .tup ds=>Dt.pM ds
 | .lst ds=>Dt.pM ds
 | .eu=>false
 | .bl _=>false
def Dt.pM:List Dt->Bool
 |[]=>true
 |d :: ds=>d.plain && Dt.pM ds
end
theorem Dt.pN {ds:List Dt}:Dt.pM ds=true↔ ∀d∈ds,d.plain=true:=by
 induction ds with
 |nil=>simp[Dt.pM]
 |cons d ds ih=>simp[Dt.pM,ih]
theorem DN {d:Dt}(h:d.plain=true): ∀c∈kids d,c.plain=true:=by
 cases d with
 |tup ds=>exact Dt.pN.mp (by simpa[Dt.plain,kids] using h)
 |lst ds=>exact Dt.pN.mp (by simpa[Dt.plain,kids] using h)
 |_=>intro c hc; cases hc
theorem tW {ds:List Dt}{i:Nat}{d:Dt}(h:ds[i]? =some d):ds.take (i + 1)=ds.take i ++ [d]:=by rw[Gb,h]; rfl
theorem wV (ds:List Dt)(i:Nat):Dt.fJ (ds.take i)<=Dt.fJ ds:=by
 have:=Dt.ix (ds.take i) (ds.drop i)
 rw[List.take_append_drop] at this
 lia
theorem i9 {n:Nat}(h:n<=1000000):n < sizeLine:=qm h (by rw[eI]; decide)
open PySem.W
def jQ {α:Type}(key:Nat->Int)(n:Nat)(Po:α->Prop):KasT α->Prop
 | .ret a=>Po a
 | .ask i j k=>i < n/\j < n/\jQ key n Po (k (decide (key i < key j)))
theorem gZ {α:Type}{key:Nat->Int}{n:Nat}{Po ZH:α->Prop}(h: ∀a,Po a->ZH a): ∀(t:KasT α),jQ key n Po t->jQ key n ZH t
 | .ret a,q=>h a q
 | .ask i j k,q=>⟨q.1,q.2.1,gZ h _ q.2.2⟩
theorem iX {α β:Type}{key:Nat->Int}{n:Nat}{Po:β->Prop}{f:α->KasT β}: ∀(t:KasT α),jQ key n (fun a=>jQ key n Po (f a)) t->jQ key n Po (t.bind f)
 | .ret a,q=>q
 | .ask i j k,q=>⟨q.1,q.2.1,iX _ q.2.2⟩
theorem va {α:Type}{key:Nat->Int}{n:Nat}{Po:α->Prop}{cmp:Nat->Nat->(Bool->Shared->Prop)->Shared->Prop}{s:Shared}{Q:α->Shared->Prop}
  (hc: ∀i j (C:Bool->Shared->Prop),i < n->j < n->C (decide (key i < key j)) s->cmp i j C s) (hq: ∀a,Po a->Q a s): ∀(t:KasT α),jQ key n Po t->t.kasWp cmp Q s
 | .ret a,q=>hq a q
 | .ask i j k,q=>hc i j _ q.1 q.2.1 (va hc hq _ q.2.2)
def kf (key:Nat->Int)(p:Array Nat)(i:Nat):Int:=key (p.getD i 0)
def qJ (n:Nat)(p:Array Nat):Prop:=p.Perm (List.toArray (List.range n))
theorem qJ.size {n:Nat}{p:Array Nat}(h:qJ n p):p.size=n:=by
 have:=Array.Perm.size_eq h
 simpa using this
theorem qJ.lt {n:Nat}{p:Array Nat}(h:qJ n p)(h0:0 < n)(i:Nat):p.getD i 0 < n:=by
 by_cases hi:i < p.size
 ·have e:p.getD i 0=p[i]:=by simp[Array.getD,hi]
  rw[e]
  have hm:p[i]∈p:=Array.getElem_mem hi
  have:=(Array.Perm.mem_iff h).mp hm
  simpa using this
 ·have e:p.getD i 0=0:=by simp[Array.getD,hi]
  rw[e]; exact h0
theorem qK {p q:Array Nat}{i j:Nat}(h:p[i]? =q[j]?):p.getD i 0=q.getD j 0:=by
 rw[Lg,Lg,h]
theorem pO {key:Nat->Int}{p:Array Nat}{i j:Nat}(hj:j<=p.size)(a:Nat):kf key (kas_rev p i j) a=if i<=a/\a < j then kf key p (i + j - 1 - a) else kf key p a:=by
 have:=getElem?_mirror_all (xs:=p) (i:=i) hj a
 by_cases h:i<=a/\a < j
 ·rw[a8 h] at this ⊢
  exact cL key (qK this)
 ·rw[aU h] at this ⊢
  exact cL key (qK this)
theorem qJ.rev {n:Nat}{p:Array Nat}(h:qJ n p)(i j:Nat):qJ n (kas_rev p i j):=(mirror_perm p i j _).trans h
theorem Jj {key:Nat->Int}{p:Array Nat}{src d:Nat}(hs:src < p.size)(hd:d<=src)(k:Nat):kf key (bubble p src d) k=if k=src - d then kf key p src else if src - d < k/\k<=src then kf key p (k - 1) else kf key p k:=by
 have:=getElem?_bubble (xs:=p) hs d hd k
 by_cases h:k=src - d
 ·rw[a8 h] at this ⊢
  exact cL key (qK this)
 ·rw[aU h] at this ⊢
  by_cases h2:src - d < k/\k<=src
  ·rw[a8 h2] at this ⊢
   exact cL key (qK this)
  ·rw[aU h2] at this ⊢
   exact cL key (qK this)
def lz (key:Nat->Int)(p:Array Nat)(m:Nat):Prop:= ∀a b,a<=b->b < m->kf key p a<=kf key p b
def Jk (key:Nat->Int)(p:Array Nat)(m:Nat):Prop:= ∀a b,a<=b->b < m->kf key p b<=kf key p a
section
variable {key:Nat->Int}{n:Nat}
theorem Jl {p:Array Nat}(hp:qJ n p)(h0:0 < n): ∀(f m:Nat),1<=m->lz key p m->jQ key n (fun r=>m<=r/\r<=m + f/\lz key p r/\(r=m + f∨kf key p r < kf key p (r - 1))) (kas_asc p f m)
 |0,m,h1,hs=>⟨aE _,aE _,hs,.inl rfl⟩
 |f + 1,m,h1,hs=>by
  unfold kas_asc
  refine⟨hp.lt h0 _,hp.lt h0 _,?_⟩
  by_cases c:key (p.getD m 0) < key (p.getD (m - 1) 0)
  ·rw[decide_eq_true c]; dsimp only; rw[if_pos rfl]
   exact⟨aE _,by lia,hs,.inr c⟩
  ·rw[decide_eq_false c]; dsimp only; rw[if_neg Bool.false_ne_true]
   have LN:lz key p (m + 1):=by
    intro a b Il hb
    by_cases LP:b < m
    ·exact hs a b Il LP
    ·have e:b=m:=by lia
     subst e
     by_cases OI:a=b
     ·rw[OI]; exact fQ _
     ·have h2:=hs a (b - 1) (by lia) (by lia)
      have h3:kf key p (b - 1)<=kf key p b:=by unfold kf; lia
      lia
   refine gZ (fun r ⟨q1,q2,q3,q4⟩=>⟨by lia,by lia,q3,?_⟩) _ (Jl hp h0 f (m + 1) (by lia) LN)
   rcases q4 with q4|q4
   ·exact .inl (by lia)
   ·exact .inr q4
theorem zp (h0:0 < n): ∀(f:Nat) (p:Array Nat) (m q:Nat),qJ n p->m + f<=n->q + 1<=m->Jk key p m->(∀a,m - (q + 1)<=a->a < m->kf key p a=kf key p (m - 1))->
  jQ key n (fun r=>qJ n r.1/\1<=r.2.1/\r.2.1<=n/\r.2.2 + 1<=r.2.1/\Jk key r.1 r.2.1/\ ∀a,r.2.1 - (r.2.2 + 1)<=a->a < r.2.1->kf key r.1 a=kf key r.1 (r.2.1 - 1)) (kas_desc f p m q)
 |0,p,m,q,hp,hm,hq,hs,he=>⟨hp,(by show 1<=m; lia),(by show m<=n; lia),hq,hs,he⟩
 |f + 1,p,m,q,hp,hm,hq,hs,he=>by
  unfold kas_desc
  have dn: ∀{r:Array Nat},(∀a,a < m->kf key r a=kf key p a)->kf key r m=kf key p m->kf key p m<=kf key p (m - 1)->Jk key r (m + 1):=by
   intro r hr Sm c a b Il hb
   by_cases LP:b < m
   ·rw[hr a (by lia),hr b LP]; exact hs a b Il LP
   ·have e:b=m:=by lia
    subst e
    by_cases OI:a=b
    ·rw[OI]; exact fQ _
    ·rw[Sm,hr a (by lia)]
     have h2:=hs a (b - 1) (by lia) (by lia)
     lia
  refine⟨hp.lt h0 _,hp.lt h0 _,?_⟩
  by_cases c:key (p.getD m 0) < key (p.getD (m - 1) 0)
  ·rw[decide_eq_true c]; dsimp only; rw[if_pos rfl]
   have c':kf key p m<=kf key p (m - 1):=by unfold kf; lia
   have last: ∀{r:Array Nat} (a:Nat),m + 1 - (0 + 1)<=a->a < m + 1->kf key r a=kf key r (m + 1 - 1):=fun{r} a h1 h2=>by
    have e:a=m + 1 - 1:=by lia
    rw[e]
   by_cases ZI:q > 0
   ·rw[a8 ZI]
    have hz:m<=p.size:=by rw[hp.size]; lia
    have hr: ∀a,a < m->kf key (kas_rev p (m - (q + 1)) m) a=kf key p a:=fun a ha=>by
     rw[pO hz]
     split
     ·rename_i h
      rw[he a h.1 h.2,he _ (by lia) (by lia)]
     ·rfl
    have Sm:kf key (kas_rev p (m - (q + 1)) m) m=kf key p m:=by rw[pO hz,aU (by lia)]
    exact zp h0 f _ (m + 1) 0 (hp.rev _ _) (by lia) (by lia) (dn hr Sm c') last
   ·rw[aU ZI]
    exact zp h0 f p (m + 1) 0 hp (by lia) (by lia) (dn (fun _ _=>rfl) rfl c') last
  ·rw[decide_eq_false c]; dsimp only; rw[if_neg Bool.false_ne_true]
   refine⟨hp.lt h0 _,hp.lt h0 _,?_⟩
   by_cases d:key (p.getD (m - 1) 0) < key (p.getD m 0)
   ·rw[decide_eq_true d]; dsimp only; rw[if_pos rfl]
    exact⟨hp,(by show 1<=m; lia),(by show m<=n; lia),hq,hs,he⟩
   ·rw[decide_eq_false d]; dsimp only; rw[if_neg Bool.false_ne_true]
    have e0:kf key p m=kf key p (m - 1):=by unfold kf; lia
    refine zp h0 f p (m + 1) (q + 1) hp (by lia) (by lia) (dn (fun _ _=>rfl) rfl (by lia)) (fun a h1 h2=>?_)
    have e1:m + 1 - 1=m:=by lia
    rw[e1]
    by_cases OI:a=m
    ·rw[OI]
    ·rw[e0]; exact he a (by lia) (by lia)
theorem E7 (h0:0 < n){p:Array Nat}{m:Nat}(hp:qJ n p)(h1:1<=m)(hm:m<=n)(hs:Jk key p m):jQ key n (fun r=>qJ n r.2/\1<=r.1/\r.1<=n/\lz key r.2 r.1) (kas_tail3 m n p):=by
 unfold kas_tail3
 have hz:m<=p.size:=by rw[hp.size]; lia
 have hu:lz key (kas_rev p 0 m) m:=by
  intro a b Il hb
  rw[pO hz,pO hz,a8 ⟨bh _,by lia⟩,a8 ⟨bh _,hb⟩]
  exact hs _ _ (by lia) (by lia)
 refine iX _ (gZ (fun r ⟨q1,q2,q3,_⟩=>?_) _ (Jl (hp.rev 0 m) h0 (n - m) m h1 hu))
 exact⟨hp.rev 0 m,by lia,by lia,q3⟩
theorem vb (h0:0 < n){p:Array Nat}{m:Nat}(hp:qJ n p)(hm:m + 1<=n)(hs:Jk key p (m + 1)):jQ key n (fun r=>qJ n r.2/\1<=r.1/\r.1<=n/\lz key r.2 r.1) (kas_descPart m n p):=by
 unfold kas_descPart
 refine iX _ (gZ (fun r ⟨q1,q2,q3,q4,q5,q6⟩=>?_) _ (zp h0 (n - (m + 1)) p (m + 1) 0 hp (by lia) (by lia) hs fun a h1 h2=>by
  have e:a=m + 1 - 1:=by lia
  rw[e]))
 by_cases hq:r.2.2 > 0
 ·rw[a8 hq]
  have hz:r.2.1<=r.1.size:=by rw[q1.size]; lia
  refine E7 h0 (q1.rev _ _) q2 q3 fun a b Il hb=>?_
  have hr: ∀a,a < r.2.1->kf key (kas_rev r.1 (r.2.1 - (r.2.2 + 1)) r.2.1) a=kf key r.1 a:=fun a ha=>by
   rw[pO hz]
   split
   ·rename_i h
    rw[q6 a h.1 h.2,q6 _ (by lia) (by lia)]
   ·rfl
  rw[hr a (by lia),hr b hb]
  exact q5 a b Il hb
 ·rw[aU hq]
  exact E7 h0 q1 q2 q3 q5
theorem LQ (h0:0 < n){p:Array Nat}(hp:qJ n p):jQ key n (fun r=>qJ n r.2/\1<=r.1/\r.1<=n/\lz key r.2 r.1) (kas_count n p):=by
 unfold kas_count
 have hs1:lz key p 1:=fun a b Il hb=>by
  have e:a=b:=by lia
  rw[e]; exact fQ _
 refine iX _ (gZ (fun m ⟨q1,q2,q3,q4⟩=>?_) _ (Jl hp h0 (n - 1) 1 (aE _) hs1))
 by_cases Sn:(m == n)=true
 ·rw[a8 Sn]
  exact⟨hp,q1,by lia,q3⟩
 ·rw[aU Sn]
  have je:m≠n:=fun z=>Sn (by simp[z])
  have iu:kf key p m < kf key p (m - 1):=by
   rcases q4 with q4|q4
   ·exact absurd q4 (by lia)
   ·exact q4
  by_cases ZJ:m > 1
  ·rw[a8 ZJ]
   refine⟨hp.lt h0 _,hp.lt h0 _,?_⟩
   by_cases c:key (p.getD 0 0) < key (p.getD (m - 1) 0)
   ·rw[decide_eq_true c]; dsimp only; rw[if_pos rfl]
    exact⟨hp,q1,by lia,q3⟩
   ·rw[decide_eq_false c]; dsimp only; rw[if_neg Bool.false_ne_true]
    have hz:m<=p.size:=by rw[hp.size]; lia
    have heq: ∀a,a < m->kf key p a=kf key p (m - 1):=fun a ha=>by
     have h1:=q3 0 a (bh _) ha
     have h2:=q3 a (m - 1) (by lia) (by lia)
     have h3:kf key p (m - 1)<=kf key p 0:=by unfold kf; lia
     lia
    have hr: ∀a,a < m->kf key (kas_rev p 0 m) a=kf key p (m - 1):=fun a ha=>by
     rw[pO hz,a8 ⟨bh _,ha⟩]
     exact heq _ (by lia)
    refine vb h0 (hp.rev _ _) (by lia) fun a b Il hb=>?_
    by_cases LP:b < m
    ·rw[hr a (by lia),hr b LP]; exact fQ _
    ·have e:b=m:=by lia
     subst e
     by_cases OI:a=b
     ·rw[OI]; exact fQ _
     ·rw[hr a (by lia),pO hz,aU (by lia)]
      lia
  ·rw[aU ZJ]
   have e:m=1:=by lia
   subst e
   refine vb h0 hp (by lia) fun a b Il hb=>?_
   by_cases WY:a=b
   ·rw[WY]; exact fQ _
   ·have e1:a=0:=by lia
    have e2:b=1:=by lia
    subst e1 e2
    have e3:(1:Nat) - 1=0:=rfl
    rw[e3] at iu
    lia
theorem zq (h0:0 < n){p:Array Nat}{k:Nat}(hp:qJ n p)(hs:lz key p k): ∀(f l r:Nat),l<=r->r<=k->r - l<=f->(∀i,i < l->kf key p i<=kf key p k)->(∀i,r<=i->i < k->kf key p k < kf key p i)->
  jQ key n (fun m=>m<=k/\(∀i,i < m->kf key p i<=kf key p k)/\ ∀i,m<=i->i < k->kf key p k < kf key p i) (kas_place p k f l r)
 |0,l,r,hlr,Vf,hf,h1,h2=>by
  have e:l=r:=by lia
  subst e
  exact⟨Vf,h1,h2⟩
 |f + 1,l,r,hlr,Vf,hf,h1,h2=>by
  unfold kas_place
  by_cases OJ:l≥r
  ·rw[a8 OJ]
   have e:l=r:=by lia
   subst e
   exact⟨Vf,h1,h2⟩
  ·rw[aU OJ]
   refine⟨hp.lt h0 _,hp.lt h0 _,?_⟩
   by_cases c:key (p.getD k 0) < key (p.getD ((l + r) / 2) 0)
   ·rw[decide_eq_true c]; dsimp only; rw[if_pos rfl]
    refine zq h0 hp hs f l ((l + r) / 2) (by lia) (by lia) (by lia) h1 fun i hi WZ=>?_
    have:=hs ((l + r) / 2) i hi WZ
    have c':kf key p k < kf key p ((l + r) / 2):=c
    lia
   ·rw[decide_eq_false c]; dsimp only; rw[if_neg Bool.false_ne_true]
    refine zq h0 hp hs f ((l + r) / 2 + 1) r (by lia) Vf (by lia) (fun i hi=>?_) h2
    have:=hs i ((l + r) / 2) (by lia) (by lia)
    have c': ¬ kf key p k < kf key p ((l + r) / 2):=c
    lia
theorem Nk (h0:0 < n): ∀(f:Nat) (p:Array Nat) (k:Nat),qJ n p->k + f=n->lz key p k->jQ key n (fun r=>qJ n r/\lz key r n) (kas_bin f p k)
 |0,p,k,hp,hk,hs=>⟨hp,by rw[← hk]; exact hs⟩
 |f + 1,p,k,hp,hk,hs=>by
  unfold kas_bin
  refine iX _ (gZ (fun l ⟨q1,q2,q3⟩=>?_) _ (zq h0 hp hs k 0 k (bh _) (aE _) (by lia) (fun i hi=>absurd hi (iI _)) fun i h1 h2=>by lia))
  have hz:k < p.size:=by rw[hp.size]; lia
  refine Nk h0 f _ (k + 1) ((bubble_perm p k _).trans hp) (by lia) fun a b Il hb=>?_
  rw[Jj hz (by lia),Jj hz (by lia)]
  have el:k - (k - l)=l:=by lia
  rw[el]
  by_cases ha:a=l
  ·rw[a8 ha]
   by_cases E3:b=l
   ·rw[a8 E3]; exact fQ _
   ·rw[aU E3,a8 ⟨by lia,by lia⟩]
    have:=q3 (b - 1) (by lia) (by lia)
    lia
  ·rw[aU ha]
   by_cases ZK:l < a/\a<=k
   ·rw[a8 ZK,aU (by lia),a8 ⟨by lia,by lia⟩]
    exact hs _ _ (by lia) (by lia)
   ·rw[aU ZK]
    have W0:a < l:=by lia
    by_cases E3:b=l
    ·rw[a8 E3]; exact q2 a W0
    ·rw[aU E3]
     by_cases Vd:l < b/\b<=k
     ·rw[a8 Vd]
      exact hs _ _ (by lia) (by lia)
     ·rw[aU Vd]
      exact hs _ _ Il (by lia)
theorem Jm (h0:0 < n):jQ key n (fun r=>qJ n r/\lz key r n) (kas_sort n):=by
 unfold kas_sort
 refine iX _ (gZ (fun r ⟨q1,q2,q3,q4⟩=>?_) _ (LQ h0 (Lh _)))
 by_cases h:r.1 < n
 ·rw[a8 h]
  have e:max r.1 1=r.1:=by lia
  rw[e]
  exact Nk h0 _ _ _ q1 (by lia) q4
 ·rw[aU h]
  have e:r.1=n:=by lia
  rw[e] at q4
  exact⟨q1,q4⟩
end
section
variable {prog:Program}{w:World}{A:Around}{E:Value->Shared->Prop}{s:Shared}
theorem zr {a:Addr}{vs:List Value}{n:Nat}{P:PySem.Fin->Shared->Prop}{key:Nat->Int}{κ:SortKind}(ho:s.heap.get? a=some (seqObj "list" vs.toArray n))(Dc:vs.length < 64)
  (hk:2<=vs.length-> ∀(s':Shared) (Q:SortKind->Shared->Prop),(∀b o,b≠a->s.heap.get? b=some o->s'.heap.get? b=some o)->Q κ s'->wpAny (model prog w) A (keyKind' vs.toArray) Q (fun _ _=>False) s')
  (hc: ∀(s':Shared) (i j:Nat) (C:Bool->Shared->Prop),(∀b o,b≠a->s.heap.get? b=some o->s'.heap.get? b=some o)->i < vs.length->j < vs.length->C (decide (key i < key j)) s'->
   wpAny (model prog w) A (keyLt' κ (vs.getD i Value.none) (vs.getD j Value.none)) C (fun _ _=>False) s')
  (h: ∀p:Array Nat,qJ vs.length p->lz key p vs.length->P (.done (.ret .none)) {s with heap:=sortedHeap s.heap a vs (p.toList.map fun i=>vs.getD i Value.none).toArray}):
  wpAny (model prog w) A (Builtin.«list.sort» ⟨[.ref a],[]⟩) P E s:=by
 rw[list_sort_plain]
 have ha:a < s.heap.objs.size:=aM ho
 have hl:sizeLine=16777216:=eI
 refine aA (listItems_at ho rfl ?_)
 refine aA (wD ho rfl ?_ (by rw[bB]; lia) (bh _))
 obtain⟨e1,GO⟩: ∃e1,(s.heap.update a (Obj.mapSeq fun _=>(#[]:Array Value))).get? a=some (seqObj "list" #[] e1):=⟨_,M8 ho (fun _=> #[])⟩
 refine aA (seqEpoch_at GO rfl ?_)
 refine aA (wpAny_newTuple ?_ (by show vs.length<=_; lia))
 refine aA (Li ?_ (bh _))
 refine iq ?_
 have Vg:(((s.heap.update a (Obj.mapSeq fun _=>(#[]:Array Value))).push (seqObj "tuple" vs.toArray 0)).push (seqObj "list" #[] 0)).get? a=some (seqObj "list" #[] e1):=by
  rw[mP _ _ _ (by rw[size_push',pE]; exact a6 (iT ha)),mP _ _ _ (by rw[pE]; exact a6 ha)]
  exact GO
 show wpAny (model prog w) A _ P E {s with heap:=((s.heap.update a (Obj.mapSeq fun _=>(#[]:Array Value))).push (seqObj "tuple" vs.toArray 0)).push (seqObj "list" #[] 0)}
 dsimp only
 have keep: ∀b o,b≠a->s.heap.get? b=some o->(((s.heap.update a (Obj.mapSeq fun _=>(#[]:Array Value))).push (seqObj "tuple" vs.toArray 0)).push (seqObj "list" #[] 0)).get? b=some o:=fun b o hb e=>
  ax _ (ax _ ((mN s.heap _ (wG hb)).trans e))
 have hsz:vs.toArray.size=vs.length:=by simp
 by_cases h2:vs.toArray.size < 2
 ·rw[a8 h2,a8 h2]
  refine aA (bE ?_)
  rw[StateT.run_pure]
  refine aA (bE ?_)
  dsimp only
  have DO:(arrOf (SortSt.mk' general' (vs.toArray.zip vs.toArray) #[] 7 none)).map (·.2)=((List.toArray (List.range vs.length)).toList.map fun i=>vs.getD i Value.none).toArray:=by
   show(vs.toArray.zip vs.toArray).map (·.2)=_
   apply Array.toList_inj.mp
   apply Gd
   intro i
   simp only[Array.toList_map,Array.toList_zip,List.getElem?_map,List.getElem?_zip_eq_some,List.getElem?_range]
   by_cases hi:i < vs.length
   ·simp[hi,List.getElem?_zip_eq_some,List.zip]
   ·simp[hi]
  refine aA (seqEpoch_at Vg rfl ?_)
  rw[DO]
  refine wpAny_bind (listUpdate_at Vg rfl ?_ (Nat.zero_le _) (by simp; lia))
  simp only[bne_self_eq_false,Bool.false_eq_true,if_false]
  refine bE (h _ (Lh _) ?_)
  intro i j ZL hj
  have:i=j:=by lia
  subst this; exact fQ _
 ·rw[aU h2,aU h2]
  have So:2<=vs.length:=by lia
  refine aA (cf (hk So _ (fun κ' s'=>κ'=κ/\s'={s with heap:=((s.heap.update a (Obj.mapSeq fun _=>(#[]:Array Value))).push (seqObj "tuple" vs.toArray 0)).push (seqObj "list" #[] 0)}) keep ⟨rfl,rfl⟩) (fun κ' s' K1=>?_) fun _ _ x=>x.elim)
  obtain⟨rfl,rfl⟩:=K1
  refine aA (cf (kat_run (Q:=fun wN s'=>s'={s with heap:=((s.heap.update a (Obj.mapSeq fun _=>(#[]:Array Value))).push (seqObj "tuple" vs.toArray 0)).push (seqObj "list" #[] 0)}/\ ∃p:Array Nat,p.size=vs.length/\arrOf wN=p.map (kas_item (vs.toArray.zip vs.toArray))/\failedOf wN=none/\qJ vs.length p/\lz key p vs.length)
   (G:=fun p s'=>s'={s with heap:=((s.heap.update a (Obj.mapSeq fun _=>(#[]:Array Value))).push (seqObj "tuple" vs.toArray 0)).push (seqObj "list" #[] 0)}/\qJ vs.length p/\lz key p vs.length)
   (κ:=κ') rfl So Dc (fun p' wN s' a1 a2 a3 a4=>⟨a4.1,p',a1,a2,a3,a4.2⟩) (va (fun i j C hi hj q=>hc _ i j C keep hi hj q) (fun p q=>⟨rfl,q⟩) _ (Jm (by lia)))) ?_ fun _ _ e=>e)
  rintro⟨⟨⟩,wN⟩ s' ⟨rfl,p,hp,W6,hf,q1,q2⟩
  dsimp only
  have DO:=kat_snds (ks:=vs) (vs:=vs) rfl W6
  rw[DO]
  refine aA (seqEpoch_at Vg rfl ?_)
  refine aA (wD Vg rfl ?_ (bh _) (by rw[bB,ae,oB,hp]; lia))
  rw[hf]
  simp only[bne_self_eq_false,Bool.false_eq_true,if_false]
  exact bE (h p q1 q2)
theorem GQ {l:Addr}{vs:List Value}{Q:Value->Shared->Prop}{key:Nat->Int}{κ:SortKind}(hl:s.heap.IsList l vs.toArray)(Dc:vs.length < 64)
  (hk:2<=vs.length-> ∀(s':Shared) (Q:SortKind->Shared->Prop),(∀b o,s.heap.get? b=some o->s'.heap.get? b=some o)->Q κ s'->wpAny (model prog w) A.in1.in1 (keyKind' vs.toArray) Q (fun _ _=>False) s')
  (hc: ∀(s':Shared) (i j:Nat) (C:Bool->Shared->Prop),(∀b o,s.heap.get? b=some o->s'.heap.get? b=some o)->i < vs.length->j < vs.length->C (decide (key i < key j)) s'->
   wpAny (model prog w) A.in1.in1 (keyLt' κ (vs.getD i Value.none) (vs.getD j Value.none)) C (fun _ _=>False) s')
  (h: ∀p:Array Nat,qJ vs.length p->lz key p vs.length->Q (.ref (s.heap.objs.size + 1)) {s with heap:=sortedAll s.heap vs (p.toList.map fun i=>vs.getD i Value.none).toArray}):
  wpAny (model prog w) A (call (.builtin "sorted") [.ref l]) Q E s:=by
 have Vh:sizeLine=16777216:=eI
 refine Calls.call_function_entry kind_sorted plain_sorted entry_sorted (args_sorted1 _) ?_
 unfold Builtin.«sorted»
 refine aA (m:=checkCount "sorted" 1 1 _) (bE ?_)
 refine aA (collect_list hl ?_ (by lia))
 refine aA (Li ?_ (by show vs.length<=_; lia))
 have hsz:((s.heap.push (seqObj "list" #[] 0)).update s.heap.objs.size (Obj.mapSeq (· ++ vs.toArray))).objs.size=s.heap.objs.size + 1:=by
  rw[pE,size_push']
 have N5:(((s.heap.push (seqObj "list" #[] 0)).update s.heap.objs.size (Obj.mapSeq (· ++ vs.toArray))).push (seqObj "list" vs.toArray 0)).get? (s.heap.objs.size + 1)=some (seqObj "list" vs.toArray 0):=by
  rw[← hsz]; exact bL _ rfl
 have keep: ∀b o,s.heap.get? b=some o->b≠s.heap.objs.size + 1/\(((s.heap.push (seqObj "list" #[] 0)).update s.heap.objs.size (Obj.mapSeq (· ++ vs.toArray))).push (seqObj "list" vs.toArray 0)).get? b=some o:=fun b o q=>by
  have iu:b < s.heap.objs.size:=aM q
  refine⟨a6 (iT iu),?_⟩
  rw[mP _ _ _ (by rw[hsz]; exact a6 (iT iu)),Iy _ _ _ _ (a6 iu),mP _ _ _ (a6 iu)]
  exact q
 show wpAny _ _ _ _ _ {s with heap:=((s.heap.push (seqObj "list" #[] 0)).update s.heap.objs.size (Obj.mapSeq (· ++ vs.toArray))).push (seqObj "list" vs.toArray 0)}
 rw[hsz]
 refine aA (iq (wpAny_call_entry slot_list_sort ⟨_,N5,rfl⟩ entry_list_sort (zr (key:=key) (κ:=κ) N5 Dc
  (fun h2 s' Q' kp q=>hk h2 s' Q' (fun b o e=>kp b o (keep b o e).1 (keep b o e).2) q) (fun s' i j C kp hi hj q=>hc s' i j C (fun b o e=>kp b o (keep b o e).1 (keep b o e).2) hi hj q) fun p a1 a2=>⟨_,rfl,?_⟩) (args_list_sort _)))
 exact bE ⟨_,rfl,h p a1 a2⟩
theorem m9 {b:Bool}{Q:Bool->Shared->Prop}: ∀{ts us:List Int} {vs ws:List Value} (i:Nat),IntsAre vs ts->IntsAre ws us->Q (HT.lexLt ts us) s->
  KatLex prog w A b (decide (ts.length < us.length)) Q (vs.zip ws) i s
 |_,_,_,_,i,.nil,.nil,q=>q
 |_,_,_,_,i,.nil,.cons _ _ _,q=>by
  show Q (decide _) s
  rw[decide_eq_true (by simp)]; exact q
 |_,_,_,_,i,.cons _ _ _,.nil,q=>by
  show Q (decide _) s
  rw[decide_eq_false (by simp)]; exact q
 |_,_,_,_,i,.cons x t r,.cons y u r',q=>by
  refine kat_cons ?_
  have he:=SeqAt.EqAt.int_int (A:=A) (s:=s) x t y u
  refine he prog w _ _ ?_
  rw[HT.l4] at q
  by_cases e:x=y
  ·rw[a8 e] at q
   have eb:(x == y)=true:=by simp[e]
   rw[eb]
   refine kat_yes ?_
   have hd: ∀(a b:Nat),decide (a + 1 < b + 1)=decide (a < b):=fun a b=>by
    rw[Bool.eq_iff_iff]; simp
   rw[bS,bS,hd]
   exact m9 (i + 1) r r' q
  ·rw[aU e] at q
   have eb:(x == y)=false:=by simpa using e
   rw[eb]
   refine kat_no ?_
   cases hb:(b && i == 0) with
   |true=>exact oneLt_int q
   |false=>exact kat_one _ _ (PyProof.Rows.lt_int q)
end
def gr (H:Hp)(ts:List (List Int))(xs:List V):Prop:=Paired (fun(t:List Int) v=> ∃p,v= .ref p/\H p=some (.tup (t.map V.int))) ts xs
theorem gr.mono {H H':Hp}{ts:List (List Int)}{xs:List V}(h:gr H ts xs)(k: ∀b xs,H b=some (.tup xs)->H' b=some (.tup xs)):gr H' ts xs:=
 Paired.gP h fun _ _ ⟨p,e,q⟩=>⟨p,e,k _ _ q⟩
theorem gr.get {H:Hp}{ts:List (List Int)}{xs:List V}(h:gr H ts xs){i:Nat}(hi:i < ts.length): ∃p,xs.getD i .eu= .ref p/\H p=some (.tup ((ts.getD i []).map V.int)):=by
 have g:ts[i]? =some ts[i]:=af hi
 obtain⟨v,hv,p,e,q⟩:=bI h g
 refine⟨p,?_,?_⟩
 ·rw[aj,hv,e]; rfl
 ·rw[aj,g]; exact q
theorem jE {xs:List V}{us:List Value}(r:Vals xs us)(i:Nat):RelV (xs.getD i .eu) (us.getD i .none):=by
 by_cases hi:i < xs.length
 ·have g:xs[i]? =some xs[i]:=af hi
  obtain⟨u,h1,h2⟩:=r.get g
  rw[aj,aj,g,h1]
  exact h2
 ·have h1:xs[i]? =none:=lU (by lia)
  rw[aj,aj,h1,r.none_of h1]
  rfl
theorem sk {xs:List V}{us:List Value}(r:Vals xs us): ∀l:List Nat,Vals (l.map fun i=>xs.getD i .eu) (l.map fun i=>us.getD i .none)
 |[]=> .nil
 |i :: l=> .cons (jE r i) (sk r l)
theorem yo {H:Hp}{ts:List (List Int)}{xs:List V}(h:gr H ts xs): ∀l:List Nat,(∀i∈l,i < ts.length)->gr H (l.map fun i=>ts.getD i []) (l.map fun i=>xs.getD i .eu)
 |[],_=> .nil
 |i :: l,hl=> .cons (by
   obtain⟨p,e,q⟩:=h.get (hl i bJ)
   exact⟨p,e,q⟩) (yo h l fun j hj=>hl j (ba _ hj))
theorem range_getD {α:Type}(ts:List α)(d:α):(List.range ts.length).map (fun i=>ts.getD i d)=ts:=by
 apply Gd
 intro i
 rw[aB]
 by_cases hi:i < ts.length
 ·rw[List.getElem?_range hi,oA,aj,af hi]; rfl
 ·rw[List.getElem?_eq_none (by simpa using hi),List.getElem?_eq_none (by lia)]; rfl
theorem qJ.list {n:Nat}{p:Array Nat}(h:qJ n p):p.toList.Perm (List.range n):=by
 have:=Array.perm_iff_toList_perm.mp h
 simpa using this
theorem sX {p:Array Nat}{n:Nat}{key:Nat->Int}(hp:p.size=n)(h:lz key p n):p.toList.Pairwise (fun i j=>key i<=key j):=by
 rw[List.pairwise_iff_getElem]
 intro i j hi hj ZL
 have wW:i < p.size:=by simpa using hi
 have Vi:j < p.size:=by simpa using hj
 have:=h i j (by lia) (by lia)
 unfold kf at this
 have e1:p.getD i 0=p.toList[i]:=by simp[Array.getD,wW]
 have e2:p.getD j 0=p.toList[j]:=by simp[Array.getD,Vi]
 rw[e1,e2] at this
 exact this
section
variable {X:Cx}
theorem Inv.tupI {pins:List (Addr×Obj)}{σ:St}{H:Hp}{s:Shared}(I:Inv X pins σ H s){p:Addr}{t:List Int}(h:H p=some (.tup (t.map V.int))):
  ∃(o:Obj) (bZ:List Value) (n:Nat),s.heap.get? p=some o/\o.cls= .type "tuple"/\o.data= .seq bZ.toArray n/\IntsAre bZ t:=by
 obtain⟨_,bZ,rv,o,ho,hc,n,hd⟩:=(show dA X.prog X.w H s.heap p (.tup (t.map V.int)) from I.cu p _ h)
 exact⟨o,bZ,n,ho,hc,hd,intsAre_of rv⟩
theorem sm {pins:List (Addr×Obj)}{σ:St}{H:Hp}{s:Shared}(I:Inv X pins σ H s){h':Heap}(kp: ∀b o,s.heap.get? b=some o->h'.get? b=some o): ∀{ts:List (List Int)} {xs:List V} {us:List Value},gr H ts xs->Vals xs us->(∀t∈ts,t≠[])->
  ∃fs:List Value,KatTups h' us fs/\fs.length=us.length/\ ∀v∈fs,∃n t,v= .int n t
 |[],_,us,.nil,r,_=>by
  have e:us=[]:=r.zero
  subst e
  exact⟨[],trivial,rfl,fun v hv=>by cases hv⟩
 |t :: ts,_,_,.cons ⟨p,e,q⟩ rest,.cons r1 r2,je=>by
  subst e
  obtain⟨fs,h1,h2,h3⟩:=sm I kp rest r2 fun t ht=>je t (ba _ ht)
  obtain⟨o,bZ,n,ho,hc,hd,hi⟩:=I.tupI q
  have ht:t≠[]:=je t bJ
  cases hi with
  |nil=>exact absurd rfl ht
  |cons z tk wW=>
   cases r1
   refine⟨.int z tk :: fs,⟨⟨p,o,_,n,rfl,kp _ _ ho,hc,hd,by simp⟩,h1⟩,by rw[List.length_cons,List.length_cons,h2],fun v hv=>?_⟩
   rcases aw.mp hv with rfl|hv
   ·exact⟨z,tk,rfl⟩
   ·exact h3 v hv
def OK (K:Frag):List V->Hp->VK->Prop:=fun vs H Q=> ∃a xs ts,∃key:List Int->Int,vs=[V.ref a]/\bA K H a xs/\xs.length < 64/\gr H ts xs/\(∀t∈ts,t≠[])/\(∀t∈ts,∀u∈ts,HT.lexLt t u=decide (key t < key u))/\
 ∀D ys us,H D=none->gr H us ys->us.Perm ts->us.Pairwise (fun t u=>key t<=key u)->Q (V.ref D) (upd H D (.lst ys))
theorem qL:iN X (.builtin "sorted") (OK X.K):=by
 intro pins s σ H xs us Q I r h
 obtain⟨a,xs,ts,key,rfl,hq,Dc,hT,je,II,q⟩:=h
 obtain⟨u,rfl,ru⟩:=vals1 r
 cases ru
 obtain⟨bZ,rv,pl,hz⟩:=I.list hq
 have hl:=rv.length
 have iu:ts.length=xs.length:=hT.length
 refine GQ (κ:=tuples' true) (key:=fun i=>key (ts.getD i [])) pl.isList (by lia) (fun h2 s' Q' kp q'=>?_) (fun s' i j C kp hi hj q'=>?_) fun p hp hup=>?_
 ·obtain⟨fs,f1,f2,f3⟩:=sm I kp hT rv je
  refine kat_kind (T:= .type "int") f1 (by lia) (fun v hv=>?_) rfl q'
  obtain⟨n,t,rfl⟩:=f3 v hv
  exact Looks.of_pure rfl
 ·obtain⟨p1,e1,g1⟩:=hT.get (i:=i) (by lia)
  obtain⟨p2,e2,g2⟩:=hT.get (i:=j) (by lia)
  have w1:=jE rv i
  have w2:=jE rv j
  rw[e1] at w1
  rw[e2] at w2
  have w1':bZ.getD i Value.none= .ref p1:=w1
  have w2':bZ.getD j Value.none= .ref p2:=w2
  rw[w1',w2']
  obtain⟨o1,W7,n1,GO,hc1,l7,Sq⟩:=I.tupI g1
  obtain⟨o2,Gz,n2,QJ,LR,hd2,Sr⟩:=I.tupI g2
  refine kat_lt (kp _ _ GO) l7 (kp _ _ QJ) hd2 ?_
  have l1:=Sq.length
  have l2:=Sr.length
  have m1:ts.getD i []∈ts:=by rw[aj,af (show i < ts.length by lia)]; exact bG _
  have m2:ts.getD j []∈ts:=by rw[aj,af (show j < ts.length by lia)]; exact bG _
  have k:=m9 (prog:=X.prog) (w:=X.w) (A:=X.A.in1.in1) (b:=true) (Q:=C) (s:=s') 0 Sq Sr (by rw[II _ m1 _ m2]; exact q')
  rw[bB,bB,l1,l2]
  exact k
 ·have lA:=hp.size
  have hD:H (s.heap.objs.size + 1)=none:=I.cu.fresh (dI _)
  obtain⟨e,he⟩:=sortedAll_at s.heap bZ (p.toList.map fun i=>bZ.getD i Value.none).toArray
  refine⟨.ref (s.heap.objs.size + 1),_,I.laid (t':=s.toks) (a:=s.heap.objs.size + 1) (o:= .lst (p.toList.map fun i=>xs.getD i .eu)) (fun b o q=>sortedAll_old q) (dI _) ⟨?_,_,e,sk rv p.toList,he⟩,rfl,q _ _ (p.toList.map fun i=>ts.getD i []) hD ?_ ?_ ?_⟩
  ·rw[ae,oB,lA]
   exact aZ (iH hl.symm) hz
  ·refine yo hT p.toList fun i hi=>?_
   have:=(hp.list.mem_iff).mp hi
   rw[dk] at this
   lia
  ·have e1:=hp.list.map (fun i=>ts.getD i [])
   rw[← hl,← iu,range_getD] at e1
   exact e1
  ·rw[rQ]
   exact sX lA hup
theorem sY (ns:List Int): ∀n,n<=ns.length->preSum (fun i=>ns.getD i 0) n=(ns.take n).sum
 |0,_=>by simp[preSum]
 |n + 1,h=>by
  rw[preSum,sY ns n (by lia),A4,List.sum_append,af (by lia),aj,af (by lia)]
  simp
def Ss (K:Frag):List V->Hp->VK->Prop:=fun xs H Q=> ∃(p:Addr) (ns:List Int),xs=[V.ref p]/\bA K H p (ns.map V.int)/\Q (.int ns.sum) H
theorem lB (hc:X.calm=true):iN X (.builtin "sum") (Ss X.K):=by
 intro pins s σ H xs us Q I r h
 obtain⟨p,ns,rfl,hq,q⟩:=h
 obtain⟨u,rfl,ru⟩:=vals1 r
 cases ru
 obtain⟨bZ,rv,pl,hz⟩:=I.list hq
 have hI:IntsAre bZ ns:=intsAre_of rv
 have hl:=hI.length
 have hh:=I.ok.hd hc
 have hT:s.heap.IsList p bZ.toArray:=pl.isList
 have hp:p < s.heap.objs.size:=by
  obtain⟨o,ho,_⟩:=hT
  exact aM ho
 have W8:p≠s.heap.objs.size:=a6 hp
 refine call_sum_walkG (wpAny_pyIter_list hT ?_)
 refine⟨_,[_,p],[_],_,_,_,fun i=>ns.getD i 0,rfl,Walks.list (A:=X.A.in1) hh _ p W8 bZ.toArray,
  ⟨⟨_,Heap.get?_push_size _ rfl,rfl,rfl⟩,hT.push _⟩,fun c hc=>?_,(fun i v hv=>IntsAre.int_at hI i v (by simpa using hv)),fun h' tk t' hk=>?_⟩
 ·show c < (s.heap.push _).objs.size
  rw[oh]
  rcases aw.mp hc with rfl|hc
  ·exact f7 _
  ·rcases aw.mp hc with rfl|hc
   ·exact iT hp
   ·cases hc
 ·refine⟨.int _,H,I.kept (t':=tk) (fun b o e=>hk b o (fun hm=>?_) (ax _ e)),⟨_,rfl⟩,?_⟩
  ·rw[ao] at hm
   exact absurd hm (a6 (aM e))
  ·rw[bB,hl,sY ns ns.length (aE _),a7]
   exact q
theorem yp (a:Array Nat): ∀(n:Nat) (acc:Array Nat),((List.replicate n a).foldl (· ++ ·) acc).size=acc.size + n * a.size
 |0,acc=>by simp
 |n + 1,acc=>by
  rw[cM,fP,yp a n,Array.size_append,wI]
  lia
def Su:R2:=fun x y H Q=> ∃(z:Str) (n:Int),x= .str z/\y= .int n/\z.length=1/\0<=n/\n<=1000/\ ∀z':Str,z'.length<=1000->Q (.str z') H
theorem zt:oF X (binaryOp .Mult) Su:=by
 intro pins s σ H x y v u Q I rx ry h
 obtain⟨z,n,rfl,rfl,hz,h0,h1,q⟩:=h
 obtain⟨t,rfl⟩:=rx
 obtain⟨t',rfl⟩:=ry
 refine P.mul_str ?_ (fun _ _=>?_) (fun _ _=>?_) ?_
 ·rw[bp (by lia),bp (by lia)]; rfl
 ·rw[hz]
  intro LS
  have:(2 ^ 63 - 1:Int) / n≥1:=by
   have hn:0 < n:=by
    by_cases c:0 < n
    ·exact c
    ·have e:n=0:=by lia
     subst e
     simp at LS
     lia
   exact Int.le_ediv_of_mul_le hn (by lia)
  lia
 ·rw[hz]
  unfold Builtin.Str.tooLong
  simp
  rw[eI]
  lia
 ·by_cases c:n < 1
  ·rw[a8 c]
   exact⟨by decide,⟨.str Str.empty,H,I.tok _,⟨_,rfl⟩,q _ (by show 0<=1000; lia)⟩⟩
  ·rw[aU c]
   by_cases c2:(n == 1 || z.length == 0)=true
   ·rw[a8 c2]
    exact⟨.str z,H,I,⟨_,rfl⟩,q _ (by lia)⟩
   ·rw[aU c2]
    have hsz:((List.replicate n.toNat z.cps).foldl (· ++ ·) #[]).size<=1000:=by
     rw[yp]
     have:z.cps.size=1:=hz
     rw[this]
     simp
     lia
    refine⟨?_,⟨.str _,H,I.tok _,⟨_,rfl⟩,q _ hsz⟩⟩
    show _<=_
    refine aZ hsz ?_
    rw[eI]; lia
end
inductive br where
 |dW (aH:Str) (day A5 dH:Int)
 |rL (aH:Str) (day dH:Int)
 |note (b day dH:Int)
 |set (c b dH:Int)
 |fY (aH:Str)
 |jf (n:Int)
 |ask (aR:Bool) (aH:Str) (day:Int)
 |fR (aH:Str) (day:Int) (bO:List Int)
structure Rw where
 aH:Str
 a:Int
 b:Int
 c:Int
 d:Int
instance:Inhabited Rw:=⟨⟨"",0,0,0,0⟩⟩
structure Bk where
 aI:List Rw
 credits:List Rw
 made:List (Nat×Nat×Int)
def Bk.new:Bk:=⟨[],[],[]⟩
def Bk.cr (S:Bk)(c:Nat):Rw:=S.credits.getD c default
def Bk.bl (S:Bk)(b:Nat):Rw:=S.aI.getD b default
def Bk.eK (S:Bk)(c b:Nat):Bool:=decide ((S.cr c).aH=(S.bl b).aH) && (decide ((S.cr c).c= -1) || decide ((S.cr c).c=(b:Int)))
def Rw.less (r:Rw)(x:Int):Rw:={r with d:=r.d - x}
def Bk.put (S:Bk)(c b:Nat)(x:Int):Bk:=⟨S.aI.set b ((S.bl b).less x),S.credits.set c ((S.cr c).less x),S.made ++ [(c,b,x)]⟩
def iK (a b:Int):Int:=if b < a then b else a
def tX (x:Int×Nat):Int:=x.1 * 1000 + (x.2:Int)
def ins (x:Int×Nat):List (Int×Nat)->List (Int×Nat)
 |[]=>[x]
 |y :: l=>if tX x<=tX y then x :: y :: l else y :: ins x l
def ez:List (Int×Nat)->List (Int×Nat)
 |[]=>[]
 |x :: l=>ins x (ez l)
theorem BD (x y:Int×Nat)(l:List (Int×Nat)):ins x (y :: l)=if tX x<=tX y then x :: y :: l else y :: ins x l:=rfl
theorem vc (x:Int×Nat): ∀l,(ins x l).Perm (x :: l)
 |[]=>NV _
 |y :: l=>by
  unfold ins
  split
  ·exact NV _
  ·exact(List.Perm.cons y (vc x l)).trans (List.Perm.swap x y l)
theorem dg: ∀l,(ez l).Perm l
 |[]=>NV _
 |x :: l=>(vc x (ez l)).trans (List.Perm.cons x (dg l))
theorem Jn (x:Int×Nat): ∀l,l.Pairwise (fun a b=>tX a<=tX b)->(ins x l).Pairwise (fun a b=>tX a<=tX b)
 |[],_=>ko _ _
 |y :: l,h=>by
  rw[en] at h
  unfold ins
  split
  ·rename_i c
   rw[en]
   refine⟨fun z hz=>?_,en.mpr h⟩
   rcases aw.mp hz with rfl|hz
   ·exact c
   ·exact lV c (h.1 z hz)
  ·rename_i c
   rw[en]
   refine⟨fun z hz=>?_,Jn x l h.2⟩
   rcases aw.mp ((vc x l).mem_iff.mp hz) with rfl|hz
   ·lia
   ·exact h.1 z hz
theorem vd: ∀l,(ez l).Pairwise (fun a b=>tX a<=tX b)
 |[]=>List.Pairwise.nil
 |x :: l=>Jn x _ (vd l)
theorem GR (x:Int×Nat): ∀l,(∀y∈l,tX x<=tX y)->ins x l=x :: l
 |[],_=>rfl
 |y :: l,h=>by
  unfold ins
  rw[a8 (h y bJ)]
theorem ve (p:Int×Nat->Bool)(x:Int×Nat): ∀l,l.Pairwise (fun a b=>tX a<=tX b)->(ins x l).filter p=if p x then ins x (l.filter p) else l.filter p
 |[],_=>by
  unfold ins
  cases h:p x <;> simp[h,ins]
 |y :: l,hs=>by
  rw[en] at hs
  rw[BD]
  by_cases c:tX x<=tX y
  ·rw[a8 c]
   cases h:p x
   ·rw[List.filter_cons_of_neg (by simp[h])]
    simp
   ·rw[cv h]
    simp only[if_true]
    rw[GR x]
    intro z hz
    rcases aw.mp (eY.mp hz).1 with rfl|hz'
    ·exact c
    ·exact lV c (hs.1 z hz')
  ·rw[aU c]
   have ih:=ve p x l hs.2
   cases hy:p y
   ·rw[List.filter_cons_of_neg (by simp[hy]),ih,List.filter_cons_of_neg (by simp[hy])]
   ·rw[cv hy,ih,cv hy]
    cases h:p x
    ·simp
    ·simp only[if_true]
     rw[BD,aU c]
theorem l8 (p:Int×Nat->Bool): ∀l,ez (l.filter p)=(ez l).filter p
 |[]=>rfl
 |x :: l=>by
  show _ =(ins x (ez l)).filter p
  rw[ve p x _ (vd l),← l8 p l]
  cases h:p x
  ·rw[List.filter_cons_of_neg (by simp[h])]
   simp
  ·rw[cv h]
   simp[ez]
def gu (rows:List Rw)(aH:Str)(key:Rw->Int):List (Int×Nat):=((List.range rows.length).filter fun k=>decide ((rows.getD k default).aH=aH)).map fun k=>(key (rows.getD k default),k)
def inOrder (rows:List Rw)(aH:Str)(key:Rw->Int):List Nat:=(ez (gu rows aH key)).map (·.2)
def vf (rows:List Rw)(aH:Str)(key:Rw->Int):List (Int×Nat):=
 ((List.range rows.length).filter fun k=>decide ((rows.getD k default).aH=aH) && decide (0 < (rows.getD k default).d)).map fun k=>(key (rows.getD k default),k)
def inTurn (rows:List Rw)(aH:Str)(key:Rw->Int):List Nat:=(ez (vf rows aH key)).map (·.2)
theorem BE (rows:List Rw)(aH:Str)(key:Rw->Int):vf rows aH key=(gu rows aH key).filter fun x=>decide (0 < (rows.getD x.2 default).d):=by
 unfold vf gu
 rw[Lj,qo]
 congr 1
 apply rR
 intro k _
 simp[Bool.and_comm]
theorem sZ {α β:Type}(f:α->β)(p:β->Bool)(l:List α):(l.filter fun x=>p (f x)).map f=(l.map f).filter p:=by
 rw[Lj]; rfl
theorem hX (rows:List Rw)(aH:Str)(key:Rw->Int):inTurn rows aH key=(inOrder rows aH key).filter fun k=>decide (0 < (rows.getD k default).d):=by
 unfold inTurn inOrder
 rw[BE,l8]
 exact sZ (fun x:Int×Nat=>x.2) (fun k=>decide (0 < (rows.getD k default).d)) _
theorem kE {rows:List Rw}{aH:Str}{key:Rw->Int}{k:Nat}:k∈inOrder rows aH key↔k < rows.length/\(rows.getD k default).aH=aH:=by
 unfold inOrder gu
 rw[bF]
 constructor
 ·rintro⟨x,hx,rfl⟩
  obtain⟨j,hj,rfl⟩:=bF.mp ((dg _).mem_iff.mp hx)
  simpa using hj
 ·rintro⟨h1,h2⟩
  refine⟨(key (rows.getD k default),k),(dg _).mem_iff.mpr (bF.mpr ⟨k,?_,rfl⟩),rfl⟩
  exact List.mem_filter.mpr ⟨List.mem_range.mpr h1,by simpa using h2⟩
theorem eR {rows:List Rw}{aH:Str}{key:Rw->Int}{k:Nat}:k∈inTurn rows aH key↔k < rows.length/\(rows.getD k default).aH=aH/\0 < (rows.getD k default).d:=by
 rw[hX,eY,kE]
 simp[and_assoc]
theorem wX (rows:List Rw)(aH:Str)(key:Rw->Int):(inOrder rows aH key).Nodup:=by
 have h:((ez (gu rows aH key)).map (·.2)).Perm ((gu rows aH key).map (·.2)):=(dg _).map _
 refine h.nodup_iff.mpr ?_
 unfold gu
 rw[eD]
 have e:((fun x:Int×Nat=>x.2) ∘ fun k=>(key (rows.getD k default),k))=id:=rfl
 rw[e,Ba]
 exact mH.filter _
theorem l9 (rows:List Rw)(aH:Str)(key:Rw->Int):(inTurn rows aH key).Nodup:=by
 rw[hX]
 exact(wX rows aH key).filter _
def oG (r r':Rw):Prop:=r'.aH=r.aH/\r'.a=r.a/\r'.b=r.b/\r'.c=r.c
theorem oG.refl (r:Rw):oG r r:=⟨rfl,rfl,rfl,rfl⟩
theorem oG.trans {r s t:Rw}(h:oG r s)(k:oG s t):oG r t:=⟨k.1.trans h.1,k.2.1.trans h.2.1,k.2.2.1.trans h.2.2.1,k.2.2.2.trans h.2.2.2⟩
theorem BF {rows iy:List Rw}{aH:Str}{key:Rw->Int}(hk: ∀r r',oG r r'->key r'=key r)(hl:iy.length=rows.length)(h: ∀k,oG (rows.getD k default) (iy.getD k default)):gu iy aH key=gu rows aH key:=by
 unfold gu
 rw[hl]
 have e:(fun k=>decide ((iy.getD k default).aH=aH))=fun k=>decide ((rows.getD k default).aH=aH):=by
  funext k
  rw[(h k).1]
 rw[e]
 apply gS
 intro k _
 rw[hk _ _ (h k)]
theorem zu {rows iy:List Rw}{aH:Str}{key:Rw->Int}(hk: ∀r r',oG r r'->key r'=key r)(hl:iy.length=rows.length)(h: ∀k,oG (rows.getD k default) (iy.getD k default)):inOrder iy aH key=inOrder rows aH key:=by
 unfold inOrder
 rw[BF hk hl h]
theorem zv {rows iy:List Rw}{aH:Str}{key:Rw->Int}(hk: ∀r r',oG r r'->key r'=key r)(hl:iy.length=rows.length)(h: ∀k,oG (rows.getD k default) (iy.getD k default))(hd: ∀k,(iy.getD k default).d<=(rows.getD k default).d):
  inTurn iy aH key=(inTurn rows aH key).filter fun k=>decide (0 < (iy.getD k default).d):=by
 rw[hX,hX,zu hk hl h,qo]
 apply rR
 intro k _
 have:=hd k
 by_cases c:0 < (iy.getD k default).d
 ·have c2:0 < (rows.getD k default).d:=by lia
  rw[aG c,aG c2]
  rfl
 ·rw[bp c]
  rfl
def cq (exact:Bool)(c:Nat)(S:Bk)(b:Nat):Bk:=
 if 0 < (S.cr c).d/\S.eK c b=true/\((S.cr c).d=(S.bl b).d∨exact=false) then S.put c b (iK (S.cr c).d (S.bl b).d) else S
def cV (aH:Str)(exact:Bool)(S:Bk)(c:Nat):Bk:=(inTurn S.aI aH (·.b)).foldl (cq exact c) S
def bQ (aH:Str)(S:Bk)(exact:Bool):Bk:=(inTurn S.credits aH (·.a)).foldl (cV aH exact) S
def Bk.jR (S:Bk)(aH:Str):Bk:=bQ aH (bQ aH S true) false
theorem BG {α:Type}{l:List α}{i k:Nat}{v d:α}(h:i < l.length):(l.set i v).getD k d=if k=i then v else l.getD k d:=by
 rw[aj,aj]
 by_cases c:k=i
 ·subst c
  rw[a8 rfl,k9 h]
  rfl
 ·rw[aU c,mM (fun z=>c z.symm)]
theorem vg {S:Bk}{c b k:Nat}{x:Int}(h:b < S.aI.length):(S.put c b x).bl k=if k=b then(S.bl b).less x else S.bl k:=BG h
theorem sq {S:Bk}{c b k:Nat}{x:Int}(h:c < S.credits.length):(S.put c b x).cr k=if k=c then(S.cr c).less x else S.cr k:=BG h
def kz (S:Bk)(l:List (Nat×Nat×Int)):Bk:=l.foldl (fun S t=>S.put t.1 t.2.1 t.2.2) S
theorem ng (S:Bk)(l m:List (Nat×Nat×Int)):kz S (l ++ m)=kz (kz S l) m:=by
 unfold kz; rw[List.foldl_append]
theorem jF (S:Bk): ∀l,(kz S l).made=S.made ++ l
 |[]=>by simp[kz]
 |t :: l=>by
  show(kz (S.put t.1 t.2.1 t.2.2) l).made=_
  rw[jF _ l]
  simp[Bk.put]
structure Later (S S':Bk):Prop where
 bl:S'.aI.length=S.aI.length
 cl:S'.credits.length=S.credits.length
 b: ∀k,oG (S.bl k) (S'.bl k)/\(S'.bl k).d<=(S.bl k).d
 c: ∀k,oG (S.cr k) (S'.cr k)/\(S'.cr k).d<=(S.cr k).d
theorem Later.refl (S:Bk):Later S S:=⟨rfl,rfl,fun k=>⟨oG.refl _,fQ _⟩,fun k=>⟨oG.refl _,fQ _⟩⟩
theorem Later.trans {S T U:Bk}(h:Later S T)(k:Later T U):Later S U:=
 ⟨k.bl.trans h.bl,k.cl.trans h.cl,fun i=>⟨(h.b i).1.trans (k.b i).1,lV (k.b i).2 (h.b i).2⟩,fun i=>⟨(h.c i).1.trans (k.c i).1,lV (k.c i).2 (h.c i).2⟩⟩
theorem Later.put {S:Bk}{c b:Nat}{x:Int}(hb:b < S.aI.length)(hc:c < S.credits.length)(hx:0<=x):Later S (S.put c b x):=by
 refine⟨eh,eh,fun k=>?_,fun k=>?_⟩
 ·rw[vg hb]
  split
  ·rename_i e
   subst e
   exact⟨oG.refl _,by show(S.bl k).d - x<=_; lia⟩
  ·exact⟨oG.refl _,fQ _⟩
 ·rw[sq hc]
  split
  ·rename_i e
   subst e
   exact⟨oG.refl _,by show(S.cr k).d - x<=_; lia⟩
  ·exact⟨oG.refl _,fQ _⟩
theorem Later.eK {S T:Bk}(h:Later S T)(c b:Nat):T.eK c b=S.eK c b:=by
 unfold Bk.eK
 rw[(h.c c).1.1,(h.b b).1.1,(h.c c).1.2.2.2]
theorem Later.Nl {S T:Bk}(h:Later S T)(aH:Str):inTurn T.aI aH (·.b)=(inTurn S.aI aH (·.b)).filter fun k=>decide (0 < (T.bl k).d):=
 zv (fun r r' z=>z.2.2.1) h.bl (fun k=>(h.b k).1) (fun k=>(h.b k).2)
def g6 (f:Int)(ls:List Int)(row:List Bool)(tk:Nat->Bool):Option Nat:=(List.range ls.length).find? fun j=>row.getD j false && decide (ls.getD j 0=f) && !tk j
def bU (fs ls:List Int)(al:List (List Bool)):Nat->(Nat->Bool)×List (Nat×Nat×Int)
 |0=>(fun _=>false,[])
 |i + 1=>match g6 (fs.getD i 0) ls (al.getD i []) (bU fs ls al i).1 with
  |none=>bU fs ls al i
  |some j=>(fun x=>x == j || (bU fs ls al i).1 x,(bU fs ls al i).2 ++ [(i,j,fs.getD i 0)])
def ma (gs ts:List Nat)(t:Nat×Nat×Int):Nat×Nat×Int:=(gs.getD t.1 0,ts.getD t.2.1 0,t.2.2)
theorem yq {α:Type}(l:List α)(d:α):(List.range l.length).map (fun j=>l.getD j d)=l:=by
 apply List.ext_getElem
 ·rw[ae,dr]
 ·intro i h1 h2
  rw[List.getElem_map,List.getElem_range,aj,af h2]
  rfl
theorem DP {α:Type}(l:List α)(d:α)(p:α->Bool):l.find? p=((List.range l.length).find? fun j=>p (l.getD j d)).map fun j=>l.getD j d:=by
 have e:l.find? p=((List.range l.length).map (fun j=>l.getD j d)).find? p:=by rw[yq]
 rw[e,List.find?_map]
 rfl
theorem jS {l:List Nat}{i:Nat}(h:i < l.length):l.getD i 0∈l:=by
 rw[aj,af h]
 exact bG _
theorem getD_map {α β:Type}(f:α->β)(l:List α)(i:Nat)(d:α)(e:β)(h:i < l.length):(l.map f).getD i e=f (l.getD i d):=by
 rw[aj,aj,aB,af h]
 rfl
theorem getD_inj {l:List Nat}(nd:l.Nodup){i j:Nat}(hi:i < l.length)(hj:j < l.length)(h:l.getD i 0=l.getD j 0):i=j:=by
 rw[aj,aj,af hi,af hj] at h
 exact(List.getElem_inj nd).mp h
theorem idle {ex:Bool}{c:Nat}: ∀{l:List Nat} {S:Bk},(S.cr c).d<=0->l.foldl (cq ex c) S=S
 |[],_,_=>rfl
 |b :: l,S,h=>by
  rw[fP]
  have e:cq ex c S b=S:=by
   unfold cq
   rw[aU (fun z=>by lia)]
  rw[e]
  exact idle h
theorem E8 {c:Nat}{S:Bk}(hc:c < S.credits.length): ∀{l:List Nat},(∀b∈l,b < S.aI.length)->0 < (S.cr c).d->l.foldl (cq true c) S=match l.find? (fun b=>S.eK c b && decide ((S.bl b).d=(S.cr c).d)) with
  |none=>S
  |some b=>S.put c b (S.cr c).d
 |[],_,_=>rfl
 |b :: l,hl,h=>by
  rw[fP]
  by_cases z:(S.eK c b && decide ((S.bl b).d=(S.cr c).d))=true
  ·rw[List.find?_cons_of_pos (p:=fun b=>S.eK c b && decide ((S.bl b).d=(S.cr c).d)) z]
   have z':S.eK c b=true/\(S.bl b).d=(S.cr c).d:=by simpa using z
   have e:cq true c S b=S.put c b (S.cr c).d:=by
    unfold cq
    rw[a8 ⟨h,z'.1,.inl z'.2.symm⟩,z'.2]
    congr 1
    unfold iK
    split <;> rfl
   rw[e]
   refine idle ?_
   rw[sq hc,a8 rfl]
   show(S.cr c).d - (S.cr c).d<=0
   lia
  ·rw[List.find?_cons_of_neg (p:=fun b=>S.eK c b && decide ((S.bl b).d=(S.cr c).d)) z]
   have e:cq true c S b=S:=by
    unfold cq
    rw[aU]
    rintro⟨_,z1,z2⟩
    rcases z2 with z2|z2
    ·exact z (by simp[z1,z2])
    ·cases z2
   rw[e]
   exact E8 hc (fun x hx=>hl x (ba _ hx)) h
structure vh (S:Bk)(aH:Str)(gs ts:List Nat)(fs ls:List Int)(al:List (List Bool)):Prop where
 eg:gs=inTurn S.credits aH (·.a)
 et:ts=inTurn S.aI aH (·.b)
 ef:fs=gs.map fun g=>(S.cr g).d
 el:ls=ts.map fun t=>(S.bl t).d
 ea:al=gs.map fun g=>ts.map fun t=>S.eK g t
section
variable {S:Bk}{aH:Str}{gs ts:List Nat}{fs ls:List Int}{al:List (List Bool)}
theorem vh.g (R:vh S aH gs ts fs ls al){i:Nat}(h:i < gs.length):gs.getD i 0 < S.credits.length/\0 < (S.cr (gs.getD i 0)).d/\fs.getD i 0=(S.cr (gs.getD i 0)).d:=by
 have m:=jS h
 rw[R.eg] at m
 obtain⟨m1,_,m3⟩:=eR.mp m
 rw[← R.eg] at m1 m3
 exact⟨m1,m3,by rw[R.ef,getD_map _ gs i 0 0 h]⟩
theorem vh.t (R:vh S aH gs ts fs ls al){i:Nat}(h:i < ts.length):ts.getD i 0 < S.aI.length/\0 < (S.bl (ts.getD i 0)).d/\ls.getD i 0=(S.bl (ts.getD i 0)).d:=by
 have m:=jS h
 rw[R.et] at m
 obtain⟨m1,_,m3⟩:=eR.mp m
 rw[← R.et] at m1 m3
 exact⟨m1,m3,by rw[R.el,getD_map _ ts i 0 0 h]⟩
theorem vh.a (R:vh S aH gs ts fs ls al){i j:Nat}(hi:i < gs.length)(hj:j < ts.length):(al.getD i []).getD j false=S.eK (gs.getD i 0) (ts.getD j 0):=by
 rw[R.ea,getD_map _ gs i 0 [] hi,getD_map _ ts j 0 false hj]
theorem vh.gn (R:vh S aH gs ts fs ls al):gs.Nodup:=by rw[R.eg]; exact l9 _ _ _
theorem vh.tn (R:vh S aH gs ts fs ls al):ts.Nodup:=by rw[R.et]; exact l9 _ _ _
theorem vh.ll (R:vh S aH gs ts fs ls al):ls.length=ts.length:=by rw[R.el,ae]
theorem vh.tm (R:vh S aH gs ts fs ls al){b:Nat}(h:b∈ts):b < S.aI.length:=by
 rw[R.et] at h
 exact(eR.mp h).1
theorem pP {l:List Nat}{i:Nat}(h:i < l.length):l.take (i + 1)=l.take i ++ [l.getD i 0]:=by
 rw[A4,af h,aj,af h]
 rfl
structure W9 (S:Bk)(aH:Str)(gs ts:List Nat)(fs ls:List Int)(i:Nat)(st:(Nat->Bool)×List (Nat×Nat×Int))(Si:Bk):Prop where
 run:(gs.take i).foldl (cV aH true) S=Si
 eq:Si=kz S (st.2.map (ma gs ts))
 later:Later S Si
 b: ∀j,j < ts.length->(Si.bl (ts.getD j 0)).d=if st.1 j=true then 0 else ls.getD j 0
 c: ∀k,i<=k->k < gs.length->(Si.cr (gs.getD k 0)).d=fs.getD k 0
theorem BH (R:vh S aH gs ts fs ls al){i:Nat}{Si:Bk}(hi:i < gs.length)(J:W9 S aH gs ts fs ls i (bU fs ls al i) Si): ∃S',W9 S aH gs ts fs ls (i + 1) (bU fs ls al (i + 1)) S':=by
 obtain⟨g1,g2,g3⟩:=R.g hi
 have gc:gs.getD i 0 < Si.credits.length:=by rw[J.later.cl]; exact g1
 have fr:(Si.cr (gs.getD i 0)).d=fs.getD i 0:=J.c i (aE _) hi
 have fp:0 < (Si.cr (gs.getD i 0)).d:=by rw[fr,g3]; exact g2
 have find:((inTurn Si.aI aH (·.b)).find? fun b=>Si.eK (gs.getD i 0) b && decide ((Si.bl b).d=(Si.cr (gs.getD i 0)).d))=(g6 (fs.getD i 0) ls (al.getD i []) (bU fs ls al i).1).map fun j=>ts.getD j 0:=by
  rw[J.later.Nl,← R.et,List.find?_filter,DP ts 0]
  unfold g6
  rw[R.ll]
  congr 1
  have q: ∀j∈List.range ts.length,(decide (0 < (Si.bl (ts.getD j 0)).d) && (Si.eK (gs.getD i 0) (ts.getD j 0) && decide ((Si.bl (ts.getD j 0)).d=(Si.cr (gs.getD i 0)).d)))=((al.getD i []).getD j false && decide (ls.getD j 0=fs.getD i 0) && !(bU fs ls al i).1 j):=by
   intro j hj
   have hj:=dk.mp hj
   rw[R.a hi hj,J.later.eK,J.b j hj,fr]
   obtain⟨_,t2,t3⟩:=R.t hj
   cases h:(bU fs ls al i).1 j
   ·simp only[Bool.false_eq_true,if_false,Bool.not_false,Bool.and_true]
    rw[t3,aG t2]
    simp
   ·simp
  have key: ∀(l:List Nat) (p q:Nat->Bool),(∀j∈l,p j=q j)->l.find? p=l.find? q:=by
   intro l p q h
   induction l with
   |nil=>rfl
   |cons x l ih=>
    rw[List.find?_cons,List.find?_cons,h x bJ,ih fun j hj=>h j (ba _ hj)]
  refine key _ _ _ fun j hj=>?_
  rw[← q j hj]
  simp
 have run:(gs.take (i + 1)).foldl (cV aH true) S=match(g6 (fs.getD i 0) ls (al.getD i []) (bU fs ls al i).1).map (fun j=>ts.getD j 0) with
   |none=>Si
   |some b=>Si.put (gs.getD i 0) b (Si.cr (gs.getD i 0)).d:=by
  rw[pP hi,rT,J.run]
  show cV aH true Si (gs.getD i 0)=_
  unfold cV
  rw[E8 gc (fun b hb=>(eR.mp hb).1) fp,find]
 cases h:g6 (fs.getD i 0) ls (al.getD i []) (bU fs ls al i).1 with
 |none=>
  rw[h] at run
  have e:bU fs ls al (i + 1)=bU fs ls al i:=by rw[bU,h]
  rw[e]
  exact⟨Si,run,J.eq,J.later,J.b,fun k h1 h2=>J.c k (by lia) h2⟩
 |some j=>
  rw[h] at run
  have e:bU fs ls al (i + 1)=(fun x=>x == j || (bU fs ls al i).1 x,(bU fs ls al i).2 ++ [(i,j,fs.getD i 0)]):=by rw[bU,h]
  have hj:j < ts.length:=by
   unfold g6 at h
   have:=NW h
   rw[R.ll] at this
   exact dk.mp this
  have ZM:(al.getD i []).getD j false=true/\ls.getD j 0=fs.getD i 0/\(bU fs ls al i).1 j=false:=by
   unfold g6 at h
   have:=List.find?_some h
   simpa[and_assoc] using this
  obtain⟨t1,t2,t3⟩:=R.t hj
  have tb:ts.getD j 0 < Si.aI.length:=by rw[J.later.bl]; exact t1
  have f0:0<=fs.getD i 0:=by rw[g3]; lia
  have run':(gs.take (i + 1)).foldl (cV aH true) S=Si.put (gs.getD i 0) (ts.getD j 0) (fs.getD i 0):=by
   rw[run,← fr]
   rfl
  rw[e]
  refine⟨Si.put (gs.getD i 0) (ts.getD j 0) (fs.getD i 0),run',?_,J.later.trans (Later.put tb gc f0),fun j' Vi=>?_,fun k h1 h2=>?_⟩
  ·rw[aK,ng,← J.eq]
   rfl
  ·rw[vg tb]
   by_cases q:j'=j
   ·subst q
    rw[a8 rfl]
    simp only[beq_self_eq_true,Bool.true_or,if_true]
    show(Si.bl (ts.getD j' 0)).d - fs.getD i 0=0
    rw[J.b j' hj,ZM.2.2,aU (by decide),ZM.2.1]
    lia
   ·rw[aU fun z=>q (getD_inj R.tn Vi hj z),J.b j' Vi]
    have:(j' == j)=false:=by simpa using q
    show _ =if(j' == j || (bU fs ls al i).1 j')=true then 0 else _
    rw[this,Bool.false_or]
  ·rw[sq gc,aU fun z=>by have:=getD_inj R.gn h2 hi z; lia]
   exact J.c k (by lia) h2
theorem vi (R:vh S aH gs ts fs ls al): ∀i,i<=gs.length-> ∃Si,W9 S aH gs ts fs ls i (bU fs ls al i) Si
 |0,_=>⟨S,rfl,rfl,Later.refl S,fun j hj=>by
   obtain⟨_,_,t3⟩:=R.t hj
   show _ =if false=true then 0 else _
   rw[aU (by decide),t3],fun k _ h2=>by
   obtain⟨_,_,g3⟩:=R.g h2
   exact g3.symm⟩
 |i + 1,h=>by
  obtain⟨Si,J⟩:=vi R i (by lia)
  exact BH R (by lia) J
theorem Jo (R:vh S aH gs ts fs ls al):bQ aH S true=kz S ((bU fs ls al gs.length).2.map (ma gs ts))/\Later S (bQ aH S true):=by
 obtain⟨Si,J⟩:=vi R gs.length (aE _)
 have e:bQ aH S true=Si:=by
  unfold bQ
  rw[← R.eg,← J.run,a7]
 rw[e]
 exact⟨J.eq,J.later⟩
end
theorem E9 {l:List Int}{i j:Nat}{v:Int}(h:i≠j):(l.set i v).getD j 0=l.getD j 0:=by
 rw[aj,aj,mM h]
theorem LU {l:List Int}{i:Nat}{v:Int}(h:i < l.length):(l.set i v).getD i 0=v:=by
 rw[aj,k9 h]; rfl
def dG (l:List Int)(ps:List (Nat×Int)):List Int:=ps.foldl (fun l x=>l.set x.1 (l.getD x.1 0 - x.2)) l
theorem tf (l:List Int)(ps:List (Nat×Int))(x:Nat×Int):dG l (ps ++ [x])=(dG l ps).set x.1 ((dG l ps).getD x.1 0 - x.2):=by
 unfold dG; rw[List.foldl_append]; rfl
theorem pQ (ps:List (Nat×Int)): ∀l:List Int,(dG l ps).length=l.length:=by
 induction ps with
 |nil=>intro l; rfl
 |cons x ps ih=>
  intro l
  show(dG (l.set x.1 _) ps).length=_
  rw[ih,eh]
def bD (f:Int)(l:List Int)(row:List Bool):Nat->Int×List (Nat×Int)
 |0=>(f,[])
 |j + 1=>if row.getD j false=true/\0 < iK (bD f l row j).1 (l.getD j 0) then((bD f l row j).1 - iK (bD f l row j).1 (l.getD j 0),(bD f l row j).2 ++ [(j,iK (bD f l row j).1 (l.getD j 0))]) else bD f l row j
def ck (fs ls:List Int)(al:List (List Bool)):Nat->List Int×List (Nat×Nat×Int)
 |0=>(ls,[])
 |i + 1=>(dG (ck fs ls al i).1 (bD (fs.getD i 0) (ck fs ls al i).1 (al.getD i []) (ck fs ls al i).1.length).2,
   (ck fs ls al i).2 ++ (bD (fs.getD i 0) (ck fs ls al i).1 (al.getD i []) (ck fs ls al i).1.length).2.map fun x=>(i,x.1,x.2))
theorem jG (fs ls:List Int)(al:List (List Bool)): ∀i,(ck fs ls al i).1.length=ls.length
 |0=>rfl
 |i + 1=>by
  show(dG _ _).length=_
  rw[pQ,jG fs ls al i]
def gg (c:Nat)(S:Bk)(b:Nat):Bk:=if 0 < (S.bl b).d then cq false c S b else S
theorem Jp {c b:Nat}{S:Bk}(hc:c < S.credits.length)(hb:b < S.aI.length):Later S (gg c S b)/\ ∀k,k≠b->((gg c S b).bl k).d=(S.bl k).d:=by
 unfold gg cq
 split
 ·rename_i h1
  split
  ·rename_i h2
   refine⟨Later.put hb hc ?_,fun k hk=>by rw[vg hb,aU hk]⟩
   unfold iK
   split <;> lia
  ·exact⟨Later.refl S,fun _ _=>rfl⟩
 ·exact⟨Later.refl S,fun _ _=>rfl⟩
theorem Fb {c:Nat}{S0:Bk}: ∀{l:List Nat} {S:Bk},l.Nodup->c < S.credits.length->(∀b∈l,b < S.aI.length)->(∀b∈l,(S.bl b).d=(S0.bl b).d)->
  (l.filter fun b=>decide (0 < (S0.bl b).d)).foldl (cq false c) S=l.foldl (gg c) S
 |[],_,_,_,_,_=>rfl
 |b :: l,S,nd,hc,hl,hd=>by
  rw[fO] at nd
  obtain⟨lt,ot⟩:=Jp (S:=S) hc (hl b bJ)
  have ih:=Fb (S:=gg c S b) (S0:=S0) (l:=l) nd.2 (by rw[lt.cl]; exact hc) (fun x hx=>by rw[lt.bl]; exact hl x (ba _ hx)) (fun x hx=>by
   rw[ot x (fun z=>nd.1 (z▸hx))]
   exact hd x (ba _ hx))
  rw[fP,← ih]
  have e:=hd b bJ
  by_cases z:0 < (S0.bl b).d
  ·rw[List.filter_cons_of_pos (by simpa using z),List.foldl_cons]
   congr 1
   unfold gg
   rw[a8 (by lia)]
  ·rw[List.filter_cons_of_neg (by simpa using z)]
   congr 1
   unfold gg
   rw[aU (by lia)]
section
variable {S:Bk}{aH:Str}{gs ts:List Nat}{fs ls:List Int}{al:List (List Bool)}
structure OL (S:Bk)(ts:List Nat)(c:Nat)(L:List Int)(j:Nat)(st:Int×List (Nat×Int))(Sj:Bk):Prop where
 run:(ts.take j).foldl (gg c) S=Sj
 eq:Sj=kz S (st.2.map fun x=>(c,ts.getD x.1 0,x.2))
 later:Later S Sj
 f:(Sj.cr c).d=st.1
 b: ∀k,k < ts.length->(Sj.bl (ts.getD k 0)).d=(dG L st.2).getD k 0
 lt: ∀x∈st.2,x.1 < j
 oc: ∀k,k≠c->Sj.cr k=S.cr k
theorem zw {c:Nat}{L:List Int}{row:List Bool}(nd:ts.Nodup)(hc:c < S.credits.length)(ht: ∀b∈ts,b < S.aI.length)(hL:L.length=ts.length)(hb: ∀k,k < ts.length->(S.bl (ts.getD k 0)).d=L.getD k 0)
  (hr: ∀k,k < ts.length->row.getD k false=S.eK c (ts.getD k 0)) {j:Nat} (hj:j < ts.length) {Sj:Bk} (J:OL S ts c L j (bD (S.cr c).d L row j) Sj): ∃S',OL S ts c L (j + 1) (bD (S.cr c).d L row (j + 1)) S':=by
 have ap:(dG L (bD (S.cr c).d L row j).2).getD j 0=L.getD j 0:=by
  have other: ∀(ps:List (Nat×Int)) (l:List Int),(∀x∈ps,x.1≠j)->(dG l ps).getD j 0=l.getD j 0:=by
   intro ps
   induction ps with
   |nil=>intro l h; rfl
   |cons x ps ih=>
    intro l h
    show(dG (l.set x.1 _) ps).getD j 0=_
    rw[ih _ fun y hy=>h y (ba _ hy),E9 (h x bJ)]
  exact other _ _ fun x hx=>a6 (J.lt x hx)
 have bd:(Sj.bl (ts.getD j 0)).d=L.getD j 0:=by rw[J.b j hj,ap]
 have cj:c < Sj.credits.length:=by rw[J.later.cl]; exact hc
 have bj:ts.getD j 0 < Sj.aI.length:=by rw[J.later.bl]; exact ht _ (jS hj)
 have run:(ts.take (j + 1)).foldl (gg c) S=gg c Sj (ts.getD j 0):=by
  rw[pP hj,rT,J.run]
  rfl
 have g:Sj.eK c (ts.getD j 0)=row.getD j false:=by rw[J.later.eK,hr j hj]
 by_cases z:row.getD j false=true/\0 < iK (bD (S.cr c).d L row j).1 (L.getD j 0)
 ·have e:bD (S.cr c).d L row (j + 1)=((bD (S.cr c).d L row j).1 - iK (bD (S.cr c).d L row j).1 (L.getD j 0),(bD (S.cr c).d L row j).2 ++ [(j,iK (bD (S.cr c).d L row j).1 (L.getD j 0))]):=by
   rw[bD,a8 z]
  have z1:0 < (Sj.bl (ts.getD j 0)).d/\0 < (Sj.cr c).d:=by
   rw[bd,J.f]
   have:=z.2
   unfold iK at this
   split at this <;> lia
  have e2:gg c Sj (ts.getD j 0)=Sj.put c (ts.getD j 0) (iK (bD (S.cr c).d L row j).1 (L.getD j 0)):=by
   unfold gg cq
   rw[a8 z1.1,a8 ⟨z1.2,by rw[g]; exact z.1,.inr rfl⟩,J.f,bd]
  rw[e]
  refine⟨_,run.trans e2,?_,J.later.trans (Later.put bj cj (by lia)),?_,fun k hk=>?_,fun x hx=>?_,fun k hk=>?_⟩
  ·rw[aK,ng,← J.eq]
   rfl
  ·rw[sq cj,a8 rfl]
   show(Sj.cr c).d - _ =_
   rw[J.f]
  ·rw[vg bj,tf]
   have len:(dG L (bD (S.cr c).d L row j).2).length=ts.length:=by rw[pQ,hL]
   by_cases q:k=j
   ·subst q
    rw[a8 rfl,LU (by rw[len]; exact hk)]
    show(Sj.bl (ts.getD k 0)).d - _ =(dG L _).getD k 0 - _
    rw[J.b k hk]
   ·rw[aU fun w=>q (getD_inj nd hk hj w),J.b k hk,E9 (wG q)]
  ·rcases bq.mp hx with hx|hx
   ·have:=J.lt x hx
    lia
   ·rw[ao.mp hx]
    exact f7 _
  ·rw[sq cj,aU hk]
   exact J.oc k hk
 ·have e:bD (S.cr c).d L row (j + 1)=bD (S.cr c).d L row j:=by rw[bD,aU z]
  have e2:gg c Sj (ts.getD j 0)=Sj:=by
   unfold gg cq
   split
   ·rename_i h1
    rw[aU]
    rintro⟨h2,h3,_⟩
    refine z ⟨by rw[← g]; exact h3,?_⟩
    rw[bd] at h1
    rw[J.f] at h2
    unfold iK
    split <;> assumption
   ·rfl
  rw[e]
  exact⟨Sj,run.trans e2,J.eq,J.later,J.f,J.b,fun x hx=>by have:=J.lt x hx; lia,J.oc⟩
theorem Fc {c:Nat}{L:List Int}{row:List Bool}(nd:ts.Nodup)(hc:c < S.credits.length)(ht: ∀b∈ts,b < S.aI.length)(hL:L.length=ts.length)(hb: ∀k,k < ts.length->(S.bl (ts.getD k 0)).d=L.getD k 0)
  (hr: ∀k,k < ts.length->row.getD k false=S.eK c (ts.getD k 0)): ∀j,j<=ts.length-> ∃Sj,OL S ts c L j (bD (S.cr c).d L row j) Sj
 |0,_=>⟨S,rfl,rfl,Later.refl S,rfl,hb,(fun _ h=>by cases h),fun _ _=>rfl⟩
 |j + 1,h=>by
  obtain⟨Sj,J⟩:=Fc nd hc ht hL hb hr j (by lia)
  exact zw nd hc ht hL hb hr (by lia) J
structure Xa (S:Bk)(aH:Str)(gs ts:List Nat)(fs:List Int)(i:Nat)(st:List Int×List (Nat×Nat×Int))(Si:Bk):Prop where
 run:(gs.take i).foldl (cV aH false) S=Si
 eq:Si=kz S (st.2.map (ma gs ts))
 later:Later S Si
 b: ∀j,j < ts.length->(Si.bl (ts.getD j 0)).d=st.1.getD j 0
 c: ∀k,i<=k->k < gs.length->(Si.cr (gs.getD k 0)).d=fs.getD k 0
theorem BI (R:vh S aH gs ts fs ls al){i:Nat}{Si:Bk}(hi:i < gs.length)(J:Xa S aH gs ts fs i (ck fs ls al i) Si): ∃S',Xa S aH gs ts fs (i + 1) (ck fs ls al (i + 1)) S':=by
 obtain⟨g1,g2,g3⟩:=R.g hi
 have gc:gs.getD i 0 < Si.credits.length:=by rw[J.later.cl]; exact g1
 have fr:(Si.cr (gs.getD i 0)).d=fs.getD i 0:=J.c i (aE _) hi
 have tl:(ck fs ls al i).1.length=ts.length:=by rw[jG,R.ll]
 have tb: ∀b∈ts,b < Si.aI.length:=fun b hb=>by rw[J.later.bl]; exact R.tm hb
 obtain⟨S',K⟩:=Fc (S:=Si) (ts:=ts) (c:=gs.getD i 0) (L:=(ck fs ls al i).1) (row:=al.getD i []) R.tn gc tb tl J.b (fun k hk=>by rw[R.a hi hk,J.later.eK]) ts.length (aE _)
 have e:(gs.take (i + 1)).foldl (cV aH false) S=S':=by
  rw[pP hi,rT,J.run]
  show cV aH false Si (gs.getD i 0)=_
  unfold cV
  rw[J.later.Nl,← R.et,Fb R.tn gc tb (fun _ _=>rfl),← K.run,a7]
 rw[fr] at K
 have pe:bD (fs.getD i 0) (ck fs ls al i).1 (al.getD i []) ts.length=bD (fs.getD i 0) (ck fs ls al i).1 (al.getD i []) (ck fs ls al i).1.length:=by rw[tl]
 rw[pe] at K
 refine⟨S',e,?_,J.later.trans K.later,K.b,fun k h1 h2=>?_⟩
 ·show S'=kz S (((ck fs ls al i).2 ++ _).map (ma gs ts))
  rw[aK,ng,← J.eq,K.eq,eD]
  rfl
 ·rw[K.oc _ fun z=>by have:=getD_inj R.gn h2 hi z; lia]
  exact J.c k (by lia) h2
theorem vj (R:vh S aH gs ts fs ls al): ∀i,i<=gs.length-> ∃Si,Xa S aH gs ts fs i (ck fs ls al i) Si
 |0,_=>⟨S,rfl,rfl,Later.refl S,fun j hj=>by
   obtain⟨_,_,t3⟩:=R.t hj
   exact t3.symm,fun k _ h2=>by
   obtain⟨_,_,g3⟩:=R.g h2
   exact g3.symm⟩
 |i + 1,h=>by
  obtain⟨Si,J⟩:=vj R i (by lia)
  exact BI R (by lia) J
theorem Jq (R:vh S aH gs ts fs ls al):bQ aH S false=kz S ((ck fs ls al gs.length).2.map (ma gs ts))/\Later S (bQ aH S false):=by
 obtain⟨Si,J⟩:=vj R gs.length (aE _)
 have e:bQ aH S false=Si:=by
  unfold bQ
  rw[← R.eg,← J.run,a7]
 rw[e]
 exact⟨J.eq,J.later⟩
end
inductive BJ where
 |int (i:Int)
 |txt (s:Str)
 |sets (l:List (Nat×Nat×Int))
 |pairs (l:List (Nat×Int))
 |ints (l:List Int)
def br.isSet:br->Bool
 | .set _ _ _=>true
 | .fY _=>true
 |_=>false
def br.tells:br->Bool
 | .dW _ _ _ _=>true
 | .rL _ _ _=>true
 | .note _ _ _=>true
 | .set _ _ _=>true
 | .fY _=>true
 |_=>false
def qq (x:Int)(n:Nat):Prop:=0<=x/\x < (n:Int)
instance (x:Int) (n:Nat):Decidable (qq x n):=inferInstanceAs (Decidable (_/\_))
def Bk.bar (S:Bk):br->Str
 | .dW _ day A5 dH=>if dH < 1 then "no amount" else if A5 < day then "too early" else ""
 | .rL _ _ dH=>if dH < 1 then "no amount" else ""
 | .note b _ dH=>if ¬ qq b S.aI.length then "no bill" else if dH < 1 then "no amount" else ""
 | .set c b dH=>if ¬ qq c S.credits.length then "no credit" else if ¬ qq b S.aI.length then "no bill" else if S.eK c.toNat b.toNat=false then "not theirs" else
   if dH < 1 then "no amount" else if iK (S.cr c.toNat).d (S.bl b.toNat).d < dH then "too much" else ""
 |_=>""
theorem vk (S:Bk)(b d a:Int):S.bar (.note b d a)=(if ¬ qq b S.aI.length then("no bill":Str) else if a < 1 then("no amount":Str) else("":Str)):=rfl
theorem zx (S:Bk)(c b a:Int):S.bar (.set c b a)=(if ¬ qq c S.credits.length then("no credit":Str) else if ¬ qq b S.aI.length then("no bill":Str) else if S.eK c.toNat b.toNat=false then("not theirs":Str) else
   if a < 1 then("no amount":Str) else if iK (S.cr c.toNat).d (S.bl b.toNat).d < a then("too much":Str) else("":Str)):=rfl
theorem n1:("no credit":Str)≠"":=by decide +kernel
theorem n2:("no bill":Str)≠"":=by decide +kernel
theorem n3:("not theirs":Str)≠"":=by decide +kernel
theorem n4:("no amount":Str)≠"":=by decide +kernel
theorem n6:("too much":Str)≠"":=by decide +kernel
theorem su {S:Bk}{b d a:Int}(h:S.bar (.note b d a)=""):qq b S.aI.length/\1<=a:=by
 rw[vk] at h
 split at h
 ·exact absurd h n2
 ·rename_i q
  split at h
  ·exact absurd h n4
  ·exact⟨Ge.mp q,by lia⟩
theorem qM {S:Bk}{c b a:Int}(h:S.bar (.set c b a)=""):qq c S.credits.length/\qq b S.aI.length/\S.eK c.toNat b.toNat=true/\1<=a/\a<=(S.cr c.toNat).d/\a<=(S.bl b.toNat).d:=by
 rw[zx] at h
 split at h
 ·exact absurd h n1
 rename_i q1
 split at h
 ·exact absurd h n2
 rename_i q2
 split at h
 ·exact absurd h n3
 rename_i q3
 split at h
 ·exact absurd h n4
 rename_i q4
 split at h
 ·exact absurd h n6
 rename_i q5
 refine⟨Classical.not_not.mp q1,Classical.not_not.mp q2,by simpa using q3,by lia,?_⟩
 unfold iK at q5
 split at q5 <;> lia
def Bk.kA (S:Bk)(r:Rw):Bk:={S with aI:=S.aI ++ [r]}
def Bk.ip (S:Bk)(r:Rw):Bk:={S with credits:=S.credits ++ [r]}
def Bk.enter (S:Bk):br->Bk
 | .dW w d u a=>S.kA ⟨w,d,u,a,a⟩
 | .rL w d a=>S.ip ⟨w,d,a,-1,a⟩
 | .note b d a=>S.ip ⟨(S.bl b.toNat).aH,d,a,b,a⟩
 | .set c b a=>S.put c.toNat b.toNat a
 | .fY w=>S.jR w
 |_=>S
def Bk.LV (S:Bk):br->BJ
 | .dW _ _ _ _=> .int S.aI.length
 | .rL _ _ _=> .int S.credits.length
 | .note _ _ _=> .int S.credits.length
 | .set _ _ a=> .int a
 | .fY w=> .sets ((S.jR w).made.drop S.made.length)
 |_=> .int 0
def cW:List (Int×br)->Bk->Option Bk
 |[],S=>some S
 |(_,d) :: l,S=>if S.bar d="" then cW l (S.enter d) else none
def iz:List (Int×br)->Bk->Str
 |[],_=>""
 |(_,d) :: l,S=>if S.bar d="" then iz l (S.enter d) else S.bar d
def Bk.fS (S:Bk)(t:Nat×Nat×Int):Int:=if(S.bl t.2.1).a > (S.cr t.1).a then(S.bl t.2.1).a else(S.cr t.1).a
def spotOf (aR:Bool)(t:Nat×Nat×Int):Nat:=if aR then t.2.1 else t.1
def Bk.cnt (S:Bk)(aR:Bool)(k:Nat)(day:Int)(t:Nat×Nat×Int):Bool:=decide (spotOf aR t=k) && decide (S.fS t<=day)
def Bk.rows (S:Bk)(aR:Bool):List Rw:=if aR then S.aI else S.credits
def tj (aR:Bool)(r:Rw):Int:=if aR then r.c else r.b
def keyOf (aR:Bool)(r:Rw):Int:=if aR then r.b else r.a
def Bk.rest (S:Bk)(aR:Bool)(k:Nat)(day:Int):Int:=tj aR ((S.rows aR).getD k default) - ((S.made.filter (S.cnt aR k day)).map (·.2.2)).sum
def Bk.fu (S:Bk)(aR:Bool)(aH:Str)(day:Int):List (Nat×Int):=
 ((inOrder (S.rows aR) aH (keyOf aR)).filter fun k=>decide (((S.rows aR).getD k default).a<=day) && decide (0 < S.rest aR k day)).map fun k=>(k,S.rest aR k day)
def placeOf (fS:Int)(bO:List Int):Nat:=if fS<=0 then 0 else 1 + (bO.filter fun l=>decide (l < fS)).length
def iP (l:List Int)(i:Nat)(x:Int):List Int:=l.set i (l.getD i 0 + x)
def Bk.tY (S:Bk)(aH:Str)(day:Int)(bO:List Int):List Int:=
 (S.fu true aH day).foldl (fun l t=>iP l (placeOf (day - (S.bl t.1).b) bO) t.2) (List.replicate (bO.length + 2) 0)
structure g8 where
 steps:List (Int×br)
 bk:Bk
def g8.new:g8:=⟨[],Bk.new⟩
def cA (m:Int)(st:Int×br):Bool:= !(decide (st.1=m) && st.2.isSet)
def cY (T:g8)(n:Int):br->BJ×g8
 | .jf m=>if(T.steps.filter (cA m)).length=T.steps.length then(.txt "no setting",T) else
   match cW (T.steps.filter (cA m)) Bk.new with
   |none=>(.txt "needed",T)
   |some S=>(.txt "undone",⟨T.steps.filter (cA m),S⟩)
 | .ask o w d=>(.pairs (T.bk.fu o w d),T)
 | .fR w d l=>(.ints (T.bk.tY w d l),T)
 |d=>if T.bk.bar d="" then(T.bk.LV d,⟨T.steps ++ [(n,d)],T.bk.enter d⟩) else(.txt (T.bk.bar d),T)
def dP:List br->g8->Nat->List BJ×g8
 |[],T,_=>([],T)
 |d :: l,T,n=>((cY T n d).1 :: (dP l (cY T n d).2 (n + 1)).1,(dP l (cY T n d).2 (n + 1)).2)
structure WF (S:Bk)(n:Nat):Prop where
 m: ∀t∈S.made,t.1 < S.credits.length/\t.2.1 < S.aI.length
 o: ∀c,c < S.credits.length->(S.cr c).c= -1∨ ∃b:Nat,(S.cr c).c=(b:Int)/\b < S.aI.length/\(S.cr c).aH=(S.bl b).aH
 lb:S.aI.length<=n
 lc:S.credits.length<=n
 lm:S.made.length<=8000 * n
theorem WF.new:WF Bk.new 0:=⟨(fun t h=>by cases h),fun c h=>absurd h (iI _),aE _,aE _,aE _⟩
theorem WF.mono {S:Bk}{n m:Nat}(h:WF S n)(k:n<=m):WF S m:=⟨h.m,h.o,aZ h.lb k,aZ h.lc k,aZ h.lm (Nat.mul_le_mul_left _ k)⟩
theorem getD_snoc {α:Type}{l:List α}{x d:α}{k:Nat}(h:k < l.length):(l ++ [x]).getD k d=l.getD k d:=by
 rw[aj,aj,qu h]
theorem getD_last {α:Type}{l:List α}{x d:α}:(l ++ [x]).getD l.length d=x:=by
 rw[aj,i7 (aE _)]
 simp
theorem WF.kA {S:Bk}{n:Nat}(h:WF S n)(r:Rw):WF (S.kA r) (n + 1):=by
 have len:(S.kA r).aI.length=S.aI.length + 1:=by simp[Bk.kA]
 refine⟨fun t ht=>⟨(h.m t ht).1,by rw[len]; have:=(h.m t ht).2; lia⟩,fun c hc=>?_,by rw[len]; have:=h.lb; lia,by have:=h.lc; exact Gf this,by have:=h.lm; show S.made.length<=_; lia⟩
 rcases h.o c hc with z|⟨b,z1,z2,z3⟩
 ·exact .inl z
 ·refine .inr ⟨b,z1,by rw[len]; lia,?_⟩
  show(S.cr c).aH=((S.aI ++ [r]).getD b default).aH
  rw[getD_snoc z2]
  exact z3
theorem WF.ip {S:Bk}{n:Nat}(h:WF S n)(r:Rw)(hr:r.c= -1∨ ∃b:Nat,r.c=(b:Int)/\b < S.aI.length/\r.aH=(S.bl b).aH):WF (S.ip r) (n + 1):=by
 have len:(S.ip r).credits.length=S.credits.length + 1:=by simp[Bk.ip]
 refine⟨fun t ht=>⟨by rw[len]; have:=(h.m t ht).1; lia,(h.m t ht).2⟩,fun c hc=>?_,by have:=h.lb; exact Gf this,by rw[len]; have:=h.lc; lia,by have:=h.lm; show S.made.length<=_; lia⟩
 by_cases q:c < S.credits.length
 ·have e:(S.ip r).cr c=S.cr c:=getD_snoc q
  rw[e]
  exact h.o c q
 ·have q':c=S.credits.length:=by lia
  have e:(S.ip r).cr c=r:=by rw[q']; exact getD_last
  rw[e]
  exact hr
theorem WF.later {S S':Bk}{n m:Nat}(h:WF S n)(l:Later S S')(hm: ∀t∈S'.made,t.1 < S.credits.length/\t.2.1 < S.aI.length)(hn:n<=m)(hl:S'.made.length<=8000 * m):WF S' m:=by
 refine⟨fun t ht=>by rw[l.cl,l.bl]; exact hm t ht,fun c hc=>?_,by rw[l.bl]; exact aZ h.lb hn,by rw[l.cl]; exact aZ h.lc hn,hl⟩
 rw[l.cl] at hc
 rw[(l.c c).1.2.2.2,(l.c c).1.1]
 rcases h.o c hc with z|⟨b,z1,z2,z3⟩
 ·exact .inl z
 ·exact .inr ⟨b,z1,by rw[l.bl]; exact z2,by rw[(l.b b).1.1]; exact z3⟩
theorem vm: ∀{n:Nat} {l:List Nat},l.Nodup->(∀x∈l,x < n)->l.length<=n
 |0,l,_,h=>by
  cases l with
  |nil=>exact aE _
  |cons x l=>exact absurd (h x bJ) (iI _)
 |n + 1,l,nd,h=>by
  by_cases q:n∈l
  ·have h1:=vm (n:=n) (l:=l.erase n) (nd.erase n) (fun x hx=>by
    have h2:=h x (List.mem_of_mem_erase hx)
    have h3:x≠n:=fun z=>(List.Nodup.mem_erase_iff nd).mp hx |>.1 z
    lia)
   rw[List.length_erase_of_mem q] at h1
   lia
  ·have:=vm (n:=n) nd (fun x hx=>by
    have h2:=h x hx
    have h3:x≠n:=fun z=>q (z▸hx)
    lia)
   lia
theorem jT (rows:List Rw)(aH:Str)(key:Rw->Int):(inTurn rows aH key).length<=rows.length:=vm (l9 _ _ _) fun _ h=>(eR.mp h).1
theorem hZ (fs ls:List Int)(al:List (List Bool)): ∀i,(bU fs ls al i).2.length<=i
 |0=>aE _
 |i + 1=>by
  have:=hZ fs ls al i
  unfold bU
  split
  ·lia
  ·rw[aC]
   show _ + 1<=_
   lia
theorem gv (f:Int)(l:List Int)(row:List Bool): ∀j,(bD f l row j).2.length<=j
 |0=>aE _
 |j + 1=>by
  have:=gv f l row j
  rw[bD]
  split
  ·rw[aC]
   show _ + 1<=_
   lia
  ·lia
theorem pS (fs ls:List Int)(al:List (List Bool)): ∀i,(ck fs ls al i).2.length<=i * ls.length
 |0=>by simp[ck]
 |i + 1=>by
  have h1:=pS fs ls al i
  have h2:=gv (fs.getD i 0) (ck fs ls al i).1 (al.getD i []) (ck fs ls al i).1.length
  show((ck fs ls al i).2 ++ _).length<=_
  rw[aC,ae,wI]
  rw[jG] at h2 ⊢
  lia
theorem md (fs ls:List Int)(al:List (List Bool)): ∀i,∀t∈(bU fs ls al i).2,t.1 < i/\t.2.1 < ls.length
 |0,t,h=>by cases h
 |i + 1,t,h=>by
  rw[bU] at h
  split at h
  ·have:=md fs ls al i t h
   lia
  ·rename_i j hj
   rcases bq.mp h with h|h
   ·have:=md fs ls al i t h
    lia
   ·rw[ao.mp h]
    unfold g6 at hj
    have:=dk.mp (NW hj)
    exact⟨f7 _,this⟩
theorem pT (f:Int)(l:List Int)(row:List Bool): ∀j,∀x∈(bD f l row j).2,x.1 < j
 |0,x,h=>by cases h
 |j + 1,x,h=>by
  rw[bD] at h
  split at h
  ·rcases bq.mp h with h|h
   ·have:=pT f l row j x h
    lia
   ·rw[ao.mp h]
    exact f7 _
  ·have:=pT f l row j x h
   lia
theorem vn (fs ls:List Int)(al:List (List Bool)): ∀i,∀t∈(ck fs ls al i).2,t.1 < i/\t.2.1 < ls.length
 |0,t,h=>by cases h
 |i + 1,t,h=>by
  rcases bq.mp (show t∈(ck fs ls al i).2 ++ _ from h) with h|h
  ·have:=vn fs ls al i t h
   lia
  ·obtain⟨x,hx,rfl⟩:=bF.mp h
   have:=pT _ _ _ _ x hx
   rw[jG] at this
   exact⟨f7 _,this⟩
def ZN (S:Bk)(aH:Str):vh S aH (inTurn S.credits aH (·.a)) (inTurn S.aI aH (·.b)) ((inTurn S.credits aH (·.a)).map fun g=>(S.cr g).d) ((inTurn S.aI aH (·.b)).map fun t=>(S.bl t).d)
  ((inTurn S.credits aH (·.a)).map fun g=>(inTurn S.aI aH (·.b)).map fun t=>S.eK g t):=⟨rfl,rfl,rfl,rfl,rfl⟩
theorem Fd {S:Bk}{gs ts:List Nat}{l:List (Nat×Nat×Int)}(hl: ∀t∈l,t.1 < gs.length/\t.2.1 < ts.length)(hg: ∀g∈gs,g < S.credits.length)(ht: ∀t∈ts,t < S.aI.length): ∀t∈l.map (ma gs ts),t.1 < S.credits.length/\t.2.1 < S.aI.length:=by
 intro t h
 obtain⟨x,hx,rfl⟩:=bF.mp h
 obtain⟨h1,h2⟩:=hl x hx
 exact⟨hg _ (jS h1),ht _ (jS h2)⟩
theorem vo (S:Bk)(aH:Str)(ex:Bool):Later S (bQ aH S ex)/\ ∃l,(bQ aH S ex).made=S.made ++ l/\(∀t∈l,t.1 < S.credits.length/\t.2.1 < S.aI.length)/\l.length<=S.credits.length + S.credits.length * S.aI.length:=by
 have gl:=jT S.credits aH (·.a)
 have tl:=jT S.aI aH (·.b)
 have hg: ∀g∈inTurn S.credits aH (·.a),g < S.credits.length:=fun g h=>(eR.mp h).1
 have ht: ∀t∈inTurn S.aI aH (·.b),t < S.aI.length:=fun g h=>(eR.mp h).1
 have mul:(inTurn S.credits aH (·.a)).length * (inTurn S.aI aH (·.b)).length<=S.credits.length * S.aI.length:=qv gl tl
 cases ex with
 |true=>
  obtain⟨e,l⟩:=Jo (ZN S aH)
  refine⟨l,_,by rw[e]; exact jF _ _,Fd (fun t h=>?_) hg ht,?_⟩
  ·have:=md _ _ _ _ t h
   rwa [ae] at this
  ·rw[ae]
   have:=hZ ((inTurn S.credits aH (·.a)).map fun g=>(S.cr g).d) ((inTurn S.aI aH (·.b)).map fun t=>(S.bl t).d) ((inTurn S.credits aH (·.a)).map fun g=>(inTurn S.aI aH (·.b)).map fun t=>S.eK g t) (inTurn S.credits aH (·.a)).length
   lia
 |false=>
  obtain⟨e,l⟩:=Jq (ZN S aH)
  refine⟨l,_,by rw[e]; exact jF _ _,Fd (fun t h=>?_) hg ht,?_⟩
  ·have:=vn _ _ _ _ t h
   rwa [ae] at this
  ·rw[ae]
   have:=pS ((inTurn S.credits aH (·.a)).map fun g=>(S.cr g).d) ((inTurn S.aI aH (·.b)).map fun t=>(S.bl t).d) ((inTurn S.credits aH (·.a)).map fun g=>(inTurn S.aI aH (·.b)).map fun t=>S.eK g t) (inTurn S.credits aH (·.a)).length
   rw[ae] at this
   lia
theorem qN (S:Bk)(aH:Str):Later S (S.jR aH)/\ ∃l,(S.jR aH).made=S.made ++ l/\(∀t∈l,t.1 < S.credits.length/\t.2.1 < S.aI.length)/\l.length<=2 * (S.credits.length + S.credits.length * S.aI.length):=by
 obtain⟨l1,m1,e1,h1,n1⟩:=vo S aH true
 obtain⟨l2,m2,e2,h2,n2⟩:=vo (bQ aH S true) aH false
 refine⟨l1.trans l2,m1 ++ m2,by show(bQ aH (bQ aH S true) false).made=_; rw[e2,e1,eL],fun t ht=>?_,?_⟩
 ·rcases bq.mp ht with ht|ht
  ·exact h1 t ht
  ·have:=h2 t ht
   rwa [l1.cl,l1.bl] at this
 ·rw[l1.cl,l1.bl] at n2
  rw[aC]
  lia
theorem WF.enter {S:Bk}{n:Nat}{d:br}(h:WF S n)(hn:n < 60)(hb:S.bar d=""):WF (S.enter d) (n + 1):=by
 cases d with
 |dW w d u a=>exact h.kA _
 |rL w d a=>exact h.ip _ (.inl rfl)
 |note b d a=>
  refine h.ip _ (.inr ⟨b.toNat,?_⟩)
  have z:=(su hb).1
  obtain⟨z1,z2⟩:=z
  refine⟨?_,?_,rfl⟩
  ·show b=(b.toNat:Int)
   lia
  ·lia
 |set c b a=>
  obtain⟨zc,zb,_,za,_⟩:=qM hb
  obtain⟨c1,c2⟩:=zc
  obtain⟨b1,b2⟩:=zb
  have l:Later S (S.put c.toNat b.toNat a):=Later.put (by lia) (by lia) (by lia)
  refine h.later l (fun t ht=>?_) (dI _) ?_
  ·rcases bq.mp ht with ht|ht
   ·exact h.m t ht
   ·rw[ao.mp ht]
    show c.toNat < _/\b.toNat < _
    lia
  ·show(S.made ++ [_]).length<=_
   rw[aC]
   have:=h.lm
   show _ + 1<=_
   lia
 |fY w=>
  obtain⟨l,m,e,h1,h2⟩:=qN S w
  refine h.later l (fun t ht=>?_) (dI _) ?_
  ·rw[show(S.enter (.fY w)).made=S.made ++ m from e] at ht
   rcases bq.mp ht with ht|ht
   ·exact h.m t ht
   ·exact h1 t ht
  ·show(S.jR w).made.length<=_
   rw[e,aC]
   have h3:=h.lm
   have h4:=h.lb
   have h5:=h.lc
   have:S.credits.length * S.aI.length<=60 * 60:=qv (by lia) (by lia)
   lia
 |jf m=>exact h.mono (dI _)
 |ask o w d=>exact h.mono (dI _)
 |fR w d l=>exact h.mono (dI _)
structure ni (S T:Bk):Prop where
 bl:T.aI.length=S.aI.length
 cl:T.credits.length=S.credits.length
 b: ∀k,oG (S.bl k) (T.bl k)
 c: ∀k,oG (S.cr k) (T.cr k)
theorem oG.symm {r s:Rw}(h:oG r s):oG s r:=⟨h.1.symm,h.2.1.symm,h.2.2.1.symm,h.2.2.2.symm⟩
theorem ni.refl (S:Bk):ni S S:=⟨rfl,rfl,fun _=>oG.refl _,fun _=>oG.refl _⟩
theorem ni.symm {S T:Bk}(h:ni S T):ni T S:=⟨h.bl.symm,h.cl.symm,fun k=>(h.b k).symm,fun k=>(h.c k).symm⟩
theorem ni.trans {S T U:Bk}(h:ni S T)(k:ni T U):ni S U:=⟨k.bl.trans h.bl,k.cl.trans h.cl,fun i=>(h.b i).trans (k.b i),fun i=>(h.c i).trans (k.c i)⟩
theorem Later.rY {S T:Bk}(h:Later S T):ni S T:=⟨h.bl,h.cl,fun k=>(h.b k).1,fun k=>(h.c k).1⟩
theorem ni.eK {S T:Bk}(h:ni S T)(c b:Nat):T.eK c b=S.eK c b:=by
 unfold Bk.eK
 rw[(h.c c).1,(h.b b).1,(h.c c).2.2.2]
theorem sx {l m:List Rw}{r s:Rw}(hl:m.length=l.length)(h: ∀k,oG (l.getD k default) (m.getD k default))(hr:oG r s)(k:Nat):oG ((l ++ [r]).getD k default) ((m ++ [s]).getD k default):=by
 by_cases q:k < l.length
 ·rw[getD_snoc q,getD_snoc (by rw[hl]; exact q)]
  exact h k
 ·by_cases e:k=l.length
  ·subst e
   rw[getD_last,← hl,getD_last]
   exact hr
  ·have o1:(l ++ [r]).getD k default=default:=by
    rw[aj,lU (by rw[aC]; show l.length + 1<=k; lia)]
    rfl
   have o2:(m ++ [s]).getD k default=default:=by
    rw[aj,lU (by rw[aC]; show m.length + 1<=k; lia)]
    rfl
   rw[o1,o2]
   exact oG.refl _
theorem Jr {S T:Bk}(h:ni S T){d:br}(hb:S.bar d=""):T.bar d=""∨T.bar d="too much":=by
 cases d with
 |note b d a=>
  obtain⟨z1,z2⟩:=su hb
  left
  rw[vk,h.bl,aU (fun z=>z z1),aU (by lia)]
 |set c b a=>
  obtain⟨z1,z2,z3,z4,_⟩:=qM hb
  rw[zx,h.bl,h.cl,h.eK,aU (fun z=>z z1),aU (fun z=>z z2),aU (by rw[z3]; decide),aU (by lia)]
  split
  ·exact .inr rfl
  ·exact .inl rfl
 |dW w d u a=>exact .inl hb
 |rL w d a=>exact .inl hb
 |fY w=>exact .inl rfl
 |jf m=>exact .inl rfl
 |ask o w d=>exact .inl rfl
 |fR w d l=>exact .inl rfl
theorem lC {S:Bk}{d:br}(hs:d.isSet=true)(hb:S.bar d=""):Later S (S.enter d):=by
 cases d with
 |set c b a=>
  obtain⟨⟨_,_⟩,⟨_,_⟩,_,_,_⟩:=qM hb
  exact Later.put (by lia) (by lia) (by lia)
 |fY w=>exact(qN S w).1
 |dW w d u a=>cases hs
 |rL w d a=>cases hs
 |note b d a=>cases hs
 |jf m=>cases hs
 |ask o w d=>cases hs
 |fR w d l=>cases hs
theorem DQ {S T:Bk}(h:ni S T){d:br}(hs:S.bar d="")(ht:T.bar d=""):ni (S.enter d) (T.enter d):=by
 cases d with
 |dW w d u a=>exact⟨by simp[Bk.enter,Bk.kA,h.bl],h.cl,sx h.bl h.b (oG.refl _),h.c⟩
 |rL w d a=>exact⟨h.bl,by simp[Bk.enter,Bk.ip,h.cl],h.b,sx h.cl h.c (oG.refl _)⟩
 |note b d a=>exact⟨h.bl,by simp[Bk.enter,Bk.ip,h.cl],h.b,sx h.cl h.c ⟨(h.b _).1,rfl,rfl,rfl⟩⟩
 |set c b a=>exact(lC rfl hs).rY.symm.trans (h.trans (lC rfl ht).rY)
 |fY w=>exact(lC (d:= .fY w) rfl hs).rY.symm.trans (h.trans (lC (d:= .fY w) rfl ht).rY)
 |jf m=>exact h
 |ask o w d=>exact h
 |fR w d l=>exact h
theorem OM (m:Int): ∀(l:List (Int×br)) {S T:Bk},ni S T->(cW l S).isSome=true->iz (l.filter (cA m)) T=""∨iz (l.filter (cA m)) T="too much"
 |[],_,_,_,_=> .inl rfl
 |(n,d) :: l,S,T,h,hw=>by
  unfold cW at hw
  split at hw
  ·rename_i hb
   by_cases k:cA m (n,d)=true
   ·rw[cv k]
    unfold iz
    split
    ·rename_i ht
     exact OM m l (DQ h hb ht) hw
    ·rename_i ht
     exact .inr ((Jr h hb).resolve_left ht)
   ·rw[gT k]
    have ds:d.isSet=true:=by
     unfold cA at k
     simp at k
     exact k.2
    exact OM m l ((lC ds hb).rY.symm.trans h) hw
  ·cases hw
theorem sy: ∀(l:List (Int×br)) {S T:Bk} {n:Nat},WF S n->cW l S=some T->n + l.length<=60->WF T (n + l.length)
 |[],S,T,n,h,e,_=>by
  cases e
  exact h
 |(k,d) :: l,S,T,n,h,e,hl=>by
  unfold cW at e
  split at e
  ·rename_i hb
   have len:((k,d) :: l).length=l.length + 1:=rfl
   rw[len] at hl ⊢
   have:=sy l (h.enter (by lia) hb) e (by lia)
   rwa [show n + (l.length + 1)=n + 1 + l.length by lia]
  ·cases e
theorem kW: ∀(l m:List (Int×br)) (S:Bk),cW (l ++ m) S=(cW l S).bind (cW m)
 |[],m,S=>rfl
 |(k,d) :: l,m,S=>by
  show(if S.bar d="" then cW (l ++ m) (S.enter d) else none)=(if S.bar d="" then cW l (S.enter d) else none).bind (cW m)
  split
  ·exact kW l m _
  ·rfl
structure Good (T:g8)(n:Nat):Prop where
 w:cW T.steps Bk.new=some T.bk
 lt: ∀st∈T.steps,0<=st.1/\st.1 < (n:Int)
 inc:T.steps.Pairwise fun a b=>a.1 < b.1
 tl: ∀st∈T.steps,st.2.tells=true
 len:T.steps.length<=n
theorem Good.new:Good g8.new 0:=⟨rfl,(fun _ h=>by cases h),List.Pairwise.nil,(fun _ h=>by cases h),aE _⟩
theorem Good.mono {T:g8}{n m:Nat}(h:Good T n)(k:n<=m):Good T m:=⟨h.w,fun st hs=>⟨(h.lt st hs).1,by have:=(h.lt st hs).2; lia⟩,h.inc,h.tl,aZ h.len k⟩
theorem Good.wf {T:g8}{n:Nat}(h:Good T n)(hn:n<=60):WF T.bk n:=by
 have z:=sy T.steps WF.new h.w (by have:=h.len; lia)
 rw[Nat.zero_add] at z
 exact z.mono h.len
theorem Good.add {T:g8}{n:Nat}(h:Good T n){d:br}(ht:d.tells=true)(hb:T.bk.bar d=""):Good ⟨T.steps ++ [((n:Int),d)],T.bk.enter d⟩ (n + 1):=by
 refine⟨?_,fun st hs=>?_,?_,fun st hs=>?_,?_⟩
 ·show cW (T.steps ++ [((n:Int),d)]) Bk.new=_
  rw[kW,h.w]
  show(if T.bk.bar d="" then some (T.bk.enter d) else none)=_
  rw[a8 hb]
 ·rcases bq.mp hs with hs|hs
  ·have:=h.lt st hs
   lia
  ·rw[ao.mp hs]
   show(0:Int)<=(n:Int)/\(n:Int) < _
   lia
 ·rw[List.pairwise_append]
  refine⟨h.inc,ko _ _,fun a ha b hb=>?_⟩
  rw[ao.mp hb]
  exact(h.lt a ha).2
 ·rcases bq.mp hs with hs|hs
  ·exact h.tl st hs
  ·rw[ao.mp hs]
   exact ht
 ·show(T.steps ++ [_]).length<=_
  rw[aC]
  have:=h.len
  show _ + 1<=_
  lia
theorem Good.step {T:g8}{n:Nat}(h:Good T n)(d:br):Good (cY T n d).2 (n + 1):=by
 have keep:=h.mono (dI n)
 have dflt: ∀d:br,d.tells=true->Good (if T.bk.bar d="" then(T.bk.LV d,(⟨T.steps ++ [((n:Int),d)],T.bk.enter d⟩:g8)) else(.txt (T.bk.bar d),T)).2 (n + 1):=fun d ht=>by
  split
  ·rename_i hb
   exact h.add ht hb
  ·exact keep
 cases d with
 |jf m=>
  show Good (if(T.steps.filter (cA m)).length=T.steps.length then(BJ.txt "no setting",T) else
   match cW (T.steps.filter (cA m)) Bk.new with
   |none=>(.txt "needed",T)
   |some S=>(.txt "undone",⟨T.steps.filter (cA m),S⟩)).2 (n + 1)
  split
  ·exact keep
  ·cases e:cW (T.steps.filter (cA m)) Bk.new with
   |none=>exact keep
   |some S=>
    refine⟨e,fun st hs=>?_,h.inc.filter _,fun st hs=>h.tl st (eY.mp hs).1,?_⟩
    ·have:=h.lt st (eY.mp hs).1
     lia
    ·have h1:=aX (cA m) T.steps
     have h2:=h.len
     show(T.steps.filter (cA m)).length<=_
     lia
 |ask o w d=>exact keep
 |fR w d l=>exact keep
 |dW w d u a=>exact dflt _ rfl
 |rL w d a=>exact dflt _ rfl
 |note b d a=>exact dflt _ rfl
 |set c b a=>exact dflt _ rfl
 |fY w=>exact dflt _ rfl
theorem kF: ∀(l:List br) (T:g8) (n:Nat),(dP l T n).1.length=l.length
 |[],_,_=>rfl
 |d :: l,T,n=>by
  show(dP l _ _).1.length + 1=_
  rw[kF l]
  rfl
def br.dt:br->Dt
 | .dW w d u a=> .tup [.str "bill",.str w,.int d,.int u,.int a]
 | .rL w d a=> .tup [.str "pay",.str w,.int d,.int a]
 | .note b d a=> .tup [.str "note",.int b,.int d,.int a]
 | .set c b a=> .tup [.str "set",.int c,.int b,.int a]
 | .fY w=> .tup [.str "sweep",.str w]
 | .jf n=> .tup [.str "undo",.int n]
 | .ask o w d=> .tup [.str (if o then "owed" else "free"),.str w,.int d]
 | .fR w d l=> .tup [.str "ages",.str w,.int d,.tup (l.map Dt.int)]
def vp:Int:=10 ^ 62
theorem Fe {x:Int}(h:x<=10 ^ 60):x<=vp:=lV h (by decide +kernel)
def br.ok:br->Prop
 | .dW _ d _ _=>d<=vp
 | .rL _ d _=>d<=vp
 | .note _ d _=>d<=vp
 | .fR _ _ l=>l.length<=11/\l.Pairwise (· < ·)/\ ∀x∈l,1<=x
 |_=>True
mutual
def Dt.K2:Dt->Bool
 | .lst _=>false
 | .tup ds=>Dt.wY ds
 | .eu=>true
 | .bl _=>true
 | .int _=>true
 | .str _=>true
def Dt.wY:List Dt->Bool
 |[]=>true
 |d :: ds=>d.K2 && Dt.wY ds
end
def cH (H H':Hp):Prop:= ∀b xs,H b=some (.tup xs)->H' b=some (.tup xs)
theorem cH.trans {H1 H2 H3:Hp}(a:cH H1 H2)(b:cH H2 H3):cH H1 H3:=fun x xs e=>b x xs (a x xs e)
theorem aD.tk {H H':Hp}(s:aD H H'):cH H H':=fun b xs e=>s _ _ e
theorem dQ {H:Hp}{p:Addr}{o:HO}{ys:List V}(h:H p=some (.lst ys)):cH H (upd H p o):=dC h
mutual
theorem Rp.BK {H H':Hp}(k:cH H H'): ∀(d:Dt) {v:V},d.K2=true->Rp H d v->Rp H' d v
 | .eu,_,_,h=>u6.mpr (u6.mp h)
 | .bl _,_,_,h=>qI.mpr (qI.mp h)
 | .int _,_,_,h=>dm.mpr (dm.mp h)
 | .str _,_,_,h=>fL.mpr (fL.mp h)
 | .tup ds,_,n,h=>by
  obtain⟨a,xs,e,h1,h2⟩:=jO.mp h
  exact jO.mpr ⟨a,xs,e,k _ _ h1,hV.BK k ds (by simpa[Dt.K2] using n) h2⟩
 | .lst ds,_,n,h=>by simp[Dt.K2] at n
theorem hV.BK {H H':Hp}(k:cH H H'): ∀(ds:List Dt) {vs:List V},Dt.wY ds=true->hV H ds vs->hV H' ds vs
 |[],_,_,h=>cQ.mpr (cQ.mp h)
 |d :: ds,_,n,h=>by
  obtain⟨v,r,e,h1,h2⟩:=bC.mp h
  have n':d.K2=true/\Dt.wY ds=true:=by simpa[Dt.wY] using n
  exact bC.mpr ⟨v,r,e,Rp.BK k d n'.1 h1,hV.BK k ds n'.2 h2⟩
end
theorem GS (l:List Int):Dt.wY (l.map Dt.int)=true:=by
 induction l with
 |nil=>rfl
 |cons x l ih=>simp[Dt.wY,Dt.K2,ih]
theorem br.K2 (d:br):d.dt.K2=true:=by
 cases d <;> simp[br.dt,Dt.K2,Dt.wY,GS]
theorem GU (ds:List br):Dt.wY (ds.map br.dt)=true:=by
 induction ds with
 |nil=>rfl
 |cons d ds ih=>simp[Dt.wY,br.K2,ih]
def eT (H:Hp)(ds:List br)(ms:List V):Prop:=hV H (ds.map br.dt) ms
theorem eT.mono {H H':Hp}{ds:List br}{ms:List V}(h:eT H ds ms)(k:cH H H'):eT H' ds ms:=hV.BK k _ (GU ds) h
theorem eT.snoc {H:Hp}{ds:List br}{ms:List V}{d:br}{v:V}(h:eT H ds ms)(hd:Rp H d.dt v):eT H (ds ++ [d]) (ms ++ [v]):=by
 unfold eT
 rw[aK]
 exact hV.append h (hV.one hd)
theorem eT.length {H:Hp}{ds:List br}{ms:List V}(h:eT H ds ms):ds.length=ms.length:=by
 have:=hV.length h
 rwa [ae] at this
theorem LW (n:Nat)(b:Str):(List.replicate n [V.str b]).flatten=(List.replicate n b).map V.str:=by
 induction n with
 |zero=>rfl
 |succ n ih=>rw[cM,iS,ih,cM]; rfl
def Rw.vs (r:Rw):List V:=[.str r.aH,.int r.a,.int r.b,.int r.c,.int r.d]
structure fB where
 pb:Addr
 pc:Addr
 pm:Addr
 iA:List Addr
 cps:List Addr
def fB.fp (f:fB):List Addr:=f.pb :: f.pc :: f.pm :: (f.iA ++ f.cps)
def bk3 (f:fB):List (Key×V):=[(Sum.inr "bills",.ref f.pb),(Sum.inr "credits",.ref f.pc),(Sum.inr "made",.ref f.pm)]
def eU (H:Hp)(rs:List Rw)(ps:List Addr):Prop:=Paired (fun(r:Rw) p=>H p=some (.lst r.vs)) rs ps
def ie (H:Hp)(ms:List (Nat×Nat×Int))(vs:List V):Prop:=Paired (fun(t:Nat×Nat×Int) v=> ∃p,v= .ref p/\H p=some (.tup [.int t.1,.int t.2.1,.int t.2.2])) ms vs
theorem ie.mono {H H':Hp}{ms:List (Nat×Nat×Int)}{vs:List V}(h:ie H ms vs)(k:cH H H'):ie H' ms vs:=
 Paired.gP h fun _ _ ⟨p,e,q⟩=>⟨p,e,k _ _ q⟩
structure di (H:Hp)(sd:Addr)(S:Bk)(f:fB):Prop where
 dict:H sd=some (.dK (bk3 f))
 hb:H f.pb=some (.lst (f.iA.map V.ref))
 hc:H f.pc=some (.lst (f.cps.map V.ref))
 hm: ∃ms,H f.pm=some (.lst ms)/\ie H S.made ms
 rb:eU H S.aI f.iA
 rc:eU H S.credits f.cps
 nd:f.fp.Nodup
 ns:sd∉f.fp
theorem eU.keep {H H':Hp}{rs:List Rw}{ps:List Addr}(h:eU H rs ps)(k: ∀p∈ps,∀o,H p=some o->H' p=some o):eU H' rs ps:=by
 induction h with
 |nil=>exact .nil
 | @cons r p rs ps hr t ih=>exact .cons (k p bJ _ hr) (ih fun q hq=>k q (ba _ hq))
theorem di.keep {H H':Hp}{sd:Addr}{S:Bk}{f:fB}(h:di H sd S f)(k: ∀b o,(b=sd∨b∈f.fp)->H b=some o->H' b=some o)(t:cH H H'):di H' sd S f:=by
 obtain⟨ms,m1,m2⟩:=h.hm
 refine⟨k _ _ (.inl rfl) h.dict,k _ _ (.inr (by simp[fB.fp])) h.hb,k _ _ (.inr (by simp[fB.fp])) h.hc,⟨ms,k _ _ (.inr (by simp[fB.fp])) m1,m2.mono t⟩,h.rb.keep fun p hp o e=>k p o (.inr (by simp[fB.fp,hp])) e,h.rc.keep fun p hp o e=>k p o (.inr (by simp[fB.fp,hp])) e,h.nd,h.ns⟩
theorem di.same {H H':Hp}{sd:Addr}{S:Bk}{f:fB}(h:di H sd S f)(s:aD H H'):di H' sd S f:=h.keep (fun b o _ e=>s _ _ e) s.tk
def Frame (fp:List Addr)(H H':Hp):Prop:= ∀b o,b∉fp->H b=some o->H' b=some o
theorem Frame.refl {fp:List Addr}{H:Hp}:Frame fp H H:=fun _ _ _ e=>e
theorem Frame.trans {fp Sv:List Addr}{H1 H2 H3:Hp}(a:Frame fp H1 H2)(b:Frame Sv H2 H3)(h: ∀x∈Sv,x∈fp∨H1 x=none):Frame fp H1 H3:=fun x o hx e=>
 b x o (fun hx'=>by
  rcases h x hx' with h|h
  ·exact hx h
  ·rw[h] at e; cases e) (a x o hx e)
theorem aD.frame {fp:List Addr}{H H':Hp}(s:aD H H'):Frame fp H H':=fun b o _ e=>s _ _ e
theorem Frame.upd {fp:List Addr}{H:Hp}{p:Addr}{o:HO}(h:p∈fp):Frame fp H (upd H p o):=fun b u hb e=>by
 have je:b≠p:=fun z=>hb (by rw[z]; exact h)
 rw[az je]; exact e
theorem Frame.same {fp:List Addr}{H0 H H':Hp}(a:Frame fp H H')(s:aD H0 H)(h: ∀x∈fp,H0 x=none):aD H0 H':=fun b o e=>a b o (fun hb=>by rw[h b hb] at e; cases e) (s b o e)
theorem eU.length {H:Hp}{rs:List Rw}{ps:List Addr}(h:eU H rs ps):rs.length=ps.length:=aL h
theorem eU.at {H:Hp}{rs:List Rw}{ps:List Addr}(h:eU H rs ps){i:Nat}(hi:i < rs.length): ∃p,ps[i]? =some p/\H p=some (.lst (rs.getD i default).vs):=by
 obtain⟨p,e,q⟩:=bI h (af hi)
 refine⟨p,e,?_⟩
 rw[aj,af hi]
 exact q
theorem eU.set {H:Hp}: ∀{rs:List Rw} {ps:List Addr} {i:Nat} {p:Addr} {r:Rw},eU H rs ps->ps.Nodup->ps[i]? =some p->eU (upd H p (.lst r.vs)) (rs.set i r) ps
 |_,_,i,p,r,.nil,_,h=>by simp at h
 |_,_,0,p,r,.cons (b:=q) hr t,nd,h=>by
  injection h with h
  subst h
  rw[fO] at nd
  refine .cons ag (eU.keep t fun x hx o e=>?_)
  have je:x≠q:=fun z=>nd.1 (by rw[← z]; exact hx)
  rw[az je]; exact e
 |_,_,i + 1,p,r,.cons (b:=q) hr t,nd,h=>by
  rw[fO] at nd
  rw[List.getElem?_cons_succ] at h
  have je:q≠p:=fun z=>nd.1 (by rw[z]; exact fA h)
  refine .cons ?_ (eU.set t nd.2 h)
  rw[az je]; exact hr
theorem eU.ig {H:Hp}{rs:List Rw}{ps:List Addr}{p:Addr}{o:HO}(h:eU H rs ps)(hp:p∉ps):eU (upd H p o) rs ps:=
 h.keep fun q hq u e=>by
  have je:q≠p:=fun z=>hp (by rw[← z]; exact hq)
  rw[az je]; exact e
theorem fB.Sw {f:fB}(h:f.fp.Nodup):f.pb≠f.pc/\f.pb≠f.pm/\f.pc≠f.pm/\(∀p∈f.iA,p≠f.pb/\p≠f.pc/\p≠f.pm/\p∉f.cps)/\(∀p∈f.cps,p≠f.pb/\p≠f.pc/\p≠f.pm/\p∉f.iA)/\f.iA.Nodup/\f.cps.Nodup:=by
 unfold fB.fp at h
 simp only[List.nodup_cons,List.mem_cons,List.mem_append,not_or,List.nodup_append] at h
 obtain⟨⟨h1,h2,h3,h4⟩,⟨h5,h6,h7⟩,⟨h8,h9⟩,K3,Xb,QK⟩:=h
 refine⟨h1,h2,h5,fun p hp=>⟨fun e=>h3 (e▸hp),fun e=>h6 (e▸hp),fun e=>h8 (e▸hp),fun hc=>QK p hp p hc rfl⟩,fun p hp=>⟨fun e=>h4 (e▸hp),fun e=>h7 (e▸hp),fun e=>h9 (e▸hp),fun hb=>QK p hb p hp rfl⟩,K3,Xb⟩
theorem di.setB {H:Hp}{sd:Addr}{S:Bk}{f:fB}(h:di H sd S f){i:Nat}{p:Addr}{r:Rw}(hp:f.iA[i]? =some p)(hl: ∃xs,H p=some (.lst xs)):di (upd H p (.lst r.vs)) sd {S with aI:=S.aI.set i r} f:=by
 obtain⟨d1,d2,d3,d4,d5,d6,d7⟩:=fB.Sw h.nd
 have hm:=fA hp
 obtain⟨e1,e2,e3,e4⟩:=d4 p hm
 obtain⟨ms,m1,m2⟩:=h.hm
 obtain⟨xs,hx⟩:=hl
 have es:sd≠p:=fun z=>h.ns (by rw[z]; simp[fB.fp,hm])
 exact⟨by rw[az es]; exact h.dict,by rw[az e1.symm]; exact h.hb,by rw[az e2.symm]; exact h.hc,⟨ms,by rw[az e3.symm]; exact m1,m2.mono (dQ hx)⟩,h.rb.set d6 hp,h.rc.ig e4,h.nd,h.ns⟩
theorem di.setC {H:Hp}{sd:Addr}{S:Bk}{f:fB}(h:di H sd S f){i:Nat}{p:Addr}{r:Rw}(hp:f.cps[i]? =some p)(hl: ∃xs,H p=some (.lst xs)):di (upd H p (.lst r.vs)) sd {S with credits:=S.credits.set i r} f:=by
 obtain⟨d1,d2,d3,d4,d5,d6,d7⟩:=fB.Sw h.nd
 have hm:=fA hp
 obtain⟨e1,e2,e3,e4⟩:=d5 p hm
 obtain⟨ms,m1,m2⟩:=h.hm
 obtain⟨xs,hx⟩:=hl
 have es:sd≠p:=fun z=>h.ns (by rw[z]; simp[fB.fp,hm])
 exact⟨by rw[az es]; exact h.dict,by rw[az e1.symm]; exact h.hb,by rw[az e2.symm]; exact h.hc,⟨ms,by rw[az e3.symm]; exact m1,m2.mono (dQ hx)⟩,h.rb.ig e4,h.rc.set d7 hp,h.nd,h.ns⟩
theorem di.Xc {H:Hp}{sd:Addr}{S:Bk}{f:fB}(h:di H sd S f){ms:List V}{t:Nat×Nat×Int}{p:Addr}(hm:H f.pm=some (.lst ms))(hms:ie H S.made ms)(hp:H p=some (.tup [.int t.1,.int t.2.1,.int t.2.2])):
  di (upd H f.pm (.lst (ms ++ [.ref p]))) sd {S with made:=S.made ++ [t]} f:=by
 obtain⟨d1,d2,d3,d4,d5,d6,d7⟩:=fB.Sw h.nd
 have es:sd≠f.pm:=fun z=>h.ns (by rw[z]; simp[fB.fp])
 exact⟨by rw[az es]; exact h.dict,by rw[az d2]; exact h.hb,by rw[az d3]; exact h.hc,⟨_,ag,cz (hms.mono (dQ hm)) ⟨p,rfl,dC hm _ _ hp⟩⟩,h.rb.ig fun z=>(d4 _ z).2.2.1 rfl,h.rc.ig fun z=>(d5 _ z).2.2.1 rfl,h.nd,h.ns⟩
theorem Sx:("bills":Str)≠"credits":=by decide +kernel
theorem Sy:("bills":Str)≠"made":=by decide +kernel
theorem Sz:("credits":Str)≠"made":=by decide +kernel
theorem SA (a b c:V):gh [((Sum.inr "bills":Key),a),(Sum.inr "credits",b),(Sum.inr "made",c)] (Sum.inr "bills")=some a:=by
 unfold gh
 rw[List.find?_cons_of_pos (by simp)]; rfl
theorem SD (a b c:V):gh [((Sum.inr "bills":Key),a),(Sum.inr "credits",b),(Sum.inr "made",c)] (Sum.inr "credits")=some b:=by
 unfold gh
 rw[List.find?_cons_of_neg (by simpa using Sx),List.find?_cons_of_pos (by simp)]; rfl
theorem SE (a b c:V):gh [((Sum.inr "bills":Key),a),(Sum.inr "credits",b),(Sum.inr "made",c)] (Sum.inr "made")=some c:=by
 unfold gh
 rw[List.find?_cons_of_neg (by simpa using Sy),List.find?_cons_of_neg (by simpa using Sz),List.find?_cons_of_pos (by simp)]; rfl
theorem ON (a b c:V):pK [] [((Sum.inr "bills":Key),a),(Sum.inr "credits",b),(Sum.inr "made",c)]=[((Sum.inr "bills":Key),a),(Sum.inr "credits",b),(Sum.inr "made",c)]:=by
 unfold pK
 rw[fP,fP,fP,List.foldl_nil]
 have h1:putK ([]:List (Key×V)) (Sum.inr "bills") a=[((Sum.inr "bills":Key),a)]:=by
  unfold putK; rw[if_neg (by simp)]; rfl
 have h2:putK [((Sum.inr "bills":Key),a)] (Sum.inr "credits") b=[((Sum.inr "bills":Key),a),(Sum.inr "credits",b)]:=by
  unfold putK; rw[if_neg (by simpa using Sx)]; rfl
 have h3:putK [((Sum.inr "bills":Key),a),(Sum.inr "credits",b)] (Sum.inr "made") c=[((Sum.inr "bills":Key),a),(Sum.inr "credits",b),(Sum.inr "made",c)]:=by
  unfold putK; rw[if_neg (by simpa using⟨Sy,Sz⟩)]; rfl
 dsimp only
 rw[h1,h2,h3]
theorem di.gB {H:Hp}{sd:Addr}{S:Bk}{f:fB}(h:di H sd S f):mJ H sd (.str "bills") (some (.ref f.pb)):=SA (.ref f.pb) (.ref f.pc) (.ref f.pm)▸mJ.k (k:=Sum.inr "bills") h.dict
theorem di.gC {H:Hp}{sd:Addr}{S:Bk}{f:fB}(h:di H sd S f):mJ H sd (.str "credits") (some (.ref f.pc)):=SD (.ref f.pb) (.ref f.pc) (.ref f.pm)▸mJ.k (k:=Sum.inr "credits") h.dict
theorem di.gM {H:Hp}{sd:Addr}{S:Bk}{f:fB}(h:di H sd S f):mJ H sd (.str "made") (some (.ref f.pm)):=SE (.ref f.pb) (.ref f.pc) (.ref f.pm)▸mJ.k (k:=Sum.inr "made") h.dict
theorem di.lb {H:Hp}{sd:Addr}{S:Bk}{f:fB}(h:di H sd S f){b:Nat}(hb:b < S.aI.length): ∃p,f.iA[b]? =some p/\se (f.iA.map V.ref) (b:Int)=some (.ref p)/\H p=some (.lst (S.bl b).vs):=by
 obtain⟨p,e,q⟩:=h.rb.at hb
 exact⟨p,e,cy (by rw[aB,e]; rfl),q⟩
theorem di.lc {H:Hp}{sd:Addr}{S:Bk}{f:fB}(h:di H sd S f){b:Nat}(hb:b < S.credits.length): ∃p,f.cps[b]? =some p/\se (f.cps.map V.ref) (b:Int)=some (.ref p)/\H p=some (.lst (S.cr b).vs):=by
 obtain⟨p,e,q⟩:=h.rc.at hb
 exact⟨p,e,cy (by rw[aB,e]; rfl),q⟩
section
variable {prog:Program}{w:World}{A:Around}{E:Value->Shared->Prop}
def tq (prog:Program)(w:World)(A:Around)(kS:Addr)(f:Value)(Fi:List Value->Shared->Prop):List Value->List Value->Shared->Prop
 |[],ks,s=>Fi ks s
 |v :: r,ks,s=>wpAny (model prog w) A (call f [v]) (fun k s'=> ∃e,s'.heap.get? kS=some (seqObj "list" ks.toArray e)/\ ∀h' c,Heap.SameBut kS s'.heap h'->h'.get? kS=some (seqObj "list" (ks ++ [k]).toArray c)->tq prog w A kS f Fi r (ks ++ [k]) {s' with heap:=h'}) (fun _ _=>False) s
def GV (prog:Program)(w:World)(A:Around)(D kS:Addr)(e1:Nat)(vs:List Value)(Q:Shared->Prop)(ks:List Value)(s:Shared):Prop:=
 ∃(κ:SortKind) (key:Nat->Int),D≠kS/\s.heap.get? D=some (seqObj "list" #[] e1)/\(2<=vs.length-> ∀Q':SortKind->Shared->Prop,Q' κ s->wpAny (model prog w) A (keyKind' ks.toArray) Q' (fun _ _=>False) s)/\
  (∀(i j:Nat) (C:Bool->Shared->Prop),i < vs.length->j < vs.length->C (decide (key i < key j)) s->wpAny (model prog w) A (keyLt' κ (ks.getD i Value.none) (ks.getD j Value.none)) C (fun _ _=>False) s)/\
  ∀(p:Array Nat) (h':Heap) (n:Nat),qJ vs.length p->lz key p vs.length->h'.objs.size=s.heap.objs.size->h'.get? D=some (seqObj "list" (p.toList.map fun i=>vs.getD i Value.none).toArray n)->(∀b,b≠D->b≠kS->h'.get? b=s.heap.get? b)->Q {s with heap:=h'}
theorem Ff {f:Value}{kS:Addr}{Fi:List Value->Shared->Prop}{n:Nat}{body:Value->PUnit->Sem (ForInStep PUnit)}(hn:n < 64)
  (hb: ∀x ks (s:Shared) (C:Value->Shared->Prop),List.length ks < 64->wpAny (model prog w) A (call f [x]) (fun k s'=> ∃e,s'.heap.get? kS=some (seqObj "list" ks.toArray e)/\ ∀h' c,Heap.SameBut kS s'.heap h'->h'.get? kS=some (seqObj "list" (ks ++ [k]).toArray c)->C k {s' with heap:=h'}) (fun _ _=>False) s->
   wpAny (model prog w) A (body x ⟨⟩) (fun r s'=>r= .yield ⟨⟩/\ ∃k c,s'.heap.get? kS=some (seqObj "list" (ks ++ [k]).toArray c)/\C k s') E s): ∀(r ks:List Value) (e:Nat) (s:Shared),ks.length + r.length=n->
   s.heap.get? kS=some (seqObj "list" ks.toArray e)->tq prog w A kS f Fi r ks s->
   wpAny (model prog w) A (forIn r PUnit.unit body) (fun _ s'=> ∃ks e,s'.heap.get? kS=some (seqObj "list" ks.toArray e)/\ks.length=n/\Fi ks s') E s
 |[],ks,e,s,hl,hk,h=>by
  rw[List.forIn_nil]
  exact wpAny_pure ⟨ks,e,hk,by simpa using hl,h⟩
 |x :: r,ks,e,s,hl,hk,h=>by
  rw[bS] at hl
  rw[List.forIn_cons]
  refine aA (cf (hb x ks s (fun k s'=>tq prog w A kS f Fi r (ks ++ [k]) s') (by lia) h) (fun q s' hq=>?_) fun _ _ x=>x)
  obtain⟨rfl,k,c,K1,h2⟩:=hq
  show wpAny (model prog w) A (forIn r PUnit.unit body) _ E s'
  exact Ff hn hb r (ks ++ [k]) c s' (by rw[aC,List.length_singleton]; lia) K1 h2
variable {s:Shared}
theorem Fg {D kS:Addr}{e e1:Nat}{ks out:List Value}{st:SortSt}{P:PySem.Fin->Shared->Prop}(hD:s.heap.get? D=some (seqObj "list" #[] e1))(hk:s.heap.get? kS=some (seqObj "list" ks.toArray e))(ne:D≠kS)
  (DO:(arrOf st).map (·.2)=out.toArray) (hz:out.length < 64) (hkz:ks.length < 64) (hf:failedOf st=none)
  (h: ∀(h':Heap) (n:Nat),h'.objs.size=s.heap.objs.size->h'.get? D=some (seqObj "list" out.toArray n)->(∀b,b≠D->b≠kS->h'.get? b=s.heap.get? b)->P (.done (.ret .none)) {s with heap:=h'}):
  wpAny (model prog w) A (ksk_tail D false e1 (.ref kS) st) P E s:=by
 have hl:sizeLine=16777216:=eI
 unfold ksk_tail
 try dsimp only
 rw[DO]
 have s1:=rV s.heap kS (Obj.mapSeq fun _=>(#[]:Array Value))
 have d1:(s.heap.update kS (Obj.mapSeq fun _=>(#[]:Array Value))).get? D=some (seqObj "list" #[] e1):=(s1.2 D ne).trans hD
 have s2:=rV (s.heap.update kS (Obj.mapSeq fun _=>(#[]:Array Value))) D (Obj.mapSeq fun _=>out.toArray)
 obtain⟨c2,LR⟩: ∃c2,((s.heap.update kS (Obj.mapSeq fun _=>(#[]:Array Value))).update D (Obj.mapSeq fun _=>out.toArray)).get? D=some (seqObj "list" out.toArray c2):=⟨_,M8 d1 fun _=>out.toArray⟩
 refine aA (wD hk rfl ?_ (by rw[bB]; lia) (bh _))
 refine aA (wpAny_letGo ?_)
 refine aA (seqEpoch_at d1 rfl ?_)
 simp only[Bool.false_eq_true,if_false]
 refine aA (wD d1 rfl ?_ (bh _) (by rw[bB]; lia))
 rw[hf]
 simp only[bne_self_eq_false,Bool.false_eq_true,if_false]
 refine bE (h _ c2 (s2.1.trans s1.1) LR fun b n1 n2=>(s2.2 b n1).trans (s1.2 b n2))
theorem OO {D kS:Addr}{e e1:Nat}{ks vs:List Value}{P:PySem.Fin->Shared->Prop}(hk:s.heap.get? kS=some (seqObj "list" ks.toArray e))(hl:ks.length=vs.length)(Dc:vs.length < 64)
  (h:GV prog w A D kS e1 vs (fun s'=>P (.done (.ret .none)) s') ks s):wpAny (model prog w) A (ksk_end D false vs.toArray e1 (.ref kS) ks.toArray) P E s:=by
 obtain⟨κ,key,ne,hD,kind,cmp,fin⟩:=h
 have hsz:vs.toArray.size=vs.length:=by simp
 unfold ksk_end
 try dsimp only
 simp only[Bool.false_eq_true,if_false]
 by_cases h2:vs.toArray.size < 2
 ·rw[a8 h2,a8 h2]
  refine aA (bE ?_)
  rw[StateT.run_pure]
  refine aA (bE ?_)
  dsimp only
  have DO:(arrOf (SortSt.mk' general' (ks.toArray.zip vs.toArray) #[] 7 none)).map (·.2)=((List.toArray (List.range vs.length)).toList.map fun i=>vs.getD i Value.none).toArray:=by
   show(ks.toArray.zip vs.toArray).map (·.2)=_
   apply Array.toList_inj.mp
   have e1:((ks.toArray.zip vs.toArray).map (·.2)).toList=vs:=by
    rw[Array.toList_map,Array.toList_zip]
    exact List.map_snd_zip (by rw[Bb,Bb]; lia)
   rw[e1]
   show vs=(List.range vs.length).map fun i=>vs.getD i Value.none
   exact(range_getD vs Value.none).symm
  refine Fg hD hk ne DO (by rw[ae,Bb,dr]; exact Dc) (by lia) rfl fun h' n z1 z2 z3=>?_
  refine fin (List.toArray (List.range vs.length)) h' n (Lh _) (fun i j ZL hj=>?_) z1 z2 z3
  have:i=j:=by lia
  subst this
  exact fQ _
 ·rw[aU h2,aU h2]
  have So:2<=vs.length:=by lia
  refine aA (cf (kind So (fun κ' s'=>κ'=κ/\s'=s) ⟨rfl,rfl⟩) (fun κ' s' K1=>?_) fun _ _ x=>x.elim)
  obtain⟨rfl,rfl⟩:=K1
  refine aA (cf (kat_run (Q:=fun wN ET=>ET=s'/\ ∃p:Array Nat,p.size=vs.length/\arrOf wN=p.map (kas_item (ks.toArray.zip vs.toArray))/\failedOf wN=none/\qJ vs.length p/\lz key p vs.length)
   (G:=fun p ET=>ET=s'/\qJ vs.length p/\lz key p vs.length) (κ:=κ') hl So Dc (fun p' wN ET a1 a2 a3 a4=>⟨a4.1,p',a1,a2,a3,a4.2⟩) (va (fun i j C hi hj q=>cmp i j C hi hj q) (fun p q=>⟨rfl,q⟩) _ (Jm (by lia)))) ?_ fun _ _ e=>e)
  rintro⟨⟨⟩,wN⟩ ET ⟨rfl,p,hp,W6,hf,q1,q2⟩
  dsimp only
  exact Fg hD hk ne (kat_snds hl W6) (by rw[ae,oB,hp]; exact Dc) (by lia) hf fun h' n z1 z2 z3=>fin p h' n q1 q2 z1 z2 z3
theorem LX {D:Addr}{n:Nat}{vs:List Value}{f:Value}{P:PySem.Fin->Shared->Prop}(ho:s.heap.get? D=some (seqObj "list" vs.toArray n))(Dc:vs.length < 64)
  (h: ∀(kS:Addr) (e1:Nat) (h':Heap),(∀b o,b≠D->s.heap.get? b=some o->h'.get? b=some o)->h'.get? D=some (seqObj "list" #[] e1)->h'.get? kS=some (seqObj "list" #[] 0)->D≠kS->s.heap.objs.size<=kS->
   tq prog w A kS f (GV prog w A D kS e1 vs (fun s'=>P (.done (.ret .none)) s')) vs [] {s with heap:=h'}):wpAny (model prog w) A (ksk_tree D f false) P E s:=by
 have ha:D < s.heap.objs.size:=aM ho
 have hl:sizeLine=16777216:=eI
 have s1:=rV s.heap D (Obj.mapSeq fun _=>(#[]:Array Value))
 obtain⟨e1,GO⟩: ∃e1,(s.heap.update D (Obj.mapSeq fun _=>(#[]:Array Value))).get? D=some (seqObj "list" #[] e1):=⟨_,M8 ho fun _=> #[]⟩
 have Xd:((s.heap.update D (Obj.mapSeq fun _=>(#[]:Array Value))).push (seqObj "tuple" vs.toArray 0)).objs.size=s.heap.objs.size + 1:=by rw[size_push',pE]
 unfold ksk_tree
 refine aA (listItems_at ho rfl ?_)
 refine aA (wD ho rfl ?_ (by rw[bB]; lia) (bh _))
 refine aA (seqEpoch_at GO rfl ?_)
 refine aA (wpAny_newTuple ?_ (by show vs.length<=_; lia))
 refine aA (Li ?_ (bh _))
 refine iq ?_
 generalize hU:((s.heap.update D (Obj.mapSeq fun _=>(#[]:Array Value))).push (seqObj "tuple" vs.toArray 0))=U at Xd
 have kU: ∀b o,(s.heap.update D (Obj.mapSeq fun _=>(#[]:Array Value))).get? b=some o->U.get? b=some o:=fun b o z=>by
  rw[← hU]
  exact ax _ z
 have QL:(U.push (seqObj "list" #[] 0)).get? U.objs.size=some (seqObj "list" #[] 0):=bL _ rfl
 have start:=h U.objs.size e1 (U.push (seqObj "list" #[] 0)) (fun b o n z=>ax _ (kU b o ((s1.2 b n).trans z))) (ax _ (kU D _ GO)) QL (by rw[Xd]; exact a6 (iT ha)) (by rw[Xd]; exact dI _)
 show wpAny (model prog w) A (ksk_rest D f false vs.toArray e1 (.ref U.objs.size)) P E {s with heap:=U.push (seqObj "list" #[] 0)}
 unfold ksk_rest
 refine aA (wpAny_rule ?_)
 first
  |rw[List.forIn_toArray]
  |(rw[← Array.forIn_toList]; simp only[List.toList_toArray])
 refine wpAny_bind (wpAny_mono (Ff Dc (fun x ks s' C hz hx=>?_) vs [] 0 _ (by simp) QL start) (fun _ s' hd=>?_) fun _ _ x=>x)
 ·refine aA (wpAny_attempt (cf hx (fun k ET hk=>?_) fun _ _ hF=>hF.elim))
  obtain⟨e,nk,c⟩:=hk
  have s2:=rV ET.heap U.objs.size (Obj.mapSeq (·.push k))
  have ea:ks.toArray.push k=(ks ++ [k]).toArray:=by simp
  obtain⟨c2,LR⟩: ∃c2,(ET.heap.update U.objs.size (Obj.mapSeq (·.push k))).get? U.objs.size=some (seqObj "list" (ks ++ [k]).toArray c2):=⟨_,by rw[← ea]; exact M8 nk (·.push k)⟩
  try dsimp only
  refine aA (wD nk rfl ?_ (by rw[bB]; lia) (aZ (iH (Array.size_push ..)) (by rw[bB]; lia)))
  exact bE ⟨rfl,k,c2,LR,c _ c2 s2 LR⟩
 ·obtain⟨ks,e,K1,hl',fin⟩:=hd
  try dsimp only
  refine aA (listItems_at K1 rfl ?_)
  exact OO K1 hl' Dc fin
theorem sortedK {l q:Addr}{vs:List Value}{Q:Value->Shared->Prop}(hl:s.heap.IsList l vs.toArray)(Dc:vs.length < 64)
  (h: ∀(D kS:Addr) (e1:Nat) (h':Heap),(∀b o,s.heap.get? b=some o->h'.get? b=some o)->h'.get? D=some (seqObj "list" #[] e1)->h'.get? kS=some (seqObj "list" #[] 0)->D≠kS->s.heap.objs.size<=D->s.heap.objs.size<=kS->
   tq prog w A.in1.in1 kS (.ref q) (GV prog w A.in1.in1 D kS e1 vs (fun s'=>Q (.ref D) s')) vs [] {s with heap:=h'}):
  wpAny (model prog w) A (call (.builtin "sorted") [.ref l] [(Str.ofString "key",.ref q)]) Q E s:=by
 have Vh:sizeLine=16777216:=eI
 refine call_function_entry_kw kind_sorted plain_sorted entry_sorted (ksk_s1 _ _) ?_
 unfold Builtin.«sorted»
 refine aA (m:=checkCount "sorted" 1 1 _) (bE ?_)
 refine aA (collect_list hl ?_ (by lia))
 refine aA (Li ?_ (by show vs.length<=_; lia))
 have hsz:((s.heap.push (seqObj "list" #[] 0)).update s.heap.objs.size (Obj.mapSeq (· ++ vs.toArray))).objs.size=s.heap.objs.size + 1:=by
  rw[pE,size_push']
 generalize hU:((s.heap.push (seqObj "list" #[] 0)).update s.heap.objs.size (Obj.mapSeq (· ++ vs.toArray)))=U at hsz
 have keep: ∀b o,s.heap.get? b=some o->U.get? b=some o:=fun b o z=>by
  have lt:b < s.heap.objs.size:=aM z
  rw[← hU,Iy _ _ _ _ (a6 lt),mP _ _ _ (a6 lt)]
  exact z
 have N5:(U.push (seqObj "list" vs.toArray 0)).get? U.objs.size=some (seqObj "list" vs.toArray 0):=bL _ rfl
 show wpAny _ _ _ _ _ {s with heap:=U.push (seqObj "list" vs.toArray 0)}
 refine aA (iq (wpAny_call_entry_kw slot_list_sort ⟨_,N5,rfl⟩ entry_list_sort ?body (ksk_l1 _ _)))
 case body=>
  show wpAny (model prog w) A.in1.in1 (Builtin.«list.sort» ⟨[.ref U.objs.size],[(Str.ofString "key",.ref q)]⟩) _ _ _
  rw[ksk_t1]
  refine LX (s:={s with heap:=U.push (seqObj "list" vs.toArray 0)}) N5 Dc fun kS e1 h' kp d1 k1 ne le=>?_
  have z:=h U.objs.size kS e1 h' (fun b o w=>kp b o (fun w2=>by rw[w2] at w; exact absurd (aM w) (by rw[hsz]; exact xW.mpr (dI _))) (ax _ (keep b o w))) d1 k1 ne (by rw[hsz]; exact dI _) (by
   have ZO:(U.push (seqObj "list" vs.toArray 0)).objs.size<=kS:=le
   rw[size_push',hsz] at ZO
   exact aZ (Gf (dI _)) ZO)
  have mono: ∀(r ks:List Value) (s':Shared),tq prog w A.in1.in1 kS (.ref q) (GV prog w A.in1.in1 U.objs.size kS e1 vs (fun s'=>Q (.ref U.objs.size) s')) r ks s'->
    tq prog w A.in1.in1 kS (.ref q) (GV prog w A.in1.in1 U.objs.size kS e1 vs (fun s'=> ∃v,PySem.Fin.done (.ret .none)= .done (.ret v)/\wpAny (model prog w) A.in1 (ret (.ref U.objs.size)) (fun fin s'=> ∃v,fin=PySem.Fin.done (Flow.ret v)/\Q v s') E s')) r ks s':=by
   intro r
   induction r with
   |nil=>
    rintro ks s' ⟨κ,key,a1,a2,a3,a4,a5⟩
    exact⟨κ,key,a1,a2,a3,a4,fun p h2 n b1 b2 b3 b4 b5=>⟨_,rfl,bE ⟨_,rfl,a5 p h2 n b1 b2 b3 b4 b5⟩⟩⟩
   |cons v r ih=>
    intro ks s' hh
    exact cf hh (fun k s2 ⟨e,z1,z2⟩=>⟨e,z1,fun h2 c w1 w2=>ih _ _ (z2 h2 c w1 w2)⟩) fun _ _ x=>x
  exact mono vs [] _ z
end
end L2
namespace K4
open PySem
theorem GW (f:Array Value->Array Value)(o:Obj):(Obj.mapFields f o).dict=o.dict:=by
 obtain⟨c,d,dt,sl⟩:=o
 cases dt <;> rfl
def iY (h:Heap)(e:Addr)(cls:Value)(iL:Option Addr)(vs:Array Value):Prop:= ∃oe,h.get? e=some oe/\oe.cls=cls/\oe.dict=iL/\oe.data= .fields vs
theorem iY.set {h:Heap}{e:Addr}{cls:Value}{iL:Option Addr}{vs:Array Value}(x:iY h e cls iL vs)(i:Nat)(v:Value):
  iY (h.update e (Obj.mapFields (·.setIfInBounds i v))) e cls iL (vs.setIfInBounds i v):=by
 obtain⟨oe,he,hc,hd,hv⟩:=x
 have q:=Obj.data_mapFields hv (·.setIfInBounds i v)
 exact⟨_,Dm _ he (Obj.isFreed_of_fields q),(Obj.cls_mapFields _ _).trans hc,(GW _ _).trans hd,q⟩
theorem iY.same {h h':Heap}{e:Addr}{cls:Value}{iL:Option Addr}{vs:Array Value}(x:iY h e cls iL vs)(k: ∀o,h.get? e=some o->h'.get? e=some o):iY h' e cls iL vs:=
 let⟨oe,he,r⟩:=x
 ⟨oe,k _ he,r⟩
def nj (fr own:List Addr)(h h':Heap):Prop:= ∀b o,h.get? b=some o->b∉own->(b∉fr->h'.get? b=some o)/\ ∃sl,h'.get? b=some {o with slots:=sl}
theorem nj.trans {fr o1 o2:List Addr}{h h1 h2:Heap}(a:nj fr o1 h h1)(b:nj fr o2 h1 h2):nj fr (o1 ++ o2) h h2:=fun c ob q n=>by
 obtain⟨k,sl,e⟩:=a c ob q (fun z=>n (c8 _ z))
 obtain⟨_,Vj,e2⟩:=b c _ e (fun z=>n (bu _ z))
 exact⟨fun hn=>(b c ob (k hn) (fun z=>n (bu _ z))).1 hn,Vj,e2⟩
theorem nj.mono {fr QM o1 o2:List Addr}{h h1:Heap}(a:nj fr o1 h h1)(hf: ∀b∈fr,b∈QM)(ho: ∀b∈o1,b∈o2):nj QM o2 h h1:=fun c ob q n=>
 let⟨k,sl,e⟩:=a c ob q (fun z=>n (ho c z))
 ⟨fun hn=>k (fun z=>hn (hf c z)),sl,e⟩
theorem zy {fr:List Addr}{h:Heap}{a:Addr}(f:Obj->Obj):nj fr [a] h (h.update a f):=fun b o q n=>by
 have z:(h.update a f).get? b=some o:=(mN _ _ (fun(e:a=b)=>n (ao.mpr e.symm))).trans q
 exact⟨fun _=>z,o.slots,z⟩
theorem vq {fr own:List Addr}{h:Heap}(o':Obj):nj fr own h (h.push o'):=fun b o q _=>⟨fun _=>ax _ q,o.slots,ax _ q⟩
theorem iY.but {fr own:List Addr}{h h':Heap}{e:Addr}{cls:Value}{iL:Option Addr}{vs:Array Value}(x:iY h e cls iL vs)(b:nj fr own h h')(n:e∉own):iY h' e cls iL vs:=by
 obtain⟨oe,he,hc,hd,hv⟩:=x
 obtain⟨_,sl,q⟩:=b e oe he n
 exact⟨_,q,hc,hd,hv⟩
def K5 (h:Heap)(T:Addr)(fl:Value):Prop:= ∃c d ts,iY h T c d ts/\ts[3]? =some fl
theorem fj {ts:Array Value}{i:Nat}{v:Value}(h:ts[i]? =some v):i < ts.size:=(Array.getElem?_eq_some_iff.mp h).1
theorem pU {ts:Array Value}{i:Nat}{v:Value}(h:i < ts.size):(ts.setIfInBounds i v)[i]? =some v:=by
 rw[Array.getElem?_setIfInBounds_self_of_lt h]
theorem qO {ts:Array Value}{i j:Nat}{v:Value}(h:i≠j):(ts.setIfInBounds i v)[j]? =ts[j]? :=by
 rw[Array.getElem?_setIfInBounds_ne h]
section
variable {M:Model}{A:Around}{E:Value->Shared->Prop}{s:Shared}{env:Env}{outer:List Env}{base:Heap}{L e T:Addr}{cls:Value}{iL:Option Addr}{vs:Array Value}{Q:Unit->Shared->Prop}
theorem qP {a:Addr}{i:Nat}{v:Value}{R:Value->Shared->Prop}(x:iY s.heap a cls iL vs)(h:vs[i]? =some v)(q:R v s):wpAny M A (field (.ref a) i) R E s:=by
 obtain⟨oe,he,_,_,hv⟩:=x
 exact Iz he hv h q
theorem oo {a:Addr}{i:Nat}{v:Value}(x:iY s.heap a cls iL vs)(h:i < vs.size)
  (q: ∀h',nj [] [a] s.heap h'->iY h' a cls iL (vs.setIfInBounds i v)->h'.objs.size=s.heap.objs.size->Q () {s with heap:=h'}):wpAny M A (setField (.ref a) i v) Q E s:=by
 obtain⟨oe,he,hc,hd,hv⟩:=id x
 exact wpAny_setField he hv h (q _ (zy _) (x.set i v) (Heap.size_after_update ..))
theorem vt {fl:Value}(x:iY s.heap e cls iL vs)(h1:vs[1]? =some (.ref T))(ht:K5 s.heap T fl)
  (q: ∀h',nj [] [T] s.heap h'->K5 h' T .none->h'.objs.size=s.heap.objs.size->Q () {s with heap:=h'}):wpAny M A (setFlight (.ref e) none) Q E s:=by
 obtain⟨c,d,ts,xt,h3⟩:=ht
 unfold setFlight
 refine aA (qP x h1 ?_)
 rw[if_pos (show(Value.ref T != Value.none)=true from by simp)]
 exact oo xt (fj h3) fun h' b x' z=>q h' b ⟨c,d,_,x',pU (fj h3)⟩ z
theorem entry {head:Value}{had:Bool}(Dd:A.frames=some (env :: outer))(hl:s.heap.FunFrames base (env :: outer))(hf:env.frame=some L)(x:iY s.heap e cls iL vs)(hsz:1 < vs.size)
  (q: ∀h' T,nj ((env :: outer).filterMap (·.frame)) [e] s.heap h'->iY h' e cls iL (vs.setIfInBounds 1 (.ref T))->T=s.heap.objs.size->K5 h' T (rawInt L)->Q () {s with heap:=h'}):
  wpAny M A (do let a ← frameOf env; let pl ← entryPlaceOf L had; let b ← EntryCells.newEntry head a .none (rawInt L) .none pl; setField (.ref e) 1 b) Q E s:=by
 refine aA (wpAny_frameOf_fun Dd hl hf fun h1 so=>?_)
 refine aA (wpAny_entryPlaceOf fun pl gQ=>?_)
 unfold EntryCells.newEntry newFields
 refine aA (wpAny_newObj_type ?_ (gQ.sizeOk5 _ _ _ _ _))
 have b1:nj ((env :: outer).filterMap (·.frame)) [] s.heap h1:=fun b o z _=>⟨fun n=>(so.2.1 b n).trans z,so.2.2 b o z⟩
 have x1:iY h1 e cls iL vs:=x.but b1 (by simp)
 generalize Vk:({cls:= .type "traceback",dict:=none,data:= .fields ([head,.ref L,.none,rawInt L,.none] ++ (if pl.isEmpty then List.replicate 6 Value.none else pl)).toArray}:Obj)=ob
 have x2:iY (h1.push ob) e cls iL vs:=x1.same fun o z=>ax _ z
 have ne:h1.objs.size≠e:=by
  obtain⟨_,z,_⟩:=x1
  exact qj (aM z)
 have xt:iY (h1.push ob) h1.objs.size ob.cls ob.dict ([head,.ref L,.none,rawInt L,.none] ++ (if pl.isEmpty then List.replicate 6 Value.none else pl)).toArray:=by
  subst Vk
  exact⟨_,bL _ rfl,rfl,rfl,rfl⟩
 refine oo (s:={s with heap:=h1.push ob}) x2 hsz fun h' b x' _=>q h' h1.objs.size ?_ x' so.1 ⟨_,_,_,xt.but b (by simpa using ne),?_⟩
 ·exact((b1.trans (vq ob (own:=[]))).trans (b.mono (by simp) (fun _ z=>z))).mono (fun _ z=>z) (by simp)
 ·simp
theorem OP (Dd:A.frames=some (env :: outer))(hl:s.heap.FunFrames base (env :: outer))(hf:env.frame=some L)(x:iY s.heap e cls iL vs)(h1:vs[1]? =some .none)
  (q: ∀h' T,nj ((env :: outer).filterMap (·.frame)) [e] s.heap h'->iY h' e cls iL (vs.setIfInBounds 1 (.ref T))->T=s.heap.objs.size->K5 h' T .none->Q () {s with heap:=h'}):
  wpAny M A (leaving env (.ref e)) Q E s:=by
 have ne:s.heap.objs.size≠e:=by
  obtain⟨_,z,_⟩:=x
  exact qj (aM z)
 unfold leaving noteFrame
 simp only[hf]
 refine aA (aA (qP x h1 ?_))
 rw[aU (by decide)]
 refine entry Dd hl hf x (fj h1) fun h' T b x' hT t=>?_
 refine vt x' (pU (fj h1)) t fun h2 b2 t2 _=>q h2 T ?_ (x'.but b2 (by rw[hT]; simpa using ne.symm)) hT t2
 intro c o z n
 have hc:c≠T:=fun w=>by rw[w,hT] at z; exact absurd (aM z) (iQ _)
 exact(b.trans (b2.mono (by simp) (fun _ z=>z))) c o z (by simpa using⟨by simpa using n,hc⟩)
theorem Nm (Dd:A.frames=some (env :: outer))(hl:s.heap.FunFrames base (env :: outer))(hf:env.frame=some L)(x:iY s.heap e cls iL vs)(h1:vs[1]? =some (.ref T))(ht:K5 s.heap T .none)(Xe:T≠e)
  (q: ∀h' T',nj ((env :: outer).filterMap (·.frame)) [T,e] s.heap h'->iY h' e cls iL (vs.setIfInBounds 1 (.ref T'))->T'=s.heap.objs.size->K5 h' T' (rawInt L)->Q () {s with heap:=h'}):
  wpAny M A (noteFrame (.ref e) env) Q E s:=by
 obtain⟨c,d,ts,xt,h3⟩:=ht
 unfold noteFrame
 simp only[hf]
 refine aA (qP x h1 ?_)
 rw[if_pos (show(Value.ref T != Value.none)=true from by simp)]
 refine aA (qP xt h3 ?_)
 rw[if_neg (show ¬ ((Value.none == rawInt L)=true) from by simp[rawInt])]
 refine aA (oo xt (fj h3) fun h' b xt' sz=>?_)
 refine entry (s:={s with heap:=h'}) Dd (hl.of_keeps fun a o z nf=>?_) hf (x.but b (by simpa using Xe.symm)) (fj h1) fun h2 T' b2 x2 hT t2=>q h2 T' ?_ x2 (hT.trans sz) t2
 ·have na:a≠T:=fun w=>by
   obtain⟨_,z',_,_,hd⟩:=xt
   rw[w,z'] at z
   cases z
   exact nf _ hd
  obtain⟨_,sl,z'⟩:=b a o z (by simpa using na)
  exact⟨_,z',rfl⟩
 ·exact((b.mono (fun _ z=>absurd z (by simp)) (fun _ z=>z)).trans b2).mono (fun _ z=>z) (by simp)
theorem OQ (Dd:A.frames=some (env :: outer))(hl:s.heap.FunFrames base (env :: outer))(hf:env.frame=some L)(x:iY s.heap e cls iL vs)(h1:vs[1]? =some (.ref T))(ht:K5 s.heap T .none)(Xe:T≠e)
  (q: ∀h' T',nj ((env :: outer).filterMap (·.frame)) [T,e] s.heap h'->iY h' e cls iL (vs.setIfInBounds 1 (.ref T'))->T'=s.heap.objs.size->K5 h' T' .none->Q () {s with heap:=h'}):
  wpAny M A (leaving env (.ref e)) Q E s:=by
 have ne:s.heap.objs.size≠e:=by
  obtain⟨_,z,_⟩:=x
  exact qj (aM z)
 unfold leaving
 refine aA (Nm Dd hl hf x h1 ht Xe fun h' T' b x' hT t=>?_)
 refine vt (s:={s with heap:=h'}) x' (pU (fj h1)) t fun h2 b2 t2 _=>q h2 T' ?_ (x'.but b2 (by rw[hT]; simpa using ne.symm)) hT t2
 intro c o z n
 have hc:c≠T':=fun w=>by rw[w,hT] at z; exact absurd (aM z) (iQ _)
 have n': ¬ (c=T∨c=e):=by simpa using n
 exact(b.trans (b2.mono (by simp) (fun _ z=>z))) c o z (by simp; exact⟨fun w=>n' (.inl w),fun w=>n' (.inr w),hc⟩)
end
def K6 {α:Type}(M:Model)(h:Heap)(t:Sem α)(r:α):Prop:=
 ∀(A:Around) (Q:α->Shared->Prop) (E:Value->Shared->Prop) (s:Shared),(∀b o,h.get? b=some o->s.heap.get? b=some o)->Q r s->wpAny M A t Q E s
section
variable {M:Model}{A:Around}{E:Value->Shared->Prop}{h:Heap}{g:Array GenState}{d:Drawn}{t:Nat}{os:OsState}
variable {nm q:Str}{C N:Addr}{bs bm Fh:List Value}{oH:Bool}{sn:List Str}{sub:List Value}{ab:Bool}{col:Option Bool}{dd:Option Addr}{k0 k1 k2 k3 k5:Option Value}{B newId kX:String}
theorem iB {X:String}{r:Bool}(hb:bm.contains (.type X)=r):(Value.ref C :: bm).contains (.type X)=r:=by
 rw[List.contains_cons,hb]
 rfl
theorem LY (F:ExcBaseFacts B newId kX Fh)(hB:bm.contains (.type B)=true){rest:List Value}{Q:Unit->Shared->Prop}
  (hC:h.get? C=some (excClassObj nm q C N bs bm oH sn sub ab col dd k0 k1 k2 k3 k5 newId)) (hq:Q () ⟨h,g,d,t,os⟩):wpAny M A (checkBuiltinCall newId ⟨.ref C :: rest,[]⟩) Q E ⟨h,g,d,t,os⟩:=by
 have jU:=iB (C:=C) hB; have st:=F.noStar
 simp only[checkBuiltinCall,F.newKind,F.newSplit,F.newRow]
 repeat (first
  |refine bz hC ?_
  |(refine cZ hC ?_; rw[jU])
  |refine wpAny_staticBase_exc hC ?_
  |refine wpAny_madeBy_exc hC ?_
  |simp only[bne_self_eq_false,Bool.false_eq_true,if_false]
  |wp_step)
 exact hq
end
section
variable {prog:Program}{w:World}{A:Around}{E:Value->Shared->Prop}{R:Result->Shared->Prop}{h:Heap}{g:Array GenState}{d:Drawn}{t:Nat}{os:OsState}
variable {nm q:Str}{C N f:Addr}{bs bm Fh:List Value}{oH:Bool}{sn:List Str}{sub:List Value}{ab:Bool}{col:Option Bool}{dd:Option Addr}{k0 k1 k2 k3 k5:Option Value}{B newId kX:String}
abbrev me (C t:Addr):Obj:={cls:= .ref C,data:= .fields #[.ref t,.none,.none,.none,.bool false,.none]}
abbrev jq (l:List Value):Obj:={cls:= .type "tuple",data:= .seq l.toArray}
theorem LZ (F:ExcBaseFacts B newId kX Fh)(hB:bm.contains (.type B)=true)(hA:bm.contains (.type "AttributeError")=false)(hN:bm.contains (.type "NameError")=false)
  (hC:h.get? C=some (excClassObj nm q C N bs bm oH sn sub ab col dd k0 k1 k2 k3 k5 newId)) (hq:R (.ok (.ret (.ref (h.objs.size + 1)))) ⟨(h.push (jq [])).push (me C h.objs.size),g,d,t,os⟩):
  codeAny (model prog w) A (.builtin newId ⟨[.ref C],[]⟩) R ⟨h,g,d,t,os⟩:=by
 have he:=F.ends
 have h1:=iB (C:=C) hB; have h2:=iB (C:=C) hA; have h3:=iB (C:=C) hN
 refine codeAny_builtinAt F.entry ?_
 unfold Builtin.«BaseException.__new__»
 refine wpAt_bind ?_
 show wpAt _ _ _ (stack >>=_) _ _ _
 refine wpAt_bind (wpAt_stack fun p below=>wpAt_of_wpAny ?_)
 wp_walk
 refine wpAt_of_wpAny ?_
 rw[F.owner]
 repeat (first
  |with_reducible refine wpAny_madeHere_exc F.canon hC ?_
  |with_reducible refine bz hC ?_
  |(with_reducible refine cZ hC ?_; first|rw[h1]|rw[h2]|rw[h3])
  |wp_step)
 show R _ _
 rw[oh]
 exact hq
theorem GX (F:ExcBaseFacts B newId kX Fh)(hB:bm.contains (.type B)=true)(hA:bm.contains (.type "AttributeError")=false)(hN:bm.contains (.type "NameError")=false){oI:Obj}{Q:Fin->Shared->Prop}
  (hC:h.get? C=some (excClassObj nm q C N bs bm oH sn sub ab col dd k0 k1 k2 k3 k5 newId)) (hi:K6 (model prog w) h (typeLookup (.ref C) "__init__") (some (.ref f))) (hf:h.get? f=some oI) (SG:oI.cls= .type "function")
  (hq:wpAny (model prog w) A (call (.ref f) [.ref (h.objs.size + 1)]) (fun r s'=>r= .none/\Q (.done (.ret (.ref (h.objs.size + 1)))) s') E ⟨(h.push (jq [])).push (me C h.objs.size),g,d,t,os⟩):
  wpAny (model prog w) A (Builtin.«type.__call__» ⟨[.ref C],[]⟩) Q E ⟨h,g,d,t,os⟩:=by
 repeat (first
  |with_reducible refine bz hC ?_
  |with_reducible refine wpAny_madeBy_exc hC ?_
  |wp_step)
 refine codeAny_call_builtin_code (Code.quiet_builtin _ F.quiet) (LY F hB hC ?_)
 refine LZ F hB hA hN hC ?_
 show wpAny _ _ _ _ _ _
 have kp: ∀b o,h.get? b=some o->((h.push (jq [])).push (me C h.objs.size)).get? b=some o:=fun b o z=>ax _ (ax _ z)
 have Js:=kp _ _ hC
 have hg:((h.push (jq [])).push (me C h.objs.size)).get? (h.objs.size + 1)=some (me C h.objs.size):=by heap_get
 have SH:(Value.ref C :: bm).contains (.ref C)=true:=by simp
 unfold isInstance
 repeat (first
  |with_reducible refine bz hg ?_
  |(with_reducible refine cZ Js ?_; rw[SH])
  |wp_step)
 show wpAny _ _ (typeLookup (.ref C) _) _ _ _
 refine hi _ _ _ _ kp ?_
 refine iq (aA ?_)
 unfold bindSpecial
 refine aA (wpAny_typeOf (T:="function") ⟨_,kp _ _ hf,SG⟩ ?_)
 rw[a8 (by decide)]
 refine bE (aA (cf hq (fun r s' hr=>?_) fun _ _ x=>x))
 obtain⟨rfl,z⟩:=hr
 wp_walk
 exact z
theorem call_exc (F:ExcBaseFacts B newId kX Fh)(hB:bm.contains (.type B)=true)(hA:bm.contains (.type "AttributeError")=false)(hN:bm.contains (.type "NameError")=false){oI:Obj}{Q:Value->Shared->Prop}
  (hC:h.get? C=some (excClassObj nm q C N bs bm oH sn sub ab col dd k0 k1 k2 k3 k5 newId)) (hi:K6 (model prog w) h (typeLookup (.ref C) "__init__") (some (.ref f))) (hf:h.get? f=some oI) (SG:oI.cls= .type "function")
  (hq:wpAny (model prog w) (A.under (.builtin "type.__call__" ⟨[.ref C],[]⟩)) (call (.ref f) [.ref (h.objs.size + 1)]) (fun r s'=>r= .none/\Q (.ref (h.objs.size + 1)) s') E ⟨(h.push (jq [])).push (me C h.objs.size),g,d,t,os⟩):
  wpAny (model prog w) A (call (.ref C) []) Q E ⟨h,g,d,t,os⟩:=by
 have f1:=tc_lookup; have f2:=tc_bind (.ref C)
 have hT:(⟨h,g,d,t,os⟩:Shared).TypeIs (.ref C) "type":=⟨_,hC,rfl⟩
 refine EG (codeAny_of_tree ?_)
 show wpAny _ _ (callAny (.ref C) _) _ _ _
 repeat (any_goals (first
  |assumption
  |with_reducible refine bz hC ?_
  |wp_step))
 refine⟨rfl,?_⟩
 exact codeAny_call_builtin_at (Code.quiet_builtin _ (by decide +kernel)) entry_typeCall (wpAny_check_type_call_sub hC (GX F hB hA hN hC hi hf SG hq))
end
def Stop (P:Prop):Prop:=P
theorem Stop.out {P:Prop}(h:Stop P):P:=h
theorem Stop.in {P:Prop}(h:P):Stop P:=h
section
variable {prog:Program}{w:World}{A:Around}{E:Value->Shared->Prop}{R:Result->Shared->Prop}{h:Heap}{g:Array GenState}{d:Drawn}{t:Nat}{os:OsState}
variable {nm q:Str}{C N e:Addr}{bs bm Fh:List Value}{oH:Bool}{sn:List Str}{sub:List Value}{ab:Bool}{col:Option Bool}{dd iL:Option Addr}{k0 k1 k2 k3 k5:Option Value}{B newId ZP kX:String}{vs:Array Value}
theorem Jt {M:Model}(F:ExcBaseFacts B ZP kX Fh)(hB:bm.contains (.type B)=true){oe:Obj}{rest:List Value}{Q:Unit->Shared->Prop}
  (hC:h.get? C=some (excClassObj nm q C N bs bm oH sn sub ab col dd k0 k1 k2 k3 k5 newId)) (he:h.get? e=some oe) (hc:oe.cls= .ref C) (hq:Q () ⟨h,g,d,t,os⟩):
  wpAny M A (checkBuiltinCall kX ⟨.ref e :: rest,[]⟩) Q E ⟨h,g,d,t,os⟩:=by
 have h1:=iB (C:=C) hB; have h2:=F.noStar
 simp only[checkBuiltinCall,F.initKind,F.initSplit,F.initRow]
 repeat (first
  |(with_reducible refine bz he ?_; rw[hc])
  |with_reducible refine bz hC ?_
  |(with_reducible refine cZ hC ?_; rw[h1])
  |wp_step)
 refine wpAny_onRaise ?_
 rw[show ∀(a b:String) (n:Nat),Bind.check ⟨.positional,"*",B,.self,[⟨"args",.varPos,false⟩]⟩ a b n (List.map (fun x=>x.fst) ({pos:=Value.ref e :: rest}:Args).kw)=pure () from fun a b n=>
  check_star_args _ _ _ _ _ _]
 exact bE hq
theorem GY (F:ExcBaseFacts B ZP kX Fh)(hB:bm.contains (.type B)=true){v:Value}{Q:Value->Shared->Prop}
  (hC:h.get? C=some (excClassObj nm q C N bs bm oH sn sub ab col dd k0 k1 k2 k3 k5 newId)) (x:iY h e (.ref C) iL vs) {t0:Addr} (h0:vs[0]? =some (.ref t0))
  (hq: ∀h',nj [] [e] h h'->iY h' e (.ref C) iL (vs.setIfInBounds 0 (.ref h.objs.size))->Q .none ⟨h',g,d,t,os⟩):
  wpAny (model prog w) A (call (.builtin kX) [.ref e,v]) Q E ⟨h,g,d,t,os⟩:=by
 obtain⟨oe,he,hc,OR,hv⟩:=id x
 refine EG (Gg F.init.plain F.initEntry (Jt F hB hC he hc ?_))
 unfold Builtin.«BaseException.__init__»
 have Xf:(h.push (jq [v])).get? e=some oe:=ax _ he
 have x1:iY (h.push (jq [v])) e (.ref C) iL vs:=⟨oe,Xf,hc,OR,hv⟩
 have hs:=fj h0
 repeat (first
  |with_reducible refine Iz Xf hv h0 ?_
  |with_reducible refine wpAny_setField Xf hv hs ?_
  |wp_step)
 have bt:nj [] [e] h ((h.push (jq [v])).update e (Obj.mapFields (·.setIfInBounds 0 (Value.ref h.objs.size)))):=(vq (fr:=[]) (own:=[]) (jq [v])).trans (zy _)
 exact hq _ bt (x1.set 0 _)
end
section
variable {M:Model}{A:Around}{E:Value->Shared->Prop}{s:Shared}{env:Env}
variable {nm q:Str}{C N e:Addr}{bs bm Fh:List Value}{oH:Bool}{sn:List Str}{sub:List Value}{ab:Bool}{col:Option Bool}{dd iL:Option Addr}{k0 k1 k2 k3 k5:Option Value}{newId:String}{vs:Array Value}
theorem DR {x:Sem Value}{Q:Flow->Shared->Prop}(hB:bm.contains (.type "BaseException")=true)(hh:A.handled=none)
  (h:wpAny M A x (fun v s1=> ∃e iL vs,v= .ref e/\s1.heap.get? C=some (excClassObj nm q C N bs bm oH sn sub ab col dd k0 k1 k2 k3 k5 newId)/\iY s1.heap e (.ref C) iL vs/\vs[1]? =some .none/\E (.ref e) s1) E s):
  wpAny M A (raiseStmt env (some x) none) Q E s:=by
 have h1:=iB (C:=C) hB
 unfold raiseStmt
 refine aA (cf h (fun v s1 z=>?_) fun _ _ x=>x)
 obtain⟨e,iL,vs,rfl,hC,⟨oe,he,hc,OR,hv⟩,v1,hE⟩:=z
 obtain⟨hp,g,d,tk,os⟩:=s1
 repeat (first
  |(with_reducible refine bz he ?_; rw[hc])
  |with_reducible refine bz hC ?_
  |(with_reducible refine cZ hC ?_; rw[h1])
  |with_reducible refine Iz he hv v1 ?_
  |wp_step)
 exact wpAny_raiseNew_none hh hE
theorem L0 {a:Addr}{cls:Value}{i:Nat}{v:Value}{Q:Unit->Shared->Prop}(x:iY s.heap a cls iL vs)(h:i < vs.size)
  (q: ∀h',nj [] [a] s.heap h'->iY h' a cls iL (vs.setIfInBounds i v)->Q () {s with heap:=h'}):wpAny M A (updateField a i v) Q E s:=
 oo (i:=i) (v:=v) x h fun h' b x' _=>q h' b x'
theorem wZ:entryFor table "proto.unchain"=some Builtin.«proto.unchain»:=entryFor_of_tree (by kernel_rfl)
end
section
variable {prog:Program}{w:World}{A:Around}{E:Value->Shared->Prop}{s:Shared}{env:Env}
variable {nm q:Str}{C N e:Addr}{bs bm Fh:List Value}{oH:Bool}{sn:List Str}{sub:List Value}{ab:Bool}{col:Option Bool}{dd iL:Option Addr}{k0 k1 k2 k3 k5:Option Value}{newId:String}{vs:Array Value}
theorem DS {x c:Sem Value}{Q:Flow->Shared->Prop}{e0:Addr}(hB:bm.contains (.type "BaseException")=true)(hh:A.handled=some (.ref e0))(hc: ∀(R:Value->Shared->Prop) (s:Shared),R .none s->wpAny (model prog w) A c R E s)
  (h:wpAny (model prog w) A x (fun v s1=> ∃e iL vs c0 d0 R7,v= .ref e/\e≠e0/\s1.heap.get? C=some (excClassObj nm q C N bs bm oH sn sub ab col dd k0 k1 k2 k3 k5 newId)/\iY s1.heap e (.ref C) iL vs/\vs[1]? =some .none/\vs.size=6/\
   iY s1.heap e0 c0 d0 R7/\R7[2]? =some .none/\ ∀h',nj [] [e] s1.heap h'->iY h' e (.ref C) iL (((vs.setIfInBounds 3 .none).setIfInBounds 4 (.bool true)).setIfInBounds 2 (.ref e0))->E (.ref e) {s1 with heap:=h'}) E s):
  wpAny (model prog w) A (raiseStmt env (some x) (some c)) Q E s:=by
 have h1:=iB (C:=C) hB
 unfold raiseStmt
 refine aA (cf h (fun v s1 z=>?_) fun _ _ x=>x)
 obtain⟨e,iL,vs,c0,d0,R7,rfl,ne,hC,xe,v1,sz,x0,c2,hE⟩:=z
 obtain⟨oe,he,qQ,OR,hv⟩:=id xe
 obtain⟨hp,g,d,tk,os⟩:=s1
 have eC:e≠C:=fun q=>by
  rw[q] at he
  rw[hC] at he
  cases he
  cases hv
 repeat (first
  |(with_reducible refine bz he ?_; rw[qQ])
  |with_reducible refine bz hC ?_
  |(with_reducible refine cZ hC ?_; rw[h1])
  |with_reducible refine oo xe (by rw[sz]; decide) fun h2 b2 x2 _=>Stop.out ?_
  |with_reducible refine hc _ _ ?_
  |wp_step)
 have b2':nj [] [e] hp h2:=b2
 refine Stop.in ?_
 refine aA (oo (s:=⟨h2,g,d,tk,os⟩) x2 (by rw[rW,sz]; decide) fun h3 b3 x3 _=>?_)
 have b3':nj [] [e] h2 h3:=b3
 have Xg:nj [] [e] hp h3:=(b2'.trans b3').mono (fun _ z=>z) (by simp)
 have ZQ:h3.get? C=_:=(Xg C _ hC (by simpa using eC.symm)).1 (by simp)
 have x03:iY h3 e0 c0 d0 R7:=iY.but x0 Xg (by simpa using ne.symm)
 obtain⟨o3,ZR,hc3,_,hv3⟩:=id x3
 obtain⟨o0,he0,_,_,QN⟩:=id x03
 have v31:((vs.setIfInBounds 3 Value.none).setIfInBounds 4 (Value.bool true))[1]? =some Value.none:=by rw[qO (by decide),qO (by decide)]; exact v1
 repeat (first
  |(with_reducible refine bz ZR ?_; rw[hc3])
  |with_reducible refine bz ZQ ?_
  |(with_reducible refine cZ ZQ ?_; rw[h1])
  |with_reducible refine Iz ZR hv3 v31 ?_
  |wp_step)
 have sz3:((vs.setIfInBounds 3 Value.none).setIfInBounds 4 (Value.bool true)).size=6:=by rw[rW,rW,sz]
 unfold raiseNew
 refine aA (wpAny_handled ?_)
 rw[hh]
 dsimp only
 rw[if_pos (show(Value.ref e0 != Value.ref e)=true from by simpa using ne.symm)]
 refine aA (iq (wpAny_runValue (codeAny_builtin wZ ?_)))
 unfold Builtin.«proto.unchain»
 repeat (first
  |with_reducible refine Iz he0 QN c2 ?_
  |with_reducible refine aA (L0 (s:=⟨h3,g,d,tk,os⟩) x3 (by rw[sz3]; decide) fun h4 b4 x4=>Stop.out ?_)
  |wp_step)
 refine Stop.in ?_
 refine wpAny_throw (hE h4 ?_ x4)
 have b4':nj [] [e] h3 h4:=b4
 exact(Xg.trans b4').mono (fun _ z=>z) (by simp)
end
open PySem.Builtin PySem.Builtin.ObjectAttr
section
variable {prog:Program}{w:World}{A:Around}{E:Value->Shared->Prop}{h:Heap}{g:Array GenState}{d:Drawn}{t:Nat}{os:OsState}
variable {nm q:Str}{C N e:Addr}{bs bm:List Value}{sn:List Str}{sub:List Value}{ab:Bool}{col:Option Bool}{dd:Option Addr}{k0 k1 k2 k3 k5:Option Value}{newId:String}{vs:Array Value}{name:Str}{v:Value}
theorem GZ {tk:Tok}{Q:Fin->Shared->Prop}(hC:h.get? C=some (excClassObj nm q C N bs bm true sn sub ab col dd k0 k1 k2 k3 k5 newId))(hp: ∀self:Value,refuseLoop self "__setattr__" (.ref C :: bm)=pure ())
  (tx:K6 (model prog w) h (typeLookup (.ref C) name) none) (x:iY h e (.ref C) none vs)
  (hq: ∀h' OS,nj [] [e] h h'->iY h' e (.ref C) (some h.objs.size) vs->h'.Ns1 h.objs.size (fun y=>if y=name then some v else none)->Q (.done (.ret .none)) ⟨h',g,d,OS,os⟩):
  wpAny (model prog w) A (Builtin.«object.__setattr__» ⟨[.ref e,.str name tk,v],[]⟩) Q E ⟨h,g,d,t,os⟩:=by
 obtain⟨o,hx,hc,Xh,hv⟩:=id x
 have SI:=hp (.ref e)
 have Xi: ∀{A':Around} {Q':Option Value->Shared->Prop} {E':Value->Shared->Prop},Q' none ⟨h,g,d,t,os⟩->wpAny (model prog w) A' (typeLookup (.ref C) name) Q' E' ⟨h,g,d,t,os⟩:=fun z=>tx _ _ _ _ (fun _ _ y=>y) z
 have hnc: ∀c,o.data≠ .cls c:=fun c z=>by rw[hv] at z; cases z
 unfold Builtin.«object.__setattr__»
 repeat (first
  |rw[refuse_eq]
  |rw[SI]
  |(with_reducible refine bz hx ?_; rw[hc])
  |with_reducible refine wpAny_mroOf_exc hC ?_
  |with_reducible refine Xi ?_
  |wp_step)
 rw[Xh,if_neg (by simp[typeHasDict])]
 rw[hv]
 dsimp only
 have lt:=aM hx
 have ne:e≠h.objs.size:=a6 lt
 generalize hD:({cls:= .type "dict",data:= .dict #[]}:Obj)=D
 have yr:(h.push D).get? e=some o:=ax _ hx
 refine aA (wpAny_alloc' (aA (wpAny_update' yr (bE ?_))))
 generalize hU:(h.push D).update e (fun o=>{cls:=o.cls,dict:=some h.objs.size,data:=o.data,slots:=o.slots})=U
 have b1:nj [] [e] h U:=by
  rw[← hU]
  exact(vq (fr:=[]) (own:=[]) D).trans (zy _)
 have x1:iY U e (.ref C) (some h.objs.size) vs:=by
  refine⟨{cls:=o.cls,dict:=some h.objs.size,data:=o.data,slots:=o.slots},?_,hc,rfl,hv⟩
  rw[← hU]
  exact Dm _ yr (Obj.isFreed_of_fields (vs:=vs) hv)
 have gd:U.get? h.objs.size=some {cls:= .type "dict",data:= .dict #[]}:=by
  rw[← hU,← hD]
  exact(Iy _ _ _ _ ne.symm).trans (Heap.get?_push_at rfl rfl)
 have nd:U.Ns h.objs.size (fun _=>none):=⟨_,#[],_,gd,rfl,fun _ he=>absurd he (by simp),fun _=>rfl⟩
 show wpAny _ _ (storeInDict h.objs.size (.str name tk) name v) _ _ _
 unfold storeInDict newKeyGuard
 refine aA (bE (aA (wpAny_nsSet1 (s:=⟨U,g,d,t,os⟩) (Heap.Ns1.of_empty nd) fun h' hn hs=>?_)))
 obtain⟨oD,esD,epD,Wt,Wu,Wv⟩:=hn.count (Within.cons name v Within.nil)
 refine aA (wpAny_lookBehind Wt (by rw[Wu]; exact pastItsLine_dict (aZ Wv (by rw[bS,wJ,eI]; lia))) ?_)
 wp_walk
 have lt': ∀b o',h.get? b=some o'->h'.get? b=U.get? b:=fun b o' z=>hs.2 b (a6 (aM z))
 refine hq h' _ (fun b ob z n=>?_) (x1.same fun ob z=>(hs.2 e ne).trans z) hn
 obtain⟨z1,sl,z2⟩:=b1 b ob z n
 exact⟨fun n'=>(lt' b ob z).trans (z1 n'),sl,(lt' b ob z).trans z2⟩
theorem OT {M:Model}{B sa owner:String}{Fh:List Value}{o:Obj}{vv:Value}{Q:Unit->Shared->Prop}(SF:StoreFacts B Fh sa owner)(ho:bm.contains (.type owner)=true)
  (hC:h.get? C=some (excClassObj nm q C N bs bm true sn sub ab col dd k0 k1 k2 k3 k5 newId)) (hx:h.get? e=some o) (hc:o.cls= .ref C) (hq:Q () ⟨h,g,d,t,os⟩):
  wpAny M A (checkBuiltinCall sa ⟨[.ref e,vv,v],[]⟩) Q E ⟨h,g,d,t,os⟩:=by
 have h1:=iB (C:=C) ho; have ha:=SF.args (.ref e) vv v
 simp only[checkBuiltinCall,SF.kind,SF.split]
 refine aA ?_
 unfold isInstance
 repeat (first
  |(with_reducible refine bz hx ?_; rw[hc])
  |(with_reducible refine cZ hC ?_; rw[h1])
  |wp_step)
 cases hs:Manifest.signature? sa with
 |none=>exact bE hq
 |some sg=>
  simp only[argsOk,hs] at ha
  have h2:Bind.checkArgs sa sg ⟨[.ref e,vv,v],[]⟩=pure ():=ha
  show wpAny M A (Bind.checkArgs sa sg ⟨[.ref e,vv,v],[]⟩) Q E _
  rw[h2]
  exact bE hq
theorem L1 {B sa owner:String}{Fh:List Value}{Q:Unit->Shared->Prop}(SF:StoreFacts B Fh sa owner)(ho:bm.contains (.type owner)=true)(hC:h.get? C=some (excClassObj nm q C N bs bm true sn sub ab col dd k0 k1 k2 k3 k5 newId))
  (hp: ∀self:Value,refuseLoop self "__setattr__" (.ref C :: bm)=pure ()) (sL:K6 (model prog w) h (typeLookup (.ref C) "__setattr__") (some (.builtin sa))) (tx:K6 (model prog w) h (typeLookup (.ref C) name) none) (x:iY h e (.ref C) none vs)
  (hq: ∀h' OS,nj [] [e] h h'->iY h' e (.ref C) (some h.objs.size) vs->h'.Ns1 h.objs.size (fun y=>if y=name then some v else none)->Q () ⟨h',g,d,OS,os⟩):
  wpAny (model prog w) A (setAttr (.ref e) name v) Q E ⟨h,g,d,t,os⟩:=by
 obtain⟨o,hx,hc,_⟩:=id x
 have f3:=SF.slot.bind (.ref e)
 have sL': ∀{tk:Nat} {A':Around} {Q':Option Value->Shared->Prop} {E':Value->Shared->Prop},Q' (some (.builtin sa)) ⟨h,g,d,tk,os⟩->wpAny (model prog w) A' (typeLookup (.ref C) "__setattr__") Q' E' ⟨h,g,d,tk,os⟩:=fun z=>sL _ _ _ _ (fun _ _ y=>y) z
 unfold setAttr callSpecial? specialOf
 repeat (any_goals (first
  |assumption
  |(with_reducible refine bz hx ?_; rw[hc])
  |with_reducible refine sL' ?_
  |wp_step))
 refine Gg SF.slot.plain SF.entry (OT SF ho hC hx hc (GZ hC hp tx x fun h' OS b x' n=>?_))
 repeat (any_goals (first
  |assumption
  |wp_step))
 exact hq h' OS b x' n
end
section
variable {prog:Program}{w:World}{A:Around}{E:Value->Shared->Prop}{h:Heap}{g:Array GenState}{d:Drawn}{t:Nat}{os:OsState}
variable {nm q:Str}{C N e dx:Addr}{bs bm:List Value}{sn:List Str}{sub:List Value}{ab:Bool}{col:Option Bool}{dd:Option Addr}{k0 k1 k2 k3 k5:Option Value}{newId:String}{vs:Array Value}{name:Str}{v:Value}{mA:Str->Option Value}
theorem G0 {tk:Tok}{Q:Fin->Shared->Prop}(hC:h.get? C=some (excClassObj nm q C N bs bm true sn sub ab col dd k0 k1 k2 k3 k5 newId))(tx:K6 (model prog w) h (typeLookup (.ref C) name) none)(x:iY h e (.ref C) (some dx) vs)
  (n:h.Ns dx mA) (hm:mA name=some v) (hq:Q (.done (.ret v)) ⟨h,g,d,t,os⟩):wpAny (model prog w) A (Builtin.«object.__getattribute__» ⟨[.ref e,.str name tk],[]⟩) Q E ⟨h,g,d,t,os⟩:=by
 obtain⟨o,hx,hc,Xh,hv⟩:=id x
 have Xi: ∀{A':Around} {Q':Option Value->Shared->Prop} {E':Value->Shared->Prop},Q' none ⟨h,g,d,t,os⟩->wpAny (model prog w) A' (typeLookup (.ref C) name) Q' E' ⟨h,g,d,t,os⟩:=fun z=>tx _ _ _ _ (fun _ _ y=>y) z
 repeat (any_goals (first
  |assumption
  |(with_reducible refine bz hx ?_; rw[hc])
  |with_reducible refine Xi ?_
  |wp_step))
 rw[hv]
 show wpAny _ _ (instanceDict e false) _ _ _
 unfold instanceDict
 refine aA (bz hx ?_)
 rw[hc]
 dsimp only
 unfold classData
 refine aA (aA (bz hC (bE ?_)))
 rw[if_neg (by simp)]
 rw[Xh]
 refine bE ?_
 show wpAny _ _ (nsGet dx name) _ _ _
 refine wpAny_nsGet n ?_
 rw[hm]
 repeat (first
  |exact hq
  |wp_step)
theorem OU {M:Model}{vv:Value}{o:Obj}{Q:Unit->Shared->Prop}(hB:bm.contains (.type "BaseException")=true)(hC:h.get? C=some (excClassObj nm q C N bs bm true sn sub ab col dd k0 k1 k2 k3 k5 newId))
  (hx:h.get? e=some o) (hc:o.cls= .ref C) (hq:Q () ⟨h,g,d,t,os⟩):wpAny M A (checkBuiltinCall "BaseException.__getattribute__" ⟨[.ref e,vv],[]⟩) Q E ⟨h,g,d,t,os⟩:=by
 have hk:builtinKind "BaseException.__getattribute__"=some .slot:=by decide +kernel
 have hs:splitId "BaseException.__getattribute__"=some ("BaseException","__getattribute__"):=by decide +kernel
 have h1:=iB (C:=C) hB; have ha:=F.args_bexc_ga (.ref e) vv
 simp only[checkBuiltinCall,hk,hs]
 refine aA ?_
 unfold isInstance
 repeat (first
  |(with_reducible refine bz hx ?_; rw[hc])
  |(with_reducible refine cZ hC ?_; rw[h1])
  |wp_step)
 exact hq
theorem L3 {T:String}{expr:Bool}{Q:Value->Shared->Prop}(FB:Slot T "__getattribute__" "BaseException.__getattribute__")(hB:bm.contains (.type "BaseException")=true)(hC:h.get? C=some (excClassObj nm q C N bs bm true sn sub ab col dd k0 k1 k2 k3 k5 newId))
  (gL:K6 (model prog w) h (typeLookup (.ref C) "__getattribute__") (some (.builtin "BaseException.__getattribute__"))) (kL:K6 (model prog w) h (typeLookup (.ref C) "__getattr__") none) (tx:K6 (model prog w) h (typeLookup (.ref C) name) none)
  (x:iY h e (.ref C) (some dx) vs) (n:h.Ns dx mA) (hm:mA name=some v) (hv:handedOut v=pure v) (hq:Q v ⟨h,g,d,t + 1,os⟩):wpAny (model prog w) A (getAttr (.ref e) name expr) Q E ⟨h,g,d,t,os⟩:=by
 obtain⟨o,hx,hc,_⟩:=id x
 have f3:=FB.bind (.ref e)
 have x0:(expr && onTheHeap (Value.builtin "BaseException.__getattribute__"))=false:=by cases expr <;> rfl
 have x2:(Value.builtin "BaseException.__getattribute__" == Value.builtin "object.__getattribute__")=false:=by decide +kernel
 have x1:(onTheHeap (Value.ref C) && Value.builtin "BaseException.__getattribute__" == Value.builtin "object.__getattribute__")=false:=by rw[x2]; rfl
 have gL': ∀{tk:Nat} {A':Around} {Q':Option Value->Shared->Prop} {E':Value->Shared->Prop},Q' (some (.builtin "BaseException.__getattribute__")) ⟨h,g,d,tk,os⟩->wpAny (model prog w) A' (typeLookup (.ref C) "__getattribute__") Q' E' ⟨h,g,d,tk,os⟩:=
  fun z=>gL _ _ _ _ (fun _ _ y=>y) z
 have kL': ∀{tk:Nat} {A':Around} {Q':Option Value->Shared->Prop} {E':Value->Shared->Prop},Q' none ⟨h,g,d,tk,os⟩->wpAny (model prog w) A' (typeLookup (.ref C) "__getattr__") Q' E' ⟨h,g,d,tk,os⟩:=fun z=>kL _ _ _ _ (fun _ _ y=>y) z
 unfold getAttr
 repeat (any_goals (first
  |assumption
  |(with_reducible refine bz hx ?_; rw[hc])
  |with_reducible refine gL' ?_
  |with_reducible refine kL' ?_
  |wp_step))
 refine Gg FB.plain F.entry_bexc_ga (OU hB hC hx hc (G0 hC tx x n hm ?_))
 repeat (any_goals (first
  |assumption
  |wp_step))
end
section
variable {M:Model}{A:Around}{E:Value->Shared->Prop}
variable {nm q:Str}{C N:Addr}{bs bm:List Value}{oH:Bool}{sn:List Str}{sub:List Value}{ab:Bool}{col:Option Bool}{dd:Option Addr}{k0 k1 k2 k3 k5:Option Value}{newId:String}
variable {nm' q':Str}{R N':Addr}{bs' Xj:List Value}{SJ:Bool}{sn':List Str}{Xk:List Value}{ab':Bool}{Xl:Option Bool}{EZ:Option Addr}{j0 j1 j2 j3 j5:Option Value}{OV:String}
theorem yt {h:Heap}{g:Array GenState}{d:Drawn}{t:Nat}{os:OsState}{e:Addr}{iL:Option Addr}{vs:Array Value}{b:Bool}{Q:Bool->Shared->Prop}
  (hC:h.get? C=some (excClassObj nm q C N bs bm oH sn sub ab col dd k0 k1 k2 k3 k5 newId)) (hR:h.get? R=some (excClassObj nm' q' R N' bs' Xj SJ sn' Xk ab' Xl EZ j0 j1 j2 j3 j5 OV))
  (x:iY h e (.ref C) iL vs) (qF:Xj.contains (.type "BaseException")=true) (up:(Value.ref C :: bm).contains (.ref R)=b)
  (hq:Q b ⟨h,g,d,t,os⟩):wpAny M A (excMatches (.ref e) (.ref R)) Q E ⟨h,g,d,t,os⟩:=by
 obtain⟨oe,he,N4,_⟩:=x
 have Xm:(Value.ref R :: Xj).contains (.type "BaseException")=true:=by rw[List.contains_cons,qF,Bool.or_true]
 have f:=tc_notTuple
 unfold excMatches
 repeat (first|(with_reducible refine cZ hR ?_; rw[Xm])|(with_reducible refine cZ hC ?_; rw[up])|(with_reducible refine bz he ?_; rw[N4])|with_reducible refine bz hR ?_|wp_step)
 cases b <;> (wp_walk; exact hq)
end
end K4
namespace L2
open PySem PySem.Spec PyProof.Rows K4
structure gU (K:Frag)(C R:Addr):Prop where
 obj: ∃(nm q:Str) (N:Addr) (bs bm:List Value) (sn:List Str) (sub:List Value) (ab:Bool) (col:Option Bool) (dd:Option Addr) (k0 k1 k2 k3 k5:Option Value),
  K.lookup C=some (excClassObj nm q C N bs bm true sn sub ab col dd k0 k1 k2 k3 k5 "Exception.__new__")/\
   (bm=[.type "Exception",.type "BaseException",.type "object"]/\C=R∨bm=[.ref R,.type "Exception",.type "BaseException",.type "object"])
 sa:findIn K (.ref C) "__setattr__"=some (some (.builtin "object.__setattr__"))
 ga:findIn K (.ref C) "__getattribute__"=some (some (.builtin "BaseException.__getattribute__"))
 gk:findIn K (.ref C) "__getattr__"=some none
 tx:findIn K (.ref C) "text"=some none
structure Xn (h:Heap)(C R:Addr)(nm q:Str)(N:Addr)(bs bm:List Value)(sn:List Str)(sub:List Value)(ab:Bool)(col:Option Bool)(dd:Option Addr)(k0 k1 k2 k3 k5:Option Value):Prop where
 at_:h.get? C=some (excClassObj nm q C N bs bm true sn sub ab col dd k0 k1 k2 k3 k5 "Exception.__new__")
 e:bm.contains (.type "Exception")=true
 b:bm.contains (.type "BaseException")=true
 o:bm.contains (.type "object")=true
 na:bm.contains (.type "AttributeError")=false
 nn:bm.contains (.type "NameError")=false
 rf: ∀self:Value,refuseLoop self "__setattr__" (.ref C :: bm)=pure ()
 up:(Value.ref C :: bm).contains (.ref R)=true
theorem gU.on {K:Frag}{C R:Addr}(k:gU K C R): ∃nm q N bs bm sn sub ab col dd k0 k1 k2 k3 k5,∀h:Heap,K.In h->Xn h C R nm q N bs bm sn sub ab col dd k0 k1 k2 k3 k5:=by
 obtain⟨nm,q,N,bs,bm,sn,sub,ab,col,dd,k0,k1,k2,k3,k5,l,hb⟩:=k.obj
 have pass: ∀self:Value,refuseLoop self "__setattr__" [.type "Exception",.type "BaseException",.type "object"]=pure ():=F.store_Exception.passes
 refine⟨nm,q,N,bs,bm,sn,sub,ab,col,dd,k0,k1,k2,k3,k5,fun h X=>?_⟩
 rcases hb with⟨rfl,rfl⟩|rfl
 ·exact⟨X _ _ l,by decide +kernel,by decide +kernel,by decide +kernel,by decide +kernel,by decide +kernel,fun self=>by rw[refuseLoop_ref]; exact pass self,by simp⟩
 ·exact⟨X _ _ l,iB (by decide +kernel),iB (by decide +kernel),iB (by decide +kernel),iB (by decide +kernel),iB (by decide +kernel),fun self=>by rw[refuseLoop_ref,refuseLoop_ref]; exact pass self,by simp⟩
theorem lD {K:Frag}{M:Model}{h:Heap}(X:K.In h){t:Value}{name:Str}{r:Option Value}(e:findIn K t name=some r):K6 M h (typeLookup t name) r:=PySem.W.looks_findIn X e
abbrev xo (e C:Addr)(iL:Option Addr)(vs:Array Value):HO:= .ext fun h=>iY h e (.ref C) iL vs
theorem Ju {P:Program}{w:World}{H:Hp}{h:Heap}{e C:Addr}{iL:Option Addr}{vs:Array Value}(x:iY h e (.ref C) iL vs):dA P w H h e (xo e C iL vs):=by
 refine⟨x,?_,fun h1 h2 z k=>iY.same z k⟩
 obtain⟨o,z,_⟩:=x
 exact⟨o,z⟩
abbrev v0 (t:Addr):Array Value:= #[.ref t,.none,.none,.none,.bool false,.none]
section
variable {X:Cx}{pins:List (Addr×Obj)}{σ:St}{H:Hp}{s:Shared}{e C R dx:Addr}{iL:Option Addr}{vs Xo:Array Value}{h':Heap}{t':Nat}
theorem Inv.DT (I:Inv X pins σ H s)(h:H e=some (xo e C iL vs)):iY s.heap e (.ref C) iL vs:=(I.cu e _ h).1
theorem Inv.OW (I:Inv X pins σ H s)(h:H e=some (xo e C iL vs))(b:nj [] [e] s.heap h')(x:iY h' e (.ref C) iL Xo):Inv X pins σ (upd H e (xo e C iL Xo)) {s with heap:=h',toks:=t'}:=by
 refine I.write (x:=e) (e:=e) (by rw[h]; exact True.intro) (.inl rfl) (fun c u n z=>(b c u z (by simpa using n)).1 (by simp)) ?_ (Ju x)
 obtain⟨o,z,_⟩:=x
 exact⟨o,z⟩
theorem Inv.L4 {f:Str}{y:V}{u:Value}(I:Inv X pins σ H s)(h:H e=some (xo e C none vs))(b:nj [] [e] s.heap h')(x:iY h' e (.ref C) (some s.heap.objs.size) vs)(n:h'.Ns1 s.heap.objs.size (fun z=>if z=f then some u else none))(r:RelV y u):
  Inv X pins σ (upd (upd H s.heap.objs.size (.xd [(f,y)])) e (xo e C (some s.heap.objs.size) vs)) {s with heap:=h',toks:=t'}:=by
 have hn:H s.heap.objs.size=none:=I.cu.fresh (aE _)
 have ne:e≠s.heap.objs.size:=aJ h hn
 have off: ∀c u,H c=some u->c≠s.heap.objs.size:=fun c u z=>aJ z hn
 have kp: ∀c o,c≠e->s.heap.get? c=some o->h'.get? c=some o:=fun c o n z=>(b c o z (by simpa using n)).1 (by simp)
 have low: ∀c o,s.heap.get? c=some o->c≠s.heap.objs.size:=fun c o z=>a6 (aM z)
 have same: ∀c,c≠e->c≠s.heap.objs.size->upd (upd H s.heap.objs.size (.xd [(f,y)])) e (xo e C (some s.heap.objs.size) vs) c=H c:=fun c n1 n2=>by rw[az n1,az n2]
 refine I.un ⟨fun c o z hc _ _=>kp c o (fun w=>by rw[w,h] at hc; cases hc) z,fun c o z hc _ _=>⟨o.slots,kp c o (fun w=>by rw[w,h] at hc; cases hc) z⟩,fun c o z hc _=>?_,fun c o z _=>?_,fun c xs z=>?_,fun c o u z=>?_,fun c ps z=>?_⟩ fun c u z=>?_
 ·rw[same c (fun w=>by rw[w,h] at hc; cases hc) (low c o z)]
  exact hc
 ·by_cases q:c=e
  ·rw[q]
   obtain⟨oe,w,_⟩:=x
   exact⟨oe,w⟩
  ·exact⟨o,kp c o q z⟩
 ·rw[same c (fun w=>by rw[w,h] at z; cases z) (off c _ z)]
  exact z
 ·rw[same c (fun w=>by rw[w,h] at z; cases z) (off c _ z)]
  exact z
 ·refine⟨#[],?_⟩
  rw[same c (fun w=>by rw[w,h] at z; cases z) (off c _ z),z]
  simp
 ·by_cases q:c=e
  ·subst q
   rw[ag] at z
   cases z
   exact Ju x
  ·rw[az q] at z
   by_cases q2:c=s.heap.objs.size
   ·subst q2
    rw[ag] at z
    cases z
    refine⟨_,n,fun g=>?_⟩
    show lh (List.lookup g [(f,y)]) (if g=f then some u else none)
    by_cases w:g=f
    ·subst w
     rw[a8 rfl]
     simpa[List.lookup,lh] using r
    ·rw[aU w]
     have:(g == f)=false:=by simpa using w
     simp[List.lookup,this,lh]
   ·rw[az q2] at z
    refine(I.cu c u z).tT (fun d o hd w=>?_) (fun d w=>?_) fun d xs w=>?_
    ·refine kp d o (fun w2=>?_) w
     rcases hd with hd|hd
     ·exact q (hd▸w2)
     ·rw[w2,h] at hd
      cases hd
    ·rw[same d (fun w2=>by rw[w2,h] at w; cases w) (off d _ w)]
     exact w
    ·rw[same d (fun w2=>by rw[w2,h] at w; cases w) (off d _ w)]
     exact w
def gone (H:Hp)(a:Addr):Hp:=fun b=>if b=a then none else H b
theorem yu {a:Addr}:gone H a a=none:=by unfold gone; rw[if_pos rfl]
theorem iC {a b:Addr}(h:b≠a):gone H a b=H b:=by unfold gone; rw[if_neg h]
theorem Inv.drop {H0:Hp}{s0:Shared}{φ:Heap->Prop}(I0:Inv X pins σ H0 s0)(h0:H0 e=none)(I:Inv X pins σ H s)(h:H e=some (.ext φ)):Inv X pins σ (gone H e) s:=by
 have off: ∀c u,H c=some u->u≠ .ext φ->c≠e:=fun c u z n w=>by
  rw[w,h] at z
  cases z
  exact n rfl
 refine⟨I.ok,I.os,I.bare,⟨I.base.keep,I.base.slot,fun c o z hc hx=>?_,I.base.there,fun c xs z=>?_,fun c o u z=>?_,fun c ps z=>?_⟩,I.loc,I.cell,?_,fun x c z=>?_,fun p hp=>?_,fun c u z=>?_,I.len⟩
 ·have w:=I.base.free c o z hc hx
  rw[iC (fun q=>by rw[q,h] at w; cases w)]
  exact w
 ·rw[iC (aJ (I0.base.qw c xs z) h0)]
  exact I.base.qw c xs z
 ·rw[iC (aJ (I0.base.pF c o u z) h0)]
  exact I.base.pF c o u z
 ·obtain⟨m,w⟩:=I0.base.pG c ps z
  obtain⟨m',w'⟩:=I.base.pG c ps z
  exact⟨m',by rw[iC (aJ w h0)]; exact w'⟩
 ·rw[iC (fun q=>by have w:=I.free; rw[q,h] at w; cases w)]
  exact I.free
 ·have w:=I.iM x c z
  rw[iC (fun q=>by rw[q,h] at w; cases w)]
  exact w
 ·obtain⟨w1,w2,w3⟩:=I.pin p hp
  refine⟨w1,?_,w3⟩
  rw[iC (fun q=>by rw[q,h] at w2; cases w2)]
  exact w2
 ·by_cases q:c=e
  ·rw[q,yu] at z
   cases z
  ·rw[iC q] at z
   refine(I.cu c u z).tT (fun d o _ w=>w) (fun d w=>?_) fun d xs w=>?_
   ·rw[iC (off d _ w (by intro z; cases z))]
    exact w
   ·rw[iC (off d _ w (by intro z; cases z))]
    exact w
end
structure ij (k:Nat)(A:Around):Prop where
 dp:A.depth + 3 * k + 5 < recursionLimit
 un:A.units + 16 * k + 200 < cLine
theorem fb.h {k:Nat}{A:Around}(r:fb k A):ij k A:=⟨r.dp,r.un⟩
theorem ij.mono {j k:Nat}{A:Around}(r:ij k A)(h:j<=k):ij j A:=⟨by have:=r.dp; lia,by have:=r.un; lia⟩
theorem ij.deeper {k:Nat}{A:Around}(r:ij (k + 1) A)(env:Env):ij k (A.deeper env):=
 ⟨by have:=r.dp; show A.depth + 1 + 3 * k + 5 < _; lia,by have:=r.un; show A.units + 3 + 16 * k + 200 < _; lia⟩
theorem ij.make {k:Nat}{A:Around}(r:ij (k + 1) A)(C:Addr)(us:List Value)(kw:List (Str×Value)):ij k (A.under (.builtin "type.__call__" ⟨.ref C :: us,kw⟩)):=
 ⟨by have:=r.dp; rw[uO]; lia,by have:=r.un; rw[uP]; lia⟩
theorem ij.mark {k:Nat}{A:Around}(r:ij k A)(e:Option Value):ij k (A.mark e):=⟨r.dp,r.un⟩
structure SK (P:Program)(w:World)(K:Frag)(mg:Str->Option Value)(base:Heap)(k:Nat)(f:Addr)(fd:FuncData)(ps:List Str)(sp:Sp):Prop where
 len: ∀vs H Q E,sp vs H Q E->vs.length=ps.length
 run: ∀(A:Around) (outer:List Env) (s:Shared) (H:Hp) (args:Args) (us:List Value) (vs:List V) (Q:VK) (E:XK),ij k A->qA P w K mg base A outer s H->BindsTo s fd args (ps.zip us)->Vals vs us->sp vs H Q E->
  codeAny (model P w) A (.call (.ref f) args) (CR sf outer P w H s Q E) s
abbrev vw (P:Program)(w:World)(K:Frag)(mg:Str->Option Value)(base:Heap)(N:List Str)(qual:Str)(scope:Scope)(f:Addr)(cd:Value)(A:Around)(outer:List Env)(s:Shared)(H:Hp)(E:XK):Cx:=
 {lp sf P w K mg base N qual scope f cd A outer s H E with calm:=false}
theorem vx {P:Program}{w:World}{K:Frag}{mg:Str->Option Value}{base:Heap}{N ps:List Str}{qual:Str}{scope:Scope}{f:Addr}{cd:Value}{A:Around}{outer:List Env}{s s1:Shared}{H:Hp}{E:XK}{us:List Value}{vs:List V}
  (S:aS N ps scope) (e0:qA P w K mg base A outer s H) (hl:vs.length=ps.length) (r:Vals vs us)
  (x:InCallC s s.heap.objs.size (bindL (envOfC qual scope s.heap.objs.size f cd).kindOf (ps.zip us) fun _=>none) (cellsFrom (s.heap.objs.size + 1) scope.names []) (bindC (envOfC qual scope s.heap.objs.size f cd).kindOf (ps.zip us) fun _=>none) s1):
  Inv (vw P w K mg base N qual scope f cd A outer s H E) [] (start N vs) H s1:=by
 have I:=yf (CX:=sf) (E:=E) (A:={A with handled:=none}) (K:=K) (base:=base) (P:=P) (w:=w) (mg:=mg) (N:=N) S rfl ⟨e0.frames,e0.mod,e0.bs,e0.Be,e0.lW,e0.EH,e0.cu,e0.bare⟩ hl r x
 have ok:=I.ok
 exact⟨⟨ok.mod,ok.kind,ok.glob,ok.blt,ok.above,ok.inj,ok.has,ok.KW,(fun z=>by cases z),Around.frames_deeper e0.frames,ok.Ij,ok.Ln,ok.bs,ok.Be,ok.wL,ok.wM,ok.lW,ok.EH⟩,I.os,I.bare,I.base,I.loc,I.cell,I.free,I.iM,I.pin,I.cu,I.len⟩
theorem mf {P:Program}{w:World}{K:Frag}{mg:Str->Option Value}{base:Heap}{k:Nat}{f:Addr}{x qual:Str}{st:Stmt}{fd:FuncData}{N ps:List Str}{sp:Sp}(F:gp K x qual st f fd)(S:aS N ps (ay st))
  (len: ∀vs H Q E,sp vs H Q E->vs.length=ps.length)
  (fX: ∀(cU:Value) (A:Around) (outer:List Env) (s:Shared) (H:Hp) (vs:List V) (Q:VK) (E:XK),ij k (A.deeper (envOfC qual (ay st) s.heap.objs.size f cU))->sp vs H Q E->
   ∃t,oS (vw P w K mg base N qual (ay st) f cU A outer s H E).EK (dB st) t/\t {nx:=fun _ H'=>Q .eu H',rt:=Q} (start N vs) H):SK P w K mg base (k + 1) f fd ps sp:=by
 obtain⟨oc,od,kV,doc,pm,an,cU,ct,Gx,rfl,lk,rK⟩:=F.ex
 refine⟨len,fun A outer s H args us vs Q E hr e0 hb r y2=>?_⟩
 have hl:=len _ _ _ _ y2
 have KX:K.In s.heap:=e0.mod.Lm.keeps fun b o e=>(e0.bs b o e).1
 have lim:s.heap.NoLimit:=e0.mod.nolimit.keeps fun b o e=>(e0.bs b o e).1
 have mT: ∀y∈ps.zip us,(ay st).names.lookup y.1=some .local∨((ay st).names.lookup y.1=some .cell/\((cellsFrom (s.heap.objs.size + 1) (ay st).names []).lookup y.1).isSome=true):=fun⟨n,v⟩ hy=>by
  rcases S.par n (oz hy).1 with q|q
  ·exact .inl q
  ·exact .inr ⟨q,lg _ _ _ (.inl q)⟩
 have dp:A.depth < recursionLimit:=by have:=hr.dp; lia
 refine codeAny_call_function dp (KX _ _ lk) rfl S.co S.gen rfl (PySem.W.codeRec_of KX rK) (hb _ _ _ _ ?_)
 refine tQ S.kind mT fun env he s1 y=>?_
 subst he
 refine⟨lim.keeps y.toInCall.keep,codeAny_func ?_⟩
 obtain⟨t,ht,hq⟩:=fX cU A outer s H vs Q E (hr.deeper _) y2
 have I:Inv (vw P w K mg base N qual (ay st) f cU A outer s H E) [] (start N vs) H s1:=vx S e0 hl r y
 refine cf (ht.EK [] s1 (start N vs) H _ I hq) (fun fl s' hs=>?_) fun e s' hs=>hs
 have fin: ∀{σ':St} {H':Hp} {v:V} {u:Value},Inv (vw P w K mg base N qual (ay st) f cU A outer s H E) [] σ' H' s'->RelV v u->Q v H'->CE outer P w H s Q u s':=
  fun{σ' H' v u} J rv q=>⟨v,H',J.os,J.bare,J.base,J.cu,rv,q⟩
 cases fl with
 |ret u=>
  obtain⟨v,σ',H',J,rv,q⟩:=hs
  exact fin J rv q
 |next=>
  obtain⟨σ',H',J,q⟩:=hs
  exact fin (v:=V.eu) (u:=Value.none) J rfl q
 |brk=>
  obtain⟨_,_,_,q⟩:=hs
  exact False.elim q
 |cont=>
  obtain⟨_,_,_,q⟩:=hs
  exact False.elim q
section
variable {X:Cx}{k:Nat}{f C R:Addr}{fd:FuncData}{ps:List Str}{sp:Sp}{x:Str}{p pos apos pos':Pos}{a b o value e:Expr}{es:List Expr}{ta tb tv:TE}{t:TA}
theorem Fj {A:Around}{xe:Value->Shared->Prop}{pins:List (Addr×Obj)}{σ:St}{H:Hp}{s:Shared}{Q:VK}{us:List Value}{vs:List V}(F:SK X.prog X.w X.K X.mg X.base k f fd ps sp)(hr:ij k A)(e0:qA X.prog X.w X.K X.mg X.base A X.stack s H)(hb:Binds X.K fd ps [])
  (I:Inv X pins σ H s) (r:Vals vs us) (h:sp vs H Q E0):wpAny (model X.prog X.w) A (call (.ref f) us) (EP X pins σ Q) xe s:=by
 have hl:(us ++ []).length=ps.length:=by rw[bR,← r.length]; exact F.len _ _ _ _ h
 have bd:=hb s us I.gO hl
 rw[bR] at bd
 refine EG (Dl (F.run A X.stack s H ⟨us,[]⟩ us vs Q E0 hr e0 bd r h) fun r s' hq=>?_)
 cases r with
 |error e=>exact False.elim hq
 |ok fl=>
  cases fl with
  |ret u=>exact I.after hq
  |next=>exact False.elim hq
  |brk=>exact False.elim hq
  |cont=>exact False.elim hq
def OX (K:Frag)(t:TA):TE:=fun σ H Q=>t σ H fun xs H2=> ∃(e C R t0:Addr) (iL:Option Addr) (vs:Array Value) (y:V),xs=[.ref e,y]/\H2 e=some (xo e C iL vs)/\gU K C R/\vs[0]? =some (.ref t0)/\ ∀t',Q .eu (upd H2 e (xo e C iL (vs.setIfInBounds 0 (.ref t'))))
theorem Jv {pl:Sem Bool}(hg:Gl X "Exception")(hm:X.mg "Exception"=none)(ha:PA X (e :: es) t)
  (hs:starEach (e :: es) X.env=(false,eval e X.env) :: starEach es X.env:=by rfl) (gQ:(backTo pos (starEach es X.env)).any (·.1)=false:=by rfl)
  (ht:eval (.Call (.Attribute (.Name "Exception" p) "__init__" apos) (e :: es) [] pos) X.env=(do
   let ov ← eval (.Name "Exception" p) X.env
   standAt apos.atName
   let(f,first) ← holding [ov] (getMethod ov "__init__" pl)
   callWith pos f first (backTo pos (starEach (e :: es) X.env)) (backToKw pos (keywordEach [] X.env))):=by rfl):
  PE X (.Call (.Attribute (.Name "Exception" p) "__init__" apos) (e :: es) [] pos) (OX X.K t):=by
 intro pins s σ H Q I h
 obtain⟨m,F⟩:=I.fr
 refine wH (pl:=pl) (lX I hg hm (u:= .type "Exception") (by rfl) ?_) ht
 refine PySem.W.method_type (v:= .builtin "Exception.__init__") F I.mod.Lm (by rfl) (by decide +kernel) (by rfl) (by rfl) ?_
 have hA:=ha pos pins {s with toks:=s.toks + 1} σ H _ (I.tok _) h
 rw[hs] at hA ⊢
 refine iR (by show(false || (backTo pos (starEach es X.env)).any (·.1))=false; rw[gQ] <;> rfl) (F9 ?_)
 refine dR hA fun us s2 ⟨vs,H2,I2,r2,e,C,R,t0,iL,ws,y,e1,e2,k,e3,q⟩=>?_
 subst e1
 obtain⟨u1,u2,rfl,ru,_⟩:=vals2 r2
 obtain rfl:u1=Value.ref e:=ru
 obtain⟨nm,qn,N,bs,bm,sn,sub,ab,col,dd,k0,k1,k2,k3,k5,c⟩:=k.on
 have c:=c _ I2.gO
 obtain⟨hp,g,d,tk,os⟩:=s2
 exact GY NX c.e c.at_ (I2.DT e2) e3 fun h' b x'=>⟨.eu,_,I2.OW (t':=tk) e2 b x',rfl,q _⟩
def SM (K:Frag)(ta tv:TE):TS:=fun D σ H=>tv σ H fun y H1=>ta σ H1 fun x H2=> ∃(e C R:Addr) (vs:Array Value),x= .ref e/\H2 e=some (xo e C none vs)/\gU K C R/\
 ∀dx,H2 dx=none->D.nx σ (upd (upd H2 dx (.xd [("text",y)])) e (xo e C (some dx) vs))
theorem L5 (ha:PE X o ta)(hv:PE X value tv)(hs:swapsWith value (some (.Attribute o "text" pos')) pos.line X.env=pure false):PS X (.Assign [.Attribute o "text" pos'] value pos) (SM X.K ta tv):=by
 intro pins s σ H D I h
 refine NU (dR (hv pins s σ H _ I h) fun u s1 ⟨y,H1,I1,ry,q⟩=>dR (ha pins s1 σ H1 _ I1 q) fun ov s2 ⟨x,H2,I2,rx,e,C,R,vs,e1,e2,k,q2⟩=>?_) hs
 subst e1
 obtain rfl:ov=Value.ref e:=rx
 obtain⟨nm,qn,N,bs,bm,sn,sub,ab,col,dd,k0,k1,k2,k3,k5,c⟩:=k.on
 have c:=c _ I2.gO
 have hn:=I2.cu.fresh (aE s2.heap.objs.size)
 obtain⟨hp,g,d,tk,os⟩:=s2
 refine L1 PySem.F.store_Exception c.o c.at_ c.rf (lD I2.gO k.sa) (lD I2.gO k.tx) (I2.DT e2) fun h' OS b x' n=>?_
 exact⟨σ,_,I2.L4 (t':=OS) e2 b x' n ry,q2 _ hn⟩
structure Fl (K:Frag)(R f:Addr):Prop where
 rd:readsIn K R (.type "type")=true
 sp:specialIn K (.ref R) "__getattribute__"=some (some (.builtin "type.__getattribute__"))
 fd:findCls K (.ref R) (.type "type") "__init__"=some (.val (.ref f))
 kp:keepIn K (.ref f)=true
theorem jg {pl:Sem Bool}(i:Fl X.K R f)(F:SK X.prog X.w X.K X.mg X.base k f fd ps sp)(hr:ij k X.A)(hb:Binds X.K fd ps [])(hg:Gl X x)(hm:X.mg x=some (.ref R))(ha:PA X (e :: es) t)(qB:(x == ("__debug__":Str))=false:=by decide)
  (hs:starEach (e :: es) X.env=(false,eval e X.env) :: starEach es X.env:=by rfl) (gQ:(backTo pos (starEach es X.env)).any (·.1)=false:=by rfl)
  (ht:eval (.Call (.Attribute (.Name x p) "__init__" apos) (e :: es) [] pos) X.env=(do
   let ov ← eval (.Name x p) X.env
   standAt apos.atName
   let(f,first) ← holding [ov] (getMethod ov "__init__" pl)
   callWith pos f first (backTo pos (starEach (e :: es) X.env)) (backToKw pos (keywordEach [] X.env))):=by rfl):
  PE X (.Call (.Attribute (.Name x p) "__init__" apos) (e :: es) [] pos) (uQ sp [] E0 t):=by
 intro pins s σ H Q I h
 refine wH (pl:=pl) (jy I hg hm ?_ qB) ht
 refine PySem.W.method_cls I.gO i.sp (PySem.W.cls_value I.gO i.rd i.fd rfl ?_)
 refine km (h₀:=X.base) I.ok.mod.Lm i.kp (dR (ha pos pins _ σ H _ (I.tok _) h) fun us s1 ⟨vs,H1,I1,r,q⟩=>⟨I1.gO,?_⟩) hs gQ
 have q2:sp (vs ++ []) H1 Q E0:=q
 rw[bR] at q2
 exact Fj F hr I1.IM hb I1 r q2
end
def Fly (mg:Str->Option Value)(n0:Nat)(H:Hp)(h:Heap)(a C dx:Addr):Prop:=
 ∃(vs:Array Value) (T:Addr),iY h a (.ref C) (some dx) vs/\vs[1]? =some (.ref T)/\K5 h T .none/\T≠a/\n0<=a/\n0<=T/\H a=none/\H T=none/\(vs[2]? =some .none∨mg "Needed"=some (.ref C))
def mK (P:Program)(w:World)(mg:Str->Option Value):Gw:=fun outer H s E e s'=>
 ∃(a C dx:Addr) (H':Hp),e= .ref a/\s'.os=s.os/\AllBare s'.gens/\Un (Dn outer) [] H H' s.heap s'.heap/\oE P w H' s'.heap/\Fly mg s.heap.objs.size H' s'.heap a C dx/\E (.ref C) (some dx) H'
theorem Fm {fs fr own:List Addr}{H H2:Hp}{h h2 h3:Heap}(u:Un fs [] H H2 h h2)(b:nj fr own h2 h3)(ho: ∀c∈own,h.objs.size<=c)(hf: ∀c∈fr,c∈fs∨h.objs.size<=c):Un fs [] H H2 h h3 where
 keep:=fun c o z n hc hx=>(b c o (u.keep c o z n hc hx) (fun w=>absurd (aM z) (xW.mpr (ho c w)))).1 (fun w=>(hf c w).elim hc (fun q=>absurd (aM z) (xW.mpr q)))
 slot:=fun c o z n hc hx=>by
  obtain⟨sl,e⟩:=u.slot c o z n hc hx
  obtain⟨_,Vj,e2⟩:=b c _ e (fun w=>absurd (aM z) (xW.mpr (ho c w)))
  exact⟨Vj,e2⟩
 free:=u.free
 there:=fun c o z hx=>by
  obtain⟨o',e⟩:=u.there c o z hx
  obtain⟨_,Vj,e2⟩:=b c _ e (fun w=>absurd (aM z) (xW.mpr (ho c w)))
  exact⟨_,e2⟩
 qw:=u.qw
 pF:=u.pF
 pG:=u.pG
theorem zz {P:Program}{w:World}{fr own:List Addr}{H:Hp}{h h':Heap}(k:oE P w H h)(b:nj fr own h h')(hf: ∀c∈fr,H c=none)(ho: ∀c∈own,H c=none):oE P w H h':=fun c u z=>by
 refine(k c u z).tT (fun d o hd w=>?_) (fun _ q=>q) fun _ _ q=>q
 have t: ∃u',H d=some u':=hd.elim (fun q=>⟨u,by rw[q]; exact z⟩) (fun q=>⟨_,q⟩)
 obtain⟨u',y⟩:=t
 exact(b d o w (fun q=>by rw[ho d q] at y; cases y)).1 (fun q=>by rw[hf d q] at y; cases y)
section
variable {X:Cx}{pins:List (Addr×Obj)}{σ:St}{H:Hp}{s:Shared}{h':Heap}{own:List Addr}
theorem Inv.jV {c:Addr}(I:Inv X pins σ H s)(h:s.heap.objs.size<=c):(c∈X.ex∨X.s₀.heap.objs.size<=c)/\c≠X.env.locals/\(∀x k,X.env.cells.lookup x=some k->k≠c)/\ ∀p∈X.pn ++ pins,p.1≠c:=by
 refine⟨.inr (aZ I.sz h),(a6 (bg I.lt h)).symm,fun x k z=>?_,fun p hp=>?_⟩
 ·obtain⟨v,w⟩:=I.cell x k z
  exact a6 (bg w.lt h)
 ·exact a6 (bg (aM (I.pin p hp).1) h)
theorem Inv.but (I:Inv X pins σ H s)(b:nj (Dn X.stack) own s.heap h')
  (ho: ∀c∈own,H c=none/\(c∈X.ex∨X.s₀.heap.objs.size<=c)/\c≠X.env.locals/\(∀x k,X.env.cells.lookup x=some k->k≠c)/\ ∀p∈X.pn ++ pins,p.1≠c):Inv X pins σ H {s with heap:=h'}:=by
 refine I.EI (s':={s with heap:=h'}) (ch:=own) rfl ⟨fun c o z n hc hx=>(b c o z hx).1 hc,fun c o z n hc hx=>(b c o z hx).2,fun c o z n hx=>n,fun c o z hx=>?_,fun _ _ z=>z,fun _ _ _ z=>z,fun c ps z=>⟨#[],by rw[z]; simp⟩⟩ ?_ I.bare fun c hc=>(ho c hc).2
 ·obtain⟨_,sl,e⟩:=b c o z hx
  exact⟨_,e⟩
 ·exact zz I.cu b I.qx fun c hc=>(ho c hc).1
end
structure QO (X:Cx)(E:XK):Prop where
 pass:Passes (mK X.prog X.w X.mg) X E
 mC: ∀{pins:List (Addr×Obj)} {σ:St} {H:Hp} {s:Shared} {a C dx:Addr} {vs:Array Value},Inv X pins σ H s->iY s.heap a (.ref C) (some dx) vs->vs[1]? =some .none->(vs[2]? =some .none∨X.mg "Needed"=some (.ref C))->
  X.s₀.heap.objs.size<=a->H a=none->E (.ref C) (some dx) H->X.xe (.ref a) s
 own:PassesOwn (model X.prog X.w) X.A X.env X.xe
 ownAt: ∀hd:Option Value,PassesOwnAt (model X.prog X.w) (X.A.mark hd) X.A X.env X.xe
 Ij:X.stack=X.env :: X.outer
 ZS:X.env.frame=some X.env.locals
section
variable {P:Program}{w:World}{K:Frag}{mg:Str->Option Value}{base:Heap}{N:List Str}{qual:Str}{scope:Scope}{f:Addr}{cd:Value}{A:Around}{outer:List Env}{s:Shared}{H:Hp}{E:XK}
theorem SN:Passes (mK P w mg) (lp (mK P w mg) P w K mg base N qual scope f cd A outer s H E) E:=by
 rintro pins σ H1 s1 e s2 I ⟨a,C,dx,H2,rfl,ho,hg,u,cu,⟨vs,T,x,h1,ft,ne,na,nT,Ha,HT,h2⟩,q⟩
 have I2:=I.EI (ch:=[]) ho u cu hg (fun b z=>absurd z (by simp))
 have sz:s.heap.objs.size<=s1.heap.objs.size:=I.sz
 have QP:a < s2.heap.objs.size:=by
  obtain⟨o,z,_⟩:=x
  exact aM z
 show wpAny _ _ (leaving (envOfC qual scope s.heap.objs.size f cd) (.ref a)) _ _ s2
 refine OQ (base:=base) (outer:=outer) (L:=s.heap.objs.size) I.ok.frames I2.stack rfl x h1 ft ne fun h3 T' b x' hT t'=>?_
 have QQ:T'≠a:=by
  rw[hT]
  exact(a6 QP).symm
 refine⟨a,C,dx,H2,rfl,I2.os,I2.bare,Fm I2.base b ?_ ?_,zz cu b I2.qx ?_,⟨_,T',x',pU (fj h1),t',QQ,aZ sz na,?_,Ha,I2.cu.fresh (iH hT.symm),?_⟩,q⟩
 ·intro c hc
  rcases aw.mp hc with rfl|hc
  ·exact aZ sz nT
  ·rw[ao.mp hc]
   exact aZ sz na
 ·intro c hc
  rcases aw.mp (I2.uJ c hc) with hc|hc
  ·rw[hc]
   exact .inr (aE _)
  ·exact .inl hc
 ·intro c hc
  rcases aw.mp hc with rfl|hc
  ·exact HT
  ·rw[ao.mp hc]
   exact Ha
 ·rw[hT]
  exact I2.sz
 ·rw[qO (by decide)]
  exact h2
theorem OY:QO (lp (mK P w mg) P w K mg base N qual scope f cd A outer s H E) E where
 pass:=SN
 mC:=by
  intro pins σ H1 s1 a C dx vs I x h1 h2 na Ha q
  have QP:a < s1.heap.objs.size:=by
   obtain⟨o,z,_⟩:=x
   exact aM z
  show wpAny _ _ (leaving (envOfC qual scope s.heap.objs.size f cd) (.ref a)) _ _ s1
  refine OP (base:=base) (outer:=outer) (L:=s.heap.objs.size) I.ok.frames I.stack rfl x h1 fun h3 T' b x' hT t'=>?_
  have QQ:T'≠a:=by
   rw[hT]
   exact(a6 QP).symm
  refine⟨a,C,dx,H1,rfl,I.os,I.bare,Fm I.base b ?_ ?_,zz I.cu b I.qx ?_,⟨_,T',x',pU (fj h1),t',QQ,na,?_,Ha,I.cu.fresh (iH hT.symm),?_⟩,q⟩
  ·intro c hc
   rw[ao.mp hc]
   exact na
  ·intro c hc
   rcases aw.mp (I.uJ c hc) with hc|hc
   ·rw[hc]
    exact .inr (aE _)
   ·exact .inl hc
  ·intro c hc
   rw[ao.mp hc]
   exact Ha
  ·rw[hT]
   exact I.sz
  ·rw[qO (by decide)]
   exact h2
 own:=PassesOwn.leaving
 ownAt:=fun _=>PassesOwnAt.leaving
 Ij:=rfl
 ZS:=rfl
theorem gp.ZT {x qual:Str}{st:Stmt}{f:Addr}{fd:FuncData}{N ps:List Str}{k:Nat}{sp:Sp}(F:gp K x qual st f fd)(S:aS N ps (ay st))(len: ∀vs H Q E,sp vs H Q E->vs.length=ps.length)
  (fX: ∀(cU:Value) (A:Around) (outer:List Env) (s:Shared) (H:Hp) (vs:List V) (Q:VK) (E:XK),fb k (A.deeper (envOfC qual (ay st) s.heap.objs.size f cU))->QO (lp (mK P w mg) P w K mg base N qual (ay st) f cU A outer s H E) E->sp vs H Q E->
   ∃t,oS (lp (mK P w mg) P w K mg base N qual (ay st) f cU A outer s H E) (dB st) t/\t {nx:=fun _ H'=>Q .eu H',rt:=Q} (start N vs) H):l0 P w K mg base (mK P w mg) (k + 1) f fd ps sp:=by
 obtain⟨oc,od,kV,doc,pm,an,cU,ct,Gx,rfl,lk,rK⟩:=F.ex
 exact IS lk rK S len fun A outer s H vs Q E hr y2=>fX cU A outer s H vs Q E hr OY y2
end
def OZ (K:Frag)(txt:Str):Sp:=fun vs H Q _=> ∃(e C R t0:Addr),vs=[.ref e]/\H e=some (xo e C none (v0 t0))/\gU K C R/\ ∀dx t',H dx=none->Q .eu (upd (upd H dx (.xd [("text",.str txt)])) e (xo e C (some dx) (v0 t')))
def O0 (E:XK)(C:Addr)(txt:Str):TS:=fun _ _ H=> ∀dx,H dx=none->E (.ref C) (some dx) (upd H dx (.xd [("text",.str txt)]))
structure Jw (P:Program)(w:World)(K:Frag)(mg:Str->Option Value)(base:Heap)(k:Nat)(x:Str)(C R:Addr)(txt:Str):Prop where
 ZU:mg x=some (.ref C)
 ek:gU K C R
 kp:keepIn K (.ref C)=true
 init: ∃(f:Addr) (fd:FuncData),findIn K (.ref C) "__init__"=some (some (.ref f))/\typeIn K (.ref f)=some (.type "function")/\SK P w K mg base k f fd ["self"] (OZ K txt)/\Binds K fd ["self"] []
section
variable {X:Cx}{k:Nat}{C R:Addr}{x txt:Str}{p pos gG:Pos}{E:XK}
theorem Jx (M:Jw X.prog X.w X.K X.mg X.base k x C R txt)(hr:ij (k + 1) X.A)(hg:Gl X x)(qB:(x == ("__debug__":Str))=false){pins:List (Addr×Obj)}{σ:St}{H:Hp}{s:Shared}{Q:Value->Shared->Prop}{xe:Value->Shared->Prop}(I:Inv X pins σ H s)
  (q: ∀(s2:Shared) (e dx t':Addr),s.heap.objs.size<=e->H dx=none->H e=none->dx≠e->Inv X pins σ (upd H dx (.xd [("text",.str txt)])) s2->iY s2.heap e (.ref C) (some dx) (v0 t')->Q (.ref e) s2):
  wpAny (model X.prog X.w) X.A (eval (.Call (.Name x p) [] [] gG) X.env) Q xe s:=by
 obtain⟨f,fd,hi,hf,F,hb⟩:=M.init
 refine eJ (jy I hg M.ZU ?_ qB)
 refine A9 I.gO M.kp ?_
 obtain⟨nm,qn,N,bs,bm,sn,sub,ab,col,dd,k0,k1,k2,k3,k5,c⟩:=M.ek.on
 have c:=c _ I.gO
 have hz:=I.cu.fresh (dI s.heap.objs.size)
 have I1:=I.kept (t':=s.toks) (h':=s.heap.push (jq [])) (fun b u z=>ax _ z)
 have ex:iY ((s.heap.push (jq [])).push (me C s.heap.objs.size)) (s.heap.objs.size + 1) (.ref C) none (v0 s.heap.objs.size):=⟨me C s.heap.objs.size,by heap_get,rfl,rfl,rfl⟩
 have I2:=I1.laid (a:=s.heap.objs.size + 1) (o:=xo (s.heap.objs.size + 1) C none (v0 s.heap.objs.size)) (t':=s.toks) (h':=(s.heap.push (jq [])).push (me C s.heap.objs.size)) (fun b u z=>ax _ z) (iH (oh _ _)) (Ju ex)
 have U9:=PySem.W.looks_typeIn (M:=model X.prog X.w) I.gO hf
 have O1: ∃oI,s.heap.get? f=some oI/\oI.cls= .type "function":=by
  have z:=hf
  unfold typeIn at z
  dsimp only at z
  cases w:X.K.lookup f with
  |none=>rw[w] at z; cases z
  |some o=>
   rw[w] at z
   exact⟨o,I.gO _ _ w,aF z⟩
 obtain⟨oI,O1,SG⟩:=O1
 have e0:=I2.IM.make C [] []
 obtain⟨hp,g,d,tk,os⟩:=s
 refine call_exc NX c.e c.na c.nn c.at_ (lD I.gO hi) O1 SG ?_
 refine dR (Fj (X:=X) F (hr.make C [] []) e0 hb I2 (us:=[.ref (hp.objs.size + 1)]) (vs:=[.ref (hp.objs.size + 1)]) (Q:=fun v H'=>v= .eu/\ ∃dx t',H dx=none/\dx≠hp.objs.size + 1/\H'=upd (upd (upd H (hp.objs.size + 1) (xo (hp.objs.size + 1) C none (v0 hp.objs.size))) dx (.xd [("text",.str txt)])) (hp.objs.size + 1) (xo (hp.objs.size + 1) C (some dx) (v0 t'))) (.cons rfl .nil) ?_) fun u s2 h2=>?_
 ·refine⟨_,C,R,_,rfl,ag,M.ek,fun dx t' De=>⟨rfl,dx,t',?_⟩⟩
  have ne:dx≠hp.objs.size + 1:=fun z=>by
   rw[z,ag] at De
   cases De
  rw[az ne] at De
  exact⟨De,ne,rfl⟩
 ·obtain⟨v,H',I3,rv,rfl,dx,t',De,ne,rfl⟩:=h2
  refine⟨rv,?_⟩
  have I4:=Inv.drop I hz I3 ag
  have eH:gone (upd (upd (upd H (hp.objs.size + 1) (xo (hp.objs.size + 1) C none (v0 hp.objs.size))) dx (.xd [("text",.str txt)])) (hp.objs.size + 1) (xo (hp.objs.size + 1) C (some dx) (v0 t'))) (hp.objs.size + 1)=upd H dx (.xd [("text",.str txt)]):=by
   funext b
   by_cases h1:b=hp.objs.size + 1
   ·rw[h1,yu,az ne.symm,hz]
   ·rw[iC h1,az h1]
    by_cases h2:b=dx
    ·rw[h2,ag,ag]
    ·rw[az h2,az h2,az h1]
  rw[eH] at I4
  exact q s2 _ dx t' (dI _) De hz ne I4 (I3.DT ag)
theorem jW (T:QO X E)(M:Jw X.prog X.w X.K X.mg X.base k x C R txt)(hr:ij (k + 1) X.A)(hg:Gl X x)(hc:X.calm=true)(qB:(x == ("__debug__":Str))=false:=by decide):
  PS X (.Raise (some (.Call (.Name x p) [] [] gG)) none pos) (O0 E C txt):=by
 intro pins s σ H D I h
 rw[arm_exec_Raise]
 obtain⟨nm,qn,N,bs,bm,sn,sub,ab,col,dd,k0,k1,k2,k3,k5,c⟩:=M.ek.on
 refine aA (ir (DR (C:=C) (nm:=nm) (q:=qn) (N:=N) (bs:=bs) (bm:=bm) (oH:=true) (sn:=sn) (sub:=sub) (ab:=ab) (col:=col) (dd:=dd) (k0:=k0) (k1:=k1) (k2:=k2) (k3:=k3) (k5:=k5) (newId:="Exception.__new__") (c _ I.gO).b (I.ok.hd hc) (aA (Jx M hr hg qB I fun s2 e dx t' he De hz ne I2 x2=>aA (ir (bE ?_))))))
 exact⟨e,some dx,v0 t',rfl,(c _ I2.gO).at_,x2,rfl,T.mC I2 x2 rfl (.inl rfl) (aZ I.sz he) (by rw[az ne.symm]; exact hz) (h dx De)⟩
end
abbrev Cx.w6 (X:Cx)(xe:Value->Shared->Prop)(pn:List (Addr×Obj)):Cx:={X with xe:=xe,pn:=pn}
abbrev Cx.K7 (X:Cx)(e:Value)(pn:List (Addr×Obj))(xe:Value->Shared->Prop):Cx:={X with A:=X.A.mark (some e),calm:=false,pn:=pn,xe:=xe}
section
variable {X:Cx}{pins Bg l:List (Addr×Obj)}{σ:St}{H:Hp}{s:Shared}{xe:Value->Shared->Prop}{E:XK}
theorem Inv.w6 (I:Inv X pins σ H s)(xe:Value->Shared->Prop):Inv (X.w6 xe (X.pn ++ pins)) [] σ H s:=
 have ok:=I.ok
 ⟨⟨ok.mod,ok.kind,ok.glob,ok.blt,ok.above,ok.inj,ok.has,ok.KW,ok.hd,ok.frames,ok.Ij,ok.Ln,ok.bs,ok.Be,ok.wL,ok.wM,ok.lW,ok.EH⟩,I.os,I.bare,I.base,I.loc,I.cell,I.free,I.iM,fun p hp=>I.pin p (by simpa using hp),I.cu,I.len⟩
theorem Inv.jX (I:Inv (X.w6 xe (X.pn ++ pins)) Bg σ H s):Inv X pins σ H s:=
 have ok:=I.ok
 ⟨⟨ok.mod,ok.kind,ok.glob,ok.blt,ok.above,ok.inj,ok.has,ok.KW,ok.hd,ok.frames,ok.Ij,ok.Ln,ok.bs,ok.Be,ok.wL,ok.wM,ok.lW,ok.EH⟩,I.os,I.bare,I.base,I.loc,I.cell,I.free,I.iM,fun p hp=>I.pin p (c8 _ hp),I.cu,I.len⟩
theorem Inv.K7 (I:Inv X pins σ H s)(e:Value)(xe:Value->Shared->Prop)(h: ∀p∈l,s.heap.get? p.1=some p.2/\H p.1=none/\p.1≠X.env.locals/\p.1∉X.fs/\ ∀v,p.2.data≠ .cell v):Inv (X.K7 e (X.pn ++ pins ++ l) xe) [] σ H s:=
 have ok:=I.ok
 ⟨⟨ok.mod,ok.kind,ok.glob,ok.blt,ok.above,ok.inj,ok.has,ok.KW,(fun z=>by cases z),ok.frames,ok.Ij,ok.Ln,ok.bs,ok.Be,ok.wL,ok.wM,ok.lW,ok.EH⟩,I.os,I.bare,I.base,I.loc,I.cell,I.free,I.iM,
  fun p hp=>by
   rw[bR] at hp
   exact(bq.mp hp).elim (fun z=>I.pin p z) (h p),I.cu,I.len⟩
theorem Inv.SO (I0:Inv X pins σ H s){e:Value}{σ':St}{H':Hp}{s':Shared}(I:Inv (X.K7 e (X.pn ++ pins ++ l) xe) Bg σ' H' s'):Inv X pins σ' H' s':=
 have ok:=I.ok
 ⟨⟨ok.mod,ok.kind,ok.glob,ok.blt,ok.above,ok.inj,ok.has,ok.KW,I0.ok.hd,ok.frames,ok.Ij,ok.Ln,ok.bs,ok.Be,ok.wL,ok.wM,ok.lW,ok.EH⟩,I.os,I.bare,I.base,I.loc,I.cell,I.free,I.iM,
  fun p hp=>I.pin p (c8 _ (c8 _ hp)),I.cu,I.len⟩
theorem SP.jX {D:Ends}{f:Flow}{s':Shared}(h:SP (X.w6 xe (X.pn ++ pins)) [] D f s'):SP X pins D f s':=by
 cases f with
 |next=>obtain⟨σ',H',I,q⟩:=h; exact⟨σ',H',I.jX,q⟩
 |brk=>obtain⟨σ',H',I,q⟩:=h; exact⟨σ',H',I.jX,q⟩
 |cont=>obtain⟨σ',H',I,q⟩:=h; exact⟨σ',H',I.jX,q⟩
 |ret u=>obtain⟨v,σ',H',I,r,q⟩:=h; exact⟨v,σ',H',I.jX,r,q⟩
theorem Inv.renamed {h5:Heap}{m5:Str->Option Value}{t':Nat}(I:Inv X pins σ H s)(n5:h5.Ns X.env.locals m5)(sb:Heap.SameBut X.env.locals s.heap h5):Inv X pins (List.replicate X.N.length none) H {s with heap:=h5,toks:=t'}:=by
 have low: ∀c o,X.s₀.heap.get? c=some o->c≠X.env.locals:=fun c o z=>a6 (bg (aM z) I.ok.above)
 refine⟨I.ok,I.os,I.bare,⟨fun c o z n hc hx=>(sb.2 c (low c o z)).trans (I.base.keep c o z n hc hx),fun c o z n hc hx=>?_,I.base.free,fun c o z hx=>?_,I.base.qw,I.base.pF,I.base.pG⟩,⟨m5,n5,fun i x v h1 h2 _=>?_⟩,fun x c z=>?_,I.free,I.iM,fun p hp=>?_,fun c u z=>?_,?_⟩
 ·obtain⟨sl,e⟩:=I.base.slot c o z n hc hx
  exact⟨sl,(sb.2 c (low c o z)).trans e⟩
 ·obtain⟨o',e⟩:=I.base.there c o z hx
  exact⟨o',(sb.2 c (low c o z)).trans e⟩
 ·rw[List.getElem?_replicate] at h2
  split at h2 <;> cases h2
 ·obtain⟨v,w⟩:=I.cell x c z
  exact⟨v,w.sameBut sb (I.M9 x c z)⟩
 ·obtain⟨w1,w2,w3,w4⟩:=I.pin p hp
  exact⟨(sb.2 _ w3).trans w1,w2,w3,w4⟩
 ·refine(I.cu c u z).tT (fun d o hd w=>(sb.2 d (fun q=>?_)).trans w) (fun _ q=>q) fun _ _ q=>q
  rcases hd with hd|hd
  ·rw[← hd,q,I.free] at z
   cases z
  ·rw[q,I.free] at hd
   cases hd
 ·rw[dM]
theorem land (sR:X.stack=X.env :: X.outer)(Dd:X.env.frame=some X.env.locals){e:Value}{s':Shared}(I:Inv X pins σ H s)(c:mK X.prog X.w X.mg X.stack H s E e s'){hs:List ExceptHandler}{Q:Flow->Shared->Prop}
  (q: ∀(a C dx T:Addr) (vs:Array Value) (H':Hp) (s3:Shared),e= .ref a->Inv X pins σ H' s3->iY s3.heap a (.ref C) (some dx) vs->vs[1]? =some (.ref T)->K5 s3.heap T .none->T≠a->s.heap.objs.size<=a->s.heap.objs.size<=T->H' a=none->H' T=none->
   (vs[2]? =some .none∨X.mg "Needed"=some (.ref C))->E (.ref C) (some dx) H'->wpAny (model X.prog X.w) X.A (handleBy e X.env hs) Q xe s3):
  wpAny (model X.prog X.w) X.A (noteFrame e X.env) (fun _ s2=>wpAny (model X.prog X.w) X.A (setFlight e none) (fun _ s3=>wpAny (model X.prog X.w) X.A (handleBy e X.env hs) Q xe s3) xe s2) xe s':=by
 obtain⟨a,C,dx,H2,rfl,ho,hg,u,cu,⟨vs,T,x,h1,ft,ne,na,nT,Ha,HT,h2⟩,z⟩:=c
 have I2:=I.EI (ch:=[]) ho u cu hg (fun b z=>absurd z (by simp))
 have st:=I2.stack
 rw[sR] at st
 have QP:a < s'.heap.objs.size:=by
  obtain⟨o,z,_⟩:=x
  exact aM z
 have Xp:s.heap.objs.size<=s'.heap.objs.size:=aZ na (dz QP)
 refine Nm (base:=X.base) (outer:=X.outer) (by rw[I.ok.frames,sR]) st Dd x h1 ft ne fun h3 T' b x3 hT t3=>?_
 have QQ:T'≠a:=by
  rw[hT]
  exact(a6 QP).symm
 have ZV:H2 T'=none:=I2.cu.fresh (iH hT.symm)
 have nT':=I2.jV (iH hT.symm)
 have b':nj (Dn X.stack) [T,a] s'.heap h3:=by
  rw[sR]
  exact b
 have I3:=I2.but b' (fun c hc=>by
  rcases aw.mp hc with rfl|hc
  ·exact⟨HT,I.jV nT⟩
  ·rw[ao.mp hc]
   exact⟨Ha,I.jV na⟩)
 refine vt (s:={s' with heap:=h3}) x3 (pU (fj h1)) t3 fun h4 b4 t4 _=>?_
 have I4:=I3.but (h':=h4) (own:=[T']) (b4.mono (fun _ z=>absurd z (by simp)) (fun _ z=>z)) (fun c hc=>by
  rw[ao.mp hc]
  exact⟨ZV,nT'⟩)
 refine q a C dx T' _ H2 _ rfl I4 (x3.but b4 (by simpa using QQ.symm)) (pU (fj h1)) t4 QQ na (by rw[hT]; exact Xp) Ha ZV ?_ z
 rw[qO (by decide)]
 exact h2
end
section
variable {X:Cx}{R:Addr}{n x:Str}{i k:Nat}{p1 p2 p3 p4 p5 pos gG:Pos}{body:List Stmt}{t:XK->TS}{E:XK}{CN:Addr}{txt:Str}
def SQ (K:Frag)(R:Addr)(D:Ends):XK:=fun c d H'=> ∃(C dx:Addr) (txt:Str),c= .ref C/\d=some dx/\gU K C R/\H' dx=some (.xd [("text",.str txt)])/\D.rt (.str txt) H'
def L6 (K:Frag)(R:Addr)(t:XK->TS):TS:=fun D σ H=>t (SQ K R D) D σ H
theorem G1 (sR:X.stack=X.env :: X.outer)(Dd:X.env.frame=some X.env.locals)(hc:X.calm=true)(hN:X.N.Nodup)(hi:X.N[i]? =some n)(hl:X.env.scope.names.lookup n=some .local)(hg:Gl X x)(hm:X.mg x=some (.ref R))(kR:gU X.K R R)
  (hb: ∀(xe:Value->Shared->Prop) (pn:List (Addr×Obj)) (E:XK),Passes (mK X.prog X.w X.mg) (X.w6 xe pn) E->oS (X.w6 xe pn) body (t E)) (hd:(n == ("__debug__":Str))=false:=by decide) (rK:(n == ("__classdict__":Str))=false:=by decide) (hx:(x == ("__debug__":Str))=false:=by decide):
  PS X (.Try body [.ExceptHandler (some (.Name x p1)) (some n) [.Return (some (.Attribute (.Name n p2) "text" p3)) p4] p5] [] [] pos) (L6 X.K R t):=by
 intro pins s σ H D I h
 refine wpAny_Try_except (cf (hb (fun e s1=>wpAny (model X.prog X.w) X.A (noteFrame e X.env) (fun _ s2=>wpAny (model X.prog X.w) X.A (setFlight e none) (fun _ s3=>
  wpAny (model X.prog X.w) X.A (handleBy e X.env [.ExceptHandler (some (.Name x p1)) (some n) [.Return (some (.Attribute (.Name n p2) "text" p3)) p4] p5]) (SP X pins D) X.xe s3) X.xe s2) X.xe s1) (X.pn ++ pins) (SQ X.K R D) ?_ [] s σ H D (I.w6 _) h) (fun f s1 q=>?_) fun _ _ z=>z)
 ·rintro SR σ1 H1 s1 e s2 I1 cx
  refine land sR Dd I1.jX cx fun a C dx T vs H2 s3 he I3 x3 h1 ft ne na nT Ha HT h2 z=>?_
  subst he
  obtain⟨C',dx',txt,e1,e2,ek,ed,q⟩:=z
  cases e1
  cases e2
  obtain⟨oe,Xq,QF,O2,SS⟩:=id x3
  have cC:=ek.on
  have cR:=kR.on
  obtain⟨_,_,_,_,_,_,_,_,_,_,_,_,_,_,_,cC⟩:=cC
  obtain⟨_,_,_,_,_,_,_,_,_,_,_,_,_,_,_,cR⟩:=cR
  have nw:=I1.jX.jV na
  have Im:=I3.K7 (l:=[(a,oe)]) (.ref a) (fun _ _=>False) (fun p hp=>by
   rw[ao.mp hp]
   exact⟨Xq,Ha,nw.2.1,I1.jX.Gm na,fun v z=>by rw[SS] at z; cases z⟩)
  refine wpAny_handleBy_cons (codeAny_handlers_test (jy Im hg hm ?_ hx)) (by intro q; cases q)
  obtain⟨hp,g,d,tk,os⟩:=s3
  refine yt (cC _ I3.gO).at_ (cR _ I3.gO).at_ x3 (cR _ I3.gO).b (cC _ I3.gO).up ?_
  refine codeAny_handlers_suite_as ?_
  refine vt x3 h1 ft fun h4 b4 t4 _=>?_
  have L8:=I1.jX.jV nT
  have I4:=Im.but (h':=h4) (own:=[T]) (b4.mono (fun _ z=>absurd z (by simp)) (fun _ z=>z)) (fun c hc=>by
   rw[ao.mp hc]
   refine⟨HT,L8.1,L8.2.1,L8.2.2.1,fun p hp=>?_⟩
   rw[bR] at hp
   rcases bq.mp hp with hp|hp
   ·exact L8.2.2.2 p hp
   ·rw[ao.mp hp]
    exact ne.symm)
  refine uK (X:=X.K7 (.ref a) (X.pn ++ pins ++ [(a,oe)]) (fun _ _=>False)) (v:= .ref a) I4 hN hi (.inl hl) rfl (fun s5 I5=>?_) (.inr hl)
  have pe:PE (X.K7 (.ref a) (X.pn ++ pins ++ [(a,oe)]) (fun _ _=>False)) (.Attribute (.Name n p2) "text" p3) (fun σ H Q=>σ[i]? =some (some (.ref a))/\H dx=some (.xd [("text",.str txt)])/\Q (.str txt) H):=by
   rintro Nn s6 σ6 H6 Q6 J ⟨e1,e2,q6⟩
   refine EO rfl (dR (Dp (X:=X.K7 (.ref a) (X.pn ++ pins ++ [(a,oe)]) (fun _ _=>False)) hi (.inl hl) hd rK Nn s6 σ6 H6 (fun v H'=>v= .ref a/\H'=H6) J ⟨_,e1,rfl,rfl⟩) ?_)
   rintro u s7 ⟨v,H7,J7,rv,rfl,rfl⟩
   obtain rfl:u=Value.ref a:=rv
   obtain⟨w1,_⟩:=J7.pin (a,oe) (c8 _ (bu _ (ao.mpr rfl)))
   obtain⟨mA,n1,rl⟩:=J7.cu dx _ e2
   have rt:=rl "text"
   have lk:List.lookup ("text":Str) [("text",V.str txt)]=some (V.str txt):=by simp[List.lookup]
   rw[lk] at rt
   cases Xr:mA "text" with
   |none=>rw[Xr] at rt; exact False.elim rt
   |some u7=>
    rw[Xr] at rt
    obtain⟨tk7,rfl⟩: ∃tk,u7=Value.str txt tk:=rt
    obtain⟨hp7,g7,d7,t7,os7⟩:=s7
    refine L3 PySem.F.attr_Exception.ga (cC _ J7.gO).b (cC _ J7.gO).at_ (lD J7.gO ek.ga) (lD J7.gO ek.gk) (lD J7.gO ek.tx) ⟨oe,w1,QF,O2,SS⟩ n1.ns Xr rfl ?_
    exact⟨.str txt,H7,J7.tok _,⟨_,rfl⟩,q6⟩
  have hlen:i < σ1.length:=by
   rw[I1.len]
   exact(ak.mp hi).1
  refine wpAny_mono (au (a0 pe) [] s5 _ H2 {nx:=fun _ _=>False,rt:=fun v H'=>v= .str txt/\H'=H2} I5 ⟨by simp[hlen],ed,rfl,rfl⟩) (fun f s6 q6=>?_) fun _ _ z=>z.elim
  cases f with
  |next=>obtain⟨_,_,_,z⟩:=q6; exact z.elim
  |brk=>obtain⟨_,_,_,z⟩:=q6; exact z.elim
  |cont=>obtain⟨_,_,_,z⟩:=q6; exact z.elim
  |ret u=>
   obtain⟨v,σ6,H6,I6,rv,rfl,rfl⟩:=q6
   have I7:Inv X pins σ6 H6 s6:=Inv.SO I3 I6
   obtain⟨m6,n6,_⟩:=id I7.loc
   have kd:(X.env.scope.kind == .class || (X.env.scope.kind == .module && X.env.locals != X.env.globals))=false:=by
    rw[I.ok.kind]
    rfl
   refine wpAny_nameGoes hl n6 kd fun h7 m7 n7 sb=>?_
   exact⟨.str txt,_,H6,I7.renamed n7 sb,rv,q⟩
 ·have q':=SP.jX q
  cases f with
  |next=>exact jn q'
  |brk=>exact q'
  |cont=>exact q'
  |ret u=>exact q'
def Jy (CT CN:Addr)(txt:Str)(E:XK):XK:=fun c d H'=>c= .ref CT/\ ∀dx,H' dx=none->E (.ref CN) (some dx) (upd H' dx (.xd [("text",.str txt)]))
def G2 (CT CN:Addr)(txt:Str)(E:XK)(t:XK->TS):TS:=fun D σ H=>t (Jy CT CN txt E) D σ H
theorem BL {CT:Addr}{kk:_}(T:QO X E)(hc:X.calm=true)(hg:Gl X x)(hm:X.mg x=some (.ref CT))(kT:gU X.K CT R)(je:X.mg "Needed"≠some (.ref CT))(M:Jw X.prog X.w X.K X.mg X.base k "Needed" CN R txt)(hr:ij (k + 1) X.A)(hgN:Gl X "Needed")
  (hb: ∀(xe:Value->Shared->Prop) (pn:List (Addr×Obj)) (E:XK),Passes (mK X.prog X.w X.mg) (X.w6 xe pn) E->oS (X.w6 xe pn) body (t E)) (hx:(x == ("__debug__":Str))=false:=by decide):
  PS X (.Try body [.ExceptHandler (some (.Name x p1)) none [.Raise (some (.Call (.Name "Needed" p2) [] [] gG)) (some (.Constant .none kk p3)) p4] p5] [] [] pos) (G2 CT CN txt E t):=by
 intro pins s σ H D I h
 refine wpAny_Try_except (cf (hb (fun e s1=>wpAny (model X.prog X.w) X.A (noteFrame e X.env) (fun _ s2=>wpAny (model X.prog X.w) X.A (setFlight e none) (fun _ s3=>
  wpAny (model X.prog X.w) X.A (handleBy e X.env [.ExceptHandler (some (.Name x p1)) none [.Raise (some (.Call (.Name "Needed" p2) [] [] gG)) (some (.Constant .none kk p3)) p4] p5]) (SP X pins D) X.xe s3) X.xe s2) X.xe s1) (X.pn ++ pins) (Jy CT CN txt E) ?_ [] s σ H D (I.w6 _) h) (fun f s1 q=>?_) fun _ _ z=>z)
 ·rintro SR σ1 H1 s1 e s2 I1 cx
  refine land T.Ij T.ZS I1.jX cx fun a C dx T0 vs H2 s3 he I3 x3 h1 ft ne na nT Ha HT h2 z=>?_
  subst he
  obtain⟨e1,q⟩:=z
  cases e1
  have v2:vs[2]? =some .none:=h2.elim id (fun z=>absurd z je)
  obtain⟨oe,Xq,QF,O2,SS⟩:=id x3
  obtain⟨_,_,_,_,_,_,_,_,_,_,_,_,_,_,_,cT⟩:=kT.on
  obtain⟨nm,qn,N,bs,bm,sn,sub,ab,col,dd,k0,k1,k2,k3,k5,cN⟩:=M.ek.on
  have nw:=I1.jX.jV na
  have Xs: ∀p∈[(a,oe)],s3.heap.get? p.1=some p.2/\H2 p.1=none/\p.1≠X.env.locals/\p.1∉X.fs/\ ∀v,p.2.data≠ .cell v:=fun p hp=>by
   rw[ao.mp hp]
   exact⟨Xq,Ha,nw.2.1,I1.jX.Gm na,fun v z=>by rw[SS] at z; cases z⟩
  have Im:=I3.K7 (l:=[(a,oe)]) (.ref a) X.xe Xs
  refine wpAny_handleBy_cons (codeAny_handlers_test (jy Im hg hm ?_ hx)) (by intro q; cases q)
  obtain⟨hp,g,d,tk,os⟩:=s3
  refine yt (b:=true) (cT _ I3.gO).at_ (cT _ I3.gO).at_ x3 (cT _ I3.gO).b (by simp) ?_
  refine codeAny_handlers_suite ?_
  refine vt x3 h1 ft fun h4 b4 t4 _=>?_
  have L8:=I1.jX.jV nT
  have I4:=Im.but (h':=h4) (own:=[T0]) (b4.mono (fun _ z=>absurd z (by simp)) (fun _ z=>z)) (fun c hc=>by
   rw[ao.mp hc]
   refine⟨HT,L8.1,L8.2.1,L8.2.2.1,fun p hp=>?_⟩
   rw[bR] at hp
   rcases bq.mp hp with hp|hp
   ·exact L8.2.2.2 p hp
   ·rw[ao.mp hp]
    exact ne.symm)
  refine wpAny_passesOwnAt (T.ownAt (some (.ref a))) ?_
  have ps:PS (X.K7 (.ref a) (X.pn ++ pins ++ [(a,oe)]) X.xe) (.Raise (some (.Call (.Name "Needed" p2) [] [] gG)) (some (.Constant .none kk p3)) p4) (fun _ _ H=> ∀dx,H dx=none->E (.ref CN) (some dx) (upd H dx (.xd [("text",.str txt)]))):=by
   intro Nn s6 σ6 H6 D6 J h6
   rw[arm_exec_Raise]
   refine aA (ir (DS (C:=CN) (e0:=a) (nm:=nm) (q:=qn) (N:=N) (bs:=bs) (bm:=bm) (oH:=true) (sn:=sn) (sub:=sub) (ab:=ab) (col:=col) (dd:=dd) (k0:=k0) (k1:=k1) (k2:=k2) (k3:=k3) (k5:=k5) (newId:="Exception.__new__") (cN _ J.gO).b rfl (fun Rr s7 z=>aA (Constant_none (aA (ir (bE z))))) (aA (Jx (X:=X.K7 (.ref a) (X.pn ++ pins ++ [(a,oe)]) X.xe) M (hr.mark _) hgN (by decide) J fun s7 e Xt t' he De hz ne7 I7 x7=>aA (ir (bE ?_))))))
   obtain⟨w1,_⟩:=I7.pin (a,oe) (c8 _ (bu _ (ao.mpr rfl)))
   have w0:=(J.pin (a,oe) (c8 _ (bu _ (ao.mpr rfl)))).1
   have nea:e≠a:=fun q=>by
    rw[q] at he
    exact absurd (aM w0) (xW.mpr he)
   refine⟨e,some Xt,v0 t',.ref CT,some dx,vs,rfl,nea,(cN _ I7.gO).at_,x7,rfl,rfl,⟨oe,w1,QF,O2,SS⟩,v2,fun h8 b8 x8=>?_⟩
   have Hz:upd H6 Xt (.xd [("text",.str txt)]) e=none:=by
    rw[az ne7.symm]
    exact hz
   have I8:=I7.but (h':=h8) (own:=[e]) (b8.mono (fun _ z=>absurd z (by simp)) (fun _ z=>z)) (fun c hc=>by
    rw[ao.mp hc]
    exact⟨Hz,J.jV he⟩)
   exact T.mC (Inv.SO I3 I8) x8 rfl (.inr M.ZU) (aZ J.sz he) Hz (h6 Xt De)
  refine cf (au ps [] _ _ H2 {nx:=fun _ _=>False,rt:=fun _ _=>False} I4 q) (fun f s9 z=>?_) fun _ _ z=>z
  cases f with
  |next=>obtain⟨_,_,_,z⟩:=z; exact z.elim
  |brk=>obtain⟨_,_,_,z⟩:=z; exact z.elim
  |cont=>obtain⟨_,_,_,z⟩:=z; exact z.elim
  |ret u=>obtain⟨_,_,_,_,_,z⟩:=z; exact z.elim
 ·have q':=SP.jX q
  cases f with
  |next=>exact jn q'
  |brk=>exact q'
  |cont=>exact q'
  |ret u=>exact q'
end
open PySem.W
def BMain (mg:Str->Option Value)(h:Heap):Prop:= ∃bm o,mg "__builtins__"=some (.ref bm)/\bm≠builtinsNs/\bm≠mainGlobals/\h.get? bm=some o/\o.cls= .type "module"/\o.dict=some builtinsNs/\o.data= .plain
abbrev yw (c:Addr)(qual:Str):HO:= .ext fun h=>h.CodeRec (.ref c) qual
theorem Jz {P:Program}{w:World}{H:Hp}{h:Heap}{c:Addr}{qual:Str}(x:h.CodeRec (.ref c) qual):dA P w H h c (yw c qual):=by
 refine⟨x,?_,fun h1 h2 z k=>?_⟩
 ·obtain⟨c',o,vs,t,e,g,_⟩:=x
  cases e
  exact⟨o,g⟩
 ·obtain⟨c',o,vs,t,e,g,r⟩:=z
  cases e
  exact⟨c,o,vs,t,rfl,k o g,r⟩
def Tb (H:Hp)(P:Addr)(pos:Pos)(qual:Str):Prop:= ∃ps:Array Value,H P=some (.mO ps)/\TriplesOk ps.toList/\(codeAmong pos ps.toList=none∨ ∃c',codeAmong pos ps.toList=some (.ref c')/\H c'=some (yw c' qual))
section
variable {X:Cx}{pins:List (Addr×Obj)}{σ:St}{H:Hp}{s:Shared}{c P:Addr}{params:Arguments}{body:Expr}{scope:Scope}{pos:Pos}{Q:Value->Shared->Prop}{xe:Value->Shared->Prop}
theorem BMain.at {mg:Str->Option Value}{h h':Heap}(B:BMain mg h)(k: ∀b o,h.get? b=some o->h'.get? b=some o){ps:Array Value}(hP:h'.get? P=some (tabObj ps)):h'.BuiltinsAt mg P:=by
 obtain⟨bm,o,b1,b2,b3,b4,b5,b6,b7⟩:=B
 refine⟨bm,o,b1,b2,b3,fun z=>?_,k _ _ b4,b5,b6,b7⟩
 have e:=k _ _ b4
 rw[z,hP] at e
 cases e
 cases b5
theorem JA (I:Inv X pins σ H s)(B:BMain X.mg X.base)(Fn:X.env.code= .ref c)(C:CodeHd X.base c P)(tb:Tb H P pos (X.env.qual ++ "<lambda>"))(O3:defaultsOf params X.env=([],[]))(qQ:closureFor scope X.env=pure [])
  (q: ∀(f c':Addr) (Fo:Value) (H':Hp) (s':Shared),Inv X pins σ H' s'->Frame [P] H H'->Tb H' P pos (X.env.qual ++ "<lambda>")->H' f=none->s'.heap.get? f=some (kla_obj "<lambda>" (X.env.qual ++ "<lambda>") params body scope [] ((X.mg "__name__").getD .none) c' Fo)->
   H' c'=some (yw c' (X.env.qual ++ "<lambda>"))->s.heap.objs.size<=f->Q (.ref f) s'):wpAny (model X.prog X.w) X.A (eval (.Lambda params body scope pos) X.env) Q xe s:=by
 obtain⟨ps,hP,ht,hc⟩:=tb
 have Vl:s.heap.get? P=some (tabObj ps):=I.cu P _ hP
 have hg:s.heap.Ns mainGlobals X.mg:=I.mod.glob.keeps I.bk
 have hgP:mainGlobals≠P:=fun z=>by
  obtain⟨o,es,ep,e,hd,_⟩:=hg
  rw[z,Vl] at e
  cases e
  cases hd
 have hB:=B.at I.bk Vl
 refine kla_eval O3 ?_
 rcases hc with hn|⟨c',hf,Vm⟩
 ·refine kla_makeFunction qQ I.ok.glob hg Fn (C.keeps I.bk) Vl ht hn hgP hB fun c' Fo h' tk hx OJ iu Xu QR=>?_
  have Xv:H c'=none:=I.cu.fresh OJ
  have cP:c'≠P:=fun z=>by rw[z,hP] at Xv; cases Xv
  have lt: ∀b o,s.heap.get? b=some o->b≠c':=fun b o z=>a6 (bg (aM z) OJ)
  have same: ∀b,b≠P->b≠c'->upd (upd H P (.mO (ps ++ #[rawInt pos.line,rawInt pos.col,.ref c']))) c' (yw c' (X.env.qual ++ "<lambda>")) b=H b:=fun b n1 n2=>by rw[az n2,az n1]
  have L9: ∀b u,H b=some u->u≠ .mO ps->b≠P:=fun b u z n w=>by
   rw[w,hP] at z
   cases z
   exact n rfl
  have G3: ∀b u,H b=some u->b≠c':=fun b u z=>aJ z Xv
  generalize Vk:kla_obj "<lambda>" (X.env.qual ++ "<lambda>") params body scope [] ((X.mg "__name__").getD .none) c' Fo=ob
  have hf:(h'.push ob).get? h'.objs.size=some ob:=by
   rw[← Vk]
   exact bL _ rfl
  have kp: ∀b o,b≠P->s.heap.get? b=some o->(h'.push ob).get? b=some o:=fun b o n z=>ax _ (hx b o n z)
  have SU:(h'.push ob).get? P=some (tabObj (ps ++ #[rawInt pos.line,rawInt pos.col,.ref c'])):=ax _ QR
  have I2:Inv X pins σ (upd (upd H P (.mO (ps ++ #[rawInt pos.line,rawInt pos.col,.ref c']))) c' (yw c' (X.env.qual ++ "<lambda>"))) {s with heap:=h'.push ob,toks:=tk}:=by
   refine I.un ⟨fun b o z n _ _=>kp b o (fun w=>by rw[w,hP] at n; cases n) z,fun b o z n _ _=>⟨o.slots,kp b o (fun w=>by rw[w,hP] at n; cases n) z⟩,fun b o z n _=>?_,fun b o z _=>?_,fun b xs z=>?_,fun b o u z=>?_,fun b qs z=>?_⟩ fun b u z=>?_
   ·rw[same b (fun w=>by rw[w,hP] at n; cases n) (lt b o z)]
    exact n
   ·by_cases w:b=P
    ·rw[w]
     exact⟨_,SU⟩
    ·exact⟨o,kp b o w z⟩
   ·rw[same b (L9 b _ z (by intro w; cases w)) (G3 b _ z)]
    exact z
   ·rw[same b (L9 b _ z (by intro w; cases w)) (G3 b _ z)]
    exact z
   ·by_cases w:b=P
    ·rw[w] at z ⊢
     rw[hP] at z
     cases z
     exact⟨_,by rw[az cP.symm,ag]⟩
    ·exact⟨#[],by rw[same b w (G3 b _ z),z]; simp⟩
   ·by_cases w:b=c'
    ·subst w
     rw[ag] at z
     cases z
     exact Jz (Xu.push ob)
    ·rw[az w] at z
     by_cases w2:b=P
     ·subst w2
      rw[ag] at z
      cases z
      exact SU
     ·rw[az w2] at z
      refine(I.cu b u z).tT (fun d o hd y=>kp d o (fun w3=>?_) y) (fun d y=>?_) fun d xs y=>?_
      ·rcases hd with hd|hd
       ·exact w2 (hd▸w3)
       ·rw[w3,hP] at hd
        cases hd
      ·rw[same d (L9 d _ y (by intro w; cases w)) (G3 d _ y)]
       exact y
      ·rw[same d (L9 d _ y (by intro w; cases w)) (G3 d _ y)]
       exact y
  have Lp:H h'.objs.size=none:=I.cu.fresh (aZ OJ (dz iu))
  refine q h'.objs.size c' Fo _ _ I2 (fun b o nb z=>?_) ⟨ps ++ #[rawInt pos.line,rawInt pos.col,.ref c'],by rw[az cP.symm,ag],?_,.inr ⟨c',?_,ag⟩⟩ ?_ (by rw[Vk]; exact hf) ag (aZ OJ (dz iu))
  ·rw[same b (fun w=>nb (by rw[w]; exact ao.mpr rfl)) (G3 b _ z)]
   exact z
  ·rw[Array.toList_append]
   exact TriplesOk_snoc _ _ _ _ ht
  ·rw[Array.toList_append]
   exact codeAmong_snoc _ ht hn
  ·rw[same _ (fun w=>by rw[w,hP] at Lp; cases Lp) (qj iu)]
   exact Lp
 ·refine kla_makeFunctionHit qQ I.ok.glob hg Fn (C.keeps I.bk) Vl ht hf hB fun Fo h' tk hk hsz=>?_
  have I2:=(I.kept (t':=tk) (h':=h'.push (kla_obj "<lambda>" (X.env.qual ++ "<lambda>") params body scope [] ((X.mg "__name__").getD .none) c' Fo)) fun b u z=>ax _ (hk b u z))
  exact q h'.objs.size c' Fo H _ I2 Frame.refl ⟨ps,hP,ht,.inr ⟨c',hf,Vm⟩⟩ (I.cu.fresh hsz) (bL _ rfl) Vm hsz
theorem JB {A:Around}{name qual:Str}{pm Fo:Value}{f c':Addr}{N ps:List Str}{us:List Value}{vs:List V}{t:TE}{R:VK}(I:Inv X pins σ H s)(e0:qA X.prog X.w X.K X.mg X.base A X.stack s H)(Vn:A.depth < recursionLimit)
  (ho:s.heap.get? f=some (kla_obj name qual params body scope [] pm c' Fo)) (rK:s.heap.CodeRec (.ref c') qual) (S:aS N ps scope) (hb:bindArgs (kla_fn name qual params body scope [] pm (.ref c') Fo) ⟨us,[]⟩=pure (ps.zip us)) (hl:vs.length=ps.length) (r:Vals vs us)
  (fX:PE (vw X.prog X.w X.K X.mg X.base N qual scope f (.ref c') A X.stack s H E0).EK body t) (h:t (start N vs) H R):wpAny (model X.prog X.w) A (call (.ref f) us) (EP X pins σ R) xe s:=by
 have lim:s.heap.NoLimit:=I.nolimit
 have mT: ∀y∈ps.zip us,scope.names.lookup y.1=some .local∨(scope.names.lookup y.1=some .cell/\((cellsFrom (s.heap.objs.size + 1) scope.names []).lookup y.1).isSome=true):=fun⟨n,v⟩ hy=>by
  rcases S.par n (oz hy).1 with q|q
  ·exact .inl q
  ·exact .inr ⟨q,lg _ _ _ (.inl q)⟩
 refine EG (kla_callFunE Vn ho rfl S.co S.gen rfl rK ?_)
 rw[hb]
 refine bE ?_
 refine tQ S.kind mT fun env he s1 y=>?_
 subst he
 refine⟨lim.keeps y.toInCall.keep,kla_codeExpr ?_⟩
 have J:Inv (vw X.prog X.w X.K X.mg X.base N qual scope f (.ref c') A X.stack s H E0) [] (start N vs) H s1:=vx S e0 hl r y
 refine cf (fX [] s1 (start N vs) H R (J.uL _) h) (fun v s' hs=>?_) fun e s' hs=>hs.elim
 obtain⟨v',H',J',rv,q'⟩:=hs
 exact I.after ⟨v',H',J'.os,J'.bare,J'.base,J'.cu,rv,q'⟩
end
section
variable {X:Cx}{pins:List (Addr×Obj)}{σ:St}{H:Hp}{s:Shared}
theorem Inv.SV {D:Addr}{o:HO}(I:Inv X pins σ H s)(hn:H D=none)(ok:dA X.prog X.w (upd H D o) s.heap D o)(nw:(D∈X.ex∨X.s₀.heap.objs.size<=D)/\D≠X.env.locals/\(∀x k,X.env.cells.lookup x=some k->k≠D)/\ ∀p∈X.pn ++ pins,p.1≠D)
  (hx:X.s₀.heap.objs.size<=D):Inv X pins σ (upd H D o) s:=by
 have off: ∀b u,H b=some u->b≠D:=fun b u z=>aJ z hn
 have low: ∀b ob,X.s₀.heap.get? b=some ob->b≠D:=fun b ob z=>a6 (bg (aM z) hx)
 refine⟨I.ok,I.os,I.bare,⟨I.base.keep,I.base.slot,fun b ob z n hb=>?_,I.base.there,fun b xs z=>?_,fun b ob u z=>?_,fun b ps z=>?_⟩,I.loc,I.cell,?_,fun x k z=>?_,fun p hp=>?_,fun b u z=>?_,I.len⟩
 ·rw[az (low b ob z)]
  exact I.base.free b ob z n hb
 ·have w:=I.base.qw b xs z
  rw[az (off b _ w)]
  exact w
 ·have w:=I.base.pF b ob u z
  rw[az (off b _ w)]
  exact w
 ·obtain⟨m,w⟩:=I.base.pG b ps z
  exact⟨m,by rw[az (off b _ w)]; exact w⟩
 ·rw[az nw.2.1.symm]
  exact I.free
 ·rw[az (nw.2.2.1 x k z)]
  exact I.iM x k z
 ·obtain⟨w1,w2,w3⟩:=I.pin p hp
  exact⟨w1,by rw[az (nw.2.2.2 p hp)]; exact w2,w3⟩
 ·by_cases q:b=D
  ·subst q
   rw[ag] at z
   cases z
   exact ok
  ·rw[az q] at z
   exact(I.cu b u z).tT (fun _ _ _ w=>w) (fun d w=>by rw[az (off d _ w)]; exact w) fun d xs w=>by rw[az (off d _ w)]; exact w
theorem Frame.sql {K:Frag}{fp:List Addr}{H H':Hp}{a:Addr}{xs:List V}(f:Frame fp H H')(h:bA K H a xs)(ha: ∀o,H a=some o->a∉fp):bA K H' a xs:=by
 rcases h with(h|⟨o,h⟩)|h
 ·exact .inl (.inl (f _ _ (ha _ h) h))
 ·exact .inl (.inr ⟨o,f _ _ (ha _ h) h⟩)
 ·exact .inr h
theorem Tb.upd {P:Addr}{pos:Pos}{qual:Str}{p:Addr}{o:HO}(t:Tb H P pos qual)(hp:H p=none):Tb (upd H p o) P pos qual:=by
 obtain⟨ps,h1,h2,h3⟩:=t
 refine⟨ps,by rw[az (aJ h1 hp)]; exact h1,h2,?_⟩
 rcases h3 with h3|⟨c',h3,h4⟩
 ·exact .inl h3
 ·exact .inr ⟨c',h3,by rw[az (aJ h4 hp)]; exact h4⟩
theorem Frame.new {fp:List Addr}{H H':Hp}{p:Addr}{o:HO}(f:Frame fp H H')(hp:H' p=none):Frame fp H (L2.upd H' p o):=fun b u hb z=>by
 have w:=f b u hb z
 rw[az (aJ w hp)]
 exact w
end
def Np (K:Frag)(P:Addr)(pos:Pos)(qual:Str)(N:List Str)(tb:TE)(Q:VK)(x:V)(H1:Hp):Prop:= ∃(a:Addr) (xs:List V) (ts:List (List Int)) (key:List Int->Int),x= .ref a/\bA K H1 a xs/\xs.length < 64/\ts.length=xs.length/\Tb H1 P pos qual/\
 (∀t∈ts,t≠[])/\(∀t∈ts,∀u∈ts,HT.lexLt t u=decide (key t < key u))/\
 (∀i,i < xs.length-> ∀H2,Frame [P] H1 H2-> ∀R:VK,(∀p,H2 p=none->R (.ref p) (upd H2 p (.tup ((ts.getD i []).map V.int))))->tb (start N [xs.getD i .eu]) H2 R)/\
 ∀(D:Addr) (p:List Nat) (H2:Hp),p.Perm (List.range xs.length)->p.Pairwise (fun i j=>key (ts.getD i [])<=key (ts.getD j []))->Frame [P] H1 H2->Tb H2 P pos qual->H1 D=none->H2 D=some (.lst (p.map fun i=>xs.getD i .eu))->Q (.ref D) H2
def JC (K:Frag)(P:Addr)(pos:Pos)(qual:Str)(N:List Str)(ta tb:TE):TE:=fun σ H Q=>ta σ H (Np K P pos qual N tb Q)
theorem gr.snoc {H:Hp}: ∀{ts:List (List Int)} {xs:List V} {t:List Int} {p:Addr},gr H ts xs->H p=some (.tup (t.map V.int))->gr H (ts ++ [t]) (xs ++ [.ref p])
 |_,_,_,p,.nil,h=> .cons ⟨p,rfl,h⟩ .nil
 |_,_,_,p,.cons a r,h=> .cons a (gr.snoc r h)
theorem take_succ_getD {α:Type}{l:List α}{i:Nat}{d:α}(h:i < l.length):l.take (i + 1)=l.take i ++ [l.getD i d]:=by
 rw[A4,af h,aj,af h]
 rfl
section
variable {X:Cx}{c P:Addr}{params:Arguments}{body e:Expr}{scope:Scope}{p pos JD RP:Pos}{ta tb:TE}{N:List Str}{y:Str}
theorem vy (hg:Gl X "sorted")(hm:X.mg "sorted"=none)(B:BMain X.mg X.base)(Fn:X.env.code= .ref c)(C:CodeHd X.base c P)(hr:fb 1 X.A)(S:aS N [y] scope)
  (fX: ∀(f c':Addr) (A:Around) (s:Shared) (H:Hp),PE (vw X.prog X.w X.K X.mg X.base N (X.env.qual ++ "<lambda>") scope f (.ref c') A X.stack s H E0).EK body tb) (ha:PE X e ta)
  (hb: ∀(pm Fo u:Value) (c':Addr),bindArgs (kla_fn "<lambda>" (X.env.qual ++ "<lambda>") params body scope [] pm (.ref c') Fo) ⟨[u],[]⟩=pure ([y].zip [u]):=by intros; rfl)
  (O3:defaultsOf params X.env=([],[]):=by rfl) (qQ:closureFor scope X.env=pure []:=by rfl)
  (he:backTo pos (starEach [e] X.env)=(false,eval e X.env) :: backTo pos (starEach [] X.env):=by rfl)
  (hs:starEach [e] X.env=(false,eval e X.env) :: starEach [] X.env:=by rfl) (uT:(backTo pos (starEach [e] X.env)).any (·.1)=false:=by rfl):
  PE X (.Call (.Name "sorted" p) [e] [⟨some "key",.Lambda params body scope JD,RP⟩] pos) (JC X.K P JD (X.env.qual ++ "<lambda>") N ta tb):=by
 intro pins s σ H Q I h
 refine eJ (lX I hg hm (u:= .builtin "sorted") (by rfl) ?_)
 refine PyProof.Rows.callWith_kw (dR ((aa ha av hs) pos pins s σ H (fun vs H1=>match vs with|[x]=>Np X.K P JD (X.env.qual ++ "<lambda>") N tb Q x H1|_=>False) I h) fun us s1 h1=>?_) he uT rfl rfl
 obtain⟨vs,H1,I1,rv,q1⟩:=h1
 cases vs with
 |nil=>exact q1.elim
 |cons x vs=>
 cases vs with
 |cons _ _=>exact q1.elim
 |nil=>
 obtain⟨a,xs,ts,key,rfl,hS,Dc,iu,ZW,je,II,hbd,fin⟩:=q1
 obtain⟨u,rfl,ru⟩:=vals1 rv
 obtain rfl:u=Value.ref a:=ru
 show wpAny _ _ (evalAll [(do let v ← eval (.Lambda params body scope JD) X.env; standAt pos; pure v)]) _ _ s1
 refine wpAny_evalAll_cons (aA (JA I1 B Fn C ZW O3 qQ fun f c' Fo H2 s2 I2 ZX tb2 Lp O1 Vm hle=>aA (ir (bE (wpAny_evalAll_nil ?_)))))
 show wpAny _ _ (call (.builtin "sorted") [.ref a] [(Str.ofString "key",.ref f)]) _ _ s2
 have aP: ∀o,H1 a=some o->a∉[P]:=fun o z w=>by
  obtain⟨ps,hP,_⟩:=ZW
  have w':=ao.mp w
  rcases hS with(hS|⟨_,hS⟩)|⟨ob,_,_,hK,qQ,_⟩
  ·rw[w',hP] at hS; cases hS
  ·rw[w',hP] at hS; cases hS
  ·have e1:=I1.gO _ _ hK
   have e2:s1.heap.get? P=some _:=I1.cu P _ hP
   rw[w',e2] at e1
   cases e1
   cases qQ
 have O4:=ZX.sql hS aP
 obtain⟨bZ,Xw,pl,hz⟩:=I2.list O4
 have hl:=Xw.length
 have lf:f < s2.heap.objs.size:=aM O1
 have Xp:s1.heap.objs.size<=s2.heap.objs.size:=aZ hle (dz lf)
 refine sortedK pl.isList (by lia) fun D kS e1 h' kp d1 k1 ZY QS Vo=>?_
 have I3:=I2.kept (t':=s2.toks) kp
 have HD:H2 D=none:=I2.cu.fresh QS
 have HK:H2 kS=none:=I2.cu.fresh Vo
 have Nq:=I2.jV QS
 have O5:=I2.jV Vo
 have nwf:=I1.jV hle
 have fD:f≠D:=a6 (bg lf QS)
 have fK:f≠kS:=a6 (bg lf Vo)
 have dp:X.A.in1.in1.depth < recursionLimit:=hr.depth
 generalize SW:kla_obj "<lambda>" (X.env.qual ++ "<lambda>") params body scope [] ((X.mg "__name__").getD .none) c' Fo=QT at O1
 have loop: ∀(r:List Value) (i:Nat) (ks:List Value) (bc:List V) (Hi:Hp) (si:Shared),r=bZ.drop i->i<=xs.length->Inv X (pins ++ [(f,QT),(D,seqObj "list" #[] e1)]) σ Hi si->(∃e,si.heap.get? kS=some (seqObj "list" ks.toArray e))->Hi kS=none->
   Frame [P] H1 Hi->Tb Hi P JD (X.env.qual ++ "<lambda>")->Hi c'=some (yw c' (X.env.qual ++ "<lambda>"))->gr Hi (ts.take i) bc->Vals bc ks->
   tq X.prog X.w X.A.in1.in1 kS (.ref f) (GV X.prog X.w X.A.in1.in1 D kS e1 bZ (fun s'=>EP X pins σ Q (.ref D) s')) r ks si:=by
  intro r
  induction r with
  |nil=>
   intro i ks bc Hi si hr hi Ii hk Ma Vp Xx Vq hT rk
   have ei:i=xs.length:=by
    have:=cL List.length hr
    rw[wJ,mG] at this
    lia
   have K8:gr Hi ts bc:=by rwa [ei,← iu,a7] at hT
   have lk:bc.length=xs.length:=by have:=K8.length; lia
   have lk2:=rk.length
   obtain⟨w1,w2,_⟩:=Ii.pin (D,seqObj "list" #[] e1) (List.mem_append_right _ (List.mem_append_right _ (by simp)))
   refine⟨tuples' true,fun i=>key (ts.getD i []),ZY,w1,fun h2 Q' q'=>?_,fun a b C ha hb q'=>?_,fun pr h5 n SX hUp hsz hD5 Fp=>?_⟩
   ·obtain⟨fs,f1,f2,f3⟩:=sm Ii (fun _ _ z=>z) K8 rk je
    refine kat_kind (T:= .type "int") f1 (by lia) (fun v hv=>?_) rfl q'
    obtain⟨n,t,rfl⟩:=f3 v hv
    exact Looks.of_pure rfl
   ·obtain⟨p1,g1,g2⟩:=K8.get (i:=a) (by lia)
    obtain⟨p2,g3,g4⟩:=K8.get (i:=b) (by lia)
    have v1:=jE rk a
    have v2:=jE rk b
    rw[g1] at v1
    rw[g3] at v2
    have v1':ks.getD a Value.none= .ref p1:=v1
    have v2':ks.getD b Value.none= .ref p2:=v2
    rw[v1',v2']
    obtain⟨o1,W7,n1,GO,hc1,l7,Sq⟩:=Ii.tupI g2
    obtain⟨o2,Gz,n2,QJ,LR,hd2,Sr⟩:=Ii.tupI g4
    refine kat_lt GO l7 QJ hd2 ?_
    have l1:=Sq.length
    have l2:=Sr.length
    have m1:ts.getD a []∈ts:=by rw[aj,af (show a < ts.length by lia)]; exact bG _
    have m2:ts.getD b []∈ts:=by rw[aj,af (show b < ts.length by lia)]; exact bG _
    have kx:=m9 (prog:=X.prog) (w:=X.w) (A:=X.A.in1.in1) (b:=true) (Q:=C) (s:=si) 0 Sq Sr (by rw[II _ m1 _ m2]; exact q')
    rw[bB,bB,l1,l2]
    exact kx
   ·have In:=Ii.jc
    have bt:nj (Dn X.stack) [D,kS] si.heap h5:=fun b o z nb=>by
     have n1:b≠D:=fun w=>nb (by simp[w])
     have n2:b≠kS:=fun w=>nb (by simp[w])
     have e:=(Fp b n1 n2).trans z
     exact⟨fun _=>e,o.slots,e⟩
    have I5:=In.but bt (fun cc hc=>by
     rcases aw.mp hc with rfl|hc
     ·exact⟨w2,Nq⟩
     ·rw[ao.mp hc]
      exact⟨Ma,O5⟩)
    have lA:=SX.size
    have I6:=I5.SV (D:=D) (o:= .lst (pr.toList.map fun i=>xs.getD i .eu)) w2 ⟨by rw[ae,oB,lA]; exact aZ (iH hl.symm) hz,_,n,sk Xw pr.toList,hD5⟩ Nq (aZ I2.sz QS)
    refine⟨.ref D,_,I6,rfl,fin D pr.toList _ ?_ ?_ (Vp.new w2) (Xx.upd w2) (I1.cu.fresh (aZ Xp QS)) ag⟩
    ·have:=SX.list
     rwa [← hl] at this
    ·exact sX lA hUp
  |cons v r ih=>
   intro i ks bc Hi si hr hi Ii hk Ma Vp Xx Vq hT rk
   have wW:i < xs.length:=by
    have:=cL List.length hr
    rw[bS,mG] at this
    lia
   have hv:v=bZ.getD i Value.none/\r=bZ.drop (i + 1):=by
    rw[NY (by lia)] at hr
    injection hr with h1 h2
    refine⟨?_,h2⟩
    rw[h1,aj,af (by lia)]
    rfl
   obtain⟨hv,Xy⟩:=hv
   obtain⟨ek,hk⟩:=hk
   have Ip:Inv X (pins ++ [(f,QT),(D,seqObj "list" #[] e1)] ++ [(kS,seqObj "list" ks.toArray ek)]) σ Hi si:=Ii.uo fun p hp=>by
    rcases bq.mp hp with hp|hp
    ·exact Ii.pin p (bu _ hp)
    ·rw[ao.mp hp]
     exact⟨hk,Ma,O5.2.1,I2.Gm Vo,fun v z=>by cases z⟩
   have Xz:si.heap.get? f=some QT:=(Ip.pin (f,QT) (List.mem_append_right _ (List.mem_append_left _ (List.mem_append_right _ (by simp))))).1
   have rK:si.heap.CodeRec (.ref c') (X.env.qual ++ "<lambda>"):=(Ip.cu c' _ Vq).1
   have ZZ:=jE Xw i
   rw[← hv] at ZZ
   show wpAny _ _ (call (.ref f) [v]) _ _ si
   refine cf (JB (us:=[v]) (vs:=[xs.getD i .eu]) (R:=fun y H'=> ∃p,y= .ref p/\Hi p=none/\H'=upd Hi p (.tup ((ts.getD i []).map V.int))) (xe:=fun _ _=>False) Ip Ip.IM.in1.in1 dp (by rw[Xz,← SW]) rK S (hb _ _ _ _) rfl (.cons ZZ .nil) (fX _ _ _ _ _)
    (hbd i wW Hi Vp _ fun p hp=>⟨p,rfl,hp,rfl⟩)) (fun u s5 h5=>?_) fun _ _ z=>z
   obtain⟨y,H5,I5,ry,pp,rfl,Io,rfl⟩:=h5
   obtain rfl:u=Value.ref pp:=ry
   obtain⟨z1,z2,_⟩:=I5.pin (kS,seqObj "list" ks.toArray ek) (List.mem_append_right _ (List.mem_append_right _ (by simp)))
   refine⟨ek,z1,fun h6 cc sb hk6=>?_⟩
   have I6:Inv X (pins ++ [(f,QT),(D,seqObj "list" #[] e1)]) σ _ _:=Inv.jc I5
   have I7:=I6.turned (t':=s5.toks) (it:=kS) (h':=h6) (fun b o n z=>(sb.2 b n).trans z) z2 O5.2.1 O5.1 O5.2.2.1 (fun p hp=>by
    rcases bq.mp hp with hp|hp
    ·exact O5.2.2.2 p (c8 _ hp)
    ·rcases bq.mp hp with hp|hp
     ·exact O5.2.2.2 p (bu _ hp)
     ·rcases aw.mp hp with rfl|hp
      ·exact fK
      ·rw[ao.mp hp]
       exact ZY)
   have cpp:c'≠pp:=aJ Vq Io
   refine ih (i + 1) (ks ++ [.ref pp]) (bc ++ [.ref pp]) _ _ Xy wW I7 ⟨cc,hk6⟩ z2 (Vp.new Io) (Xx.upd Io) (by rw[az cpp]; exact Vq) ?_ (rk.append (show Vals [V.ref pp] [Value.ref pp] from .cons rfl .nil))
   rw[take_succ_getD (d:=[]) (by lia)]
   exact gr.snoc (hT.mono fun b xs z=>by rw[az (aJ z Io)]; exact z) ag
 have Ip:Inv X (pins ++ [(f,QT),(D,seqObj "list" #[] e1)]) σ H2 {s2 with heap:=h'}:=I3.uo fun p hp=>by
  rcases bq.mp hp with hp|hp
  ·exact I3.pin p (bu _ hp)
  ·rcases aw.mp hp with rfl|hp
   ·exact⟨kp _ _ O1,Lp,nwf.2.1,I1.Gm hle,fun v z=>by rw[← SW] at z; cases z⟩
   ·rw[ao.mp hp]
    exact⟨d1,HD,Nq.2.1,I2.Gm QS,fun v z=>by cases z⟩
 exact loop bZ 0 [] [] H2 _ rfl (bh _) Ip ⟨0,k1⟩ HK ZX tb2 Vm .nil .nil
end
theorem G4 {P:Program}{w:World}{K:Frag}{mg mb:Str->Option Value}{CX:Gw}{k:Nat}{fa a:Addr}{fd:FuncData}{x:Str}{sp:Sp}{s₁:Shared}{vs:List Value}{ns:List Int}{cps:List (Addr×Addr)}
  (KX:K.In s₁.heap) (Z0:s₁.heap.Ns mainGlobals mg) (hb:s₁.heap.Ns builtinsNs mb) (hbb: ∀x:Str,x≠"__name__"->mb x=bootBuiltins x) (XA:s₁.heap.NoLimit) (hg:s₁.gens= #[])
  (ha:s₁.heap.get? a=some {cls:= .type "list",data:= .seq vs.toArray}) (hi:IntsAre vs ns) (hl:ns.length<=sizeLine) (hr:fb k callerA)
  (bm:BMain mg s₁.heap) (QR: ∀cp∈cps,s₁.heap.get? cp.2=some (tabObj #[])) (SY: ∀cp∈cps,codeHdIn K cp.1 cp.2=true/\K.lookup cp.2=none)
  (F: ∀base:Heap,K.In base->base.Ns mainGlobals mg->BMain mg base->l0 P w K mg base CX k fa fd [x] sp) (S4: ∀(s:Shared) (u:Value),BindsTo s fd ⟨[u],[]⟩ [(x,u)])
  (y2: ∀H:Hp,(∀cp∈cps,H cp.2=some (.mO #[]))->bA K H a (ns.map V.int)->sp [.ref a] H (fun v _=>v= .bl true) fun _ _ _=>False)
  (hCX: ∀H e s',CX [] H s₁ (fun _ _ _=>False) e s'->False):
  codeAny (model P w) callerA (.call (.ref fa) ⟨[.ref a],[]⟩) (fun r s'=>r= .ok (.ret (.bool true))/\OldK s₁.heap s'.heap/\s'.os=s₁.os/\AllBare s'.gens) s₁:=by
 have rv:=yk hi
 have S5:=hi.length
 have aT: ∀cp∈cps,cp.2≠a:=fun cp hc z=>by
  have e:=QR cp hc
  rw[z,ha] at e
  cases e
 have core: ∀H:Hp,(∀b,H b=none∨(b=a/\H b=some (.C9 {cls:= .type "list",data:= .seq vs.toArray} (.lst (ns.map V.int)))/\K.lookup a=none)∨ ∃cp∈cps,b=cp.2/\H b=some (.mO #[]))->(∀cp∈cps,H cp.2=some (.mO #[]))->bA K H a (ns.map V.int)->
   codeAny (model P w) callerA (.call (.ref fa) ⟨[.ref a],[]⟩) (fun r s'=>r= .ok (.ret (.bool true))/\OldK s₁.heap s'.heap/\s'.os=s₁.os/\AllBare s'.gens) s₁:=by
  intro H hO hT hS
  have cu:oE P w H s₁.heap:=fun b u z=>by
   rcases hO b with w|⟨rfl,w,_⟩|⟨cp,hc,rfl,w⟩
   ·rw[z] at w; cases w
   ·rw[z] at w
    cases w
    exact⟨ha,by rw[ae]; exact hl,vs,_,rv,ha⟩
   ·rw[z] at w
    cases w
    exact QR cp hc
  have zA: ∀{b:Addr} {o:Obj},s₁.heap.get? b=some o->H b=none->(wK s₁.heap H).get? b=some o:=fun e n=>IA e n
  have Z1: ∀{b:Addr} {o:Obj},s₁.heap.get? b=some o->((∃es ep,o.data= .dict es ep)∨o.data= .plain)->H b=none:=fun{b o} e d=>by
   rcases hO b with w|⟨rfl,w,_⟩|⟨cp,hc,rfl,w⟩
   ·exact w
   ·rw[ha] at e
    cases e
    rcases d with⟨es,ep,d⟩|d <;> cases d
   ·rw[QR cp hc] at e
    cases e
    rcases d with⟨es,ep,d⟩|d <;> cases d
  have Vr: ∀{b:Addr} {m:Str->Option Value},s₁.heap.Ns b m->(wK s₁.heap H).Ns b m:=fun{b m} ⟨o,es,ep,e,d,r⟩=>⟨o,es,ep,zA e (Z1 e (.inl ⟨es,ep,d⟩)),d,r⟩
  have Z2:K.In (wK s₁.heap H):=fun b o e=>zA (KX b o e) (by
   rcases hO b with w|⟨rfl,w,hk⟩|⟨cp,hc,rfl,w⟩
   ·exact w
   ·rw[hk] at e; cases e
   ·rw[(SY cp hc).2] at e; cases e)
  have hBb:BMain mg (wK s₁.heap H):=by
   obtain⟨b,o,b1,b2,b3,b4,b5,b6,b7⟩:=bm
   exact⟨b,o,b1,b2,b3,zA b4 (Z1 b4 (.inr b7)),b5,b6,b7⟩
  have hM:Mod K mg (wK s₁.heap H):=⟨Z2,Vr Z0,⟨mb,Vr hb,hbb⟩,let⟨mc,h1,h2⟩:=XA; ⟨mc,Vr h1,h2⟩⟩
  have e0:qA P w K mg (wK s₁.heap H) callerA [] s₁ H:=⟨rfl,hM,fun b o e=>Ll e,Nat.le_of_eq (Gk _ _),trivial,fun b hb=>absurd (show b∈([]:List Addr) from hb) (by simp),cu,.of_eq hg⟩
  refine Dl ((F _ Z2 (Vr Z0) hBb).run callerA [] s₁ H ⟨[.ref a],[]⟩ [.ref a] [.ref a] _ _ hr e0 (S4 s₁ (.ref a)) (.cons rfl .nil) (y2 H hT hS)) fun r s' h=>?_
  cases r with
  |error e=>exact(hCX H e s' h).elim
  |ok fl=>
   cases fl with
   |next=>exact False.elim h
   |brk=>exact False.elim h
   |cont=>exact False.elim h
   |ret u=>
    obtain⟨v,H',os,bare,un,S6,r',q⟩:=h
    have q':v= .bl true:=q
    subst q'
    obtain rfl:u=Value.bool true:=r'
    have old: ∀b o,s₁.heap.get? b=some o->asItWas s₁.heap s'.heap b o:=fun b o e=>by
     rcases hO b with z|⟨rfl,z,_⟩|⟨cp,hc,rfl,z⟩
     ·exact .inl (un.keep b o e z (by intro w; exact absurd (show b∈([]:List Addr) from w) (by simp)) (by simp))
     ·have z2:=un.pF b _ _ z
      obtain⟨e2,_⟩:=S6 b _ z2
      rw[ha] at e
      cases e
      exact .inl e2
     ·obtain⟨more,z2⟩:=un.pG _ _ z
      have e2:s'.heap.get? cp.2=some (tabObj (#[] ++ more)):=S6 _ _ z2
      have e1:=QR cp hc
      rw[e1] at e
      cases e
      obtain⟨oc,ws,_,_,_,_,_,_,_,c1,c2,c3,c4,_⟩:=codeHd_of_K KX (SY cp hc).1
      exact .inr (.inl ⟨⟨cp.1,oc,ws,c1,c2,c3,c4⟩,rfl,#[],more,rfl,e2⟩)
    refine⟨rfl,⟨old,fun b o e=>?_⟩,os,bare⟩
    exact un.there b o e (by simp)
 cases hk:K.lookup a with
 |some o=>
  have e:=KX a o hk
  rw[ha] at e
  cases e
  refine core (fun b=>if b∈cps.map (·.2) then some (.mO #[]) else none) (fun b=>?_) (fun cp hc=>if_pos (List.mem_map.mpr ⟨cp,hc,rfl⟩)) (.inr ⟨_,vs.toArray,_,hk,rfl,rfl,rfl,by rw[List.size_toArray,S5]; exact hl,by simpa using rv⟩)
  by_cases hb:b∈cps.map (·.2)
  ·obtain⟨cp,hc,rfl⟩:=bF.mp hb
   exact .inr (.inr ⟨cp,hc,rfl,a8 hb⟩)
  ·exact .inl (aU hb)
 |none=>
  have na:a∉cps.map (·.2):=fun h=>by
   obtain⟨cp,hc,z⟩:=bF.mp h
   exact aT cp hc z
  refine core (fun b=>if b=a then some (.C9 {cls:= .type "list",data:= .seq vs.toArray} (.lst (ns.map V.int))) else if b∈cps.map (·.2) then some (.mO #[]) else none) (fun b=>?_) (fun cp hc=>?_) (.inl (.inr ⟨{cls:= .type "list",data:= .seq vs.toArray},a8 rfl⟩))
  ·by_cases h1:b=a
   ·exact .inr (.inl ⟨h1,by rw[a8 h1],hk⟩)
   ·by_cases hb:b∈cps.map (·.2)
    ·obtain⟨cp,hc,rfl⟩:=bF.mp hb
     exact .inr (.inr ⟨cp,hc,rfl,by rw[aU h1,a8 hb]⟩)
    ·exact .inl (by rw[aU h1,aU hb])
  ·show(if cp.2=a then _ else if cp.2∈cps.map (·.2) then _ else _)=_
   rw[aU (aT cp hc),a8 (bF.mpr ⟨cp,hc,rfl⟩)]
theorem JE {l:PySem.W.OpenLaw}{n k:Nat}{q:Program}{loose:List Str}{XP:(Str->Option Value)->Heap->Prop}{YP:World->Heap->Prop}{d:DefRec}{K:Params->Frag}{ts:List Addr}{sp:Frag->List (Addr×Addr)->Sp}{x:Str}
  (hn:l.most=some n) (U8:n<=sizeLine) (WO:d.params.defaults=[]) (hr:fb k callerA)
  (hY: ∀(w:World) (h:Heap),YP w h->(K w.params).In h/\ ∀P∈ts,h.get? P=some (tabObj #[]))
  (F: ∀(w:World) (mg:Str->Option Value) (fa:Addr) (h:Heap),(K w.params).In h->h.Ns mainGlobals mg->mg d.name=some (.ref fa)->
   ∃(fd:FuncData) (cps:List (Addr×Addr)),(∀cp∈cps,cp.2∈ts)/\(∀cp∈cps,codeHdIn (K w.params) cp.1 cp.2=true/\(K w.params).lookup cp.2=none)/\(∀(s:Shared) (u:Value),BindsTo s fd ⟨[u],[]⟩ [(x,u)])/\
    ∀base:Heap,(K w.params).In base->base.Ns mainGlobals mg->BMain mg base->l0 l.prog w (K w.params) mg base sf k fa fd [x] (sp (K w.params) cps))
  (y2: ∀(K:Frag) (cps:List (Addr×Addr)) (H:Hp) (a:Addr) (ns:List Int),ns.length<=n->(∀cp∈cps,H cp.2=some (.mO #[]))->bA K H a (ns.map V.int)->sp K cps [.ref a] H (fun v _=>v= .bl true) fun _ _ _=>False):
  PySem.W.WalkO q loose XP YP l.row.toRowW d [] (fun f vs=>PySem.call f vs):=by
 refine Zz.By hn WO fun w s₀ s₁ mg mb fa o pm cd doc a vs ns G Y ho hd rK R8 OB hints hlen hg=>?_
 obtain⟨KX,hT⟩:=hY w _ Y
 obtain⟨fd,cps,h1,h2,hb,hF⟩:=F w mg fa _ KX G.T.g R8
 obtain⟨bm,ob,b1,b2,b3,b4,b5,b6⟩:=G.T.bmain
 have b7:bm≠mainGlobals:=fun z=>by
  obtain⟨o',es,ep,e,Ik,_⟩:=G.T.g
  rw[z,e] at b3
  cases b3
  rw[Ik] at b6
  cases b6
 exact G4 KX G.T.g G.T.b G.T.builtins G.T.nolimit hg OB hints (aZ hlen U8) hr ⟨bm,ob,b1,b2,b7,b3,b4,b5,b6⟩ (fun cp hc=>hT _ (h1 cp hc)) h2 hF hb (fun H hO hS=>y2 _ cps H a ns hlen hO hS) fun H e s' z=>z
section
variable {X:Cx}{x:Str}{k n:Nat}{ps:List Str}{sp:Sp}{e:Expr}{es:List Expr}{t:TA}{p pos:Pos}
theorem fc (C:eM X.prog X.w X.K X.mg X.base x k ps sp)(hr:fb n X.A)(ha:PA X (e :: es) t)(hle:k<=n:=by decide)(hg:Gl X x:=by rfl)(qB:(x == ("__debug__":Str))=false:=by decide)
  (he:starEach (e :: es) X.env=(false,eval e X.env) :: starEach es X.env:=by rfl) (gQ:(backTo pos (starEach es X.env)).any (·.1)=false:=by rfl):PE X (.Call (.Name x p) (e :: es) [] pos) (uQ sp [] E0 t):=Sg C (hr.mono hle) hg ha qB he gQ
theorem sv (i:Nat){te:TE}{pos':Pos}(hN:X.N.Nodup)(he:PE X e te)(hi:X.N[i]? =some x:=by rfl)(hx:Loc X.env.scope x:=by first|exact Or.inl rfl|exact Or.inr rfl)(hs:swapsWith e (some (.Name x pos')) pos.line X.env=pure false:=by rfl)(hf:X.fn x=true∨X.env.scope.names.lookup x=some .local:=by first|exact .inl rfl|exact .inr rfl|assumption):
  PS X (.Assign [.Name x pos'] e pos) (Lr te (Bm i)):=N9 hN hi hx he hs hf
theorem gn (i:Nat)(hN:X.N.Nodup)(hi:X.N[i]? =some x:=by rfl)(hx:Loc X.env.scope x:=by first|exact Or.inl rfl|exact Or.inr rfl)(hf:X.fn x=true∨X.env.scope.names.lookup x=some .local:=by first|exact .inl rfl|exact .inr rfl|assumption):PG X (.Name x pos) (Bm i):=dU hN hi hx hf
theorem xl {a b:Expr}{ta tb:TE}(ha:PE X a ta)(hb:PE X b tb)(hs:y4 b:=by exact fun _ _=>rfl):PE X (.Subscript a b pos) (QI (Oi X.K) ta tb):=jd zd ha hb hs
theorem xt {a b:Expr}{ta tb:TE}(ha:PE X a ta)(hb:PE X b tb)(hs:y4 b:=by exact fun _ _=>rfl):PE X (.Subscript a b pos) (QI (Oj X.K) ta tb):=jd DD ha hb hs
end
section
variable {X:Cx}{o e:Expr}{p pos apos gG:Pos}{to te:TE}
theorem mh (hm:X.mg "len"=none)(h:PE X e te)(hg:Gl X "len":=by rfl)(he:starEach [e] X.env=(false,eval e X.env) :: starEach [] X.env:=by rfl)(gQ:(backTo pos (starEach [] X.env)).any (·.1)=false:=by rfl):PE X (.Call (.Name "len" p) [e] [] pos) (WA (fun xs H Q=> ∃p ys,xs=[.ref p]/\(bA X.K H p ys∨cg X.K H p ys)/\Q (.int ys.length) H) (IL te DA)):=
 cD zh hg hm PySem.boot_len (aa h av he) (by decide) (by decide) he gQ
theorem oW (ho:PE X o to)(h:PE X e te)(qF:attributeBase o "append" X.env (eval o X.env)=eval o X.env:=by rfl)
  (Oq:((backTo gG (starEach [e] X.env)).all (fun x=> !x.1) && (backToKw gG (keywordEach [] X.env)).all (fun x=>x.1.isSome)
   && decide ([e].length + ([]:List Keyword).length + (if([]:List Keyword).isEmpty then 0 else 1) < 30))=true:=by rfl)
  (uS:(apos.endLine == gG.line)=true:=by rfl) (hs:starEach [e] X.env=(false,eval e X.env) :: starEach [] X.env:=by rfl) (uT:(backTo gG (starEach [] X.env)).any (·.1)=false:=by rfl):PE X (.Call (.Attribute o "append" apos) [e] [] gG) (Zw X.K "list" EW to (IL te DA)):=
 RT PySem.F.plainAttrs_list PySem.F.slot_list_append PySem.F.type_list_append yg ho (aa h av hs) qF Oq uS hs uT
end
theorem Df.fe {P:Program}{w:World}{K:Frag}{mg:Str->Option Value}{base:Heap}{x:Str}{st:Stmt}{N ps:List Str}{k:Nat}{sp:Sp}(D:Df K mg x st)(S:aS N ps (ay st))
  (fX: ∀(f:Addr) (cU:Value) (A:Around) (outer:List Env) (s:Shared) (H:Hp) (vs:List V) (Q:VK) (E:XK),fb k (A.deeper (envOfC x (ay st) s.heap.objs.size f cU))->sp vs H Q E->
   ∃t,oS (lp sf P w K mg base N x (ay st) f cU A outer s H E).EK (dB st) t/\t {nx:=fun _ H'=>Q .eu H',rt:=Q} (start N vs) H)
  (hb: ∀(kV doc pm:Value) (an:Option Addr) (cU ct:Value) (us:List Value),us.length=ps.length->bindArgs (fnOf x x (gH st) (dB st) (ay st) .none kV doc pm an cU ct) ⟨us,[]⟩=pure (ps.zip us):=by intro _ _ _ _ _ _ us hl; rcases us with _|⟨_,_|⟨_,_|⟨_,_|⟨_,_|⟨_,_|⟨_,_|⟨_,_⟩⟩⟩⟩⟩⟩⟩ <;> first|(cases hl; done)|rfl)
  (len: ∀vs H Q E,sp vs H Q E->vs.length=ps.length:=by intro _ _ _ _ h; first|(cases h; subst_vars; rfl)|(repeat (first|(obtain⟨rfl,_⟩:=h; rfl; done)|obtain⟨_,h⟩:=h))):eM P w K mg base x (k + 1) ps sp:=D.cal S hb len fX
end L2
namespace eG
open PySem L2 PyProof.Rows K4
seal L2.oS L2.PS L2.PE L2.PT L2.PW L2.PA L2.PC L2.PG L2.KY L2.PI L2.LH L2.K0 L2.PO L2.oF L2.Nc L2.iN L2.IU L2.Oh
def top (i:Nat):Stmt:=PySem.Challenge.pw_spikebook_k09_ages.main.body.getD i (.Pass ⟨0,0,0,0⟩)
structure Txt (K:Frag)(mg:Str->Option Value):Prop where
 DU:Df K mg "place_of" (top 1)
 O6:Df K mg "fits" (top 15)
 w9:Df K mg "counts_from" (top 16)
 G5:Df K mg "bills_in_order" (top 17)
 DV:Df K mg "credits_in_order" (top 18)
 Mb:Df K mg "alike" (top 20)
 xa:Df K mg "first_alike" (top 21)
 zB:Df K mg "shared_out" (top 22)
 DW:Df K mg "parts_of" (top 23)
 vz:Df K mg "check_amount" (top 26)
 xc:Df K mg "row_of_fits" (top 27)
 O7:Df K mg "done" (top 30)
 zC:Df K mg "done_again" (top 31)
 G6:Df K mg "answers" (top 33)
 zE:Df K mg "answers_in" (top 34)
 BN:Df K mg "answer_of" (top 35)
 G7:Df K mg "owed_at" (top 36)
 G8:Df K mg "free_at" (top 37)
 vA:Df K mg "remaining_at" (top 38)
 xg:Df K mg "counting_at" (top 39)
 BO:Df K mg "counts_at" (top 40)
 G9:Df K mg "ages_at" (top 41)
 BP:Df K mg "_law_room" (top 43)
 BQ:Df K mg "_law_draw" (top 44)
 zF:Df K mg "_law_whole" (top 45)
 Hb:Df K mg "_law_at" (top 46)
 zG:Df K mg "_law_alike" (top 47)
 xh:Df K mg "_law_people" (top 48)
 xi:Df K mg "_law_penned" (top 49)
 xj:Df K mg "_law_chosen" (top 50)
 zH:Df K mg "_law_hasty" (top 51)
 xk:Df K mg "_law_due_in" (top 52)
 zI:Df K mg "_law_deeds" (top 53)
 zJ:Df K mg "_law_begun" (top 54)
 BR:Df K mg "_law_goes" (top 55)
 DX:Df K mg "_law_put" (top 56)
 vB:Df K mg "_law_in_turn" (top 57)
 zK:Df K mg "_law_swept" (top 58)
 xm:Df K mg "_law_barred" (top 59)
 zL:Df K mg "_law_enter" (top 60)
 xn:Df K mg "_law_worked" (top 61)
 zM:Df K mg "_law_tells" (top 62)
 BS:Df K mg "_law_done" (top 63)
 xp:Df K mg "_law_at_day" (top 64)
 BU:Df K mg "_law_aged" (top 65)
 tZ:Df K mg "_law_reported" (top 66)
 oJ:Df K mg "_law_gone_through" (top 67)
 Z3:Df K mg "law" (top 68)
 dD:mg "len"=none
 dj:mg "isinstance"=none
 vC:mg "int"=none
 O8:mg "bool"=none
 Fq:mg "str"=none
 vE:mg "list"=none
 uu:mg "tuple"=none
 jA:mg "range"=none
 JF:mg "min"=none
 Nr:mg "max"=none
 BV:mg "sum"=none
 qR:mg "sorted"=none
 jh:mg "enumerate"=none
 O9:mg "dict"=none
 BW:mg "Exception"=none
end eG
namespace L2
open PySem PySem.Spec PySem.W PyProof.Rows K4
structure XB (P:Program)(w:World)(K:Frag)(mg:Str->Option Value)(base:Heap)(k:Nat)(fa:Addr)(sp:Sp):Prop where
 ex: ∃(fd:FuncData) (ps:List Str),l0 P w K mg base sf k fa fd ps sp/\keepIn K (.ref fa)=true/\Binds K fd ps []
theorem eM.Z4 {P:Program}{w:World}{K:Frag}{mg:Str->Option Value}{base:Heap}{x:Str}{k:Nat}{ps:List Str}{sp:Sp}(C:eM P w K mg base x k ps sp): ∃fa,mg x=some (.ref fa)/\XB P w K mg base k fa sp:=by
 obtain⟨f,fd,F,hm,hk,hb⟩:=C.ex
 exact⟨f,hm,⟨fd,ps,F,hk,hb⟩⟩
section
variable {X:Cx}{x:Str}{i k:Nat}{e:Expr}{es:List Expr}{t:TA}{p pos:Pos}
def Pa (P:Program)(w:World)(K:Frag)(mg:Str->Option Value)(base:Heap)(k i:Nat)(t:TA):TE:=fun σ H Q=> ∃fa sp,σ[i]? =some (some (.ref fa))/\XB P w K mg base k fa sp/\t σ H fun vs H1=>sp vs H1 Q E0
theorem Pb (hr:fb k X.A)(hN:X.N[i]? =some x)(hv:Ro X.env.scope x)(ha:PA X (e :: es) t)(hd:(x == ("__debug__":Str))=false:=by decide)(rK:(x == ("__classdict__":Str))=false:=by decide)
  (he:starEach (e :: es) X.env=(false,eval e X.env) :: starEach es X.env:=by rfl) (gQ:(backTo pos (starEach es X.env)).any (·.1)=false:=by rfl):PE X (.Call (.Name x p) (e :: es) [] pos) (Pa X.prog X.w X.K X.mg X.base k i t):=by
 rintro pins s σ H Q I ⟨fa,sp,e1,⟨fd,ps,F,hk,hb⟩,h⟩
 refine eJ (dR (Dp hN hv hd rK pins s σ H (fun v H'=>v= .ref fa/\H'=H) I ⟨_,e1,rfl,rfl⟩) ?_)
 rintro u s1 ⟨v,H1,I1,rv,rfl,rfl⟩
 obtain rfl:u=Value.ref fa:=rv
 refine km (h₀:=X.base) I.ok.mod.Lm hk (dR (ha pos pins s1 σ H1 _ I1 h) fun us s2 ⟨vs,H2,I2,r,q⟩=>⟨I2.gO,?_⟩) he gQ
 exact y1 F hr hb .nil mY I2 r (by rw[bR]; exact q)
end
theorem BX {X:Cx}:iN X (.type "dict") (fun xs H Q=> ∃a bc,xs=[.ref a]/\H a=some (.dK bc)/\ ∀p,H p=none->Q (.ref p) (upd H p (.dK bc))):=by
 intro pins s σ H xs us Q I r h
 obtain⟨a,bc,rfl,e,q⟩:=h
 obtain⟨u,rfl,ru⟩:=vals1 r
 cases ru
 exact Jd I (.inl e) fun p s' hp I'=>⟨.ref p,_,I',rfl,q p hp⟩
def Fs (P:Program)(w:World)(d:Addr)(bc:List (Key×V))(φ:Heap->Prop):Prop:=(∀(H:Hp) (h:Heap),φ h->dA P w H h d (.dK bc))/\ ∀q:Str,φ≠fun h=>h.CodeRec (.ref d) q
def S7 (P:Program)(w:World)(td:TE)(g:TG)(tb:TS):TS:=fun D σ H=>td σ H fun v H1=> ∃d bc,v= .ref d/\H1 d=some (.dK bc)/\ ∀φ,Fs P w d bc φ->
 ∃W:Nat->Nat->St->Hp->Prop,(∃m,W 0 m σ (upd H1 d (.ext φ)))/\ ∀i m σ' H',W i m σ' H'->H' d=some (.ext φ)/\((bc.length<=i/\D.nx σ' (upd H' d (.dK bc)))∨
  ∃x,(bc.map (·.2))[i]? =some x/\ ∃N:St->Hp->Prop,(∀LM sh,N LM sh-> ∃m',m' < m/\W (i + 1) m' LM sh)/\g x σ' H' fun σ2 H2=>tb {D with nx:=N,ct:=N,bk:=fun _ _=>False} σ2 H2)
theorem Mc {X:Cx}{tg o:Expr}{apos gG pos:Pos}{body:List Stmt}{td:TE}{g:TG}{tb:TS}(hp:PassesOwn (model X.prog X.w) X.A X.env X.xe)(hc:X.calm=true)(ho:PE X o td)(hg:PG X tg g)(hb:oS X body tb)
  (qF:attributeBase o "values" X.env (eval o X.env)=eval o X.env:=by rfl) (uS:(apos.endLine == gG.line)=true:=by rfl)
  (hs: ∀x,foldedSetIterable (.Call (.Attribute o "values" apos) [] [] gG) X.env x=pure x:=by intro _; rfl):PS X (.For tg (.Call (.Attribute o "values" apos) [] [] gG) body [] pos) (S7 X.prog X.w td g tb):=by
 intro pins s σ H D I h
 refine wpAny_For (wpAny_Call_method0_late qF uS (dR (ho pins s σ H _ I h) ?_)) hs
 rintro u s1 ⟨v,H1,I1,rv,d,bc,rfl,ed,h⟩
 obtain rfl:u=Value.ref d:=rv
 obtain⟨hz,hd,vs,rel,dd⟩:=EY I1.cu ed
 refine⟨"dict","dict.values",PySem.F.plainAttrs_dict,QD,PySem.F.type_dict_values,dd.typeIs,dd.mapOf.noDict,iR rfl (PySem.evalArgs_none ?_)⟩
 refine call_meetsIn QD dd.typeIs PySem.F.entry_dict_values (PySem.F.args_dict_values_1 _) (meets_dict_values (dS X.prog X.w) d hd) ⟨⟨vs,dd⟩,?_⟩
 have I2:=I1.kept (t':=s1.toks) (h':=s1.heap.push {cls:= .type "dict_values",data:= .fields #[.ref d]}) (fun b ob e=>ax _ e)
 obtain⟨ep,da⟩:=dd.dictAt
 obtain⟨od,es,O2,r⟩:=id da
 have XC: ∀h:Heap,h.get? d=some od->h.DictAt (dS X.prog X.w) d vs ep:=fun h e=>⟨od,es,e,r⟩
 have Z5:Fs X.prog X.w d bc (fun h=>h.get? d=some od):=⟨fun H h e=>⟨hz,hd,vs,rel,⟨od,es,ep,e,r⟩⟩,fun q z=>by
  have z1:(s1.heap.get? d=some od)=s1.heap.CodeRec (.ref d) q:=congrFun z s1.heap
  obtain⟨c,o,Xo,t,e1,e2,e3,_⟩:=Eq.mp z1 O2
  cases e1
  rw[O2] at e2
  cases e2
  rw[r.2.1] at e3
  cases e3⟩
 obtain⟨W,⟨m0,w0⟩,turn⟩:=h _ Z5
 generalize Z6:s1.heap.push {cls:= .type "dict_values",data:= .fields #[.ref d]}=h2 at I2
 have Vs:h2.IsValuesView s1.heap.objs.size d:=by
  rw[← Z6]
  exact⟨_,bL _ rfl,rfl,rfl⟩
 have S8:h2.get? d=some od:=by
  rw[← Z6]
  exact ax _ O2
 refine wpAny_pyIter_values (knd:=dS X.prog X.w) Vs (XC _ S8) ?_
 have I3:=I2.kept (t':=s1.toks) (h':=h2.push {cls:= .type "dict_valueiterator",data:= .fields #[.ref d,.int 0 0,.int vs.length 0,.int ep 0]}) (fun b ob e=>ax _ e)
 have Pc:(h2.push {cls:= .type "dict_valueiterator",data:= .fields #[.ref d,.int 0 0,.int vs.length 0,.int ep 0]}).IsValIter h2.objs.size d 0 vs.length ep:=⟨_,bL _ rfl,rfl,rfl⟩
 have Md:(h2.push {cls:= .type "dict_valueiterator",data:= .fields #[.ref d,.int 0 0,.int vs.length 0,.int ep 0]}).get? d=some od:=ax _ S8
 have Dd:H1 h2.objs.size=none:=I2.cu.fresh (aE _)
 have je:d≠h2.objs.size:=aJ ed Dd
 have XD:=I2.Dr (aE _) Dd
 generalize h2.push {cls:= .type "dict_valueiterator",data:= .fields #[.ref d,.int 0 0,.int vs.length 0,.int ep 0]}=h3 at I3 Pc Md
 generalize h2.objs.size=it at Pc Dd je XD
 have I4:Inv X pins σ (upd H1 d (.ext fun h=>h.get? d=some od)) {s1 with heap:=h3}:=by
  refine I3.write (x:=d) (e:=d) (t':=s1.toks) (h':=h3) (by rw[ed]; exact True.intro) (.inl rfl) (fun _ _ _ q=>q) ⟨od,Md⟩ ?_
  exact⟨Md,⟨od,Md⟩,fun h1 h2 q k=>k od q⟩
 have fit:upd H1 d (.ext fun h=>h.get? d=some od) it=none:=by
  rw[az je.symm]
  exact Dd
 have S5:vs.length=bc.length:=(aL rel).symm
 refine codeAny_forLoop_any (fun n s'=> ∃i σ' H',Inv X pins σ' H' s'/\s'.heap.IsValIter it d i vs.length ep/\H' it=none/\W i n σ' H') ?_ m0 ⟨0,σ,_,I4,Pc,fit,w0⟩
 rintro n s5 ⟨i,σ5,H5,I5,Z7,QH,w5⟩
 obtain⟨e5,tn⟩:=turn i n σ5 H5 w5
 have XE:s5.heap.get? d=some od:=(I5.cu d _ e5).1
 have f5:uM X pins H5 it:=⟨QH,XD.2⟩
 obtain⟨f0,f1,f2,f3,f4,f6⟩:=f5
 rcases tn with⟨hle,qn⟩|⟨x,hx,N,hN,step⟩
 ·refine dJ hp (wpAny_pyNext_values_end (knd:=dS X.prog X.w) (I5.ok.hd hc) Z7 (XC _ XE) (by rw[jm]; lia) fun h6 eb=>?_)
  have I6:Inv X pins σ5 H5 {s5 with heap:=h6}:=I5.turned (t':=s5.toks) (fun b o hb e=>eb b o hb e) f0 f1 f3 f4 f6
  have Z8:h6.get? d=some od:=eb d od je XE
  have I7:=I6.write (x:=d) (e:=d) (t':=s5.toks) (h':=h6) (o:= .dK bc) (by rw[e5]; exact True.intro) (.inl rfl) (fun _ _ _ q=>q) ⟨od,Z8⟩ (Z5.1 _ _ Z8)
  exact jn ⟨σ5,_,I7,qn⟩
 ·rw[aB] at hx
  obtain⟨kv,Vt,rfl⟩:=bo.mp hx
  obtain⟨ku,hku,e1,ru⟩:=bI rel Vt
  obtain⟨k1,u⟩:=ku
  refine dJ hp (wpAny_pyNext_values_item (knd:=dS X.prog X.w) Z7 (XC _ XE) hku fun h6 it6 sb=>?_)
  have I6:Inv X pins σ5 H5 {s5 with heap:=h6}:=I5.turned (t':=s5.toks) (fun b o hb e=>(sb.2 b hb).trans e) f0 f1 f3 f4 f6
  obtain⟨oi,GO,QJ,XF⟩:=id it6
  refine dJ hp (Bn (s:={s5 with heap:=h6}) GO QJ XF (by decide +kernel) ?_)
  have I6':Inv X (pins ++ pJ [it] h6) σ5 H5 {s5 with heap:=h6}:=I6.pinned (fun b hb=>by rw[ao.mp hb]; exact⟨QH,XD.2⟩) (fun b hb=>by
   rw[ao.mp hb]
   exact⟨oi,GO,fun v z=>by rw[XF] at z; cases z⟩)
  refine dJ hp (dR (hg _ _ σ5 H5 kv.2 u _ I6' ru step) fun _ s7 ⟨σ7,H7,I7,q7⟩=>?_)
  refine dJ hp (dR (hb _ s7 σ7 H7 _ I7 q7) fun f s8 q8=>?_)
  have again: ∀{σ8:St} {H8:Hp},Inv X (pins ++ pJ [it] h6) σ8 H8 s8->N σ8 H8-> ∃m,m < n/\ ∃i σ' H',Inv X pins σ' H' s8/\s8.heap.IsValIter it d i vs.length ep/\H' it=none/\W i m σ' H':=fun{σ8 H8} I8 n8=>by
   obtain⟨m',hm,w8⟩:=hN σ8 H8 n8
   have pn:=I8.pin (it,oi) (List.mem_append_right _ (List.mem_append_right _ (jL (by simp) GO)))
   exact⟨m',hm,i + 1,σ8,H8,I8.jc,⟨oi,pn.1,QJ,XF⟩,pn.2.1,w8⟩
  cases f with
  |next=>obtain⟨σ8,H8,I8,n8⟩:=q8; exact again I8 n8
  |cont=>obtain⟨σ8,H8,I8,n8⟩:=q8; exact again I8 n8
  |brk=>obtain⟨σ8,H8,I8,q8⟩:=q8; exact q8.elim
  |ret v=>obtain⟨x8,σ8,H8,I8,r8,q8⟩:=q8; exact⟨x8,σ8,H8,I8.jc,r8,q8⟩
theorem JG {P:Program}{w:World}{td:TE}{g:TG}{tb:TS}{D:Ends}{σ:St}{H1:Hp}{d:Addr}{bc:List (Key×V)}(ed:H1 d=some (.dK bc))
  (h: ∀φ,Fs P w d bc φ-> ∃Pv:Nat->St->Hp->Prop,Pv 0 σ (upd H1 d (.ext φ))/\(∀i σ' H',Pv i σ' H'->H' d=some (.ext φ))/\(∀i x σ' H',(bc.map (·.2))[i]? =some x->Pv i σ' H'->g x σ' H' fun σ2 H2=>tb {D with nx:=Pv (i + 1),ct:=Pv (i + 1),bk:=fun _ _=>False} σ2 H2)/\
   ∀σ' H',Pv bc.length σ' H'->D.nx σ' (upd H' d (.dK bc))):
  ∃d' JH,V.ref d= .ref d'/\H1 d'=some (.dK JH)/\ ∀φ,Fs P w d' JH φ->
 ∃W:Nat->Nat->St->Hp->Prop,(∃m,W 0 m σ (upd H1 d' (.ext φ)))/\ ∀i m σ' H',W i m σ' H'->H' d'=some (.ext φ)/\((JH.length<=i/\D.nx σ' (upd H' d' (.dK JH)))∨
  ∃x,(JH.map (·.2))[i]? =some x/\ ∃N:St->Hp->Prop,(∀LM sh,N LM sh-> ∃m',m' < m/\W (i + 1) m' LM sh)/\g x σ' H' fun σ2 H2=>tb {D with nx:=N,ct:=N,bk:=fun _ _=>False} σ2 H2):=by
 refine⟨d,bc,rfl,ed,fun φ hφ=>?_⟩
 obtain⟨Pv,p0,pk,ps,pe⟩:=h φ hφ
 refine⟨fun i m σ' H'=>m=bc.length - i/\i<=bc.length/\Pv i σ' H',⟨bc.length,by simp,Nat.zero_le _,p0⟩,?_⟩
 rintro i m σ' H' ⟨rfl,hi,p⟩
 refine⟨pk i σ' H' p,?_⟩
 by_cases iu:i < bc.length
 ·have hg:(bc.map (·.2))[i]? =some bc[i].2:=by rw[aB,af iu]; rfl
  exact .inr ⟨_,hg,Pv (i + 1),fun LM sh p'=>⟨bc.length - (i + 1),by lia,rfl,iu,p'⟩,ps i _ σ' H' hg p⟩
 ·have e:i=bc.length:=by lia
  subst e
  exact .inl ⟨aE _,pe σ' H' p⟩
theorem nu {α:Type}(f:α->Int): ∀(l2 l1:List α),l1.Perm l2->l1.Pairwise (fun a b=>f a<=f b)->l2.Pairwise (fun a b=>f a < f b)->l1=l2
 |[],l1,p,_,_=>List.Perm.eq_nil p
 |b :: l2,[],p,_,_=>absurd p.length_eq (by simp)
 |b :: l2,a :: l1,p,h1,h2=>by
  rw[en] at h1 h2
  have hb:b∈a :: l1:=p.mem_iff.mpr bJ
  have e:a=b:=by
   rcases aw.mp (p.mem_iff.mp (bJ (a:=a) (l:=l1))) with e|ha
   ·exact e
   ·rcases aw.mp hb with e|hb
    ·exact e.symm
    ·have z1:=h1.1 b hb
     have z2:=h2.1 a ha
     lia
  subst e
  rw[nu f l2 l1 (List.Perm.cons_inv p) h1.2 h2.2]
theorem Me {x y:Int×Nat}(hx:x.2 < 1000)(hy:y.2 < 1000)(h:tX x=tX y):x.2=y.2:=by
 unfold tX at h
 lia
theorem BY {l:List (Int×Nat)}(h: ∀x∈l,x.2 < 1000)(nd:(l.map (·.2)).Nodup):(ez l).Pairwise (fun a b=>tX a < tX b):=by
 have p:=dg l
 have Vu:((ez l).map (·.2)).Nodup:=(p.map (·.2)).nodup_iff.mpr nd
 have h': ∀x∈ez l,x.2 < 1000:=fun x hx=>h x (p.mem_iff.mp hx)
 have le:=vd l
 generalize ez l=m at Vu h' le
 induction m with
 |nil=>exact .nil
 |cons a m ih=>
  rw[en] at le ⊢
  rw[de,fO] at Vu
  refine⟨fun b hb=>?_,ih Vu.2 (fun x hx=>h' x (ba _ hx)) le.2⟩
  have z:=le.1 b hb
  have n:tX a≠tX b:=fun e=>Vu.1 (by
   rw[Me (h' a bJ) (h' b (ba _ hb)) e]
   exact bF.mpr ⟨b,hb,rfl⟩)
  lia
def ua (t:List Int):Int:=t.getD 0 0 * 1000 + t.getD 1 0
theorem qS {x y:Int×Nat}{u v:List Int}(hx:x.2 < 1000)(hy:y.2 < 1000)(h:x.2=y.2->u=v/\x=y)(hs:HT.lexLt u u=false):HT.lexLt (x.1 :: (x.2:Int) :: u) (y.1 :: (y.2:Int) :: v)=decide (ua (x.1 :: (x.2:Int) :: u) < ua (y.1 :: (y.2:Int) :: v)):=by
 show _ =decide (x.1 * 1000 + (x.2:Int) < y.1 * 1000 + (y.2:Int))
 rw[HT.l4]
 by_cases c:x.1=y.1
 ·rw[a8 c,HT.l4]
  by_cases d:x.2=y.2
  ·rw[a8 (by lia),← (h d).1,hs,bp (by lia)]
  ·rw[aU (by lia)]
   exact mI.mpr (by lia)
 ·rw[aU c]
  exact mI.mpr (by lia)
theorem tu {ks:List (Int×Nat)}{g:Int×Nat->List Int}{us:List (List Int)}(h: ∀x∈ks,x.2 < 1000)(nd:(ks.map (·.2)).Nodup)(hg: ∀x∈ks,ua (g x)=tX x)(p:us.Perm (ks.map g))(le:us.Pairwise (fun t u=>ua t<=ua u)):us=(ez ks).map g:=by
 refine nu ua _ _ (p.trans ((dg ks).map g).symm) le ?_
 rw[rQ]
 refine(BY h nd).imp_of_mem fun{a b} ha hb z=>?_
 rw[hg a ((dg ks).mem_iff.mp ha),hg b ((dg ks).mem_iff.mp hb)]
 exact z
theorem di.tk {H H':Hp}{sd:Addr}{S:Bk}{f:fB}(h:di H sd S f)(k:Frame f.fp H H'):cH H H':=fun b xs e=>k b _ (fun hb=>by
 obtain⟨ms,m1,_⟩:=h.hm
 unfold fB.fp at hb
 rcases aw.mp hb with rfl|hb
 ·rw[h.hb] at e; cases e
 ·rcases aw.mp hb with rfl|hb
  ·rw[h.hc] at e; cases e
  ·rcases aw.mp hb with rfl|hb
   ·rw[m1] at e; cases e
   ·have rows: ∀(rs:List Rw) (ps:List Addr),eU H rs ps->b∈ps->False:=fun rs ps hr hp=>by
     obtain⟨i,hi⟩:=yY hp
     have iu:i < rs.length:=by
      rw[hr.length]
      exact(ak.mp hi).1
     obtain⟨q,e1,e2⟩:=hr.at iu
     rw[e1] at hi
     cases hi
     rw[e2] at e
     cases e
    rcases bq.mp hb with hb|hb
    ·exact rows _ _ h.rb hb
    ·exact rows _ _ h.rc hb) e
theorem Frame.mi {fp:List Addr}{H1 H2 H3:Hp}(a:aD H1 H2)(b:Frame fp H2 H3):Frame fp H1 H3:=fun x o hx e=>b x o hx (a x o e)
theorem Frame.cX {fp:List Addr}{H1 H2 H3:Hp}(a:Frame fp H1 H2)(b:aD H2 H3):Frame fp H1 H3:=fun x o hx e=>b x o (a x o hx e)
theorem Frame.tr {fp:List Addr}{H1 H2 H3:Hp}(a:Frame fp H1 H2)(b:Frame fp H2 H3):Frame fp H1 H3:=fun x o hx e=>b x o hx (a x o hx e)
def BJ.dt:BJ->Dt
 | .int i=> .int i
 | .txt s=> .str s
 | .sets l=> .lst (l.map fun t=> .tup [.int t.1,.int t.2.1,.int t.2.2])
 | .pairs l=> .lst (l.map fun t=> .tup [.int t.1,.int t.2])
 | .ints l=> .lst (l.map Dt.int)
theorem ie.QU {H:Hp}: ∀{ms:List (Nat×Nat×Int)} {vs:List V},ie H ms vs->hV H (ms.map fun t=> .tup [.int t.1,.int t.2.1,.int t.2.2]) vs
 |_,_,.nil=>cQ.mpr rfl
 |_,_,.cons ⟨p,e,q⟩ t=>by
  subst e
  exact bC.mpr ⟨_,_,rfl,eF q (bC.mpr ⟨_,_,rfl,dm.mpr rfl,bC.mpr ⟨_,_,rfl,dm.mpr rfl,bC.mpr ⟨_,_,rfl,dm.mpr rfl,cQ.mpr rfl⟩⟩⟩),ie.QU t⟩
def fB.kA (f:fB)(p:Addr):fB:={f with iA:=f.iA ++ [p]}
def fB.ip (f:fB)(p:Addr):fB:={f with cps:=f.cps ++ [p]}
theorem fB.JI (f:fB)(p:Addr):(f.kA p).fp.Perm (p :: f.fp):=by
 show(f.pb :: f.pc :: f.pm :: ((f.iA ++ [p]) ++ f.cps)).Perm (p :: f.pb :: f.pc :: f.pm :: (f.iA ++ f.cps))
 have h:((f.iA ++ [p]) ++ f.cps).Perm (p :: (f.iA ++ f.cps)):=by
  rw[eL]
  exact List.perm_middle
 exact(((h.cons f.pm).trans (List.Perm.swap _ _ _)).cons f.pc |>.trans (List.Perm.swap _ _ _)).cons f.pb |>.trans (List.Perm.swap _ _ _)
theorem fB.Ft (f:fB)(p:Addr):(f.ip p).fp.Perm (p :: f.fp):=by
 show(f.pb :: f.pc :: f.pm :: (f.iA ++ (f.cps ++ [p]))).Perm (p :: f.pb :: f.pc :: f.pm :: (f.iA ++ f.cps))
 have h:(f.iA ++ (f.cps ++ [p])).Perm (p :: (f.iA ++ f.cps)):=by
  rw[← eL]
  exact List.perm_append_singleton _ _
 exact(((h.cons f.pm).trans (List.Perm.swap _ _ _)).cons f.pc |>.trans (List.Perm.swap _ _ _)).cons f.pb |>.trans (List.Perm.swap _ _ _)
theorem di.off {H:Hp}{sd D:Addr}{S:Bk}{f:fB}(h:di H sd S f)(n:H D=none):D∉f.fp:=fun z=>by
 obtain⟨ms,m1,_⟩:=h.hm
 have rows: ∀(rs:List Rw) (ps:List Addr),eU H rs ps->D∈ps->False:=fun rs ps hr hp=>by
  obtain⟨i,hi⟩:=yY hp
  have iu:i < rs.length:=by
   rw[hr.length]
   exact(ak.mp hi).1
  obtain⟨q,e1,e2⟩:=hr.at iu
  rw[e1] at hi
  cases hi
  rw[n] at e2
  cases e2
 unfold fB.fp at z
 rcases aw.mp z with rfl|z
 ·have:=h.hb; rw[n] at this; cases this
 rcases aw.mp z with rfl|z
 ·have:=h.hc; rw[n] at this; cases this
 rcases aw.mp z with rfl|z
 ·rw[n] at m1; cases m1
 rcases bq.mp z with z|z
 ·exact rows _ _ h.rb z
 ·exact rows _ _ h.rc z
section
variable {H:Hp}{sd pr:Addr}{S:Bk}{f:fB}{r:Rw}
theorem di.kA (h:di H sd S f)(n:H pr=none):di (upd (upd H pr (.lst r.vs)) f.pb (.lst (f.iA.map V.ref ++ [.ref pr]))) sd (S.kA r) (f.kA pr):=by
 have s1:aD H (upd H pr (.lst r.vs)):=aD.new n
 have h1:=h.same s1
 have g1:upd H pr (.lst r.vs) pr=some (.lst r.vs):=ag
 have np:=h.off n
 have Mf:sd≠pr:=aJ h.dict n
 generalize upd H pr (.lst r.vs)=H1 at s1 h1 g1
 obtain⟨d1,d2,d3,d4,d5,d6,d7⟩:=fB.Sw h.nd
 obtain⟨ms,m1,m2⟩:=h1.hm
 have es:sd≠f.pb:=fun z=>h.ns (by rw[z]; simp[fB.fp])
 have ep:pr≠f.pb:=fun z=>np (by rw[z]; simp[fB.fp])
 refine⟨by rw[az es]; exact h1.dict,?_,by rw[show(f.kA pr).pc=f.pc from rfl,az d1.symm]; exact h1.hc,⟨ms,by rw[show(f.kA pr).pm=f.pm from rfl,az d2.symm]; exact m1,m2.mono (dQ h1.hb)⟩,?_,?_,?_,?_⟩
 ·show upd H1 f.pb _ f.pb=some (.lst ((f.iA ++ [pr]).map V.ref))
  rw[ag,aK]; rfl
 ·exact cz (h1.rb.ig fun z=>(d4 _ z).1 rfl) (by rw[az ep]; exact g1)
 ·exact h1.rc.ig fun z=>(d5 _ z).1 rfl
 ·exact(f.JI pr).nodup_iff.mpr (fO.mpr ⟨np,h.nd⟩)
 ·intro z
  rcases aw.mp ((f.JI pr).mem_iff.mp z) with z|z
  ·exact Mf z
  ·exact h.ns z
theorem di.ip (h:di H sd S f)(n:H pr=none):di (upd (upd H pr (.lst r.vs)) f.pc (.lst (f.cps.map V.ref ++ [.ref pr]))) sd (S.ip r) (f.ip pr):=by
 have s1:aD H (upd H pr (.lst r.vs)):=aD.new n
 have h1:=h.same s1
 have g1:upd H pr (.lst r.vs) pr=some (.lst r.vs):=ag
 have np:=h.off n
 have Mf:sd≠pr:=aJ h.dict n
 generalize upd H pr (.lst r.vs)=H1 at s1 h1 g1
 obtain⟨d1,d2,d3,d4,d5,d6,d7⟩:=fB.Sw h.nd
 obtain⟨ms,m1,m2⟩:=h1.hm
 have es:sd≠f.pc:=fun z=>h.ns (by rw[z]; simp[fB.fp])
 have ep:pr≠f.pc:=fun z=>np (by rw[z]; simp[fB.fp])
 refine⟨by rw[az es]; exact h1.dict,by rw[show(f.ip pr).pb=f.pb from rfl,az d1]; exact h1.hb,?_,⟨ms,by rw[show(f.ip pr).pm=f.pm from rfl,az d3.symm]; exact m1,m2.mono (dQ h1.hc)⟩,?_,?_,?_,?_⟩
 ·show upd H1 f.pc _ f.pc=some (.lst ((f.cps ++ [pr]).map V.ref))
  rw[ag,aK]; rfl
 ·exact h1.rb.ig fun z=>(d4 _ z).2.1 rfl
 ·exact cz (h1.rc.ig fun z=>(d5 _ z).2.1 rfl) (by rw[az ep]; exact g1)
 ·exact(f.Ft pr).nodup_iff.mpr (fO.mpr ⟨np,h.nd⟩)
 ·intro z
  rcases aw.mp ((f.Ft pr).mem_iff.mp z) with z|z
  ·exact Mf z
  ·exact h.ns z
end
structure dY where
 dW:Addr
 d8:Addr
 work:Addr
 book:Addr
 refusal:Addr
 jY:Addr
 pV:Addr
 jH:Addr
 iD:Addr
 tooEarly:Addr
 tooMuch:Addr
 jI:Addr
 iZ:Addr
def eA (H:Hp)(p C:Addr)(fs:List (Str×V)):Prop:= ∃dx,H p=some (.ins C dx fs)
theorem eA.same {H H':Hp}{p C:Addr}{fs:List (Str×V)}(h:eA H p C fs)(s:aD H H'):eA H' p C fs:=let⟨dx,e⟩:=h; ⟨dx,s _ _ e⟩
theorem eA.frame {H H':Hp}{p C:Addr}{fs:List (Str×V)}{fp:List Addr}(h:eA H p C fs)(s:Frame fp H H')(n:p∉fp):eA H' p C fs:=let⟨dx,e⟩:=h; ⟨dx,s _ _ n e⟩
def tw (c:Int):V:=if c= -1 then .eu else .int c
def fC (i:Nat)(r:Rw):List (Str×V):=[("number",.int i),("who",.str r.aH),("day",.int r.a),("due",.int r.b),("amount",.int r.c)]
def ff (i:Nat)(r:Rw):List (Str×V):=[("number",.int i),("who",.str r.aH),("day",.int r.a),("amount",.int r.b),("only",tw r.c)]
section
variable (i:Nat)(r:Rw)
theorem lE:(fC i r).lookup ("number":Str)=some (V.int i):=by rfl
theorem DY:(fC i r).lookup ("who":Str)=some (V.str r.aH):=by rfl
theorem Pd:(fC i r).lookup ("day":Str)=some (V.int r.a):=by rfl
theorem JJ:(fC i r).lookup ("due":Str)=some (V.int r.b):=by rfl
theorem oq:(ff i r).lookup ("number":Str)=some (V.int i):=by rfl
theorem JK:(ff i r).lookup ("who":Str)=some (V.str r.aH):=by rfl
theorem JL:(ff i r).lookup ("day":Str)=some (V.int r.a):=by rfl
theorem Mg:(ff i r).lookup ("only":Str)=some (tw r.c):=by rfl
end
structure eN where
 pb:Addr
 pc:Addr
 pl:Addr
 pf:Addr
 pm:Addr
 iA:List Addr
 cps:List Addr
def eN.fp (f:eN):List Addr:=[f.pb,f.pc,f.pl,f.pf,f.pm]
def lF (f:eN):List (Str×V):=[("bills",.ref f.pb),("all_credits",.ref f.pc),("lefts",.ref f.pl),("frees",.ref f.pf),("made",.ref f.pm)]
theorem ji (f:eN):(lF f).lookup ("bills":Str)=some (V.ref f.pb):=by rfl
theorem g9 (f:eN):(lF f).lookup ("all_credits":Str)=some (V.ref f.pc):=by rfl
theorem lG (f:eN):(lF f).lookup ("lefts":Str)=some (V.ref f.pl):=by rfl
theorem lH (f:eN):(lF f).lookup ("frees":Str)=some (V.ref f.pf):=by rfl
theorem Fu (f:eN):(lF f).lookup ("made":Str)=some (V.ref f.pm):=by rfl
def gw (H:Hp)(C:Addr)(fs:Nat->Rw->List (Str×V))(rows:List Rw)(ps:List Addr):Prop:=ps.length=rows.length/\ ∀i p,ps[i]? =some p->eA H p C (fs i (rows.getD i default))
theorem gw.keep {H H':Hp}{C:Addr}{fs:Nat->Rw->List (Str×V)}{rows:List Rw}{ps:List Addr}(h:gw H C fs rows ps)(k: ∀p dx gs,H p=some (.ins C dx gs)->H' p=some (.ins C dx gs)):gw H' C fs rows ps:=
 ⟨h.1,fun i p e=>let⟨dx,z⟩:=h.2 i p e; ⟨dx,k _ _ _ z⟩⟩
theorem gw.get {H:Hp}{C:Addr}{fs:Nat->Rw->List (Str×V)}{rows:List Rw}{ps:List Addr}(h:gw H C fs rows ps){i:Nat}(hi:i < rows.length): ∃p,ps[i]? =some p/\eA H p C (fs i (rows.getD i default)):=by
 have iu:i < ps.length:=by rw[h.1]; exact hi
 exact⟨ps[i],af iu,h.2 i _ (af iu)⟩
theorem gw.rows {H:Hp}{C:Addr}{fs:Nat->Rw->List (Str×V)}{rows iy:List Rw}{ps:List Addr}(h:gw H C fs rows ps)(hl:iy.length=rows.length)(e: ∀i,fs i (iy.getD i default)=fs i (rows.getD i default)):gw H C fs iy ps:=
 ⟨h.1.trans hl.symm,fun i p z=>by rw[e]; exact h.2 i p z⟩
theorem gw.add {H:Hp}{C p:Addr}{fs:Nat->Rw->List (Str×V)}{rows:List Rw}{r:Rw}{ps:List Addr}(h:gw H C fs rows ps)(n:eA H p C (fs rows.length r)):gw H C fs (rows ++ [r]) (ps ++ [p]):=by
 refine⟨by rw[aC,aC,h.1]; rfl,fun i q e=>?_⟩
 by_cases hi:i < ps.length
 ·rw[qu hi] at e
  rw[getD_snoc (by rw[← h.1]; exact hi)]
  exact h.2 i q e
 ·rw[i7 (by lia)] at e
  have e0:i - ps.length=0:=by
   have:=(ak.mp e).1
   simp at this
   lia
  rw[e0] at e
  obtain rfl:p=q:=by simpa using e
  obtain rfl:i=rows.length:=by have:=h.1; lia
  rw[getD_last]
  exact n
structure dE (A:dY)(H:Hp)(pw:Addr)(S:Bk)(f:eN):Prop where
 obj:eA H pw A.work (lF f)
 hb:H f.pb=some (.lst (f.iA.map V.ref))
 hc:H f.pc=some (.lst (f.cps.map V.ref))
 hl:H f.pl=some (.lst (S.aI.map fun r=>V.int r.d))
 hf:H f.pf=some (.lst (S.credits.map fun r=>V.int r.d))
 hm: ∃ms,H f.pm=some (.lst ms)/\ie H S.made ms
 rb:gw H A.dW fC S.aI f.iA
 rc:gw H A.d8 ff S.credits f.cps
 nd:f.fp.Nodup
section
variable {A:dY}{H H':Hp}{pw:Addr}{S:Bk}{f:eN}
theorem dE.lists (h:dE A H pw S f): ∀p∈f.fp,∃xs,H p=some (.lst xs):=fun p hp=>by
 obtain⟨ms,m1,_⟩:=h.hm
 simp only[eN.fp,List.mem_cons,List.not_mem_nil,or_false] at hp
 rcases hp with rfl|rfl|rfl|rfl|rfl
 ·exact⟨_,h.hb⟩
 ·exact⟨_,h.hc⟩
 ·exact⟨_,h.hl⟩
 ·exact⟨_,h.hf⟩
 ·exact⟨_,m1⟩
theorem dE.off (h:dE A H pw S f){p:Addr}(n: ∀xs,H p≠some (.lst xs)):p∉f.fp:=fun z=>by
 obtain⟨xs,e⟩:=h.lists p z
 exact n xs e
theorem dE.new (h:dE A H pw S f){p:Addr}(n:H p=none):p∉f.fp:=h.off fun xs e=>by rw[n] at e; cases e
theorem dE.ins (h:dE A H pw S f){p C:Addr}{fs:List (Str×V)}(n:eA H p C fs):p∉f.fp:=h.off fun xs e=>by
 obtain⟨dx,z⟩:=n
 rw[z] at e
 cases e
theorem dE.tk (h:dE A H pw S f)(k:Frame f.fp H H'):cH H H':=fun b xs e=>k b _ (h.off fun ys z=>by rw[e] at z; cases z) e
theorem dE.objs (h:dE A H pw S f)(k:Frame f.fp H H'):eA H' pw A.work (lF f)/\gw H' A.dW fC S.aI f.iA/\gw H' A.d8 ff S.credits f.cps:=by
 have go: ∀{p C:Addr} {dx:Addr} {gs:List (Str×V)},H p=some (.ins C dx gs)->H' p=some (.ins C dx gs):=fun e=>k _ _ (h.off fun ys z=>by rw[e] at z; cases z) e
 exact⟨let⟨dx,e⟩:=h.obj; ⟨dx,go e⟩,h.rb.keep fun _ _ _ e=>go e,h.rc.keep fun _ _ _ e=>go e⟩
theorem dE.same (h:dE A H pw S f)(s:aD H H'):dE A H' pw S f:=by
 obtain⟨o1,o2,o3⟩:=h.objs (s.frame (fp:=f.fp))
 obtain⟨ms,m1,m2⟩:=h.hm
 exact⟨o1,s _ _ h.hb,s _ _ h.hc,s _ _ h.hl,s _ _ h.hf,⟨ms,s _ _ m1,m2.mono s.tk⟩,o2,o3,h.nd⟩
theorem eN.ne (h:f.fp.Nodup):f.pb≠f.pc/\f.pb≠f.pl/\f.pb≠f.pf/\f.pb≠f.pm/\f.pc≠f.pl/\f.pc≠f.pf/\f.pc≠f.pm/\f.pl≠f.pf/\f.pl≠f.pm/\f.pf≠f.pm:=by
 simp only[eN.fp,List.nodup_cons,List.mem_cons,List.not_mem_nil,or_false,not_or] at h
 obtain⟨⟨h1,h2,h3,h4⟩,⟨h5,h6,h7⟩,⟨h8,h9⟩,K3,_⟩:=h
 exact⟨h1,h2,h3,h4,h5,h6,h7,h8,h9,K3⟩
theorem yx {rows:List Rw}{i:Nat}{x:Int}:(rows.set i ((rows.getD i default).less x)).map (fun r=>V.int r.d)=(rows.map fun r=>V.int r.d).set i (.int ((rows.getD i default).d - x)):=by
 rw[Ih]; rfl
theorem dE.put (h:dE A H pw S f){c b:Nat}{x:Int}{ms:List V}{p:Addr}(hc:c < S.credits.length)(hb:b < S.aI.length)(m1:H f.pm=some (.lst ms))(m2:ie H S.made ms)(np:H p=none):
  dE A (upd (upd (upd (upd H f.pf (.lst ((S.credits.map fun r=>V.int r.d).set c (.int ((S.cr c).d - x))))) f.pl (.lst ((S.aI.map fun r=>V.int r.d).set b (.int ((S.bl b).d - x))))) p (.tup [.int c,.int b,.int x])) f.pm (.lst (ms ++ [.ref p]))) pw (S.put c b x) f/\
  Frame f.fp H (upd (upd (upd (upd H f.pf (.lst ((S.credits.map fun r=>V.int r.d).set c (.int ((S.cr c).d - x))))) f.pl (.lst ((S.aI.map fun r=>V.int r.d).set b (.int ((S.bl b).d - x))))) p (.tup [.int c,.int b,.int x])) f.pm (.lst (ms ++ [.ref p]))):=by
 obtain⟨e1,e2,e3,e4,e5,e6,e7,e8,e9,Nt⟩:=eN.ne h.nd
 have pf: ∀q∈f.fp,q≠p:=fun q hq z=>h.new np (z▸hq)
 have i1:f.pb∈f.fp:=by simp[eN.fp]
 have i2:f.pc∈f.fp:=by simp[eN.fp]
 have i3:f.pl∈f.fp:=by simp[eN.fp]
 have i4:f.pf∈f.fp:=by simp[eN.fp]
 have i5:f.pm∈f.fp:=by simp[eN.fp]
 have t3: ∀(G:Hp) (q:Addr),q≠f.pf->q≠f.pl->q≠p->q≠f.pm-> ∀(a b c d:HO),upd (upd (upd (upd G f.pf a) f.pl b) p c) f.pm d q=G q:=fun G q h1 h2 h3 h4 a b c d=>by
  rw[az h4,az h3,az h2,az h1]
 have F:Frame f.fp H (upd (upd (upd (upd H f.pf (.lst ((S.credits.map fun r=>V.int r.d).set c (.int ((S.cr c).d - x))))) f.pl (.lst ((S.aI.map fun r=>V.int r.d).set b (.int ((S.bl b).d - x))))) p (.tup [.int c,.int b,.int x])) f.pm (.lst (ms ++ [.ref p]))):=fun q o hq e=>by
  rw[t3 H q (fun z=>hq (z▸i4)) (fun z=>hq (z▸i3)) (aJ e np) (fun z=>hq (z▸i5))]
  exact e
 refine⟨?_,F⟩
 obtain⟨o1,o2,o3⟩:=h.objs F
 have tk:=h.tk F
 refine⟨o1,by rw[t3 H _ e3 e2 (pf _ i1) e4]; exact h.hb,by rw[t3 H _ e6 e5 (pf _ i2) e7]; exact h.hc,?_,?_,⟨_,ag,?_⟩,?_,?_,h.nd⟩
 ·rw[az e9,az (pf _ i3),ag]
  show _ =some (HO.lst ((S.aI.set b ((S.aI.getD b default).less x)).map fun r=>V.int r.d))
  rw[yx]; rfl
 ·rw[az Nt,az (pf _ i4),az e8.symm,ag]
  show _ =some (HO.lst ((S.credits.set c ((S.credits.getD c default).less x)).map fun r=>V.int r.d))
  rw[yx]; rfl
 ·refine cz (m2.mono tk) ⟨p,rfl,?_⟩
  rw[az (pf _ i5).symm,ag]
 ·refine o2.rows eh fun i=>?_
  show fC i ((S.put c b x).bl i)=fC i (S.bl i)
  rw[vg hb]
  split
  ·rename_i z; subst z; rfl
  ·rfl
 ·refine o3.rows eh fun i=>?_
  show ff i ((S.put c b x).cr i)=ff i (S.cr i)
  rw[sq hc]
  split
  ·rename_i z; subst z; rfl
  ·rfl
end
end L2
namespace eG
open PySem L2 PyProof.Rows K4
def Mh:Stmt->List Stmt
 | .ClassDef _ _ _ b _ _ _ _ _ _ _=>b
 |_=>[]
def mem (i j:Nat):Stmt:=(Mh (top i)).getD j (.Pass ⟨0,0,0,0⟩)
structure jB (K:Frag)(mg:Str->Option Value)(A:dY):Prop where
 fU:mg "Refusal"=some (.ref A.refusal)
 DZ:gU K A.refusal A.refusal
 Pe:keepIn K (.ref A.refusal)=true
 gx: ∃f fd,gp K "__init__" "Refusal.__init__" (mem 3 0) f fd/\Fl K A.refusal f
 BZ:mg "NoCredit"=some (.ref A.jY)
 tE:gU K A.jY A.refusal
 B0:keepIn K (.ref A.jY)=true
 B4: ∃f fd,gp K "__init__" "NoCredit.__init__" (mem 4 0) f fd/\findIn K (.ref A.jY) "__init__"=some (some (.ref f))/\typeIn K (.ref f)=some (.type "function")
 Hc:mg "NoBill"=some (.ref A.pV)
 yy:gU K A.pV A.refusal
 Hd:keepIn K (.ref A.pV)=true
 He: ∃f fd,gp K "__init__" "NoBill.__init__" (mem 5 0) f fd/\findIn K (.ref A.pV) "__init__"=some (some (.ref f))/\typeIn K (.ref f)=some (.type "function")
 zN:mg "NotTheirs"=some (.ref A.jH)
 qT:gU K A.jH A.refusal
 zO:keepIn K (.ref A.jH)=true
 zP: ∃f fd,gp K "__init__" "NotTheirs.__init__" (mem 6 0) f fd/\findIn K (.ref A.jH) "__init__"=some (some (.ref f))/\typeIn K (.ref f)=some (.type "function")
 B6:mg "NoAmount"=some (.ref A.iD)
 kG:gU K A.iD A.refusal
 B7:keepIn K (.ref A.iD)=true
 B8: ∃f fd,gp K "__init__" "NoAmount.__init__" (mem 7 0) f fd/\findIn K (.ref A.iD) "__init__"=some (some (.ref f))/\typeIn K (.ref f)=some (.type "function")
 Ca:mg "TooEarly"=some (.ref A.tooEarly)
 tF:gU K A.tooEarly A.refusal
 Cb:keepIn K (.ref A.tooEarly)=true
 Cc: ∃f fd,gp K "__init__" "TooEarly.__init__" (mem 8 0) f fd/\findIn K (.ref A.tooEarly) "__init__"=some (some (.ref f))/\typeIn K (.ref f)=some (.type "function")
 vF:mg "TooMuch"=some (.ref A.tooMuch)
 pW:gU K A.tooMuch A.refusal
 D3:keepIn K (.ref A.tooMuch)=true
 D4: ∃f fd,gp K "__init__" "TooMuch.__init__" (mem 9 0) f fd/\findIn K (.ref A.tooMuch) "__init__"=some (some (.ref f))/\typeIn K (.ref f)=some (.type "function")
 zQ:mg "NoSetting"=some (.ref A.jI)
 qU:gU K A.jI A.refusal
 zR:keepIn K (.ref A.jI)=true
 zS: ∃f fd,gp K "__init__" "NoSetting.__init__" (mem 10 0) f fd/\findIn K (.ref A.jI) "__init__"=some (some (.ref f))/\typeIn K (.ref f)=some (.type "function")
 yz:mg "Needed"=some (.ref A.iZ)
 yA:gU K A.iZ A.refusal
 Hf:keepIn K (.ref A.iZ)=true
 Hg: ∃f fd,gp K "__init__" "Needed.__init__" (mem 11 0) f fd/\findIn K (.ref A.iZ) "__init__"=some (some (.ref f))/\typeIn K (.ref f)=some (.type "function")
 Mi:mg "Bill"=some (.ref A.dW)
 d9:wO K A.dW
 eV:b0 K A.dW "number"
 kH:b0 K A.dW "who"
 nv:b0 K A.dW "day"
 ny:b0 K A.dW "due"
 nz:b0 K A.dW "amount"
 Mj: ∃f fd,gp K "__init__" "Bill.__init__" (mem 13 0) f fd/\Mk K A.dW f
 Hh:mg "Credit"=some (.ref A.d8)
 dh:wO K A.d8
 eO:b0 K A.d8 "number"
 kY:b0 K A.d8 "who"
 ja:b0 K A.d8 "day"
 lI:b0 K A.d8 "amount"
 jZ:b0 K A.d8 "only"
 Hj: ∃f fd,gp K "__init__" "Credit.__init__" (mem 14 0) f fd/\Mk K A.d8 f
 Ml:mg "Work"=some (.ref A.work)
 bH:wO K A.work
 dX:b0 K A.work "bills"
 cF:b0 K A.work "all_credits"
 fE:b0 K A.work "lefts"
 fF:b0 K A.work "frees"
 mj:b0 K A.work "made"
 Mm: ∃f fd,gp K "__init__" "Work.__init__" (mem 25 0) f fd/\Mk K A.work f
 qV: ∃f fd,gp K "tell_bill" "Work.tell_bill" (mem 25 1) f fd/\Meth K A.work "tell_bill" f
 nA: ∃f fd,gp K "tell_payment" "Work.tell_payment" (mem 25 2) f fd/\Meth K A.work "tell_payment" f
 qW: ∃f fd,gp K "tell_note" "Work.tell_note" (mem 25 3) f fd/\Meth K A.work "tell_note" f
 oK: ∃f fd,gp K "tell_credit" "Work.tell_credit" (mem 25 4) f fd/\Meth K A.work "tell_credit" f
 oM: ∃f fd,gp K "set_by_hand" "Work.set_by_hand" (mem 25 5) f fd/\Meth K A.work "set_by_hand" f
 xq: ∃f fd,gp K "sweep" "Work.sweep" (mem 25 6) f fd/\Meth K A.work "sweep" f
 qX: ∃f fd,gp K "one_round" "Work.one_round" (mem 25 7) f fd/\Meth K A.work "one_round" f
 Cd: ∃f fd,gp K "put" "Work.put" (mem 25 8) f fd/\Meth K A.work "put" f
 qY: ∃f fd,gp K "credit_at" "Work.credit_at" (mem 25 9) f fd/\Meth K A.work "credit_at" f
 ub: ∃f fd,gp K "bill_at" "Work.bill_at" (mem 25 10) f fd/\Meth K A.work "bill_at" f
 Mn:mg "Book"=some (.ref A.book)
 eW:wO K A.book
 gI:b0 K A.book "kept"
 gJ:b0 K A.book "work"
 Mo: ∃f fd,gp K "__init__" "Book.__init__" (mem 29 0) f fd/\Mk K A.book f
 D5: ∃f fd,gp K "do" "Book.do" (mem 29 1) f fd/\Meth K A.book "do" f
 zT: ∃f fd,gp K "undo" "Book.undo" (mem 29 2) f fd/\Meth K A.book "undo" f
 sC: ∃f fd,gp K "in_force" "Book.in_force" (mem 29 3) f fd/\Meth K A.book "in_force" f
end eG
namespace L2
open PySem PySem.Spec PySem.W PyProof.Rows K4
structure gW (CX:Gw)(P:Program)(w:World)(K:Frag)(mg:Str->Option Value)(base:Heap)(C:Addr)(m:Str)(k:Nat)(ps:List Str)(sp:Sp):Prop where
 ex: ∃(f:Addr) (fd:FuncData),wO K C/\Meth K C m f/\l0 P w K mg base CX k f fd ps sp/\Binds K fd ps []
structure vG (P:Program)(w:World)(K:Frag)(mg:Str->Option Value)(base:Heap)(x:Str)(k:Nat)(ps:List Str)(sp:Sp):Prop where
 ex: ∃(f:Addr) (fd:FuncData),l0 P w K mg base (mK P w mg) k f fd ps sp/\mg x=some (.ref f)/\keepIn K (.ref f)=true/\Binds K fd ps []
structure uc (P:Program)(w:World)(K:Frag)(mg:Str->Option Value)(base:Heap)(x:Str)(C:Addr)(k:Nat)(ps:List Str)(sp:Sp):Prop where
 ex: ∃(f:Addr) (fd:FuncData),Mk K C f/\l0 P w K mg base sf k f fd ps sp/\Binds K fd ps []/\mg x=some (.ref C)
section
variable {X:Cx}{CX:Gw}{C:Addr}{x m:Str}{k:Nat}{ps:List Str}{sp:Sp}{o e:Expr}{es:List Expr}{ta:TE}{t:TA}{p pos apos:Pos}{E:XK}
theorem nE {pl:Sem Bool}(M:gW CX X.prog X.w X.K X.mg X.base C m k ps sp)(hr:fb k X.A)(hx:Passes CX X E)(he:PE X o ta)(ha:PA X (e :: es) t)
  (sR:starEach (e :: es) X.env=(false,eval e X.env) :: starEach es X.env:=by rfl) (gQ:(backTo pos (starEach es X.env)).any (·.1)=false:=by rfl)
  (ht:eval (.Call (.Attribute o m apos) (e :: es) [] pos) X.env=(do
   let ov ← eval o X.env
   standAt apos.atName
   let(f,first) ← holding [ov] (getMethod ov m pl)
   callWith pos f first (backTo pos (starEach (e :: es) X.env)) (backToKw pos (keywordEach [] X.env))):=by rfl):
  PE X (.Call (.Attribute o m apos) (e :: es) [] pos) (Nd C m sp [] E ta t):=by
 obtain⟨f,fd,hc,hm,F,hb⟩:=M.ex
 exact Ly he hc hm F hr hb .nil hx ha sR gQ ht
theorem sD (M:vG X.prog X.w X.K X.mg X.base x k ps sp)(hr:fb k X.A)(hg:Gl X x)(hx:Passes (mK X.prog X.w X.mg) X E)(ha:PA X (e :: es) t)(qB:(x == ("__debug__":Str))=false:=by decide)
  (he:starEach (e :: es) X.env=(false,eval e X.env) :: starEach es X.env:=by rfl) (gQ:(backTo pos (starEach es X.env)).any (·.1)=false:=by rfl):PE X (.Call (.Name x p) (e :: es) [] pos) (uQ sp [] E t):=by
 obtain⟨f,fd,F,hm,hk,hb⟩:=M.ex
 exact ES F hr hg hm hk hb .nil hx ha qB he gQ
theorem S9 (M:uc X.prog X.w X.K X.mg X.base x C k ps sp)(hr:fb (k + 1) X.A)(hg:Gl X x)(ha:PA X (e :: es) t)(qB:(x == ("__debug__":Str))=false:=by decide)
  (he:starEach (e :: es) X.env=(false,eval e X.env) :: starEach es X.env:=by rfl) (gQ:(backTo pos (starEach es X.env)).any (·.1)=false:=by rfl):PE X (.Call (.Name x p) (e :: es) [] pos) (ER C sp [] E0 t):=by
 obtain⟨f,fd,hk,F,hb,hm⟩:=M.ex
 exact Lz hk F hr hg hm hb .nil mY ha qB he gQ
theorem JM (M:uc X.prog X.w X.K X.mg X.base x C k ps sp)(hr:fb (k + 1) X.A)(hg:Gl X x)(qB:(x == ("__debug__":Str))=false:=by decide):PE X (.Call (.Name x p) [] [] pos) (ER C sp [] E0 DA):=by
 obtain⟨f,fd,hk,F,hb,hm⟩:=M.ex
 exact IQ hk F hr hg hm hb .nil mY qB
end
section
variable {P:Program}{w:World}{K:Frag}{mg:Str->Option Value}{base:Heap}{C:Addr}{x m qual:Str}{st:Stmt}{N ps:List Str}{k:Nat}{sp:Sp}
theorem Mp (D: ∃f fd,gp K m qual st f fd/\Meth K C m f)(hc:wO K C)(S:aS N ps (ay st))
  (fX: ∀(f:Addr) (cU:Value) (A:Around) (outer:List Env) (s:Shared) (H:Hp) (vs:List V) (Q:VK) (E:XK),fb k (A.deeper (envOfC qual (ay st) s.heap.objs.size f cU))->sp vs H Q E->
   ∃t,oS (lp sf P w K mg base N qual (ay st) f cU A outer s H E).EK (dB st) t/\t {nx:=fun _ H'=>Q .eu H',rt:=Q} (start N vs) H)
  (hb: ∀(kV doc pm:Value) (an:Option Addr) (cU ct:Value) (us:List Value),us.length=ps.length->bindArgs (fnOf m qual (gH st) (dB st) (ay st) .none kV doc pm an cU ct) ⟨us,[]⟩=pure (ps.zip us):=by intro _ _ _ _ _ _ us hl; rcases us with _|⟨_,_|⟨_,_|⟨_,_|⟨_,_|⟨_,_|⟨_,_|⟨_,_⟩⟩⟩⟩⟩⟩⟩ <;> first|(cases hl; done)|rfl)
  (len: ∀vs H Q E,sp vs H Q E->vs.length=ps.length:=by intro _ _ _ _ h; first|(cases h; subst_vars; rfl)|(repeat (first|(obtain⟨rfl,_⟩:=h; rfl; done)|obtain⟨_,h⟩:=h))):gW sf P w K mg base C m (k + 1) ps sp:=by
 obtain⟨f,fd,F,hm⟩:=D
 exact⟨f,fd,hc,hm,F.ok S len (fX f),F.binds hb⟩
theorem qZ (D: ∃f fd,gp K m qual st f fd/\Meth K C m f)(hc:wO K C)(S:aS N ps (ay st))
  (fX: ∀(f:Addr) (cU:Value) (A:Around) (outer:List Env) (s:Shared) (H:Hp) (vs:List V) (Q:VK) (E:XK),fb k (A.deeper (envOfC qual (ay st) s.heap.objs.size f cU))->QO (lp (mK P w mg) P w K mg base N qual (ay st) f cU A outer s H E) E->sp vs H Q E->
   ∃t,oS (lp (mK P w mg) P w K mg base N qual (ay st) f cU A outer s H E) (dB st) t/\t {nx:=fun _ H'=>Q .eu H',rt:=Q} (start N vs) H)
  (hb: ∀(kV doc pm:Value) (an:Option Addr) (cU ct:Value) (us:List Value),us.length=ps.length->bindArgs (fnOf m qual (gH st) (dB st) (ay st) .none kV doc pm an cU ct) ⟨us,[]⟩=pure (ps.zip us):=by intro _ _ _ _ _ _ us hl; rcases us with _|⟨_,_|⟨_,_|⟨_,_|⟨_,_|⟨_,_|⟨_,_|⟨_,_⟩⟩⟩⟩⟩⟩⟩ <;> first|(cases hl; done)|rfl)
  (len: ∀vs H Q E,sp vs H Q E->vs.length=ps.length:=by intro _ _ _ _ h; first|(cases h; subst_vars; rfl)|(repeat (first|(obtain⟨rfl,_⟩:=h; rfl; done)|obtain⟨_,h⟩:=h))):gW (mK P w mg) P w K mg base C m (k + 1) ps sp:=by
 obtain⟨f,fd,F,hm⟩:=D
 exact⟨f,fd,hc,hm,F.ZT S len (fX f),F.binds hb⟩
theorem Pf (D:Df K mg x st)(S:aS N ps (ay st))
  (fX: ∀(f:Addr) (cU:Value) (A:Around) (outer:List Env) (s:Shared) (H:Hp) (vs:List V) (Q:VK) (E:XK),fb k (A.deeper (envOfC x (ay st) s.heap.objs.size f cU))->QO (lp (mK P w mg) P w K mg base N x (ay st) f cU A outer s H E) E->sp vs H Q E->
   ∃t,oS (lp (mK P w mg) P w K mg base N x (ay st) f cU A outer s H E) (dB st) t/\t {nx:=fun _ H'=>Q .eu H',rt:=Q} (start N vs) H)
  (hb: ∀(kV doc pm:Value) (an:Option Addr) (cU ct:Value) (us:List Value),us.length=ps.length->bindArgs (fnOf x x (gH st) (dB st) (ay st) .none kV doc pm an cU ct) ⟨us,[]⟩=pure (ps.zip us):=by intro _ _ _ _ _ _ us hl; rcases us with _|⟨_,_|⟨_,_|⟨_,_|⟨_,_|⟨_,_|⟨_,_|⟨_,_⟩⟩⟩⟩⟩⟩⟩ <;> first|(cases hl; done)|rfl)
  (len: ∀vs H Q E,sp vs H Q E->vs.length=ps.length:=by intro _ _ _ _ h; first|(cases h; subst_vars; rfl)|(repeat (first|(obtain⟨rfl,_⟩:=h; rfl; done)|obtain⟨_,h⟩:=h))):vG P w K mg base x (k + 1) ps sp:=by
 obtain⟨f,fd,F,hm⟩:=D.ex
 exact⟨f,fd,F.ZT S len (fX f),hm,F.kp,F.binds hb⟩
theorem Mq (D: ∃f fd,gp K "__init__" qual st f fd/\Mk K C f)(hm:mg x=some (.ref C))(S:aS N ps (ay st))
  (fX: ∀(f:Addr) (cU:Value) (A:Around) (outer:List Env) (s:Shared) (H:Hp) (vs:List V) (Q:VK) (E:XK),fb k (A.deeper (envOfC qual (ay st) s.heap.objs.size f cU))->sp vs H Q E->
   ∃t,oS (lp sf P w K mg base N qual (ay st) f cU A outer s H E).EK (dB st) t/\t {nx:=fun _ H'=>Q .eu H',rt:=Q} (start N vs) H)
  (hb: ∀(kV doc pm:Value) (an:Option Addr) (cU ct:Value) (us:List Value),us.length=ps.length->bindArgs (fnOf "__init__" qual (gH st) (dB st) (ay st) .none kV doc pm an cU ct) ⟨us,[]⟩=pure (ps.zip us):=by intro _ _ _ _ _ _ us hl; rcases us with _|⟨_,_|⟨_,_|⟨_,_|⟨_,_|⟨_,_|⟨_,_|⟨_,_⟩⟩⟩⟩⟩⟩⟩ <;> first|(cases hl; done)|rfl)
  (len: ∀vs H Q E,sp vs H Q E->vs.length=ps.length:=by intro _ _ _ _ h; first|(cases h; subst_vars; rfl)|(repeat (first|(obtain⟨rfl,_⟩:=h; rfl; done)|obtain⟨_,h⟩:=h))):uc P w K mg base x C (k + 1) ps sp:=by
 obtain⟨f,fd,F,hk⟩:=D
 exact⟨f,fd,hk,F.ok S len (fX f),F.binds hb,hm⟩
end
end L2
namespace eG
open PySem L2 PyProof.Rows K4
seal L2.oS L2.PS L2.PE L2.PT L2.PW L2.PA L2.PC L2.PG L2.KY L2.PI L2.LH L2.K0 L2.PO L2.oF L2.Nc L2.iN L2.IU L2.Oh
section
variable {P:Program}{w:World}{K:Frag}{mg:Str->Option Value}{base:Heap}
theorem Hl {H:Hp}{e dx:Addr}{a b c:HO}(h:dx≠e):upd (upd (upd H e a) dx b) e c=upd (upd H dx b) e c:=by
 funext q
 by_cases h1:q=e
 ·rw[h1,ag,ag]
 ·rw[az h1,az h1]
  by_cases h2:q=dx
  ·rw[h2,ag,ag]
  ·rw[az h2,az h2,az h1]
inductive Nu (K:Frag)(vs:List V)(H:Hp)(Q:VK)(E':XK):Prop
 |mk (e C R t0:Addr)(txt:Str)(h1:vs=[.ref e,.str txt])(h2:H e=some (xo e C none (v0 t0)))(h3:gU K C R)(h4: ∀dx t',H dx=none->Q .eu (upd (upd H dx (.xd [("text",.str txt)])) e (xo e C (some dx) (v0 t')))):Nu K vs H Q E'
theorem D7:aS ["self","text"] ["self","text"] (ay (mem 3 0)):={}
theorem gy (T:Txt K mg){f:Addr}{fd:FuncData}(F:gp K "__init__" "Refusal.__init__" (mem 3 0) f fd):SK P w K mg base 1 f fd ["self","text"] (Nu K):=by
 refine mf (k:=0) F D7 (fun vs H Q E h=>?_) (fun cU A outer s H vs Q E hr h=>?_)
 ·obtain⟨e,C,R,t0,txt,rfl,_⟩:=h
  rfl
 ·obtain⟨e,C,R,t0,txt,rfl,he,ek,k⟩:=h
  refine⟨_,(ah (bK (Jv rfl T.BW (aa (pv 0) (aa (pv 1) av)))) (au (L5 (pv 0) (pv 1) rfl))),?_⟩
  refine⟨_,rfl,_,rfl,e,C,R,t0,none,v0 t0,_,rfl,he,ek,rfl,fun t'=>?_⟩
  refine⟨_,rfl,_,rfl,e,C,R,v0 t',rfl,ag,ek,fun dx JN=>?_⟩
  have ne:dx≠e:=fun z=>by rw[z,ag] at JN; cases JN
  rw[az ne] at JN
  have q:=k dx t' JN
  rw[← Hl (a:=xo e C none (v0 t')) ne] at q
  exact q
theorem Ce:aS ["self"] ["self"] (ay (mem 4 0)):={}
theorem Cf (T:Txt K mg){A:dY}(G:jB K mg A):Jw P w K mg base 2 "NoCredit" A.jY A.refusal "no credit":=by
 obtain⟨f,fd,F,hi,ht⟩:=G.B4
 obtain⟨f0,Pg,F0,ik⟩:=G.gx
 refine⟨G.BZ,G.tE,G.B0,f,fd,hi,ht,?_,F.binds (fun _ _ _ _ _ _ us hl=>match us,hl with|[_],_=>rfl)⟩
 refine mf (k:=1) F Ce (fun vs H Q E h=>?_) (fun cU A' outer s H vs Q E hr h=>?_)
 ·obtain⟨e,C,R,t0,rfl,_⟩:=h
  rfl
 ·obtain⟨e,C,R,t0,rfl,he,ek,k⟩:=h
  refine⟨_,(au (bK (jg ik (gy T F0) hr (F0.binds (fun _ _ _ _ _ _ us hl=>match us,hl with|[_,_],_=>rfl)) rfl G.fU (aa (pv 0) (aa aQ av))))),?_⟩
  exact⟨_,rfl,e,C,R,t0,_,rfl,he,ek,fun dx t' n=>k dx t' n⟩
theorem Hm:aS ["self"] ["self"] (ay (mem 5 0)):={}
theorem Hn (T:Txt K mg){A:dY}(G:jB K mg A):Jw P w K mg base 2 "NoBill" A.pV A.refusal "no bill":=by
 obtain⟨f,fd,F,hi,ht⟩:=G.He
 obtain⟨f0,Pg,F0,ik⟩:=G.gx
 refine⟨G.Hc,G.yy,G.Hd,f,fd,hi,ht,?_,F.binds (fun _ _ _ _ _ _ us hl=>match us,hl with|[_],_=>rfl)⟩
 refine mf (k:=1) F Hm (fun vs H Q E h=>?_) (fun cU A' outer s H vs Q E hr h=>?_)
 ·obtain⟨e,C,R,t0,rfl,_⟩:=h
  rfl
 ·obtain⟨e,C,R,t0,rfl,he,ek,k⟩:=h
  refine⟨_,(au (bK (jg ik (gy T F0) hr (F0.binds (fun _ _ _ _ _ _ us hl=>match us,hl with|[_,_],_=>rfl)) rfl G.fU (aa (pv 0) (aa aQ av))))),?_⟩
  exact⟨_,rfl,e,C,R,t0,_,rfl,he,ek,fun dx t' n=>k dx t' n⟩
theorem zU:aS ["self"] ["self"] (ay (mem 6 0)):={}
theorem zV (T:Txt K mg){A:dY}(G:jB K mg A):Jw P w K mg base 2 "NotTheirs" A.jH A.refusal "not theirs":=by
 obtain⟨f,fd,F,hi,ht⟩:=G.zP
 obtain⟨f0,Pg,F0,ik⟩:=G.gx
 refine⟨G.zN,G.qT,G.zO,f,fd,hi,ht,?_,F.binds (fun _ _ _ _ _ _ us hl=>match us,hl with|[_],_=>rfl)⟩
 refine mf (k:=1) F zU (fun vs H Q E h=>?_) (fun cU A' outer s H vs Q E hr h=>?_)
 ·obtain⟨e,C,R,t0,rfl,_⟩:=h
  rfl
 ·obtain⟨e,C,R,t0,rfl,he,ek,k⟩:=h
  refine⟨_,(au (bK (jg ik (gy T F0) hr (F0.binds (fun _ _ _ _ _ _ us hl=>match us,hl with|[_,_],_=>rfl)) rfl G.fU (aa (pv 0) (aa aQ av))))),?_⟩
  exact⟨_,rfl,e,C,R,t0,_,rfl,he,ek,fun dx t' n=>k dx t' n⟩
theorem Cg:aS ["self"] ["self"] (ay (mem 7 0)):={}
theorem Ci (T:Txt K mg){A:dY}(G:jB K mg A):Jw P w K mg base 2 "NoAmount" A.iD A.refusal "no amount":=by
 obtain⟨f,fd,F,hi,ht⟩:=G.B8
 obtain⟨f0,Pg,F0,ik⟩:=G.gx
 refine⟨G.B6,G.kG,G.B7,f,fd,hi,ht,?_,F.binds (fun _ _ _ _ _ _ us hl=>match us,hl with|[_],_=>rfl)⟩
 refine mf (k:=1) F Cg (fun vs H Q E h=>?_) (fun cU A' outer s H vs Q E hr h=>?_)
 ·obtain⟨e,C,R,t0,rfl,_⟩:=h
  rfl
 ·obtain⟨e,C,R,t0,rfl,he,ek,k⟩:=h
  refine⟨_,(au (bK (jg ik (gy T F0) hr (F0.binds (fun _ _ _ _ _ _ us hl=>match us,hl with|[_,_],_=>rfl)) rfl G.fU (aa (pv 0) (aa aQ av))))),?_⟩
  exact⟨_,rfl,e,C,R,t0,_,rfl,he,ek,fun dx t' n=>k dx t' n⟩
theorem Cj:aS ["self"] ["self"] (ay (mem 8 0)):={}
theorem Ck (T:Txt K mg){A:dY}(G:jB K mg A):Jw P w K mg base 2 "TooEarly" A.tooEarly A.refusal "too early":=by
 obtain⟨f,fd,F,hi,ht⟩:=G.Cc
 obtain⟨f0,Pg,F0,ik⟩:=G.gx
 refine⟨G.Ca,G.tF,G.Cb,f,fd,hi,ht,?_,F.binds (fun _ _ _ _ _ _ us hl=>match us,hl with|[_],_=>rfl)⟩
 refine mf (k:=1) F Cj (fun vs H Q E h=>?_) (fun cU A' outer s H vs Q E hr h=>?_)
 ·obtain⟨e,C,R,t0,rfl,_⟩:=h
  rfl
 ·obtain⟨e,C,R,t0,rfl,he,ek,k⟩:=h
  refine⟨_,(au (bK (jg ik (gy T F0) hr (F0.binds (fun _ _ _ _ _ _ us hl=>match us,hl with|[_,_],_=>rfl)) rfl G.fU (aa (pv 0) (aa aQ av))))),?_⟩
  exact⟨_,rfl,e,C,R,t0,_,rfl,he,ek,fun dx t' n=>k dx t' n⟩
theorem D8:aS ["self"] ["self"] (ay (mem 9 0)):={}
theorem D9 (T:Txt K mg){A:dY}(G:jB K mg A):Jw P w K mg base 2 "TooMuch" A.tooMuch A.refusal "too much":=by
 obtain⟨f,fd,F,hi,ht⟩:=G.D4
 obtain⟨f0,Pg,F0,ik⟩:=G.gx
 refine⟨G.vF,G.pW,G.D3,f,fd,hi,ht,?_,F.binds (fun _ _ _ _ _ _ us hl=>match us,hl with|[_],_=>rfl)⟩
 refine mf (k:=1) F D8 (fun vs H Q E h=>?_) (fun cU A' outer s H vs Q E hr h=>?_)
 ·obtain⟨e,C,R,t0,rfl,_⟩:=h
  rfl
 ·obtain⟨e,C,R,t0,rfl,he,ek,k⟩:=h
  refine⟨_,(au (bK (jg ik (gy T F0) hr (F0.binds (fun _ _ _ _ _ _ us hl=>match us,hl with|[_,_],_=>rfl)) rfl G.fU (aa (pv 0) (aa aQ av))))),?_⟩
  exact⟨_,rfl,e,C,R,t0,_,rfl,he,ek,fun dx t' n=>k dx t' n⟩
theorem zW:aS ["self"] ["self"] (ay (mem 10 0)):={}
theorem zX (T:Txt K mg){A:dY}(G:jB K mg A):Jw P w K mg base 2 "NoSetting" A.jI A.refusal "no setting":=by
 obtain⟨f,fd,F,hi,ht⟩:=G.zS
 obtain⟨f0,Pg,F0,ik⟩:=G.gx
 refine⟨G.zQ,G.qU,G.zR,f,fd,hi,ht,?_,F.binds (fun _ _ _ _ _ _ us hl=>match us,hl with|[_],_=>rfl)⟩
 refine mf (k:=1) F zW (fun vs H Q E h=>?_) (fun cU A' outer s H vs Q E hr h=>?_)
 ·obtain⟨e,C,R,t0,rfl,_⟩:=h
  rfl
 ·obtain⟨e,C,R,t0,rfl,he,ek,k⟩:=h
  refine⟨_,(au (bK (jg ik (gy T F0) hr (F0.binds (fun _ _ _ _ _ _ us hl=>match us,hl with|[_,_],_=>rfl)) rfl G.fU (aa (pv 0) (aa aQ av))))),?_⟩
  exact⟨_,rfl,e,C,R,t0,_,rfl,he,ek,fun dx t' n=>k dx t' n⟩
theorem Ho:aS ["self"] ["self"] (ay (mem 11 0)):={}
theorem Hq (T:Txt K mg){A:dY}(G:jB K mg A):Jw P w K mg base 2 "Needed" A.iZ A.refusal "needed":=by
 obtain⟨f,fd,F,hi,ht⟩:=G.Hg
 obtain⟨f0,Pg,F0,ik⟩:=G.gx
 refine⟨G.yz,G.yA,G.Hf,f,fd,hi,ht,?_,F.binds (fun _ _ _ _ _ _ us hl=>match us,hl with|[_],_=>rfl)⟩
 refine mf (k:=1) F Ho (fun vs H Q E h=>?_) (fun cU A' outer s H vs Q E hr h=>?_)
 ·obtain⟨e,C,R,t0,rfl,_⟩:=h
  rfl
 ·obtain⟨e,C,R,t0,rfl,he,ek,k⟩:=h
  refine⟨_,(au (bK (jg ik (gy T F0) hr (F0.binds (fun _ _ _ _ _ _ us hl=>match us,hl with|[_,_],_=>rfl)) rfl G.fU (aa (pv 0) (aa aQ av))))),?_⟩
  exact⟨_,rfl,e,C,R,t0,_,rfl,he,ek,fun dx t' n=>k dx t' n⟩
def oX (rc rb:Rw)(b:Nat):Bool:=if rc.c= -1 then decide (rc.aH=rb.aH) else decide (rc.c=(b:Int))
def EX (E:XK)(C:Addr)(txt:Str)(H:Hp):Prop:= ∀(dx:Addr) (H':Hp),aD H H'->H dx=none->H' dx=some (.xd [("text",.str txt)])->E (.ref C) (some dx) H'
theorem EX.at {E:XK}{C dx:Addr}{txt:Str}{H:Hp}(h:EX E C txt H)(n:H dx=none):E (.ref C) (some dx) (upd H dx (.xd [("text",.str txt)])):=h dx _ (aD.new n) n ag
inductive q0 (A:dY)(vs:List V)(H:Hp)(Q:VK)(E:XK):Prop
 |mk (a:Int)(h1:vs=[.int a])(h2:(1<=a->Q .eu H))(h3:(a < 1->EX E A.iD "no amount" H)):q0 A vs H Q E
theorem ud:aS ["amount"] ["amount"] (ay (top 26)):={}
theorem j7 (T:Txt K mg){A:dY}(G:jB K mg A):vG P w K mg base "check_amount" 4 ["amount"] (q0 A):=by
 refine Pf (k:=3) T.vz ud (fun f cU A' outer s H vs Q E hr mC h=>?_)
 ·obtain⟨a,rfl,k1,k2⟩:=h
  refine⟨_,(au (bN (aV ju (pv 0) ai (aY _)) (au (jW mC (Ci T G) hr.h rfl rfl)) bb)),?_⟩
  refine⟨_,rfl,_,_,rfl,rfl,_,rfl,cm (fun z=>?_) (fun z=>?_)⟩
  ·exact fun dx n=>(k2 (aN z)).at n
  ·exact k1 (by have: ¬ a < 1:=fun q=>z (aG q); lia)
inductive zY (A:dY)(vs:List V)(H:Hp)(Q:VK)(E':XK):Prop
 |mk (p q:Addr)(c b:Nat)(rc rb:Rw)(h1:vs=[.ref p,.ref q])(h2:eA H p A.d8 (ff c rc))(h3:eA H q A.dW (fC b rb))(h4:Q (.bl (oX rc rb b)) H):zY A vs H Q E'
theorem Mr:aS ["credit","bill"] ["credit","bill"] (ay (top 15)):={}
theorem JO (T:Txt K mg){A:dY}(G:jB K mg A):eM P w K mg base "fits" 1 ["credit","bill"] (zY A):=by
 refine T.O6.fe (k:=0) Mr (fun f cU A' outer s H vs Q E hr h=>?_)
 ·obtain⟨p,q,c,b,rc,rb,rfl,⟨dp,hp⟩,⟨dq,hq⟩,k⟩:=h
  refine⟨_,(ah (bN (yZ (IB (bX (pv 0) rfl)))
(au (a0 (fm cJ (bX (pv 0) rfl) (bX (pv 1) rfl) (aY _))))
bb)
(au (a0 (fm cJ (bX (pv 0) rfl) (bX (pv 1) rfl) (aY _))))),?_⟩
  have fo:=Mg c rc
  refine⟨_,rfl,p,_,dp,_,_,rfl,hp,G.dh,G.jZ,fo,?_⟩
  by_cases z:rc.c= -1
  ·have e:tw rc.c= .eu:=a8 z
   refine⟨true,by rw[e]; rfl,fG ?_⟩
   refine⟨_,rfl,p,_,dp,_,_,rfl,hp,G.dh,G.kY,JK c rc,_,rfl,q,_,dq,_,_,rfl,hq,G.d9,G.kH,DY b rb,rfl,?_⟩
   have e2:oX rc rb b=decide (V.str rc.aH=V.str rb.aH):=by
    unfold oX
    rw[a8 z]
    exact mI.mpr ⟨fun h=>by rw[h],fun h=>by injection h⟩
   rw[e2] at k
   exact k
  ·have e:tw rc.c= .int rc.c:=aU z
   refine⟨false,by rw[e]; rfl,bT ?_⟩
   rw[e] at fo
   refine⟨_,rfl,p,_,dp,_,_,rfl,hp,G.dh,G.jZ,fo,_,rfl,q,_,dq,_,_,rfl,hq,G.d9,G.eV,lE b rb,rfl,?_⟩
   have e2:oX rc rb b=decide (V.int rc.c=V.int (b:Int)):=by
    unfold oX
    rw[aU z]
    exact mI.mpr ⟨fun h=>by rw[h],fun h=>by injection h⟩
   rw[e2] at k
   exact k
inductive Ea (A:dY)(vs:List V)(H:Hp)(Q:VK)(E':XK):Prop
 |mk (p q:Addr)(c b:Nat)(rc rb:Rw)(h1:vs=[.ref p,.ref q])(h2:eA H p A.d8 (ff c rc))(h3:eA H q A.dW (fC b rb))(h4:Q (.int (if rb.a > rc.a then rb.a else rc.a)) H):Ea A vs H Q E'
theorem vH:aS ["credit","bill"] ["credit","bill"] (ay (top 16)):={}
theorem xr (T:Txt K mg){A:dY}(G:jB K mg A):eM P w K mg base "counts_from" 1 ["credit","bill"] (Ea A):=by
 refine T.w9.fe (k:=0) vH (fun f cU A' outer s H vs Q E hr h=>?_)
 ·obtain⟨p,q,c,b,rc,rb,rfl,⟨dp,hp⟩,⟨dq,hq⟩,k⟩:=h
  refine⟨_,(au (a0 (cD (ya rfl) (by rfl) T.Nr boot_max (aa (bX (pv 0) rfl) (aa (bX (pv 1) rfl) av))))),?_⟩
  exact⟨_,rfl,p,_,dp,_,_,rfl,hp,G.dh,G.ja,JL c rc,_,rfl,q,_,dq,_,_,rfl,hq,G.d9,G.nv,Pd b rb,_,_,rfl,k⟩
theorem getD_at {α:Type}{xs:List α}{d:α}{i:Nat}(h:i < xs.length):xs.getD i d=xs[i]:=by rw[aj,af h]; rfl
theorem nF {g:Int->V}{xs:List Int}{i:Nat}(h:i < xs.length):se (xs.map g) (i:Int)=some (g (xs.getD i 0)):=by
 rw[getD_at h]
 exact cy (by rw[aB,af h]; rfl)
theorem ra {n j:Nat}(h:j < n):LB n (j:Int)=some j:=by
 unfold LB
 rw[if_pos (by lia),if_pos (by lia)]; simp
theorem f9 {H H':Hp}(s:aD H H'): ∀b xs,H b=some (.tup xs)->H' b=some (.tup xs):=fun b xs e=>s _ _ e
theorem jt {α:Type}{xs:List α}{m:Nat}(h:m < xs.length):xs.take (m + 1)=xs.take m ++ [xs[m]]:=by
 rw[A4,af h]; rfl
theorem Ta (cs:List Int)(lo hi:Option Int): ∃ds:List Int,qC (cs.map V.int) lo hi=ds.map V.int/\ds.length<=cs.length:=by
 unfold qC
 refine⟨_,by rw[← List.map_drop,← List.map_take],?_⟩
 rw[bf,mG]
 lia
theorem zZ (x m:Int)(h:0 < m): ∃n:Nat,x % m=(n:Int)/\(n:Int) < m:=by
 have h1:=kq x (show m≠0 by lia)
 have h2:=qp x h
 exact⟨(x % m).toNat,by lia,by lia⟩
theorem kI {α:Type}{g:α->V}{xs:List α}{m:Int}{x:Int}(hm:m=(xs.length:Int))(h:0 < m): ∃y∈xs,se (xs.map g) (x % m)=some (g y):=by
 obtain⟨n,e,hn⟩:=zZ x m h
 have hl:n < xs.length:=by lia
 exact⟨xs[n],bG _,by rw[e]; exact cy (by rw[aB,af hl]; rfl)⟩
inductive Eb (vs:List V)(H:Hp)(Q:VK)(E':XK):Prop
 |mk (n p m:Int)(h1:vs=[.int n,.int p,.int m])(h2:0 < p)(h3:0 < m)(h4: ∀r,0<=r->r < m->Q (.int r) H):Eb vs H Q E'
theorem z5:aS ["_law_number","_law_prime","_law_many"] ["_law_number","_law_prime","_law_many"] (ay (top 44)):={}
theorem Cm (T:Txt K mg):eM P w K mg base "_law_draw" 1 ["_law_number","_law_prime","_law_many"] Eb:=by
 refine T.BQ.fe (k:=0) z5 (fun f cU A outer s H vs Q E hr h=>?_)
 ·obtain⟨n,p,m,rfl,hp,hm,k⟩:=h
  refine⟨_,(au (a0 (aO bW (aO bW (aO lZ (pv 0) ai) (pv 1)) (pv 2)))),?_⟩
  refine⟨_,rfl,_,_,rfl,rfl,.inr ⟨by decide,by decide⟩,_,rfl,_,_,rfl,rfl,hp,_,rfl,_,_,rfl,rfl,hm,?_⟩
  exact k _ (kq _ (by lia)) (qp _ hm)
inductive vI (K:Frag)(vs:List V)(H:Hp)(Q:VK)(E':XK):Prop
 |mk (a:Addr)(cs:List Int)(h1:vs=[.ref a])(h2:bA K H a (cs.map V.int))(h3: ∀(pn:Addr) (names:List Str) (H':Hp),aD H H'->H' pn=some (.lst (names.map V.str))->names≠[]->names.length<=6->Q (.ref pn) H'):vI K vs H Q E'
theorem nG:aS ["_law_cells","_law_spot","_law_made"] ["_law_cells"] (ay (top 48)):={}
theorem oY (T:Txt K mg):eM P w K mg base "_law_people" 1 ["_law_cells"] (vI K):=by
 refine T.xh.fe (k:=0) nG (fun f cU A outer s H vs Q E hr h=>?_)
 ·obtain⟨a,cs,rfl,hS,k⟩:=h
  have nd:=nG.nd
  refine⟨_,(ah (sv 1 nd (aO bW (aO i8 (cD (lB rfl) (by rfl) T.BV boot_sum (aa (mU qD (pv 0) uq (oj ai)) av)) ai) ai))
(ah (sv 2 nd (bP (aa (bP (aa aQ (aa aQ (aa aQ av)))) (aa (bP (aa aQ (aa aQ (aa aQ av)))) av))))
(ah (bK (oW (pv 2) (bP (aa (aO zt aQ ai) (aa (aO uN (aO uN (aO zt aQ (pv 1)) aQ) (aO zt aQ (aO eP ai (pv 1)))) (aa aQ av))))))
(au (a0 (xl (aO mW (pv 2) (bP (aa (bP (aa aQ (aa aQ (aa aQ (aa aQ (aa aQ (aa aQ av))))))) av))) (aO bW (aO i8 (cD (lB rfl) (by rfl) T.BV boot_sum (aa (mU qD (pv 0) uq (oj ai)) av)) ai) ai))))))),?_⟩
  refine⟨_,rfl,_,rfl,a,_,rfl,hS,fun p1 n1=>?_⟩
  obtain⟨ds,ed,_⟩:=Ta cs none (some 1)
  rw[ed]
  have s1:aD H (upd H p1 (.lst (ds.map V.int))):=aD.new n1
  refine⟨p1,ds,rfl,bA.of ag,_,_,rfl,rfl,⟨by decide,by decide⟩,_,_,rfl,rfl,(by show(0:Int) < 60; decide),?_⟩
  obtain⟨sp,Vv,y2⟩:=zZ (ds.sum / 28) 60 (by decide)
  show _
  generalize upd H p1 (.lst (ds.map V.int))=H1 at s1 ⊢
  refine⟨(by show 3<=sizeLine; decide),fun p2 n2=>⟨(by show 3<=sizeLine; decide),fun p3 n3=>⟨(by show 2<=sizeLine; decide),fun p4 n4=>?_⟩⟩⟩
  have t2:=aD.new (o:= .lst [V.str "ann",.str "",.str "bo"]) n2
  have t3:=aD.new (o:= .lst [V.str "ann",.str "ann lee",.str "Ann"]) n3
  have t4:=aD.new (o:= .lst [V.ref p2,.ref p3]) n4
  have s4:=((s1.trans t2).trans t3).trans t4
  have g2:=(t3.trans t4) _ _ (ag (H:=H1) (a:=p2) (o:= .lst [V.str "ann",.str "",.str "bo"]))
  have g3:=t4 _ _ (ag (H:=upd H1 p2 (.lst [V.str "ann",.str "",.str "bo"])) (a:=p3) (o:= .lst [V.str "ann",.str "ann lee",.str "Ann"]))
  have g4:=ag (H:=upd (upd H1 p2 (.lst [V.str "ann",.str "",.str "bo"])) p3 (.lst [V.str "ann",.str "ann lee",.str "Ann"])) (a:=p4) (o:= .lst [V.ref p2,.ref p3])
  have m4:H p4=none:=((s1.trans t2).trans t3).free n4
  generalize upd (upd (upd H1 p2 (.lst [V.str "ann",.str "",.str "bo"])) p3 (.lst [V.str "ann",.str "ann lee",.str "Ann"])) p4 (.lst [V.ref p2,.ref p3])=H4 at s4 g2 g3 g4 ⊢
  clear t2 t3 t4
  refine⟨_,rfl,.inl ⟨rfl,_,bA.of g4⟩,?_⟩
  refine⟨_,_,rfl,rfl,rfl,(by decide),(by decide),fun z1 hz1=>?_⟩
  refine⟨_,rfl,_,_,rfl,rfl,rfl,(by rw[Vv]; lia),(by rw[Vv]; lia),fun z2 hz2=>?_⟩
  refine⟨_,_,rfl,rfl,dz (i9 (by show z2.length + 1<=_; lia)),?_⟩
  refine⟨_,rfl,_,_,rfl,rfl,_,_,rfl,rfl,rfl,(by rw[Vv]; lia),(by rw[Vv]; lia),fun z3 hz3=>?_⟩
  refine⟨_,_,rfl,rfl,dz (i9 (by
   have:(z2 ++ ("y":Str)).length=z2.length + 1:=by
    show(z2.cps ++ _).size=_
    rw[Array.size_append]; rfl
   rw[this]; lia)),?_⟩
  refine⟨(by show 3<=sizeLine; decide),fun p5 n5=>?_⟩
  generalize (z2 ++ ("y":Str)) ++ z3=z4
  have t5:=aD.new (o:= .lst [V.str z1,.str z4,.str " ~"]) n5
  refine⟨p4,_,_,rfl,rfl,t5 _ _ g4,(by show 2 < sizeLine; decide),?_⟩
  have s5:aD H (upd (upd H4 p5 (.lst [V.str z1,.str z4,.str " ~"])) p4 (.lst ([V.ref p2,.ref p3] ++ [.ref p5]))):=(s4.trans t5).cI m4
  have XG:p2≠p4:=fun e=>by rw[e,g4] at g2; cases g2
  have XH:p3≠p4:=fun e=>by rw[e,g4] at g3; cases g3
  have XI:p5≠p4:=(aJ g4 n5).symm
  have j2:upd (upd H4 p5 (.lst [V.str z1,.str z4,.str " ~"])) p4 (.lst ([V.ref p2,.ref p3] ++ [.ref p5])) p2=some (.lst [V.str "ann",.str "",.str "bo"]):=by rw[az XG]; exact t5 _ _ g2
  have j3:upd (upd H4 p5 (.lst [V.str z1,.str z4,.str " ~"])) p4 (.lst ([V.ref p2,.ref p3] ++ [.ref p5])) p3=some (.lst [V.str "ann",.str "ann lee",.str "Ann"]):=by rw[az XH]; exact t5 _ _ g3
  have j5:upd (upd H4 p5 (.lst [V.str z1,.str z4,.str " ~"])) p4 (.lst ([V.ref p2,.ref p3] ++ [.ref p5])) p5=some (.lst [V.str z1,.str z4,.str " ~"]):=by rw[az XI]; exact ag
  have j4:upd (upd H4 p5 (.lst [V.str z1,.str z4,.str " ~"])) p4 (.lst ([V.ref p2,.ref p3] ++ [.ref p5])) p4=some (.lst ([V.ref p2,.ref p3] ++ [.ref p5])):=ag
  generalize upd (upd H4 p5 (.lst [V.str z1,.str z4,.str " ~"])) p4 (.lst ([V.ref p2,.ref p3] ++ [.ref p5]))=H5 at s5 j2 j3 j4 j5 ⊢
  clear t5
  refine⟨_,rfl,?_⟩
  refine⟨(by show 6<=sizeLine; decide),fun p6 n6=>⟨(by show 1<=sizeLine; decide),fun p7 n7=>?_⟩⟩
  have t6:=aD.new (o:= .lst [V.str "ann",.str "",.str "bo",.str "Cy ~",.str "ann ",.str "dee"]) n6
  have t7:=aD.new (o:= .lst [V.ref p6]) n7
  have Z9:=t6.trans t7
  have j6:=t7 _ _ (ag (H:=H5) (a:=p6) (o:= .lst [V.str "ann",.str "",.str "bo",.str "Cy ~",.str "ann ",.str "dee"]))
  refine⟨p4,p7,_,_,rfl,rfl,Z9 _ _ j4,ag,(by show 4<=sizeLine; decide),fun p8 n8=>?_⟩
  have t8:=aD.new (o:= .lst (([V.ref p2,.ref p3] ++ [.ref p5]) ++ [.ref p6])) n8
  have t78:=Z9.trans t8
  have s8:=s5.trans t78
  refine⟨_,rfl,_,rfl,a,_,rfl,s8.seq hS,fun p9 n9=>?_⟩
  rw[ed]
  have t9:=aD.new (o:= .lst (ds.map V.int)) n9
  refine⟨p9,ds,rfl,bA.of ag,_,_,rfl,rfl,⟨by decide,by decide⟩,_,_,rfl,rfl,(by show(0:Int) < 4; decide),?_⟩
  obtain⟨r,er,XJ⟩:=zZ (ds.sum / 7) 4 (by decide)
  have XM:r < 4:=by lia
  have fin: ∀(pn:Addr) (names:List Str),H5 pn=some (.lst (names.map V.str))∨upd (upd H5 p6 (.lst [V.str "ann",.str "",.str "bo",.str "Cy ~",.str "ann ",.str "dee"])) p7 (.lst [V.ref p6]) pn=some (.lst (names.map V.str))->names≠[]->names.length<=6->Q (.ref pn) _:=fun pn names h h1 h2=>
   k pn names _ (s8.trans t9) (by
    rcases h with h|h
    ·exact(t78.trans t9) _ _ h
    ·exact(t8.trans t9) _ _ h) h1 h2
  have Vw:=t9 _ _ (ag (H:=upd (upd H5 p6 (.lst [V.str "ann",.str "",.str "bo",.str "Cy ~",.str "ann ",.str "dee"])) p7 (.lst [V.ref p6])) (a:=p8) (o:= .lst (([V.ref p2,.ref p3] ++ [.ref p5]) ++ [.ref p6])))
  match r,XM,er with
  |0,_,er=>exact⟨p8,_,_,.ref p2,rfl,rfl,bA.of Vw,by show se _ (ds.sum / 7 % 4)=_; rw[er]; rfl,fin p2 [_,_,_] (.inl j2) (by simp) (by simp)⟩
  |1,_,er=>exact⟨p8,_,_,.ref p3,rfl,rfl,bA.of Vw,by show se _ (ds.sum / 7 % 4)=_; rw[er]; rfl,fin p3 [_,_,_] (.inl j3) (by simp) (by simp)⟩
  |2,_,er=>exact⟨p8,_,_,.ref p5,rfl,rfl,bA.of Vw,by show se _ (ds.sum / 7 % 4)=_; rw[er]; rfl,fin p5 [_,_,_] (.inl j5) (by simp) (by simp)⟩
  |3,_,er=>exact⟨p8,_,_,.ref p6,rfl,rfl,bA.of Vw,by show se _ (ds.sum / 7 % 4)=_; rw[er]; rfl,fin p6 [_,_,_,_,_,_] (.inr j6) (by simp) (by simp)⟩
  |r + 4,h,_=>lia
theorem at4 (a b c d x:Int): ∃y,se [V.int a,V.int b,V.int c,V.int d] (x % 4)=some (V.int y):=by
 obtain⟨y,_,h⟩:=kI (g:=V.int) (xs:=[a,b,c,d]) (m:=4) (x:=x) rfl (by decide)
 exact⟨y,h⟩
theorem at3 (a b c x:Int): ∃y,(y=a∨y=b∨y=c)/\se [V.int a,V.int b,V.int c] (x % 3)=some (V.int y):=by
 obtain⟨y,hy,h⟩:=kI (g:=V.int) (xs:=[a,b,c]) (m:=3) (x:=x) rfl (by decide)
 exact⟨y,by simpa using hy,h⟩
theorem Cn {x:Int}(h:x<=1000000000):x<=vp:=Fe (lV h (by decide +kernel))
theorem XN (a b x:Int): ∃y,(y=a∨y=b)/\se [V.int a,V.int b] (x % 2)=some (V.int y):=by
 obtain⟨y,hy,h⟩:=kI (g:=V.int) (xs:=[a,b]) (m:=2) (x:=x) rfl (by decide)
 exact⟨y,by simpa using hy,h⟩
inductive vJ (K:Frag)(vs:List V)(H:Hp)(Q:VK)(E':XK):Prop
 |mk (a:Addr)(cs:List Int)(i:Nat)(h1:vs=[.ref a,.int i])(h2:bA K H a (cs.map V.int))(h3:i < cs.length)(h4: ∀(p:Addr) (aH:Str) (day dH:Int) (H':Hp),aD H H'->H' p=some (.tup [.str aH,.int day,.int dH])->day<=vp->Q (.ref p) H'):vJ K vs H Q E'
theorem nH:aS ["_law_cells","_law_k","_law_cell","_law_rest","_law_names","_law_who","_law_day","_law_amount"] ["_law_cells","_law_k"] (ay (top 49)):={}
theorem xu (T:Txt K mg):eM P w K mg base "_law_penned" 2 ["_law_cells","_law_k"] (vJ K):=by
 have kZ:eM P w K mg base "_law_people" 1 ["_law_cells"] (vI K):=oY T
 have nI:eM P w K mg base "_law_draw" 1 ["_law_number","_law_prime","_law_many"] Eb:=Cm T
 refine T.xi.fe (k:=1) nH (fun f cU A outer s H vs Q E hr h=>?_)
 ·obtain⟨a,cs,i,rfl,hS,hi,k⟩:=h
  have nd:=nH.nd
  refine⟨_,(ah (sv 2 nd (xl (pv 0) (pv 1)))
(ah (sv 3 nd (aO i8 (pv 2) ai))
(ah (sv 4 nd (fc kZ hr (aa (pv 0) av)))
(ah (sv 5 nd (xl (pv 4) (aO bW (aO cB (pv 3) (pv 1)) (mh T.dD (pv 4)))))
(ah (sv 6 nd (aO eP (fc nI hr (aa (aO cB (pv 2) (aO lZ ai (pv 1))) (aa ai (aa ai av)))) ai))
(ah (sv 7 nd (aO cB ai (fc nI hr (aa (aO cB (pv 2) (aO lZ ai (pv 1))) (aa ai (aa ai av))))))
(iw (bN (aV cJ (aO bW (pv 2) ai) ai (aY _))
(au (sv 7 nd (aO cB ai (aO lZ (fc nI hr (aa (aO cB (pv 2) (aO lZ ai (pv 1))) (aa ai (aa ai av)))) ai))))
bb)
(iw (bN (aV cJ (aO bW (pv 2) ai) ai (aY _))
(au (sv 7 nd (aO cB ai (aO bW (pv 2) (aO eP (aO LO (aO jo ai ai) (aO jo ai ai)) ai)))))
bb)
(iw (bN (aV cJ (aO bW (pv 2) ai) ai (aY _))
(au (sv 7 nd (xl (bP (aa ai (aa (oT kP ai) (aa (aO jo ai ai) (aa (aO eP ai (aO bW (pv 2) (aO jo ai ai))) av))))) (aO bW (pv 3) ai))))
bb)
(iw (bN (aV cJ (aO bW (pv 2) ai) ai (aY _))
(au (sv 6 nd (xl (bP (aa (aO jo ai ai) (aa (oT kP (aO jo ai ai)) (aa (aO eP (aO bW (pv 2) ai) ai) av)))) (aO bW (pv 3) ai))))
bb)
(iw (bN (aV cJ (aO bW (pv 2) ai) ai (aY _))
(au (sv 6 nd (aO lZ (aO bW (pv 2) (aO jo ai ai)) (xl (bP (aa ai (aa (oT kP ai) av))) (aO bW (pv 1) ai)))))
bb)
(au (a0 (cG (aa (pv 5) (aa (pv 6) (aa (pv 7) av))))))))))))))))),?_⟩
  refine⟨_,rfl,_,rfl,a,_,_,.int (cs.getD i 0),rfl,rfl,hS,nF hi,?_⟩
  generalize cs.getD i 0=cell
  refine⟨_,rfl,_,_,rfl,rfl,⟨by decide,by decide⟩,?_⟩
  refine⟨_,rfl,a,cs,rfl,hS,fun pn names H1 s1 Hr hn0 hn6=>?_⟩
  have Tc:0 < names.length:=List.length_pos_iff.mpr hn0
  obtain⟨aH,_,Td⟩:=kI (g:=V.str) (xs:=names) (m:=((names.map V.str).length:Int)) (x:=cell / 16 + (i:Int)) (by rw[ae]) (by rw[ae]; lia)
  refine⟨_,rfl,_,rfl,_,rfl,_,_,rfl,rfl,_,rfl,pn,_,rfl,.inl (bA.of Hr),_,_,rfl,rfl,(by rw[ae]; show(0:Int) < _; lia),pn,_,_,.str aH,rfl,rfl,bA.of Hr,Td,?_⟩
  refine⟨_,rfl,_,rfl,_,_,rfl,rfl,.inl ⟨by decide,by decide⟩,_,_,rfl,rfl,_,_,_,rfl,by decide,by decide,fun r1 _ K9=>⟨_,_,rfl,rfl,?_⟩⟩
  refine⟨_,rfl,_,rfl,_,_,rfl,rfl,.inl ⟨by decide,by decide⟩,_,_,rfl,rfl,_,_,_,rfl,by decide,by decide,fun r2 _ _=>⟨_,_,rfl,rfl,?_⟩⟩
  refine⟨fun σ' H'=> ∃day dH:Int,σ'=[some (.ref a),some (.int i),some (.int cell),some (.int (cell / 16)),some (.ref pn),some (.str aH),some (.int day),some (.int dH)]/\aD H H'/\day<=vp,?_,?_⟩
  ·refine⟨_,rfl,_,_,rfl,rfl,(by show(0:Int) < 7; decide),rfl,_,rfl,cm (fun c=>?_) (fun c=>⟨_,_,rfl,s1,Cn (by lia)⟩)⟩
   refine⟨_,rfl,_,rfl,_,_,rfl,rfl,.inl ⟨by decide,by decide⟩,_,_,rfl,rfl,_,_,_,rfl,by decide,by decide,fun r3 _ _=>⟨_,_,rfl,rfl,.inr ⟨by decide,by decide⟩,_,_,rfl,rfl,?_⟩⟩
   exact⟨_,_,rfl,s1,Cn (by lia)⟩
  rintro σ' H2 ⟨day,dH,rfl,s2,oN⟩
  clear Hr Td s1
  refine⟨fun σ' H'=> ∃day dH:Int,σ'=[some (.ref a),some (.int i),some (.int cell),some (.int (cell / 16)),some (.ref pn),some (.str aH),some (.int day),some (.int dH)]/\aD H H'/\day<=vp,?_,?_⟩
  ·refine⟨_,rfl,_,_,rfl,rfl,(by show(0:Int) < 41; decide),rfl,_,rfl,cm (fun c=>?_) (fun c=>⟨_,_,rfl,s2,oN⟩)⟩
   refine⟨_,rfl,_,_,rfl,rfl,⟨by decide,by decide,by decide⟩,_,_,rfl,rfl,⟨by decide,by decide,by decide⟩,_,_,rfl,rfl,⟨by decide +kernel,by decide +kernel⟩,_,_,rfl,rfl,_,_,rfl,rfl,(by show(0:Int) < _; decide +kernel),_,_,rfl,rfl,?_⟩
   exact⟨_,_,rfl,s2,oN⟩
  rintro σ' H3 ⟨day,dH,rfl,s3,oN⟩
  refine⟨fun σ' H'=> ∃day dH:Int,σ'=[some (.ref a),some (.int i),some (.int cell),some (.int (cell / 16)),some (.ref pn),some (.str aH),some (.int day),some (.int dH)]/\aD H H'/\day<=vp,?_,?_⟩
  ·refine⟨_,rfl,_,_,rfl,rfl,(by show(0:Int) < 41; decide),rfl,_,rfl,cm (fun c=>?_) (fun c=>⟨_,_,rfl,s3,oN⟩)⟩
   refine⟨_,rfl,_,_,rfl,rfl,⟨by decide,by decide,by decide⟩,_,rfl,_,_,rfl,rfl,⟨by decide,by decide,by decide⟩,_,_,rfl,rfl,(by show(0:Int) < _; decide +kernel),_,_,rfl,rfl,(by show 4<=sizeLine; decide),fun p4 n4=>?_⟩
   obtain⟨y,hy⟩:=at4 0 (-1) (10 ^ (12:Int).toNat) (0 - cell % 10 ^ (60:Int).toNat) (cell / 16)
   refine⟨_,rfl,_,_,rfl,rfl,(by show(0:Int) < 4; decide),p4,_,_,.int y,rfl,rfl,bA.of ag,hy,?_⟩
   exact⟨_,_,rfl,s3.trans (aD.new n4),oN⟩
  rintro σ' H4 ⟨day,dH,rfl,s4,oN⟩
  refine⟨fun σ' H'=> ∃day dH:Int,σ'=[some (.ref a),some (.int i),some (.int cell),some (.int (cell / 16)),some (.ref pn),some (.str aH),some (.int day),some (.int dH)]/\aD H H'/\day<=vp,?_,?_⟩
  ·refine⟨_,rfl,_,_,rfl,rfl,(by show(0:Int) < 43; decide),rfl,_,rfl,cm (fun c=>?_) (fun c=>⟨_,_,rfl,s4,oN⟩)⟩
   refine⟨_,_,rfl,rfl,⟨by decide,by decide,by decide⟩,_,_,rfl,rfl,⟨by decide,by decide,by decide⟩,_,rfl,_,rfl,_,_,rfl,rfl,(by show(0:Int) < 2001; decide),_,_,rfl,rfl,(by show 3<=sizeLine; decide),fun p4 n4=>?_⟩
   obtain⟨y,hy3,hy⟩:=at3 (10 ^ (9:Int).toNat) (-(10 ^ (9:Int).toNat)) (cell % 2001 - 1000) (cell / 16)
   refine⟨_,rfl,_,_,rfl,rfl,(by show(0:Int) < 3; decide),p4,_,_,.int y,rfl,rfl,bA.of ag,hy,?_⟩
   refine⟨_,_,rfl,s4.trans (aD.new n4),?_⟩
   rcases hy3 with rfl|rfl|rfl
   ·exact Cn (by decide +kernel)
   ·exact Cn (by decide +kernel)
   ·exact Cn (by lia)
  rintro σ' H5 ⟨day,dH,rfl,s5,oN⟩
  refine⟨fun σ' H'=> ∃day dH:Int,σ'=[some (.ref a),some (.int i),some (.int cell),some (.int (cell / 16)),some (.ref pn),some (.str aH),some (.int day),some (.int dH)]/\aD H H'/\day<=vp,?_,?_⟩
  ·refine⟨_,rfl,_,_,rfl,rfl,(by show(0:Int) < 43; decide),rfl,_,rfl,cm (fun c=>?_) (fun c=>⟨_,_,rfl,s5,oN⟩)⟩
   refine⟨_,rfl,_,_,rfl,rfl,⟨by decide,by decide,by decide⟩,_,_,rfl,rfl,(by show(0:Int) < _; decide +kernel),_,rfl,(by show 2<=sizeLine; decide),fun p4 n4=>?_⟩
   obtain⟨y,XO,hy⟩:=XN 1 (-1) (i:Int)
   refine⟨_,rfl,_,_,rfl,rfl,(by show(0:Int) < 2; decide),p4,_,_,.int y,rfl,rfl,bA.of ag,hy,_,_,rfl,rfl,.inr (by rcases XO with rfl|rfl <;> exact⟨by decide,by decide⟩),?_⟩
   refine⟨_,_,rfl,s5.trans (aD.new n4),?_⟩
   have m1:0<=cell % 10 ^ (60:Int).toNat:=kq _ (by decide +kernel)
   have m2:cell % 10 ^ (60:Int).toNat < 10 ^ 60:=qp _ (by decide +kernel)
   have m3:(0:Int)<=10 ^ 60:=by decide +kernel
   refine Fe ?_
   generalize (10:Int) ^ 60=b60 at m2 m3 ⊢
   rcases XO with rfl|rfl <;> lia
  rintro σ' H6 ⟨day,dH,rfl,s6,oN⟩
  refine⟨_,rfl,_,rfl,_,rfl,(by show 3<=sizeLine; decide),fun p n=>?_⟩
  exact k p aH day dH _ (s6.trans (aD.new n)) ag oN
theorem gf {H:Hp}{a:Addr}{o o':HO}:upd (upd H a o) a o'=upd H a o':=by
 funext b
 by_cases h:b=a
 ·rw[h,ag,ag]
 ·rw[az h,az h,az h]
theorem pl {f:Str}{v:V}{fs:List (Str×V)}{n:Nat}(h:fs.length<=n):(eE f v fs).length<=n + 1:=aZ (mR f v fs) (Nat.add_le_add_right h 1)
theorem Co:([]:List (Str×V)).length<=0:=aE _
theorem lt1000 {fs:List (Str×V)}{n:Nat}(h:fs.length<=n)(k:n < 1000):fs.length < 1000:=qm h k
theorem JP (n:Nat)(r:Rw):eE "amount" (.int r.c) (eE "due" (.int r.b) (eE "day" (.int r.a) (eE "who" (.str r.aH) (eE "number" (.int n) []))))=fC n r:=by rfl
theorem JQ (n:Nat)(r:Rw):eE "only" (tw r.c) (eE "amount" (.int r.b) (eE "day" (.int r.a) (eE "who" (.str r.aH) (eE "number" (.int n) []))))=ff n r:=by rfl
inductive z6 (A:dY)(vs:List V)(H:Hp)(Q:VK)(E':XK):Prop
 |mk (x dx:Addr)(n:Nat)(r:Rw)(h1:vs=[.ref x,.int n,.str r.aH,.int r.a,.int r.b,.int r.c])(h2:H x=some (.ins A.dW dx []))(h3:Q .eu (upd H x (.ins A.dW dx (fC n r)))):z6 A vs H Q E'
theorem Ms:aS ["self","number","who","day","due","amount"] ["self","number","who","day","due","amount"] (ay (mem 13 0)):={}
theorem Ph {A:dY}(G:jB K mg A):uc P w K mg base "Bill" A.dW 1 ["self","number","who","day","due","amount"] (z6 A):=by
 refine Mq (k:=0) G.Mj G.Mi Ms (fun f cU A' outer s H vs Q E hr h=>?_)
 ·obtain⟨x,dx,n,r,rfl,hx,k⟩:=h
  refine⟨_,(ah (fT (pv 0) (pv 1) rfl)
(ah (fT (pv 0) (pv 2) rfl)
(ah (fT (pv 0) (pv 3) rfl)
(ah (fT (pv 0) (pv 4) rfl)
(au (fT (pv 0) (pv 5) rfl)))))),?_⟩
  refine⟨_,rfl,_,rfl,x,_,dx,_,rfl,hx,G.d9,G.eV,lt1000 Co (by decide),?_⟩
  refine⟨_,rfl,_,rfl,x,_,dx,_,rfl,ag,G.d9,G.kH,lt1000 (pl Co) (by decide),?_⟩
  refine⟨_,rfl,_,rfl,x,_,dx,_,rfl,ag,G.d9,G.nv,lt1000 (pl (pl Co)) (by decide),?_⟩
  refine⟨_,rfl,_,rfl,x,_,dx,_,rfl,ag,G.d9,G.ny,lt1000 (pl (pl (pl Co))) (by decide),?_⟩
  refine⟨_,rfl,_,rfl,x,_,dx,_,rfl,ag,G.d9,G.nz,lt1000 (pl (pl (pl (pl Co)))) (by decide),?_⟩
  rw[gf,gf,gf,gf,JP]
  exact k
inductive z7 (A:dY)(vs:List V)(H:Hp)(Q:VK)(E':XK):Prop
 |mk (x dx:Addr)(n:Nat)(r:Rw)(h1:vs=[.ref x,.int n,.str r.aH,.int r.a,.int r.b,tw r.c])(h2:H x=some (.ins A.d8 dx []))(h3:Q .eu (upd H x (.ins A.d8 dx (ff n r)))):z7 A vs H Q E'
theorem Hs:aS ["self","number","who","day","amount","only"] ["self","number","who","day","amount","only"] (ay (mem 14 0)):={}
theorem JR {A:dY}(G:jB K mg A):uc P w K mg base "Credit" A.d8 1 ["self","number","who","day","amount","only"] (z7 A):=by
 refine Mq (k:=0) G.Hj G.Hh Hs (fun f cU A' outer s H vs Q E hr h=>?_)
 ·obtain⟨x,dx,n,r,rfl,hx,k⟩:=h
  refine⟨_,(ah (fT (pv 0) (pv 1) rfl)
(ah (fT (pv 0) (pv 2) rfl)
(ah (fT (pv 0) (pv 3) rfl)
(ah (fT (pv 0) (pv 4) rfl)
(au (fT (pv 0) (pv 5) rfl)))))),?_⟩
  refine⟨_,rfl,_,rfl,x,_,dx,_,rfl,hx,G.dh,G.eO,lt1000 Co (by decide),?_⟩
  refine⟨_,rfl,_,rfl,x,_,dx,_,rfl,ag,G.dh,G.kY,lt1000 (pl Co) (by decide),?_⟩
  refine⟨_,rfl,_,rfl,x,_,dx,_,rfl,ag,G.dh,G.ja,lt1000 (pl (pl Co)) (by decide),?_⟩
  refine⟨_,rfl,_,rfl,x,_,dx,_,rfl,ag,G.dh,G.lI,lt1000 (pl (pl (pl Co))) (by decide),?_⟩
  refine⟨_,rfl,_,rfl,x,_,dx,_,rfl,ag,G.dh,G.jZ,lt1000 (pl (pl (pl (pl Co)))) (by decide),?_⟩
  rw[gf,gf,gf,gf,JQ]
  exact k
inductive z8 (A:dY)(vs:List V)(H:Hp)(Q:VK)(E':XK):Prop
 |mk (pw:Addr)(S:Bk)(f:eN)(c b:Nat)(x:Int)(h1:vs=[.ref pw,.int c,.int b,.int x])(h2:dE A H pw S f)(h3:c < S.credits.length)(h4:b < S.aI.length)(h5:S.made.length < sizeLine)(h6: ∀H',Frame f.fp H H'->dE A H' pw (S.put c b x) f->Q .eu H'):z8 A vs H Q E'
theorem Cp:aS ["self","credit_number","bill_number","amount"] ["self","credit_number","bill_number","amount"] (ay (mem 25 8)):={}
theorem Mt {rows:List Rw}{i:Nat}(h:i < rows.length):se (rows.map fun r=>V.int r.d) (i:Int)=some (.int (rows.getD i default).d):=cy (by
 rw[aB,aj,af h]; rfl)
theorem Nv {A:dY}(G:jB K mg A):gW sf P w K mg base A.work "put" 1 ["self","credit_number","bill_number","amount"] (z8 A):=by
 refine Mp (k:=0) G.Cd G.bH Cp (fun f cU A' outer s H vs Q E hr h=>?_)
 ·obtain⟨pw,S,g,c,b,x,rfl,hW,hc,hb,hz,k⟩:=h
  obtain⟨dw,hw⟩:=hW.obj
  obtain⟨ms,m1,m2⟩:=hW.hm
  obtain⟨e1,e2,e3,e4,e5,e6,e7,e8,e9,Nt⟩:=eN.ne hW.nd
  have nw: ∀q∈g.fp,pw≠q:=fun q hq z=>hW.ins hW.obj (z▸hq)
  have w3:=nw g.pl (by simp[eN.fp])
  have w4:=nw g.pf (by simp[eN.fp])
  refine⟨_,(ah (lY (aO eP (xl (bX (pv 0) rfl) (pv 1)) (pv 3)) (pI (bX (pv 0) rfl) (pv 1) set_list))
(ah (lY (aO eP (xl (bX (pv 0) rfl) (pv 2)) (pv 3)) (pI (bX (pv 0) rfl) (pv 2) set_list))
(au (bK (oW (bX (pv 0) rfl) (cG (aa (pv 1) (aa (pv 2) (aa (pv 3) av))))))))),?_⟩
  refine⟨_,rfl,pw,_,dw,_,_,rfl,hw,G.bH,G.fF,lH g,_,rfl,g.pf,_,_,_,rfl,rfl,bA.of hW.hf,Mt hc,_,rfl,_,_,rfl,rfl,?_⟩
  refine⟨_,rfl,pw,_,dw,_,_,rfl,hw,G.bH,G.fF,lH g,_,rfl,g.pf,_,_,c,rfl,rfl,hW.hf,ra (by rw[ae]; exact hc),?_⟩
  have Te:upd H g.pf (.lst ((S.credits.map fun r=>V.int r.d).set c (.int ((S.cr c).d - x)))) pw=some (.ins A.work dw (lF g)):=by rw[az w4]; exact hw
  have Nw:upd H g.pf (.lst ((S.credits.map fun r=>V.int r.d).set c (.int ((S.cr c).d - x)))) g.pl=some (.lst (S.aI.map fun r=>V.int r.d)):=by rw[az e8]; exact hW.hl
  refine⟨_,rfl,pw,_,dw,_,_,rfl,Te,G.bH,G.fE,lG g,_,rfl,g.pl,_,_,_,rfl,rfl,bA.of Nw,Mt hb,_,rfl,_,_,rfl,rfl,?_⟩
  refine⟨_,rfl,pw,_,dw,_,_,rfl,Te,G.bH,G.fE,lG g,_,rfl,g.pl,_,_,b,rfl,rfl,Nw,ra (by rw[ae]; exact hb),?_⟩
  have QV:upd (upd H g.pf (.lst ((S.credits.map fun r=>V.int r.d).set c (.int ((S.cr c).d - x))))) g.pl (.lst ((S.aI.map fun r=>V.int r.d).set b (.int ((S.bl b).d - x)))) pw=some (.ins A.work dw (lF g)):=by rw[az w3]; exact Te
  have XQ:upd (upd H g.pf (.lst ((S.credits.map fun r=>V.int r.d).set c (.int ((S.cr c).d - x))))) g.pl (.lst ((S.aI.map fun r=>V.int r.d).set b (.int ((S.bl b).d - x)))) g.pm=some (.lst ms):=by rw[az e9.symm,az Nt.symm]; exact m1
  refine⟨_,rfl,pw,_,dw,_,_,rfl,QV,G.bH,G.mj,Fu g,.inl ⟨rfl,_,bA.of XQ⟩,_,rfl,_,rfl,_,rfl,(by show 3<=sizeLine; decide),fun p8 n8=>?_⟩
  have n8':H p8=none:=by
   by_cases z1:p8=g.pl
   ·rw[z1,ag] at n8; cases n8
   ·rw[az z1] at n8
    by_cases z2:p8=g.pf
    ·rw[z2,ag] at n8; cases n8
    ·rw[az z2] at n8; exact n8
  refine⟨g.pm,ms,_,rfl,rfl,aD.new n8 _ _ XQ,by rw[← aL m2]; exact hz,?_⟩
  obtain⟨W,F⟩:=hW.put (x:=x) hc hb m1 m2 n8'
  exact k _ F W
end
end eG
namespace L2
open PySem PySem.Spec PySem.W PyProof.Rows
section
variable {A:dY}{H H':Hp}{pw x:Addr}{S:Bk}{f:eN}{r:Rw}
def eN.kA (f:eN)(p:Addr):eN:={f with iA:=f.iA ++ [p]}
def eN.ip (f:eN)(p:Addr):eN:={f with cps:=f.cps ++ [p]}
theorem dE.kA (h:dE A H pw S f)(hx:eA H x A.dW (fC S.aI.length r)):
  dE A (upd (upd H f.pb (.lst (f.iA.map V.ref ++ [.ref x]))) f.pl (.lst ((S.aI.map fun r=>V.int r.d) ++ [.int r.d]))) pw (S.kA r) (f.kA x)/\Frame f.fp H (upd (upd H f.pb (.lst (f.iA.map V.ref ++ [.ref x]))) f.pl (.lst ((S.aI.map fun r=>V.int r.d) ++ [.int r.d]))):=by
 obtain⟨e1,e2,e3,e4,e5,e6,e7,e8,e9,Nt⟩:=eN.ne h.nd
 have F:Frame f.fp H (upd (upd H f.pb (.lst (f.iA.map V.ref ++ [.ref x]))) f.pl (.lst ((S.aI.map fun r=>V.int r.d) ++ [.int r.d]))):=(Frame.upd (by simp[eN.fp])).tr (Frame.upd (by simp[eN.fp]))
 refine⟨?_,F⟩
 obtain⟨o1,o2,o3⟩:=h.objs F
 have tk:=h.tk F
 obtain⟨ms,m1,m2⟩:=h.hm
 have t: ∀q,q≠f.pb->q≠f.pl->upd (upd H f.pb (.lst (f.iA.map V.ref ++ [.ref x]))) f.pl (.lst ((S.aI.map fun r=>V.int r.d) ++ [.int r.d])) q=H q:=fun q z1 z2=>by rw[az z2,az z1]
 refine⟨o1,?_,?_,?_,?_,⟨ms,?_,m2.mono tk⟩,o2.add (hx.frame F (h.ins hx)),o3,h.nd⟩
 ·show upd (upd H f.pb _) f.pl _ f.pb=some (.lst ((f.iA ++ [x]).map V.ref))
  rw[az e2,ag,aK]; rfl
 ·exact(t f.pc e1.symm e5).trans h.hc
 ·show upd (upd H f.pb _) f.pl _ f.pl=some (.lst ((S.aI ++ [r]).map fun r=>V.int r.d))
  rw[ag,aK]; rfl
 ·exact(t f.pf e3.symm e8.symm).trans h.hf
 ·exact(t f.pm e4.symm e9.symm).trans m1
theorem dE.ip (h:dE A H pw S f)(hx:eA H x A.d8 (ff S.credits.length r)):
  dE A (upd (upd H f.pc (.lst (f.cps.map V.ref ++ [.ref x]))) f.pf (.lst ((S.credits.map fun r=>V.int r.d) ++ [.int r.d]))) pw (S.ip r) (f.ip x)/\Frame f.fp H (upd (upd H f.pc (.lst (f.cps.map V.ref ++ [.ref x]))) f.pf (.lst ((S.credits.map fun r=>V.int r.d) ++ [.int r.d]))):=by
 obtain⟨e1,e2,e3,e4,e5,e6,e7,e8,e9,Nt⟩:=eN.ne h.nd
 have F:Frame f.fp H (upd (upd H f.pc (.lst (f.cps.map V.ref ++ [.ref x]))) f.pf (.lst ((S.credits.map fun r=>V.int r.d) ++ [.int r.d]))):=(Frame.upd (by simp[eN.fp])).tr (Frame.upd (by simp[eN.fp]))
 refine⟨?_,F⟩
 obtain⟨o1,o2,o3⟩:=h.objs F
 have tk:=h.tk F
 obtain⟨ms,m1,m2⟩:=h.hm
 have t: ∀q,q≠f.pc->q≠f.pf->upd (upd H f.pc (.lst (f.cps.map V.ref ++ [.ref x]))) f.pf (.lst ((S.credits.map fun r=>V.int r.d) ++ [.int r.d])) q=H q:=fun q z1 z2=>by rw[az z2,az z1]
 refine⟨o1,?_,?_,?_,?_,⟨ms,?_,m2.mono tk⟩,o2,o3.add (hx.frame F (h.ins hx)),h.nd⟩
 ·exact(t f.pb e1 e3).trans h.hb
 ·show upd (upd H f.pc _) f.pf _ f.pc=some (.lst ((f.cps ++ [x]).map V.ref))
  rw[az e6,ag,aK]; rfl
 ·exact(t f.pl e5.symm e8).trans h.hl
 ·show upd (upd H f.pc _) f.pf _ f.pf=some (.lst ((S.credits ++ [r]).map fun r=>V.int r.d))
  rw[ag,aK]; rfl
 ·exact(t f.pm e7.symm Nt.symm).trans m1
end
end L2
namespace eG
open PySem L2 PyProof.Rows K4
seal L2.oS L2.PS L2.PE L2.PT L2.PW L2.PA L2.PC L2.PG L2.KY L2.PI L2.LH L2.K0 L2.PO L2.oF L2.Nc L2.iN L2.IU L2.Oh
section
variable {P:Program}{w:World}{K:Frag}{mg:Str->Option Value}{base:Heap}
def Mu (A:dY)(K:Frag)(E:XK)(t:Str)(H:Hp):Prop:= ∀C,gU K C A.refusal->(t="too much"->C=A.tooMuch)->EX E C t H
inductive JS (A:dY)(K:Frag)(vs:List V)(H:Hp)(Q:VK)(E:XK):Prop
 |mk (pw:Addr)(S:Bk)(f:eN)(n:Int)(h1:vs=[.ref pw,.int n])(h2:dE A H pw S f)(h3:(qq n S.credits.length-> ∀p,eA H p A.d8 (ff n.toNat (S.cr n.toNat))->Q (.ref p) H))(h4:(¬ qq n S.credits.length->Mu A K E "no credit" H)):JS A K vs H Q E
inductive Fv (A:dY)(K:Frag)(vs:List V)(H:Hp)(Q:VK)(E:XK):Prop
 |mk (pw:Addr)(S:Bk)(f:eN)(n:Int)(h1:vs=[.ref pw,.int n])(h2:dE A H pw S f)(h3:(qq n S.aI.length-> ∀p,eA H p A.dW (fC n.toNat (S.bl n.toNat))->Q (.ref p) H))(h4:(¬ qq n S.aI.length->Mu A K E "no bill" H)):Fv A K vs H Q E
theorem rg:aS ["self","number"] ["self","number"] (ay (mem 25 9)):={}
theorem Cq (T:Txt K mg){A:dY}(G:jB K mg A):gW (mK P w mg) P w K mg base A.work "credit_at" 4 ["self","number"] (JS A K):=by
 refine qZ (k:=3) G.qY G.bH rg (fun f cU A' outer s H vs Q E hr mC h=>?_)
 ·obtain⟨pw,S,g,n,rfl,hW,k1,k2⟩:=h
  obtain⟨dw,hw⟩:=hW.obj
  have hlen:(g.cps.map V.ref).length=S.credits.length:=by rw[ae]; exact hW.rc.1
  refine⟨_,(ah (bN (PW.pt (pw_or (aV ju (pv 1) ai (aY _)) (pw_or1 (aV IF (pv 1) (mh T.dD (bX (pv 0) rfl)) (aY _)))))
(au (jW mC (Cf T G) (hr.h.mono (by decide)) rfl rfl))
bb)
(au (a0 (xl (bX (pv 0) rfl) (pv 1))))),?_⟩
  have no: ¬ qq n S.credits.length-> ∀dx,H dx=none->E (.ref A.jY) (some dx) (upd H dx (.xd [("text",.str "no credit")])):=fun z dx hd=>(k2 z A.jY G.tE (fun q=>absurd q (by decide +kernel))).at hd
  refine⟨_,rfl,_,_,rfl,rfl,_,rfl,cm (fun z=>fG (no fun q=>?_)) (fun z=>?_)⟩
  ·have z':n < 0:=aN z
   have:=q.1
   lia
  have z1: ¬ n < 0:=fun q=>z (aG q)
  refine⟨_,rfl,_,rfl,pw,_,dw,_,_,rfl,hw,G.bH,G.cF,g9 g,g.pc,_,rfl,.inl (bA.of hW.hc),_,_,rfl,rfl,_,rfl,cm (fun z=>no fun q=>?_) (fun z=>?_)⟩
  ·have z':((g.cps.map V.ref).length:Int)<=n:=aN z
   have:=q.2
   lia
  have z2: ¬ ((g.cps.map V.ref).length:Int)<=n:=fun q=>z (aG q)
  have jU:qq n S.credits.length:=⟨by lia,by lia⟩
  obtain⟨c,rfl⟩:=cw jU.1
  have hc:c < S.credits.length:=by have:=jU.2; lia
  obtain⟨p,XR,tU⟩:=hW.rc.get hc
  refine⟨_,rfl,pw,_,dw,_,_,rfl,hw,G.bH,G.cF,g9 g,_,rfl,g.pc,_,_,.ref p,rfl,rfl,bA.of hW.hc,cy (by rw[aB,XR]; rfl),?_⟩
  exact k1 jU p tU
theorem ue:aS ["self","number"] ["self","number"] (ay (mem 25 10)):={}
theorem yB (T:Txt K mg){A:dY}(G:jB K mg A):gW (mK P w mg) P w K mg base A.work "bill_at" 4 ["self","number"] (Fv A K):=by
 refine qZ (k:=3) G.ub G.bH ue (fun f cU A' outer s H vs Q E hr mC h=>?_)
 ·obtain⟨pw,S,g,n,rfl,hW,k1,k2⟩:=h
  obtain⟨dw,hw⟩:=hW.obj
  have hlen:(g.iA.map V.ref).length=S.aI.length:=by rw[ae]; exact hW.rb.1
  refine⟨_,(ah (bN (PW.pt (pw_or (aV ju (pv 1) ai (aY _)) (pw_or1 (aV IF (pv 1) (mh T.dD (bX (pv 0) rfl)) (aY _)))))
(au (jW mC (Hn T G) (hr.h.mono (by decide)) rfl rfl))
bb)
(au (a0 (xl (bX (pv 0) rfl) (pv 1))))),?_⟩
  have no: ¬ qq n S.aI.length-> ∀dx,H dx=none->E (.ref A.pV) (some dx) (upd H dx (.xd [("text",.str "no bill")])):=fun z dx hd=>(k2 z A.pV G.yy (fun q=>absurd q (by decide +kernel))).at hd
  refine⟨_,rfl,_,_,rfl,rfl,_,rfl,cm (fun z=>fG (no fun q=>?_)) (fun z=>?_)⟩
  ·have z':n < 0:=aN z
   have:=q.1
   lia
  have z1: ¬ n < 0:=fun q=>z (aG q)
  refine⟨_,rfl,_,rfl,pw,_,dw,_,_,rfl,hw,G.bH,G.dX,ji g,g.pb,_,rfl,.inl (bA.of hW.hb),_,_,rfl,rfl,_,rfl,cm (fun z=>no fun q=>?_) (fun z=>?_)⟩
  ·have z':((g.iA.map V.ref).length:Int)<=n:=aN z
   have:=q.2
   lia
  have z2: ¬ ((g.iA.map V.ref).length:Int)<=n:=fun q=>z (aG q)
  have jU:qq n S.aI.length:=⟨by lia,by lia⟩
  obtain⟨c,rfl⟩:=cw jU.1
  have hc:c < S.aI.length:=by have:=jU.2; lia
  obtain⟨p,XR,tU⟩:=hW.rb.get hc
  refine⟨_,rfl,pw,_,dw,_,_,rfl,hw,G.bH,G.dX,ji g,_,rfl,g.pb,_,_,.ref p,rfl,rfl,bA.of hW.hb,cy (by rw[aB,XR]; rfl),?_⟩
  exact k1 jU p tU
def Tf (A:dY)(Q:VK)(H:Hp)(pw:Addr)(f:eN)(S':Bk)(v:V):Prop:= ∀f' H',f'.fp=f.fp->Frame f.fp H H'->dE A H' pw S' f'->Q v H'
inductive uv (A:dY)(K:Frag)(vs:List V)(H:Hp)(Q:VK)(E:XK):Prop
 |mk (pw:Addr)(S:Bk)(f:eN)(aH:Str)(day dH only:Int)(h1:vs=[.ref pw,.str aH,.int day,.int dH,tw only])(h2:dE A H pw S f)(h3:S.credits.length<=900)(h4:(1<=dH->Tf A Q H pw f (S.ip ⟨aH,day,dH,only,dH⟩) (.int S.credits.length)))(h5:(dH < 1->Mu A K E "no amount" H)):uv A K vs H Q E
theorem jv:aS ["self","who","day","amount","only","number"] ["self","who","day","amount","only"] (ay (mem 25 4)):={}
theorem lJ {H:Hp}{x dx C:Addr}{fs:List (Str×V)}(nx:H x=none)(nd:H dx=none)(ne:dx≠x):aD H (upd (upd H dx (.own x)) x (.ins C dx fs)):=(aD.new nd).trans (aD.new (by rw[az ne.symm]; exact nx))
theorem oZ (T:Txt K mg){A:dY}(G:jB K mg A):gW (mK P w mg) P w K mg base A.work "tell_credit" 5 ["self","who","day","amount","only"] (uv A K):=by
 have gz:vG P w K mg base "check_amount" 4 ["amount"] (q0 A):=j7 T G
 have JT:uc P w K mg base "Credit" A.d8 1 ["self","number","who","day","amount","only"] (z7 A):=JR G
 refine qZ (k:=4) G.oK G.bH jv (fun f cU A' outer s H vs Q E hr mC h=>?_)
 ·obtain⟨pw,S,g,aH,day,dH,only,rfl,hW,hl,k1,k2⟩:=h
  have nd:=jv.nd
  obtain⟨dw,hw⟩:=hW.obj
  have hlen:(g.cps.map V.ref).length=S.credits.length:=by rw[ae]; exact hW.rc.1
  refine⟨_,(ah (bK (sD gz (hr.mono (by decide)) rfl mC.pass (aa (pv 3) av)))
(ah (sv 5 nd (mh T.dD (bX (pv 0) rfl)))
(ah (bK (oW (bX (pv 0) rfl) (S9 JT (hr.mono (by decide)) rfl (aa (pv 5) (aa (pv 1) (aa (pv 2) (aa (pv 3) (aa (pv 4) av))))))))
(ah (bK (oW (bX (pv 0) rfl) (pv 3)))
(au (a0 (pv 5))))))),?_⟩
  refine⟨_,rfl,dH,rfl,fun h1=>?_,fun h2=>k2 h2 A.iD G.kG (fun q=>absurd q (by decide +kernel))⟩
  refine⟨_,rfl,pw,_,dw,_,_,rfl,hw,G.bH,G.cF,g9 g,g.pc,_,rfl,.inl (bA.of hW.hc),?_⟩
  refine⟨_,rfl,pw,_,dw,_,_,rfl,hw,G.bH,G.cF,g9 g,.inl ⟨rfl,_,bA.of hW.hc⟩,_,rfl,_,rfl,_,rfl,_,rfl,_,rfl,fun x dx nx JN ne=>?_⟩
  refine⟨x,dx,(g.cps.map V.ref).length,⟨aH,day,dH,only,dH⟩,rfl,ag,rfl,?_⟩
  rw[gf,hlen]
  have s1:=lJ (C:=A.d8) (fs:=ff S.credits.length ⟨aH,day,dH,only,dH⟩) nx JN ne
  have hx:eA (upd (upd H dx (.own x)) x (.ins A.d8 dx (ff S.credits.length ⟨aH,day,dH,only,dH⟩))) x A.d8 (ff S.credits.length ⟨aH,day,dH,only,dH⟩):=⟨dx,ag⟩
  generalize upd (upd H dx (.own x)) x (.ins A.d8 dx (ff S.credits.length ⟨aH,day,dH,only,dH⟩))=H3 at s1 hx
  have z9:=hW.same s1
  obtain⟨W4,F4⟩:=z9.ip hx
  refine⟨g.pc,_,_,rfl,rfl,z9.hc,a9 (by lia),?_⟩
  have ew:pw≠g.pc:=fun z=>z9.ins z9.obj (z▸(by simp[eN.fp]))
  obtain⟨e1,e2,e3,e4,e5,e6,e7,e8,e9,Nt⟩:=eN.ne z9.nd
  refine⟨_,rfl,pw,_,dw,_,_,rfl,(by rw[az ew]; exact s1 _ _ hw),G.bH,G.fF,lH g,.inl ⟨rfl,_,bA.of (by rw[az e6.symm]; exact z9.hf)⟩,_,rfl,g.pf,_,_,rfl,rfl,(by rw[az e6.symm]; exact z9.hf),a9 (by rw[ae]; lia),?_⟩
  refine⟨_,rfl,?_⟩
  exact k1 h1 (g.ip x) _ rfl (F4.mi s1) W4
inductive Aa (A:dY)(K:Frag)(vs:List V)(H:Hp)(Q:VK)(E:XK):Prop
 |mk (pw:Addr)(S:Bk)(f:eN)(aH:Str)(day A5 dH:Int)(h1:vs=[.ref pw,.str aH,.int day,.int A5,.int dH])(h2:dE A H pw S f)(h3:S.aI.length<=900)(h4:(S.bar (.dW aH day A5 dH)=""->Tf A Q H pw f (S.enter (.dW aH day A5 dH)) (.int S.aI.length)))(h5:(S.bar (.dW aH day A5 dH)≠""->Mu A K E (S.bar (.dW aH day A5 dH)) H)):Aa A K vs H Q E
theorem kJ:aS ["self","who","day","due","amount","number"] ["self","who","day","due","amount"] (ay (mem 25 1)):={}
theorem Cr (T:Txt K mg){A:dY}(G:jB K mg A):gW (mK P w mg) P w K mg base A.work "tell_bill" 5 ["self","who","day","due","amount"] (Aa A K):=by
 have gz:vG P w K mg base "check_amount" 4 ["amount"] (q0 A):=j7 T G
 have Pj:uc P w K mg base "Bill" A.dW 1 ["self","number","who","day","due","amount"] (z6 A):=Ph G
 refine qZ (k:=4) G.qV G.bH kJ (fun f cU A' outer s H vs Q E hr mC h=>?_)
 ·obtain⟨pw,S,g,aH,day,A5,dH,rfl,hW,hl,k1,k2⟩:=h
  have nd:=kJ.nd
  obtain⟨dw,hw⟩:=hW.obj
  have oO:S.bar (.dW aH day A5 dH)=(if dH < 1 then("no amount":Str) else if A5 < day then("too early":Str) else("":Str)):=rfl
  rw[oO] at k1 k2
  have hlen:(g.iA.map V.ref).length=S.aI.length:=by rw[ae]; exact hW.rb.1
  refine⟨_,(ah (bK (sD gz (hr.mono (by decide)) rfl mC.pass (aa (pv 4) av)))
(ah (bN (aV ju (pv 3) (pv 2) (aY _))
(au (jW mC (Ck T G) (hr.h.mono (by decide)) rfl rfl))
bb)
(ah (sv 5 nd (mh T.dD (bX (pv 0) rfl)))
(ah (bK (oW (bX (pv 0) rfl) (S9 Pj (hr.mono (by decide)) rfl (aa (pv 5) (aa (pv 1) (aa (pv 2) (aa (pv 3) (aa (pv 4) av))))))))
(ah (bK (oW (bX (pv 0) rfl) (pv 4)))
(au (a0 (pv 5)))))))),?_⟩
  refine⟨_,rfl,dH,rfl,fun h1=>?_,fun h2=>?_⟩
  ·have n1': ¬ dH < 1:=by lia
   rw[aU n1'] at k1 k2
   refine⟨_,rfl,_,rfl,_,_,rfl,rfl,_,rfl,cm (fun z=>?_) (fun z=>?_)⟩
   ·have z':A5 < day:=aN z
    rw[a8 z'] at k2
    exact fun dx n=>(k2 (by decide +kernel) A.tooEarly G.tF (fun q=>absurd q (by decide +kernel))).at n
   have z': ¬ A5 < day:=fun q=>z (aG q)
   rw[aU z'] at k1
   refine⟨_,rfl,pw,_,dw,_,_,rfl,hw,G.bH,G.dX,ji g,g.pb,_,rfl,.inl (bA.of hW.hb),?_⟩
   refine⟨_,rfl,pw,_,dw,_,_,rfl,hw,G.bH,G.dX,ji g,.inl ⟨rfl,_,bA.of hW.hb⟩,_,rfl,_,rfl,_,rfl,_,rfl,_,rfl,fun x dx nx JN ne=>?_⟩
   refine⟨x,dx,(g.iA.map V.ref).length,⟨aH,day,A5,dH,dH⟩,rfl,ag,rfl,?_⟩
   rw[gf,hlen]
   have s1:=lJ (C:=A.dW) (fs:=fC S.aI.length ⟨aH,day,A5,dH,dH⟩) nx JN ne
   have hx:eA (upd (upd H dx (.own x)) x (.ins A.dW dx (fC S.aI.length ⟨aH,day,A5,dH,dH⟩))) x A.dW (fC S.aI.length ⟨aH,day,A5,dH,dH⟩):=⟨dx,ag⟩
   generalize upd (upd H dx (.own x)) x (.ins A.dW dx (fC S.aI.length ⟨aH,day,A5,dH,dH⟩))=H3 at s1 hx
   have z9:=hW.same s1
   obtain⟨W4,F4⟩:=z9.kA hx
   refine⟨g.pb,_,_,rfl,rfl,z9.hb,a9 (by lia),?_⟩
   have ew:pw≠g.pb:=fun z=>z9.ins z9.obj (z▸(by simp[eN.fp]))
   obtain⟨e1,e2,e3,e4,e5,e6,e7,e8,e9,Nt⟩:=eN.ne z9.nd
   refine⟨_,rfl,pw,_,dw,_,_,rfl,(by rw[az ew]; exact s1 _ _ hw),G.bH,G.fE,lG g,.inl ⟨rfl,_,bA.of (by rw[az e2.symm]; exact z9.hl)⟩,_,rfl,g.pl,_,_,rfl,rfl,(by rw[az e2.symm]; exact z9.hl),a9 (by rw[ae]; lia),?_⟩
   refine⟨_,rfl,?_⟩
   exact k1 rfl (g.kA x) _ rfl (F4.mi s1) W4
  ·rw[a8 h2] at k2
   exact k2 (by decide +kernel) A.iD G.kG (fun q=>absurd q (by decide +kernel))
theorem nJ (g:eN):(lF g).lookup ("tell_credit":Str)=none:=by rfl
theorem vK (g:eN):(lF g).lookup ("bill_at":Str)=none:=by rfl
theorem Ab (g:eN):(lF g).lookup ("credit_at":Str)=none:=by rfl
theorem JU (g:eN):(lF g).lookup ("put":Str)=none:=by rfl
inductive Ac (A:dY)(K:Frag)(vs:List V)(H:Hp)(Q:VK)(E:XK):Prop
 |mk (pw:Addr)(S:Bk)(f:eN)(aH:Str)(day dH:Int)(h1:vs=[.ref pw,.str aH,.int day,.int dH])(h2:dE A H pw S f)(h3:S.credits.length<=900)(h4:(S.bar (.rL aH day dH)=""->Tf A Q H pw f (S.enter (.rL aH day dH)) (.int S.credits.length)))(h5:(S.bar (.rL aH day dH)≠""->Mu A K E (S.bar (.rL aH day dH)) H)):Ac A K vs H Q E
theorem nK:aS ["self","who","day","amount"] ["self","who","day","amount"] (ay (mem 25 2)):={}
theorem vL (T:Txt K mg){A:dY}(G:jB K mg A):gW (mK P w mg) P w K mg base A.work "tell_payment" 6 ["self","who","day","amount"] (Ac A K):=by
 have k4:gW (mK P w mg) P w K mg base A.work "tell_credit" 5 ["self","who","day","amount","only"] (uv A K):=oZ T G
 refine qZ (k:=5) G.nA G.bH nK (fun f cU A' outer s H vs Q E hr mC h=>?_)
 ·obtain⟨pw,S,g,aH,day,dH,rfl,hW,hl,k1,k2⟩:=h
  obtain⟨dw,hw⟩:=hW.obj
  have oO:S.bar (.rL aH day dH)=(if dH < 1 then("no amount":Str) else("":Str)):=rfl
  rw[oO] at k1 k2
  refine⟨_,(au (a0 (nE k4 (hr.mono (by decide)) mC.pass (pv 0) (aa (pv 1) (aa (pv 2) (aa (pv 3) (aa Dq av))))))),?_⟩
  refine⟨_,rfl,pw,dw,_,rfl,hw,nJ g,_,rfl,_,rfl,_,rfl,pw,S,g,aH,day,dH,-1,rfl,hW,hl,fun h1=>?_,fun h2=>?_⟩
  ·rw[aU (by lia)] at k1
   exact k1 rfl
  ·rw[a8 h2] at k2
   exact k2 (by decide +kernel)
inductive Ad (A:dY)(K:Frag)(vs:List V)(H:Hp)(Q:VK)(E:XK):Prop
 |mk (pw:Addr)(S:Bk)(f:eN)(b day dH:Int)(h1:vs=[.ref pw,.int b,.int day,.int dH])(h2:dE A H pw S f)(h3:S.credits.length<=900)(h4:(S.bar (.note b day dH)=""->Tf A Q H pw f (S.enter (.note b day dH)) (.int S.credits.length)))(h5:(S.bar (.note b day dH)≠""->Mu A K E (S.bar (.note b day dH)) H)):Ad A K vs H Q E
theorem kK:aS ["self","bill_number","day","amount","bill"] ["self","bill_number","day","amount"] (ay (mem 25 3)):={}
theorem Cs (T:Txt K mg){A:dY}(G:jB K mg A):gW (mK P w mg) P w K mg base A.work "tell_note" 6 ["self","bill_number","day","amount"] (Ad A K):=by
 have k4:gW (mK P w mg) P w K mg base A.work "tell_credit" 5 ["self","who","day","amount","only"] (uv A K):=oZ T G
 have sE:gW (mK P w mg) P w K mg base A.work "bill_at" 4 ["self","number"] (Fv A K):=yB T G
 refine qZ (k:=5) G.qW G.bH kK (fun f cU A' outer s H vs Q E hr mC h=>?_)
 ·obtain⟨pw,S,g,b,day,dH,rfl,hW,hl,k1,k2⟩:=h
  have nd:=kK.nd
  obtain⟨dw,hw⟩:=hW.obj
  rw[vk] at k1 k2
  refine⟨_,(ah (sv 4 nd (nE sE (hr.mono (by decide)) mC.pass (pv 0) (aa (pv 1) av)))
(au (a0 (nE k4 (hr.mono (by decide)) mC.pass (pv 0) (aa (bX (pv 4) rfl) (aa (pv 2) (aa (pv 3) (aa (pv 1) av)))))))),?_⟩
  refine⟨_,rfl,pw,dw,_,rfl,hw,vK g,_,rfl,pw,S,g,b,rfl,hW,fun jU p hp=>?_,fun hn=>?_⟩
  ·obtain⟨dp,Tg⟩:=hp
   have zb: ¬ ¬ qq b S.aI.length:=fun z=>z jU
   rw[aU zb] at k1 k2
   have ho:tw b=V.int b:=aU (fun z=>by have:=jU.1; lia)
   refine⟨_,rfl,pw,dw,_,rfl,hw,nJ g,_,rfl,p,_,dp,_,_,rfl,Tg,G.d9,G.kH,DY _ _,_,rfl,_,rfl,_,rfl,pw,S,g,(S.bl b.toNat).aH,day,dH,b,(by rw[ho]; rfl),hW,hl,fun h1=>?_,fun h2=>?_⟩
   ·rw[aU (by lia)] at k1
    exact k1 rfl
   ·rw[a8 h2] at k2
    exact k2 (by decide +kernel)
  ·rw[a8 hn] at k2
   exact k2 (by decide +kernel)
theorem yC {S:Bk}{n c b:Nat}(wf:WF S n)(hc:c < S.credits.length)(hb:b < S.aI.length):oX (S.cr c) (S.bl b) b=S.eK c b:=by
 unfold oX Bk.eK
 by_cases z:(S.cr c).c= -1
 ·rw[a8 z,aG z,Bool.true_or,Bool.and_true]
 ·rw[aU z,bp z,Bool.false_or]
  rcases wf.o c hc with q|⟨b',e1,e2,e3⟩
  ·exact absurd q z
  ·by_cases y:(S.cr c).c=(b:Int)
   ·have:b'=b:=by lia
    subst this
    rw[aG y,aG e3]; rfl
   ·rw[bp y,lS]
inductive JV (A:dY)(K:Frag)(vs:List V)(H:Hp)(Q:VK)(E:XK):Prop
 |mk (pw:Addr)(S:Bk)(f:eN)(n:Nat)(ci bi dH:Int)(h1:vs=[.ref pw,.int ci,.int bi,.int dH])(h2:dE A H pw S f)(h3:WF S n)(h4:S.made.length < sizeLine)(h5:(S.bar (.set ci bi dH)=""->Tf A Q H pw f (S.enter (.set ci bi dH)) (.int dH)))(h6:(S.bar (.set ci bi dH)≠""->Mu A K E (S.bar (.set ci bi dH)) H)):JV A K vs H Q E
theorem jw:aS ["self","credit_number","bill_number","amount","credit","bill"] ["self","credit_number","bill_number","amount"] (ay (mem 25 5)):={}
theorem xv (T:Txt K mg){A:dY}(G:jB K mg A):gW (mK P w mg) P w K mg base A.work "set_by_hand" 5 ["self","credit_number","bill_number","amount"] (JV A K):=by
 have Ct:gW (mK P w mg) P w K mg base A.work "credit_at" 4 ["self","number"] (JS A K):=Cq T G
 have sE:gW (mK P w mg) P w K mg base A.work "bill_at" 4 ["self","number"] (Fv A K):=yB T G
 have JW:gW sf P w K mg base A.work "put" 1 ["self","credit_number","bill_number","amount"] (z8 A):=Nv G
 have Ec:eM P w K mg base "fits" 1 ["credit","bill"] (zY A):=JO T G
 have gz:vG P w K mg base "check_amount" 4 ["amount"] (q0 A):=j7 T G
 refine qZ (k:=4) G.oM G.bH jw (fun f cU A' outer s H vs Q E hr mC h=>?_)
 ·obtain⟨pw,S,g,n,ci,bi,dH,rfl,hW,wf,hz,k1,k2⟩:=h
  have nd:=jw.nd
  obtain⟨dw,hw⟩:=hW.obj
  rw[zx] at k1 k2
  refine⟨_,(ah (sv 4 nd (nE Ct (hr.mono (by decide)) mC.pass (pv 0) (aa (pv 1) av)))
(ah (sv 5 nd (nE sE (hr.mono (by decide)) mC.pass (pv 0) (aa (pv 2) av)))
(ah (bN (kO (gj (fc Ec hr (aa (pv 4) (aa (pv 5) av)))))
(au (jW mC (zV T G) (hr.h.mono (by decide)) rfl rfl))
bb)
(ah (bK (sD gz (hr.mono (by decide)) rfl mC.pass (aa (pv 3) av)))
(ah (bN (PW.pt (pw_or (aV iO (pv 3) (xl (bX (pv 0) rfl) (pv 1)) (aY _)) (pw_or1 (aV iO (pv 3) (xl (bX (pv 0) rfl) (pv 2)) (aY _)))))
(au (jW mC (D9 T G) (hr.h.mono (by decide)) rfl rfl))
bb)
(ah (bK (nE JW (hr.mono (by decide)) mY (pv 0) (aa (pv 1) (aa (pv 2) (aa (pv 3) av)))))
(au (a0 (pv 3))))))))),?_⟩
  refine⟨_,rfl,pw,dw,_,rfl,hw,Ab g,_,rfl,pw,S,g,ci,rfl,hW,fun ic p hp=>?_,fun hn=>?_⟩
  case refine_2=>
   rw[a8 hn] at k2
   exact k2 (by decide +kernel)
  have zc: ¬ ¬ qq ci S.credits.length:=fun z=>z ic
  rw[aU zc] at k1 k2
  refine⟨_,rfl,pw,dw,_,rfl,hw,vK g,_,rfl,pw,S,g,bi,rfl,hW,fun ib q hq=>?_,fun hn=>?_⟩
  case refine_2=>
   rw[a8 hn] at k2
   exact k2 (by decide +kernel)
  have zb: ¬ ¬ qq bi S.aI.length:=fun z=>z ib
  rw[aU zb] at k1 k2
  obtain⟨c,rfl⟩:=cw ic.1
  obtain⟨b,rfl⟩:=cw ib.1
  have hc:c < S.credits.length:=by have:=ic.2; lia
  have hb:b < S.aI.length:=by have:=ib.2; lia
  rw[dN] at hp hq k1 k2
  rw[dN] at k1 k2
  have hfg:=yC wf hc hb
  refine⟨_,rfl,_,rfl,p,q,c,b,_,_,rfl,hp,hq,_,rfl,?_⟩
  rw[hfg]
  refine cm (fun z=>?_) (fun z=>?_)
  ·have z':S.eK c b=false:=by simpa using z
   rw[a8 z'] at k2
   exact fun dx nn=>(k2 (by decide +kernel) A.jH G.qT (fun q=>absurd q (by decide +kernel))).at nn
  have zg: ¬ S.eK c b=false:=by simpa using z
  rw[aU zg] at k1 k2
  refine⟨_,rfl,dH,rfl,fun h1=>?_,fun h2=>?_⟩
  case refine_2=>
   rw[a8 h2] at k2
   exact k2 (by decide +kernel) A.iD G.kG (fun q=>absurd q (by decide +kernel))
  rw[aU (by lia: ¬ dH < 1)] at k1 k2
  have Th:iK (S.cr c).d (S.bl b).d < dH-> ∀dx,H dx=none->E (.ref A.tooMuch) (some dx) (upd H dx (.xd [("text",.str "too much")])):=fun z dx nn=>by
   rw[a8 z] at k2
   exact(k2 (by decide +kernel) A.tooMuch G.pW (fun _=>rfl)).at nn
  refine⟨_,rfl,_,rfl,pw,_,dw,_,_,rfl,hw,G.bH,G.fF,lH g,_,rfl,g.pf,_,_,_,rfl,rfl,bA.of hW.hf,Mt hc,_,_,rfl,rfl,_,rfl,cm (fun z=>fG (Th ?_)) (fun z=>?_)⟩
  ·have z':(S.cr c).d < dH:=aN z
   unfold iK
   split <;> lia
  have z1: ¬ (S.cr c).d < dH:=fun q=>z (aG q)
  refine⟨_,rfl,_,rfl,pw,_,dw,_,_,rfl,hw,G.bH,G.fE,lG g,_,rfl,g.pl,_,_,_,rfl,rfl,bA.of hW.hl,Mt hb,_,_,rfl,rfl,_,rfl,cm (fun z=>Th ?_) (fun z=>?_)⟩
  ·have z':(S.bl b).d < dH:=aN z
   unfold iK
   split <;> lia
  have z2: ¬ (S.bl b).d < dH:=fun q=>z (aG q)
  have zm: ¬ iK (S.cr c).d (S.bl b).d < dH:=by
   unfold iK
   split <;> lia
  rw[aU zm] at k1
  refine⟨_,rfl,pw,dw,_,rfl,hw,JU g,_,rfl,_,rfl,_,rfl,pw,S,g,c,b,dH,rfl,hW,hc,hb,hz,fun H2 F2 W2=>?_⟩
  exact⟨_,rfl,k1 rfl g H2 rfl F2 W2⟩
def Fw:Sp:=fun vs H Q _=>vs=[]/\ ∀(sd:Addr) (f:fB) (H':Hp),aD H H'->di H' sd Bk.new f->H sd=none->(∀b∈f.fp,H b=none)->Q (.ref sd) H'
theorem xx:aS [] [] (ay (top 54)):={}
theorem rh (T:Txt K mg):eM P w K mg base "_law_begun" 1 [] Fw:=by
 refine T.zJ.fe (k:=0) xx (fun f cU A outer s H vs Q E hr h=>?_)
 ·obtain⟨rfl,k⟩:=h
  refine⟨_,(au (a0 (LK (uX aQ (bP av) (uX aQ (bP av) (uX aQ (bP av) LJ))) (by rfl) rfl (by simp) (by decide)))),?_⟩
  intro sd Mf
  refine⟨bh _,fun pb nb=>⟨bh _,fun pc nc=>⟨bh _,fun pm nm=>?_⟩⟩⟩
  have t0:=aD.new (o:= .dK []) Mf
  have t1:=aD.new (o:= .lst []) nb
  have t2:=aD.new (o:= .lst []) nc
  have t3:=aD.new (o:= .lst []) nm
  have g0:=((t1.trans t2).trans t3) _ _ (ag (H:=H) (a:=sd) (o:= .dK []))
  have gb:=(t2.trans t3) _ _ (ag (H:=upd H sd (.dK [])) (a:=pb) (o:= .lst []))
  have gc:=t3 _ _ (ag (H:=upd (upd H sd (.dK [])) pb (.lst [])) (a:=pc) (o:= .lst []))
  have gm:=ag (H:=upd (upd (upd H sd (.dK [])) pb (.lst [])) pc (.lst [])) (a:=pm) (o:= .lst [])
  have nb0:=t0.free nb
  have nc0:=(t0.trans t1).free nc
  have nm0:=((t0.trans t1).trans t2).free nm
  have e1:sd≠pb:=aJ ag nb
  have e2:sd≠pc:=aJ (t1 _ _ ag) nc
  have e3:sd≠pm:=aJ ((t1.trans t2) _ _ ag) nm
  have e4:pb≠pc:=aJ ag nc
  have e5:pb≠pm:=aJ (t2 _ _ ag) nm
  have e6:pc≠pm:=aJ ag nm
  have s3:=((t0.trans t1).trans t2).trans t3
  generalize upd (upd (upd (upd H sd (.dK [])) pb (.lst [])) pc (.lst [])) pm (.lst [])=H3 at g0 gb gc gm s3 ⊢
  refine⟨g0,[(Sum.inr "bills",.ref pb),(Sum.inr "credits",.ref pc),(Sum.inr "made",.ref pm)],rfl,(by show 3<=15; lia),?_⟩
  refine k sd ⟨pb,pc,pm,[],[]⟩ _ (s3.cI Mf) ⟨?_,by rw[az e1.symm]; exact gb,by rw[az e2.symm]; exact gc,⟨[],by rw[az e3.symm]; exact gm,.nil⟩,.nil,.nil,?_,?_⟩ Mf ?_
  ·rw[ag,ON]; rfl
  ·simp[fB.fp,e4,e5,e6]
  ·simp[fB.fp,e1,e2,e3]
  ·intro b hb
   simp only[fB.fp,List.append_nil,List.mem_cons,List.not_mem_nil,or_false] at hb
   rcases hb with rfl|rfl|rfl
   ·exact nb0
   ·exact nc0
   ·exact nm0
inductive Ae (vs:List V)(H:Hp)(Q:VK)(E':XK):Prop
 |mk (sd:Addr)(S:Bk)(f:fB)(c b:Nat)(h1:vs=[.ref sd,.int c,.int b])(h2:di H sd S f)(h3:c < S.credits.length)(h4:b < S.aI.length)(h5: ∀H',aD H H'->Q (.bl (S.eK c b)) H'):Ae vs H Q E'
theorem rj:aS ["_law_state","_law_credit","_law_bill","_law_one"] ["_law_state","_law_credit","_law_bill"] (ay (top 55)):={}
theorem tG (T:Txt K mg):eM P w K mg base "_law_goes" 1 ["_law_state","_law_credit","_law_bill"] Ae:=by
 refine T.BR.fe (k:=0) rj (fun f cU A outer s H vs Q E hr h=>?_)
 ·obtain⟨sd,S,g,c,b,rfl,hB,hc,hb,k⟩:=h
  have hu:=jM hr
  have nd:=rj.nd
  obtain⟨p,_,ap,hp⟩:=hB.lc hc
  obtain⟨q,_,aq,hq⟩:=hB.lb hb
  refine⟨_,(ah (sv 3 nd (xl (cE hu (pv 0) aQ (fun _ _=>rfl)) (pv 1)))
(au (a0 (rX (fm cJ (xl (pv 3) ai) (xl (xl (cE hu (pv 0) aQ (fun _ _=>rfl)) (pv 2)) ai) (aY _)) (pH (fm om (xl (pv 3) ai) (bP (aa (oT kP ai) (aa (pv 2) av))) (by rfl))))))),?_⟩
  refine⟨_,rfl,sd,_,rfl,hB.gC,_,rfl,g.pc,_,_,.ref p,rfl,rfl,bA.of hB.hc,ap,?_⟩
  refine⟨_,rfl,p,_,_,.str (S.cr c).aH,rfl,rfl,bA.of hp,rfl,_,rfl,sd,_,rfl,hB.gB,_,rfl,g.pb,_,_,.ref q,rfl,rfl,bA.of hB.hb,aq,q,_,_,.str (S.bl b).aH,rfl,rfl,bA.of hq,rfl,rfl,_,rfl,cm (fun d=>?_) (fun d=>?_)⟩
  ·have d':(S.cr c).aH=(S.bl b).aH:=by have:=aN d; injection this
   refine⟨_,rfl,p,_,_,.int (S.cr c).c,rfl,rfl,bA.of hp,rfl,_,rfl,_,rfl,(by show 2<=sizeLine; decide),fun p9 n9=>?_⟩
   refine⟨p9,_,rfl,.inl (bA.of ag),rfl,rfl,?_⟩
   have e:S.eK c b=wR (V.int (S.cr c).c) [V.int (-1),V.int (b:Int)]:=by
    unfold Bk.eK
    rw[aG d',Bool.true_and]
    rw[oy]
    simp[wR,LC]
    lia
   have q9:=k _ (aD.new (o:= .lst [V.int (-1),V.int (b:Int)]) n9)
   rw[e] at q9
   exact q9
  ·have d': ¬ (S.cr c).aH=(S.bl b).aH:=fun z=>d (aG (by rw[z]))
   have e:S.eK c b=false:=by
    unfold Bk.eK
    rw[bp d',qt]
   have q9:=k H (aD.refl _)
   rw[e] at q9
   exact q9
theorem jC {A:Hp->Prop}{H H':Hp}(e:H=H')(h:A H'):A H:=e▸h
inductive Cu (vs:List V)(H:Hp)(Q:VK)(E':XK):Prop
 |mk (sd:Addr)(S:Bk)(f:fB)(c b:Nat)(x:Int)(h1:vs=[.ref sd,.int c,.int b,.int x])(h2:di H sd S f)(h3:c < S.credits.length)(h4:b < S.aI.length)(h5:S.made.length < sizeLine)(h6: ∀H',Frame f.fp H H'->di H' sd (S.put c b x) f->Q .eu H'):Cu vs H Q E'
theorem tH:aS ["_law_state","_law_credit","_law_bill","_law_amount"] ["_law_state","_law_credit","_law_bill","_law_amount"] (ay (top 56)):={}
theorem vM (T:Txt K mg):eM P w K mg base "_law_put" 1 ["_law_state","_law_credit","_law_bill","_law_amount"] Cu:=by
 refine T.DX.fe (k:=0) tH (fun f cU A outer s H vs Q E hr h=>?_)
 ·obtain⟨sd,S,g,c,b,x,rfl,hB,hc,hb,hz,k⟩:=h
  have hu:=jM hr
  have nd:=tH.nd
  obtain⟨p,pi,ap,hp⟩:=hB.lc hc
  refine⟨_,(ah (lY (aO eP (xl (xl (cE hu (pv 0) aQ (fun _ _=>rfl)) (pv 1)) ai) (pv 3)) (pI (xl (cE hu (pv 0) aQ (fun _ _=>rfl)) (pv 1)) ai set_list))
(ah (lY (aO eP (xl (xl (cE hu (pv 0) aQ (fun _ _=>rfl)) (pv 2)) ai) (pv 3)) (pI (xl (cE hu (pv 0) aQ (fun _ _=>rfl)) (pv 2)) ai set_list))
(au (bK (oW (cE hu (pv 0) aQ (fun _ _=>rfl)) (cG (aa (pv 1) (aa (pv 2) (aa (pv 3) av))))))))),?_⟩
  refine⟨_,rfl,sd,_,rfl,hB.gC,_,rfl,g.pc,_,_,.ref p,rfl,rfl,bA.of hB.hc,ap,p,_,_,.int (S.cr c).d,rfl,rfl,bA.of hp,rfl,_,rfl,_,_,rfl,rfl,?_⟩
  refine⟨_,rfl,sd,_,rfl,hB.gC,_,rfl,g.pc,_,_,.ref p,rfl,rfl,bA.of hB.hc,ap,p,_,4,4,rfl,rfl,hp,rfl,?_⟩
  have B1:=hB.setC (r:=(S.cr c).less x) pi ⟨_,hp⟩
  have F1:Frame g.fp H (upd H p (.lst ((S.cr c).less x).vs)):=Frame.upd (by have:=List.mem_of_getElem? pi; simp[fB.fp,this])
  refine jC (H':=upd H p (.lst ((S.cr c).less x).vs)) rfl ?_
  generalize upd H p (.lst ((S.cr c).less x).vs)=H1 at B1 F1 ⊢
  obtain⟨q,qi,aq,hq⟩:=B1.lb (b:=b) hb
  change H1 q=some (.lst (S.bl b).vs) at hq
  refine⟨_,rfl,sd,_,rfl,B1.gB,_,rfl,g.pb,_,_,.ref q,rfl,rfl,bA.of B1.hb,aq,q,_,_,.int (S.bl b).d,rfl,rfl,bA.of hq,rfl,_,rfl,_,_,rfl,rfl,?_⟩
  refine⟨_,rfl,sd,_,rfl,B1.gB,_,rfl,g.pb,_,_,.ref q,rfl,rfl,bA.of B1.hb,aq,q,_,4,4,rfl,rfl,hq,rfl,?_⟩
  have B2:=B1.setB (r:=(S.bl b).less x) qi ⟨_,hq⟩
  have F2:Frame g.fp H1 (upd H1 q (.lst ((S.bl b).less x).vs)):=Frame.upd (by have:=List.mem_of_getElem? qi; simp[fB.fp,this])
  refine jC (H':=upd H1 q (.lst ((S.bl b).less x).vs)) rfl ?_
  generalize upd H1 q (.lst ((S.bl b).less x).vs)=H2 at B2 F2 ⊢
  obtain⟨ms,m1,m2⟩:=B2.hm
  refine⟨_,rfl,sd,_,rfl,B2.gM,.inl ⟨rfl,_,bA.of m1⟩,_,rfl,_,rfl,_,rfl,(by show 3<=sizeLine; decide),fun p8 n8=>?_⟩
  have t8:=aD.new (o:= .tup [V.int c,.int b,.int x]) n8
  refine⟨g.pm,ms,_,rfl,rfl,t8 _ _ m1,?_,?_⟩
  ·rw[← aL m2]
   exact hz
  ·refine k _ ((F1.tr F2).tr ((t8.frame).tr (Frame.upd (by simp[fB.fp])))) ?_
   exact(B2.same t8).Xc (t:=(c,b,x)) (t8 _ _ m1) (m2.mono t8.tk) ag
def Fx (x:Int×Nat):List Int:=[x.1,(x.2:Int)]
def Cv (rows:List Rw)(aH:Str)(key:Rw->Int)(i:Nat):List (Int×Nat):=
 ((List.range i).filter fun k=>decide ((rows.getD k default).aH=aH) && decide (0 < (rows.getD k default).d)).map fun k=>(key (rows.getD k default),k)
theorem Mv {rows:List Rw}{aH:Str}{key:Rw->Int}{i:Nat}(h:(rows.getD i default).aH=aH)(h2:0 < (rows.getD i default).d):Cv rows aH key (i + 1)=Cv rows aH key i ++ [(key (rows.getD i default),i)]:=by
 unfold Cv
 rw[oC,kr,aK]
 congr 1
 rw[cv (by rw[aG h,aG h2]; rfl)]
 rfl
theorem Pk {rows:List Rw}{aH:Str}{key:Rw->Int}{i:Nat}(h: ¬ ((rows.getD i default).aH=aH/\0 < (rows.getD i default).d)):Cv rows aH key (i + 1)=Cv rows aH key i:=by
 unfold Cv
 rw[List.range_succ,List.filter_append,List.map_append,List.filter_cons_of_neg (by simpa using h)]
 simp
theorem Pl {rows:List Rw}{aH:Str}{key:Rw->Int}{i:Nat}: ∀x∈Cv rows aH key i,x.2 < i:=by
 intro x hx
 obtain⟨k,hk,rfl⟩:=bF.mp hx
 exact dk.mp (eY.mp hk).1
theorem Pm {rows:List Rw}{aH:Str}{key:Rw->Int}{i:Nat}:((Cv rows aH key i).map (·.2)).Nodup:=by
 unfold Cv
 rw[eD]
 have e:((fun x:Int×Nat=>x.2) ∘ fun k=>(key (rows.getD k default),k))=id:=rfl
 rw[e,Ba]
 exact mH.filter _
theorem Af {rows:List Rw}{aH:Str}{key:Rw->Int}{i:Nat}:(Cv rows aH key i).length<=i:=by
 unfold Cv
 rw[ae]
 exact aZ (aX _ _) (by rw[dr]; exact aE _)
theorem uw {x y:Str}(d:decide (V.str x=V.str y)=true):x=y:=by
 have:=aN d
 injection this
theorem rm {x y:Str}(d: ¬ decide (V.str x=V.str y)=true): ¬ x=y:=fun z=>d (aG (by rw[z]))
theorem lK: ∀{l:List (Int×Nat)} {x y:Int×Nat},(l.map (·.2)).Nodup->x∈l->y∈l->x.2=y.2->x=y
 |[],_,_,_,h,_,_=>by cases h
 |z :: l,x,y,nd,hx,hy,e=>by
  rw[de,fO] at nd
  rcases aw.mp hx with yr|yr
  ·rcases aw.mp hy with Ag|Ag
   ·rw[yr,Ag]
   ·exact absurd (bF.mpr ⟨y,Ag,by rw[← e,yr]⟩) nd.1
  ·rcases aw.mp hy with Ag|Ag
   ·exact absurd (bF.mpr ⟨x,yr,by rw[e,Ag]⟩) nd.1
   ·exact lK nd.2 yr Ag e
inductive vN (vs:List V)(H:Hp)(Q:VK)(E':XK):Prop
 |mk (p:Addr)(ps:List Addr)(rows:List Rw)(aH:Str)(Ht:Int)(key:Rw->Int)(h1:vs=[.ref p,.str aH,.int Ht])(h2:H p=some (.lst (ps.map V.ref)))(h3:eU H rows ps)(h4:rows.length < 64)(h5:(∀r:Rw,se r.vs Ht=some (.int (key r))))(h6: ∀D H',aD H H'->H D=none->H' D=some (.lst ((inTurn rows aH key).map fun(k:Nat)=>V.int (k:Int)))->Q (.ref D) H'):vN vs H Q E'
theorem mD:aS ["_law_rows","_law_who","_law_spot","_law_keys","_law_k"] ["_law_rows","_law_who","_law_spot"] (ay (top 57)):={}
theorem vO (T:Txt K mg):eM P w K mg base "_law_in_turn" 1 ["_law_rows","_law_who","_law_spot"] vN:=by
 refine T.vB.fe (k:=0) mD (fun f cU A outer s H vs Q E hr h=>?_)
 ·obtain⟨p,ps,rows,aH,Ht,key,rfl,hp,hR,hl,hk,k⟩:=h
  have nd:=mD.nd
  have hlen:=hR.length
  refine⟨_,(ah (sv 3 nd (bP av))
(ah (dZ bw rfl (iV rfl T.jA (aa (mh T.dD (pv 0)) av)) (gn 4 nd)
(au (bN (PW.pt (pw_and (aV cJ (xl (xl (pv 0) (pv 4)) ai) (pv 1) (aY _)) (pw_and1 (aV iO (xl (xl (pv 0) (pv 4)) ai) ai (aY _)))))
(au (bK (oW (pv 3) (cG (aa (xl (xl (pv 0) (pv 4)) (pv 2)) (aa (pv 4) av))))))
bb)))
(au (a0 (gq (tn:=["_law_key"]) (cn:=[]) (cj:=[]) rfl zl (cO (cD qL (by rfl) T.qR boot_sorted (aa (pv 3) av))) (fun _ _ _ _=>(dU (i:=0) (show(["_law_key"]:List Str).Nodup by decide +kernel) rfl (Or.inl rfl))) (fun _ _ _ _=>kQ) (fun _ _ _ _=>(jd (l5 (K:=K) rfl) (pv 0) ai (fun _ _=>rfl)))))))),?_⟩
  refine⟨bh _,fun pk nk=>?_⟩
  have s1:aD H (upd H pk (.lst [])):=aD.new nk
  refine⟨_,rfl,p,_,rfl,.inl (bA.of (s1 _ _ hp)),((ps.map V.ref).length:Int),rfl,by lia,by rw[ae]; lia,?_⟩
  rw[dN]
  refine iW (lo:=0) (n:=(ps.map V.ref).length) (fun i σ H2=> ∃(xs:List V) (x4:Option V),σ=[some (.ref p),some (.str aH),some (.int Ht),some (.ref pk),x4]/\aD H H2/\H2 pk=some (.lst xs)/\gr H2 ((Cv rows aH key i).map Fx) xs)
   ⟨[],none,rfl,s1,ag,.nil⟩ ?_ ?_
  ·rintro i σ H2 hi ⟨xs,x4,rfl,s2,hx,hT⟩
   rw[iJ]
   have wW:i < rows.length:=by rw[ae] at hi; lia
   obtain⟨r,ri,K9⟩:=hR.at wW
   have ar:se (ps.map V.ref) (i:Int)=some (.ref r):=cy (by rw[aB,ri]; rfl)
   have tU:=s2 _ _ hp
   have yD:=s2 _ _ K9
   have Pn:xs.length<=i:=by
    have:=aL hT
    rw[ae] at this
    have:=Af (rows:=rows) (aH:=aH) (key:=key) (i:=i)
    lia
   have no: ¬ ((rows.getD i default).aH=aH/\0 < (rows.getD i default).d)-> ∃(xs:List V) (x4:Option V),[some (V.ref p),some (.str aH),some (.int Ht),some (.ref pk),some (.int (i:Int))]=[some (.ref p),some (.str aH),some (.int Ht),some (.ref pk),x4]/\aD H H2/\H2 pk=some (.lst xs)/\gr H2 ((Cv rows aH key (i + 1)).map Fx) xs:=fun n=>
    ⟨xs,_,rfl,s2,hx,by rw[Pk n]; exact hT⟩
   generalize Hu:rows.getD i default=row at yD no
   refine⟨_,rfl,_,rfl,p,_,_,.ref r,rfl,rfl,bA.of tU,ar,r,_,_,.str row.aH,rfl,rfl,bA.of yD,rfl,_,rfl,rfl,_,rfl,cm (fun d1=>?_) (fun d1=>bT (no fun z=>rm d1 z.1))⟩
   refine⟨_,rfl,_,rfl,p,_,_,.ref r,rfl,rfl,bA.of tU,ar,r,_,_,.int row.d,rfl,rfl,bA.of yD,rfl,_,_,rfl,rfl,_,rfl,cm (fun d2=>?_) (fun d2=>no fun z=>d2 (aG z.2))⟩
   have Ti:=uw d1
   have XS:0 < row.d:=aN d2
   refine⟨_,rfl,.inl ⟨rfl,_,bA.of hx⟩,_,rfl,_,rfl,p,_,_,.ref r,rfl,rfl,bA.of tU,ar,_,rfl,r,_,_,.int (key row),rfl,rfl,bA.of yD,hk row,_,rfl,(by show 2<=sizeLine; decide),fun p8 n8=>?_⟩
   have t8:=aD.new (o:= .tup [V.int (key row),.int (i:Int)]) n8
   refine⟨pk,xs,_,rfl,rfl,t8 _ _ hx,a9 (by lia),xs ++ [.ref p8],_,rfl,(s2.trans t8).cI nk,ag,?_⟩
   rw[Mv (by rw[Hu]; exact Ti) (by rw[Hu]; exact XS),aK,Hu]
   exact gr.snoc (hT.mono (t8.tk.trans (dQ (t8 _ _ hx)))) (dC (t8 _ _ hx) _ _ ag)
  ·rintro σ H2 ⟨xs,x4,rfl,s2,hx,hT⟩
   have Pn:=aL hT
   have Vx:=Af (rows:=rows) (aH:=aH) (key:=key) (i:=(ps.map V.ref).length)
   have Fy:=Pl (rows:=rows) (aH:=aH) (key:=key) (i:=(ps.map V.ref).length)
   have lA:(ps.map V.ref).length=rows.length:=by rw[ae]; lia
   have hle: ∀x∈Cv rows aH key (ps.map V.ref).length,x.2 < 1000:=fun x hx=>by have:=Fy x hx; lia
   have jU:inTurn rows aH key=(ez (Cv rows aH key (ps.map V.ref).length)).map (·.2):=by rw[lA]; rfl
   have hnd:=Pm (rows:=rows) (aH:=aH) (key:=key) (i:=(ps.map V.ref).length)
   generalize Cv rows aH key (ps.map V.ref).length=ks at hT Pn Vx hle jU hnd
   rw[ae] at Pn
   refine⟨_,rfl,pk,xs,_,ua,rfl,bA.of hx,(by lia),hT,(fun t ht=>?_),(fun t ht u hu=>?_),fun D ys us nD K8 perm le=>?_⟩
   ·obtain⟨x,_,rfl⟩:=bF.mp ht
    simp[Fx]
   ·obtain⟨x,yr,rfl⟩:=bF.mp ht
    obtain⟨y,Ag,rfl⟩:=bF.mp hu
    refine qS (hle x yr) (hle y Ag) (fun e=>⟨rfl,?_⟩) rfl
    exact lK hnd yr Ag e
   ·have RV:=tu hle hnd (fun x _=>rfl) perm le
    subst RV
    have tD:=aD.new (o:= .lst ys) nD
    refine⟨D,rfl,⟨_,bA.of ag⟩,?_⟩
    have Fz:=K8.mono tD.tk
    generalize Mw:upd H2 D (.lst ys)=H3 at tD Fz
    have QW:H3 D=some (.lst ys):=by rw[← Mw]; exact ag
    have s3:=s2.trans tD
    clear Mw K8 perm le hT
    have Tj:=aL Fz
    refine dO (K:=K) (a:=D) (xs:=ys) (fun D' i σ H6=>H3 D'=none/\ ∃v,σ=[v]/\aD H3 H6/\H6 D'=some (.lst (((ez ks).take i).map fun x=>V.int (x.2:Int)))) (fun D' pX=>⟨pX,none,rfl,aD.new pX,ag⟩) (fun D' i σ H6 _ ⟨_,_,_,t3,_⟩=>bA.of (t3 _ _ QW)) ?_ ?_
    ·rintro D' i x σ H6 FA ⟨pX,v,rfl,t3,gi⟩
     have hi:i < (ez ks).length:=by
      have:=(ak.mp FA).1
      rw[ae] at Tj
      lia
     have g0:((ez ks).map Fx)[i]? =some (Fx (ez ks)[i]):=by rw[aB,af hi]; rfl
     obtain⟨v',hv,pp,e1,Io⟩:=bI Fz g0
     rw[FA] at hv
     obtain rfl:x=v':=aF hv
     subst e1
     have lT:=jt hi
     have Hv:=t3 _ _ Io
     generalize (ez ks)[i]=z at Hv lT
     have Ed:((ez ks).take i).length<=100:=by
      rw[bf]
      have:=(dg ks).length_eq
      lia
     refine⟨_,rfl,pp,_,_,.int (z.2:Int),rfl,rfl,cg.of Hv,rfl,_,gi,a9 (by rw[ae]; lia),pX,_,rfl,t3.cI pX,?_⟩
     rw[ag,lT,aK]
     rfl
    ·rintro D' σ H6 pX ⟨_,v,rfl,t3,gi⟩
     refine k D' H6 (s3.trans t3) (s3.free pX) ?_
     rw[gi,jU,eD,Tj.symm,ae,a7]
     rfl
theorem nL {α β:Type}{F:α->β->Prop}: ∀{l₁:List α} {l₂:List β} (n:Nat),Paired F l₁ l₂->Paired F (l₁.drop n) (l₂.drop n)
 |_,_,0,h=>by rwa [List.drop_zero,List.drop_zero]
 |_,_,_ + 1,.nil=> .nil
 |_,_,n + 1,.cons _ t=>by rw[List.drop_succ_cons,List.drop_succ_cons]; exact nL n t
theorem yE (xs:List V)(n:Nat)(h:n<=xs.length):qC xs (some (n:Int)) none=xs.drop n:=by
 unfold qC
 rw[HT.IT,HT.y3,Nat.min_eq_left h,List.take_of_length_le]
 rw[mG]
 exact aE _
structure Ah (H0:Hp)(sd:Addr)(S:Bk)(f:fB)(H2:Hp)(S2:Bk)(m:Nat):Prop where
 fr:Frame f.fp H0 H2
 bk:di H2 sd S2 f
 bl:S2.aI.length=S.aI.length
 cl:S2.credits.length=S.credits.length
 ml:S2.made.length<=S.made.length + m
theorem Ah.put {H0:Hp}{sd:Addr}{S:Bk}{f:fB}{H2 H':Hp}{S2:Bk}{m c b:Nat}{x:Int}(I:Ah H0 sd S f H2 S2 m)(fr:Frame f.fp H2 H')(bk:di H' sd (S2.put c b x) f):Ah H0 sd S f H' (S2.put c b x) (m + 1):=by
 refine⟨I.fr.tr fr,bk,?_,?_,?_⟩
 ·show(S2.aI.set _ _).length=_
  rw[eh]; exact I.bl
 ·show(S2.credits.set _ _).length=_
  rw[eh]; exact I.cl
 ·show(S2.made ++ [_]).length<=_
  rw[aC]
  have:=I.ml
  simp
  lia
theorem Ah.up {H0:Hp}{sd:Addr}{S:Bk}{f:fB}{H2:Hp}{S2:Bk}{m n:Nat}(I:Ah H0 sd S f H2 S2 m)(h:m<=n):Ah H0 sd S f H2 S2 n:=⟨I.fr,I.bk,I.bl,I.cl,aZ I.ml (by lia)⟩
theorem Ah.from {H0 H1:Hp}{sd:Addr}{S:Bk}{f:fB}{H2:Hp}{S2:Bk}{m:Nat}(I:Ah H0 sd S f H2 S2 m)(s:aD H2 H1):Ah H1 sd S f H1 S2 m:=⟨Frame.refl,I.bk.same s,I.bl,I.cl,I.ml⟩
theorem Ah.back {H0 H1:Hp}{sd:Addr}{S:Bk}{f:fB}{H2 H3:Hp}{S2 S3:Bk}{m n:Nat}(I:Ah H0 sd S f H2 S2 m)(s:aD H2 H1)(J:Ah H1 sd S f H3 S3 n):Ah H0 sd S f H3 S3 n:=⟨(I.fr.cX s).tr J.fr,J.bk,J.bl,J.cl,J.ml⟩
theorem _root_.L2.di.ux {H:Hp}{sd D:Addr}{S:Bk}{f:fB}(h:di H sd S f)(n:H D=none):D∉f.fp:=fun z=>by
 obtain⟨ms,m1,_⟩:=h.hm
 have rows: ∀(rs:List Rw) (ps:List Addr),eU H rs ps->D∈ps->False:=fun rs ps hr hp=>by
  obtain⟨i,hi⟩:=yY hp
  have iu:i < rs.length:=by
   rw[hr.length]
   exact(ak.mp hi).1
  obtain⟨q,e1,e2⟩:=hr.at iu
  rw[e1] at hi
  cases hi
  rw[n] at e2
  cases e2
 unfold fB.fp at z
 rcases aw.mp z with rfl|z
 ·have:=h.hb; rw[n] at this; cases this
 rcases aw.mp z with rfl|z
 ·have:=h.hc; rw[n] at this; cases this
 rcases aw.mp z with rfl|z
 ·rw[n] at m1; cases m1
 rcases bq.mp z with z|z
 ·exact rows _ _ h.rb z
 ·exact rows _ _ h.rc z
theorem jT (rows:List Rw)(aH:Str)(key:Rw->Int):(inTurn rows aH key).length<=rows.length:=by
 have e:inTurn rows aH key=(ez (Cv rows aH key rows.length)).map (·.2):=rfl
 rw[e,ae,(dg _).length_eq]
 exact Af
theorem jJ {α β:Type}(g:β->α->β)(l:List α)(s:β){i:Nat}{x:α}(h:l[i]? =some x):(l.take (i + 1)).foldl g s=g ((l.take i).foldl g s) x:=by
 rw[Gb,h,rT]
 rfl
theorem _root_.L2.Frame.free {fp:List Addr}{H H':Hp}{p:Addr}(a:Frame fp H H')(h:p∉fp)(n:H' p=none):H p=none:=by
 cases e:H p with
 |none=>rfl
 |some o=>have:=a p o h e; rw[n] at this; cases this
inductive Ai (vs:List V)(H:Hp)(Q:VK)(E':XK):Prop
 |mk (sd:Addr)(S:Bk)(f:fB)(aH:Str)(h1:vs=[.ref sd,.str aH])(h2:di H sd S f)(h3:S.credits.length < 64)(h4:S.aI.length < 64)(h5:S.made.length + 10000 < sizeLine)(h6: ∀D ms H',Frame f.fp H H'->di H' sd (S.jR aH) f->H D=none->H' D=some (.lst ms)->ie H' ((S.jR aH).made.drop S.made.length) ms->Q (.ref D) H'):Ai vs H Q E'
theorem o4:aS ["_law_state","_law_who","_law_many","_law_exact","_law_credit","_law_bill","_law_free","_law_left"] ["_law_state","_law_who"] (ay (top 58)):={}
theorem Aj (T:Txt K mg):eM P w K mg base "_law_swept" 2 ["_law_state","_law_who"] Ai:=by
 have nM:eM P w K mg base "_law_in_turn" 1 ["_law_rows","_law_who","_law_spot"] vN:=vO T
 have nN:eM P w K mg base "_law_goes" 1 ["_law_state","_law_credit","_law_bill"] Ae:=tG T
 have pY:eM P w K mg base "_law_put" 1 ["_law_state","_law_credit","_law_bill","_law_amount"] Cu:=vM T
 refine T.zK.fe (k:=1) o4 (fun f cU A outer s H vs Q E hr h=>?_)
 ·obtain⟨sd,S,g,aH,rfl,hB,qQ,Mx,FC,k⟩:=h
  have hu:=jM hr
  have nd:=o4.nd
  obtain⟨ms,m1,m2⟩:=hB.hm
  have XT:S.made.length=ms.length:=aL m2
  refine⟨_,(ah (sv 2 nd (mh T.dD (cE hu (pv 0) aQ (fun _ _=>rfl))))
(ah (dZ bw rfl (cO (bP (aa lj (aa lj av)))) (gn 3 nd)
(au (dZ bw rfl (cO (fc nM hr (aa (cE hu (pv 0) aQ (fun _ _=>rfl)) (aa (pv 1) (aa ai av))))) (gn 4 nd)
(au (dZ bw rfl (cO (fc nM hr (aa (cE hu (pv 0) aQ (fun _ _=>rfl)) (aa (pv 1) (aa ai av))))) (gn 5 nd)
(ah (sv 6 nd (xl (xl (cE hu (pv 0) aQ (fun _ _=>rfl)) (pv 4)) ai))
(ah (sv 7 nd (xl (xl (cE hu (pv 0) aQ (fun _ _=>rfl)) (pv 5)) ai))
(au (bN (PW.pt (pw_and (aV iO (pv 6) ai (aY _)) (pw_and1 (gj (fc nN hr (aa (pv 0) (aa (pv 4) (aa (pv 5) av))))))))
(au (bN (PW.pt (pw_or (aV cJ (pv 6) (pv 7) (aY _)) (pw_or1 (kO (gj (pv 3))))))
(au (bK (fc pY hr (aa (pv 0) (aa (pv 4) (aa (pv 5) (aa (cD (rZ rfl) (by rfl) T.JF boot_min (aa (pv 6) (aa (pv 7) av))) av)))))))
bb))
bb)))))))))
(au (a0 (mU qD (cE hu (pv 0) aQ (fun _ _=>rfl)) (oj (pv 2)) uq))))),?_⟩
  refine⟨_,rfl,sd,_,rfl,hB.gM,g.pm,_,rfl,.inl (bA.of m1),?_⟩
  refine⟨(by show 2<=sizeLine; decide),fun pl nl=>⟨pl,rfl,⟨_,bA.of ag⟩,?_⟩⟩
  have s1:aD H (upd H pl (.lst ([true,false].map V.bl))):=aD.new nl
  have nlf:=hB.ux nl
  have gQ:upd H pl (.lst ([true,false].map V.bl)) pl=some (.lst ([true,false].map V.bl)):=ag
  have Nx:=hB.same s1
  refine jC (H':=upd H pl (.lst ([true,false].map V.bl))) rfl ?_
  generalize upd H pl (.lst ([true,false].map V.bl))=H1 at s1 gQ Nx
  refine fH (K:=K) (a:=pl) (xs:=[true,false].map V.bl) (fun i σ H2=> ∃x3 x4 x5 x6 x7:Option V,σ=[some (.ref sd),some (.str aH),some (.int (ms.length:Int)),x3,x4,x5,x6,x7]/\Ah H1 sd S g H2 (([true,false].take i).foldl (bQ aH) S) (i * 4096))
   ⟨none,none,none,none,none,rfl,Frame.refl,Nx,rfl,rfl,Nat.le_add_right _ _⟩ (fun i σ H2 _ ⟨_,_,_,_,_,_,I⟩=>bA.of (I.fr _ _ nlf gQ)) ?_ ?_
  ·rintro i x σ H2 hx ⟨x3,x4,x5,x6,x7,rfl,I⟩
   rw[aB] at hx
   obtain⟨ex,hex,rfl⟩:=bo.mp hx
   have hi:i < 2:=(ak.mp hex).1
   rw[jJ (bQ aH) [true,false] S hex]
   generalize ([true,false].take i).foldl (bQ aH) S=S1 at I ⊢
   have c1:=I.cl
   have b1:=I.bl
   refine⟨_,rfl,sd,_,rfl,I.bk.gC,_,rfl,g.pc,g.cps,S1.credits,aH,1,(·.a),rfl,I.bk.hc,I.bk.rc,by lia,(fun _=>rfl),fun D1 H3 t3 n3 Hw=>?_⟩
   have D1f:=I.bk.ux n3
   have I3:=I.from t3
   refine⟨D1,rfl,⟨_,bA.of Hw⟩,?_⟩
   have hcs:(inTurn S1.credits aH (·.a)).length<=63:=by have:=jT S1.credits aH (·.a); lia
   have hcm: ∀c∈inTurn S1.credits aH (·.a),c < S.credits.length:=fun c hc=>by have:=(eR.mp hc).1; lia
   have ZA:bQ aH S1 ex=(inTurn S1.credits aH (·.a)).foldl (cV aH ex) S1:=rfl
   rw[ZA]
   generalize inTurn S1.credits aH (·.a)=cs at Hw hcs hcm
   refine fH (K:=K) (a:=D1) (xs:=cs.map fun(k:Nat)=>V.int (k:Int)) (fun j σ H4=> ∃x4 x5 x6 x7:Option V,σ=[some (.ref sd),some (.str aH),some (.int (ms.length:Int)),some (.bl ex),x4,x5,x6,x7]/\Ah H3 sd S g H4 ((cs.take j).foldl (cV aH ex) S1) (i * 4096 + j * 64))
    ⟨_,_,_,_,rfl,I3.up (by lia)⟩ (fun j σ H4 _ ⟨_,_,_,_,_,J⟩=>bA.of (J.fr _ _ D1f Hw)) ?_ ?_
   ·rintro j x σ H4 hx ⟨x4,x5,x6,x7,rfl,J⟩
    rw[aB] at hx
    obtain⟨c,hc,rfl⟩:=bo.mp hx
    have acC:=hcm c (fA hc)
    have hj:j < cs.length:=(ak.mp hc).1
    rw[jJ (cV aH ex) cs S1 hc]
    generalize (cs.take j).foldl (cV aH ex) S1=S2 at J ⊢
    have b2:=J.bl
    refine⟨_,rfl,sd,_,rfl,J.bk.gB,_,rfl,g.pb,g.iA,S2.aI,aH,2,(·.b),rfl,J.bk.hb,J.bk.rb,by lia,(fun _=>rfl),fun D2 H5 t5 n5 Hx=>?_⟩
    have D2f:=J.bk.ux n5
    have J5:=J.from t5
    refine⟨D2,rfl,⟨_,bA.of Hx⟩,?_⟩
    have hbs:(inTurn S2.aI aH (·.b)).length<=63:=by have:=jT S2.aI aH (·.b); lia
    have LP: ∀b∈inTurn S2.aI aH (·.b),b < S.aI.length:=fun b hb=>by have:=(eR.mp hb).1; lia
    have rK:cV aH ex S2 c=(inTurn S2.aI aH (·.b)).foldl (cq ex c) S2:=rfl
    rw[rK]
    generalize inTurn S2.aI aH (·.b)=bs at Hx hbs LP
    refine fH (K:=K) (a:=D2) (xs:=bs.map fun(k:Nat)=>V.int (k:Int)) (fun l σ H6=> ∃x5 x6 x7:Option V,σ=[some (.ref sd),some (.str aH),some (.int (ms.length:Int)),some (.bl ex),some (.int (c:Int)),x5,x6,x7]/\Ah H5 sd S g H6 ((bs.take l).foldl (cq ex c) S2) (i * 4096 + j * 64 + l))
     ⟨_,_,_,rfl,J5.up (by lia)⟩ (fun l σ H6 _ ⟨_,_,_,_,L⟩=>bA.of (L.fr _ _ D2f Hx)) ?_ ?_
    ·rintro l x σ H6 hx ⟨x5,x6,x7,rfl,L⟩
     rw[aB] at hx
     obtain⟨b,hb,rfl⟩:=bo.mp hx
     have acF:=LP b (fA hb)
     have hl:l < bs.length:=(ak.mp hb).1
     rw[jJ (cq ex c) bs S2 hb]
     generalize (bs.take l).foldl (cq ex c) S2=S3 at L ⊢
     have b3:=L.bl
     have c3:=L.cl
     have m3:=L.ml
     obtain⟨p,_,ap,hp⟩:=L.bk.lc (b:=c) (by lia)
     obtain⟨q,_,aq,hq⟩:=L.bk.lb (b:=b) (by lia)
     have no: ¬ (0 < (S3.cr c).d/\S3.eK c b=true/\((S3.cr c).d=(S3.bl b).d∨ex=false))-> ∀H7,aD H6 H7-> ∃x5 x6 x7:Option V,[some (V.ref sd),some (.str aH),some (.int (ms.length:Int)),some (.bl ex),some (.int (c:Int)),some (.int (b:Int)),some (.int (S3.cr c).d),some (.int (S3.bl b).d)]=[some (.ref sd),some (.str aH),some (.int (ms.length:Int)),some (.bl ex),some (.int (c:Int)),x5,x6,x7]/\Ah H5 sd S g H7 (cq ex c S3 b) (i * 4096 + j * 64 + (l + 1)):=fun n H7 t7=>by
      refine⟨_,_,_,rfl,?_⟩
      unfold cq
      rw[aU n]
      exact(L.back t7 (L.from t7)).up (by lia)
     refine⟨_,rfl,sd,_,rfl,L.bk.gC,_,rfl,g.pc,_,_,.ref p,rfl,rfl,bA.of L.bk.hc,ap,p,_,_,.int (S3.cr c).d,rfl,rfl,bA.of hp,rfl,?_⟩
     refine⟨_,rfl,sd,_,rfl,L.bk.gB,_,rfl,g.pb,_,_,.ref q,rfl,rfl,bA.of L.bk.hb,aq,q,_,_,.int (S3.bl b).d,rfl,rfl,bA.of hq,rfl,?_⟩
     refine⟨_,rfl,_,_,rfl,rfl,_,rfl,cm (fun d1=>?_) (fun d1=>bT (no (fun z=>d1 (aG z.1)) _ (aD.refl _)))⟩
     have Ti:0 < (S3.cr c).d:=aN d1
     refine⟨_,rfl,_,rfl,_,rfl,sd,S3,g,c,b,rfl,L.bk,by lia,by lia,fun H7 t7=>⟨_,rfl,cm (fun d2=>?_) (fun d2=>no (fun z=>d2 z.2.1) _ t7)⟩⟩
     have L7:=L.bk.same t7
     have Tn:((S3.cr c).d=(S3.bl b).d∨ex=false)-> ∀H',Frame g.fp H7 H'->di H' sd (S3.put c b (iK (S3.cr c).d (S3.bl b).d)) g-> ∃x5 x6 x7:Option V,[some (V.ref sd),some (.str aH),some (.int (ms.length:Int)),some (.bl ex),some (.int (c:Int)),some (.int (b:Int)),some (.int (S3.cr c).d),some (.int (S3.bl b).d)]=[some (.ref sd),some (.str aH),some (.int (ms.length:Int)),some (.bl ex),some (.int (c:Int)),x5,x6,x7]/\Ah H5 sd S g H' (cq ex c S3 b) (i * 4096 + j * 64 + (l + 1)):=fun z H' QM XU=>by
      refine⟨_,_,_,rfl,?_⟩
      unfold cq
      rw[a8 ⟨Ti,d2,z⟩]
      exact(L.put (t7.frame.tr QM) XU).up (by lia)
     have FD:((S3.cr c).d=(S3.bl b).d∨ex=false)->Cu [.ref sd,.int (c:Int),.int (b:Int),.int (if(S3.bl b).d < (S3.cr c).d then(S3.bl b).d else(S3.cr c).d)] H7 (fun _ H'=> ∃x5 x6 x7:Option V,[some (V.ref sd),some (.str aH),some (.int (ms.length:Int)),some (.bl ex),some (.int (c:Int)),some (.int (b:Int)),some (.int (S3.cr c).d),some (.int (S3.bl b).d)]=[some (.ref sd),some (.str aH),some (.int (ms.length:Int)),some (.bl ex),some (.int (c:Int)),x5,x6,x7]/\Ah H5 sd S g H' (cq ex c S3 b) (i * 4096 + j * 64 + (l + 1))) (fun _ _ _=>False):=fun z=>
      ⟨sd,S3,g,c,b,_,rfl,L7,by lia,by lia,by lia,fun H' QM XU=>Tn z H' QM XU⟩
     refine⟨_,rfl,_,rfl,rfl,_,rfl,cm (fun d3=>fG ?_) (fun d3=>?_)⟩
     ·have d3':(S3.cr c).d=(S3.bl b).d:=by have:=aN d3; injection this
      exact⟨_,rfl,_,rfl,_,rfl,_,rfl,_,rfl,_,_,rfl,FD (.inl d3')⟩
     ·refine⟨_,rfl,_,rfl,cm (fun d4=>?_) (fun d4=>no (fun z=>?_) _ t7)⟩
      ·have d4':ex=false:=by simpa using d4
       exact⟨_,rfl,_,rfl,_,rfl,_,rfl,_,rfl,_,_,rfl,FD (.inr d4')⟩
      ·rcases z.2.2 with z|z
       ·exact d3 (aG (by rw[z]))
       ·exact d4 (by rw[z]; rfl)
    ·rintro σ H6 ⟨x5,x6,x7,rfl,L⟩
     rw[ae,a7] at L
     exact⟨_,_,_,_,rfl,(J.back t5 L).up (by lia)⟩
   ·rintro σ H4 ⟨x4,x5,x6,x7,rfl,J⟩
    rw[ae,a7] at J
    exact⟨_,_,_,_,_,rfl,(I.back t3 J).up (by lia)⟩
  ·rintro σ H2 ⟨x3,x4,x5,x6,x7,rfl,I⟩
   have WS:([true,false].take ([true,false].map V.bl).length).foldl (bQ aH) S=S.jR aH:=rfl
   rw[WS] at I
   obtain⟨Ny,k1,k2⟩:=I.bk.hm
   refine⟨_,rfl,sd,_,rfl,I.bk.gM,_,rfl,_,rfl,g.pm,Ny,rfl,bA.of k1,fun p np=>?_⟩
   have tp:=aD.new (o:= .lst (qC Ny (some (ms.length:Int)) none)) np
   have hle:ms.length<=Ny.length:=by
    have e0:=aL k2
    obtain⟨_,l,e1,_⟩:=qN S aH
    rw[e1,aC] at e0
    lia
   refine k p (Ny.drop ms.length) _ ((s1.frame.tr I.fr).cX tp) (I.bk.same tp) ?_ ?_ ?_
   ·exact s1.free (Frame.free I.fr (I.bk.ux np) np)
   ·rw[ag,yE _ _ hle]
   ·rw[XT]
    exact nL _ (k2.mono tp.tk)
inductive uy (A:dY)(vs:List V)(H:Hp)(Q:VK)(E':XK):Prop
 |mk (x dx:Addr)(h1:vs=[.ref x])(h2:H x=some (.ins A.work dx []))(h3: ∀f H',Frame [x] H H'->dE A H' x Bk.new f->(∀b∈f.fp,H b=none)->Q .eu H'):uy A vs H Q E'
theorem JX (f:eN):eE "made" (.ref f.pm) (eE "frees" (.ref f.pf) (eE "lefts" (.ref f.pl) (eE "all_credits" (.ref f.pc) (eE "bills" (.ref f.pb) []))))=lF f:=by rfl
theorem Cw {H Hk:Hp}{x dx p C:Addr}{fs:List (Str×V)}{f:Str}(F:Frame [x] H Hk)(hx:Hk x=some (.ins C dx fs))(n:Hk p=none):p≠x/\H p=none/\Frame [x] H (upd (upd Hk p (.lst [])) x (.ins C dx (eE f (.ref p) fs)))/\
  upd (upd Hk p (.lst [])) x (.ins C dx (eE f (.ref p) fs)) x=some (.ins C dx (eE f (.ref p) fs))/\upd (upd Hk p (.lst [])) x (.ins C dx (eE f (.ref p) fs)) p=some (.lst [])/\
  (∀q o,q≠x->Hk q=some o->upd (upd Hk p (.lst [])) x (.ins C dx (eE f (.ref p) fs)) q=some o/\q≠p):=by
 have ne:p≠x:=(aJ hx n).symm
 refine⟨ne,F.free (by simpa using ne) n,(F.tr (aD.new n).frame).tr (Frame.upd (by simp)),ag,by rw[az ne,ag],fun q o hq e=>⟨?_,aJ e n⟩⟩
 rw[az hq]
 exact aD.new n _ _ e
theorem My:aS ["self"] ["self"] (ay (mem 25 0)):={}
theorem JY {A:dY}(G:jB K mg A):uc P w K mg base "Work" A.work 1 ["self"] (uy A):=by
 refine Mq (k:=0) G.Mm G.Ml My (fun f cU A' outer s H vs Q E hr h=>?_)
 ·obtain⟨x,dx,rfl,hx,k⟩:=h
  refine⟨_,(ah (fT (pv 0) (bP av) rfl)
(ah (fT (pv 0) (bP av) rfl)
(ah (fT (pv 0) (bP av) rfl)
(ah (fT (pv 0) (bP av) rfl)
(au (fT (pv 0) (bP av) rfl)))))),?_⟩
  have F0:Frame [x] H H:=Frame.refl
  refine⟨bh _,fun p1 n1=>⟨_,rfl,x,_,dx,_,rfl,aD.new n1 _ _ hx,G.bH,G.dX,lt1000 Co (by decide),?_⟩⟩
  obtain⟨ne1,f1,F1,x1,g1,t1⟩:=Cw (f:="bills") F0 hx n1
  generalize hH1:upd (upd H p1 (.lst [])) x (.ins A.work dx (eE "bills" (.ref p1) _))=H1 at F1 x1 g1
  clear hH1 t1
  refine⟨bh _,fun p2 n2=>⟨_,rfl,x,_,dx,_,rfl,aD.new n2 _ _ x1,G.bH,G.cF,lt1000 (pl Co) (by decide),?_⟩⟩
  obtain⟨ne2,f2,F2,x2,g2,t2⟩:=Cw (f:="all_credits") F1 x1 n2
  obtain⟨g1,To⟩:=t2 p1 _ ne1 g1
  generalize Vb:upd (upd H1 p2 (.lst [])) x (.ins A.work dx (eE "all_credits" (.ref p2) _))=H2 at F2 x2 g1 g2
  clear Vb t2
  refine⟨bh _,fun p3 n3=>⟨_,rfl,x,_,dx,_,rfl,aD.new n3 _ _ x2,G.bH,G.fE,lt1000 (pl (pl Co)) (by decide),?_⟩⟩
  obtain⟨ne3,f3,F3,x3,g3,t3⟩:=Cw (f:="lefts") F2 x2 n3
  obtain⟨g1,Tp⟩:=t3 p1 _ ne1 g1
  obtain⟨g2,Tq⟩:=t3 p2 _ ne2 g2
  generalize Mw:upd (upd H2 p3 (.lst [])) x (.ins A.work dx (eE "lefts" (.ref p3) _))=H3 at F3 x3 g1 g2 g3
  clear Mw t3
  refine⟨bh _,fun p4 n4=>⟨_,rfl,x,_,dx,_,rfl,aD.new n4 _ _ x3,G.bH,G.fF,lt1000 (pl (pl (pl Co))) (by decide),?_⟩⟩
  obtain⟨ne4,f4,F4,x4,g4,t4⟩:=Cw (f:="frees") F3 x3 n4
  obtain⟨g1,Tr⟩:=t4 p1 _ ne1 g1
  obtain⟨g2,Ts⟩:=t4 p2 _ ne2 g2
  obtain⟨g3,Tt⟩:=t4 p3 _ ne3 g3
  generalize hH4:upd (upd H3 p4 (.lst [])) x (.ins A.work dx (eE "frees" (.ref p4) _))=H4 at F4 x4 g1 g2 g3 g4
  clear hH4 t4
  refine⟨bh _,fun p5 n5=>⟨_,rfl,x,_,dx,_,rfl,aD.new n5 _ _ x4,G.bH,G.mj,lt1000 (pl (pl (pl (pl Co)))) (by decide),?_⟩⟩
  obtain⟨ne5,f5,F5,x5,g5,t5⟩:=Cw (f:="made") F4 x4 n5
  obtain⟨g1,Tu⟩:=t5 p1 _ ne1 g1
  obtain⟨g2,Tv⟩:=t5 p2 _ ne2 g2
  obtain⟨g3,Tw⟩:=t5 p3 _ ne3 g3
  obtain⟨g4,Tx⟩:=t5 p4 _ ne4 g4
  refine k ⟨p1,p2,p3,p4,p5,[],[]⟩ _ F5 ⟨⟨dx,?_⟩,g1,g2,g3,g4,⟨[],g5,.nil⟩,⟨rfl,fun i p e=>by simp at e⟩,⟨rfl,fun i p e=>by simp at e⟩,?_⟩ ?_
  ·rw[x5]
   exact cL (fun z=>some (HO.ins A.work dx z)) (JX ⟨p1,p2,p3,p4,p5,[],[]⟩)
  ·simp[eN.fp,To,Tp,Tr,Tu,Tq,Ts,Tv,Tt,Tw,Tx]
  ·intro b hb
   simp only[eN.fp,List.mem_cons,List.not_mem_nil,or_false] at hb
   rcases hb with rfl|rfl|rfl|rfl|rfl
   ·exact f1
   ·exact f2
   ·exact f3
   ·exact f4
   ·exact f5
def iE (A:dY)(H:Hp)(S:Bk)(bs:List Nat)(qs:List Addr):Prop:=Paired (fun(b:Nat) q=>eA H q A.dW (fC b (S.bl b))) bs qs
def gK (A:dY)(H:Hp)(S:Bk)(cs:List Nat)(qs:List Addr):Prop:=Paired (fun(c:Nat) q=>eA H q A.d8 (ff c (S.cr c))) cs qs
theorem iE.same {A:dY}{H H':Hp}{S:Bk}{bs:List Nat}{qs:List Addr}(h:iE A H S bs qs)(s:aD H H'):iE A H' S bs qs:=Paired.gP h fun _ _ z=>z.same s
theorem gK.same {A:dY}{H H':Hp}{S:Bk}{bs:List Nat}{qs:List Addr}(h:gK A H S bs qs)(s:aD H H'):gK A H' S bs qs:=Paired.gP h fun _ _ z=>z.same s
inductive JZ (A:dY)(vs:List V)(H:Hp)(Q:VK)(E':XK):Prop
 |mk (p pt:Addr)(S:Bk)(c:Nat)(bs:List Nat)(qs:List Addr)(h1:vs=[.ref p,.ref pt])(h2:eA H p A.d8 (ff c (S.cr c)))(h3:H pt=some (.lst (qs.map V.ref)))(h4:iE A H S bs qs)(h5:bs.length<=100)(h6: ∀D H',aD H H'->H D=none->H' D=some (.lst ((bs.map fun b=>oX (S.cr c) (S.bl b) b).map V.bl))->Q (.ref D) H'):JZ A vs H Q E'
theorem vP:aS ["credit","bills"] ["credit","bills"] (ay (top 27)):={}
theorem xy (T:Txt K mg){A:dY}(G:jB K mg A):eM P w K mg base "row_of_fits" 2 ["credit","bills"] (JZ A):=by
 have Ec:eM P w K mg base "fits" 1 ["credit","bill"] (zY A):=JO T G
 refine T.xc.fe (k:=1) vP (fun f cU A' outer s H vs Q E hr h=>?_)
 ·obtain⟨p,pt,S,c,bs,qs,rfl,hp,wF,hB,hl,k⟩:=h
  have hlen:=aL hB
  refine⟨_,(au (a0 (gq (tn:=["bill"]) (cn:=["credit"]) (cj:=[0]) rfl (gY (zo:=[(".0",.local),("bill",.local),("fits",.globalImplicit),("credit",.cell)])) (cO (pv 1)) (fun _ _ _ _=>(dU (i:=0) (show(["bill","credit"]:List Str).Nodup by decide +kernel) rfl (Or.inl rfl))) (fun _ _ _ _=>kQ) (fun _ _ _ _=>(fc Ec hr (aa (pv 1) (aa (pv 0) av))))))),?_⟩
  refine⟨_,rfl,pt,rfl,⟨_,bA.of wF⟩,?_⟩
  refine dO (K:=K) (a:=pt) (xs:=qs.map V.ref) (fun D i σ H6=>H D=none/\ ∃v,σ=[v,some (.ref p)]/\aD H H6/\H6 D=some (.lst (((bs.take i).map fun b=>oX (S.cr c) (S.bl b) b).map V.bl))) (fun D hD=>⟨hD,none,rfl,aD.new hD,ag⟩) (fun D i σ H6 _ ⟨_,_,_,t3,_⟩=>bA.of (t3 _ _ wF)) ?_ ?_
  ·rintro D i x σ H6 hx ⟨hD,v,rfl,t3,gi⟩
   rw[aB] at hx
   obtain⟨q,hq,rfl⟩:=bo.mp hx
   have hi:i < bs.length:=by have:=(ak.mp hq).1; lia
   obtain⟨q',sU,lL⟩:=bI hB (af hi)
   rw[hq] at sU
   obtain rfl:q=q':=aF sU
   have lT:=jt hi
   generalize bs[i]=b at lL lT
   refine⟨_,rfl,_,rfl,p,q,c,b,_,_,rfl,hp.same t3,lL.same t3,_,gi,a9 (by rw[ae,ae,bf]; lia),hD,_,rfl,t3.cI hD,?_⟩
   rw[ag,lT,aK,aK]
   rfl
  ·rintro D σ H6 hD ⟨_,v,rfl,t3,gi⟩
   refine k D H6 t3 hD ?_
   rw[gi,ae,← hlen,a7]
def br.vs:br->List V
 | .dW w d u a=>[.str "bill",.str w,.int d,.int u,.int a]
 | .rL w d a=>[.str "pay",.str w,.int d,.int a]
 | .note b d a=>[.str "note",.int b,.int d,.int a]
 | .set c b a=>[.str "set",.int c,.int b,.int a]
 | .fY w=>[.str "sweep",.str w]
 | .jf n=>[.str "undo",.int n]
 | .ask o w d=>[.str (if o then "owed" else "free"),.str w,.int d]
 | .fR _ _ _=>[]
theorem jr {x y:Str}(h:x≠y):V.bl (decide (V.str x=V.str y))=V.bl false:=cL V.bl (bp fun z=>h (by injection z))
theorem yF (x:Str):V.bl (decide (V.str x=V.str x))=V.bl true:=cL V.bl (aG rfl)
theorem Tz {x y:Str}(h:x≠y):V.bl (!decide (V.str x=V.str y))=V.bl true:=by rw[show decide (V.str x=V.str y)=false from bp fun z=>h (by injection z)]; rfl
theorem btN (x:Str):V.bl (!decide (V.str x=V.str x))=V.bl false:=by rw[show decide (V.str x=V.str x)=true from aG rfl]; rfl
theorem vQ {x:Int}{n:Nat}{ta tc:TE}{σ:L2.St}{H:Hp}{Q:Bool->Hp->Prop}(ha: ∀R:VK,R (.int x) H->ta σ H R)(hc: ∀R:VK,R (.int (n:Int)) H->tc σ H R)(q:Q (decide (qq x n)) H):
  IG (IH (KZ fun i j=> .bl (decide (i<=j))) (KZ fun i j=> .bl (decide (i < j))) (tC (.int 0)) ta tc) σ H Q:=by
 refine ha _ ⟨_,_,rfl,rfl,_,rfl,cm (fun d=>hc _ ⟨_,_,rfl,rfl,_,rfl,?_⟩) (fun d=>⟨_,rfl,?_⟩)⟩
 ·have d':(0:Int)<=x:=aN d
  have e:decide (qq x n)=decide (x < (n:Int)):=mI.mpr ⟨fun z=>z.2,fun z=>⟨d',z⟩⟩
  rw[e] at q
  exact q
 ·have d': ¬ (0:Int)<=x:=fun z=>d (aG z)
  have e:decide (qq x n)=false:=bp fun z=>d' z.1
  rw[e] at q
  exact q
inductive vR (vs:List V)(H:Hp)(Q:VK)(E':XK):Prop
 |mk (sd pd:Addr)(S:Bk)(f:fB)(d:br)(h1:vs=[.ref sd,.ref pd])(h2:di H sd S f)(h3:H pd=some (.tup (br.vs d)))(h4:d.tells=true)(h5: ∀H',aD H H'->Q (.str (S.bar d)) H'):vR vs H Q E'
theorem nO:aS ["_law_state","_law_deed","_law_word","_law_spot"] ["_law_state","_law_deed"] (ay (top 59)):={}
theorem xA (T:Txt K mg):eM P w K mg base "_law_barred" 2 ["_law_state","_law_deed"] vR:=by
 have nN:eM P w K mg base "_law_goes" 1 ["_law_state","_law_credit","_law_bill"] Ae:=tG T
 refine T.xm.fe (k:=1) nO (fun f cU A outer s H vs Q E hr h=>?_)
 ·obtain⟨sd,pd,S,g,d,rfl,hB,hd,ht,k⟩:=h
  have hu:=jM hr
  have nd:=nO.nd
  refine⟨_,(ah (sv 2 nd (xt (pv 1) ai))
(ah (sv 3 nd (gF jD (by rfl) T.vC boot_int (aa (fm cJ (pv 2) aQ (aY _)) av)))
(ah (bN (PW.pt (pw_and (aV cJ (pv 3) ai (aY _)) (pw_and1 (kO (Bp sS ju ai (xt (pv 1) ai) (mh T.dD (cE hu (pv 0) aQ (fun _ _=>rfl))))))))
(au (a0 aQ))
bb)
(ah (bN (PW.pt (pw_and (aV om (pv 2) (bP (aa aQ (aa aQ av))) (by rfl)) (pw_and1 (kO (Bp sS ju ai (xt (pv 1) (aO cB ai (pv 3))) (mh T.dD (cE hu (pv 0) aQ (fun _ _=>rfl))))))))
(au (a0 aQ))
bb)
(ah (bN (PW.pt (pw_and (aV cJ (pv 2) aQ (aY _)) (pw_and1 (kO (gj (fc nN hr (aa (pv 0) (aa (xt (pv 1) ai) (aa (xt (pv 1) ai) av)))))))))
(au (a0 aQ))
bb)
(ah (bN (PW.pt (pw_and (aV oU (pv 2) aQ (aY _)) (pw_and1 (aV ju (xt (pv 1) (oT kP ai)) ai (aY _)))))
(au (a0 aQ))
bb)
(ah (bN (PW.pt (pw_and (aV cJ (pv 2) aQ (aY _)) (pw_and1 (aV ju (xt (pv 1) ai) (xt (pv 1) ai) (aY _)))))
(au (a0 aQ))
bb)
(ah (bN (aV cJ (pv 2) aQ (aY _))
(au (bN (aV iO (xt (pv 1) ai) (cD (rZ rfl) (by rfl) T.JF boot_min (aa (xl (xl (cE hu (pv 0) aQ (fun _ _=>rfl)) (xt (pv 1) ai)) ai) (aa (xl (xl (cE hu (pv 0) aQ (fun _ _=>rfl)) (xt (pv 1) ai)) ai) av))) (aY _))
(au (a0 aQ))
bb))
bb)
(au (a0 aQ)))))))))),?_⟩
  have kk: ∀(t:Str) (H':Hp),S.bar d=t->aD H H'->Q (.str t) H':=fun t H' e z=>e▸k H' z
  clear k
  cases d with
  |jf n=>cases ht
  |ask o w d=>cases ht
  |fR w d l=>cases ht
  |dW wh dy du am=>
   refine⟨_,rfl,pd,_,_,.str "bill",rfl,rfl,cg.of hd,rfl,_,rfl,rfl,.inr ⟨false,(by rw[jr (show("bill":Str)≠"set" by decide +kernel)]),?_⟩⟩
   refine⟨_,rfl,rfl,false,cL V.bl (by decide +kernel),bT (bT ?_)⟩
   refine⟨_,rfl,(by show 2<=sizeLine; decide),fun p9 n9=>⟨p9,_,rfl,.inl (bA.of ag),rfl,rfl,false,cL V.bl (by decide +kernel),bT (bT ?_)⟩⟩
   have s9:=aD.new (o:= .lst [V.str "set",.str "note"]) n9
   have Cy:=s9 _ _ hd
   refine jC (H':=upd H p9 (.lst [V.str "set",.str "note"])) rfl ?_
   generalize upd H p9 (.lst [V.str "set",.str "note"])=H9 at s9 Cy
   refine⟨_,rfl,rfl,false,jr (show("bill":Str)≠"set" by decide +kernel),bT (bT ?_)⟩
   refine⟨_,rfl,rfl,true,Tz (show("bill":Str)≠"sweep" by decide +kernel),fG ⟨_,rfl,_,rfl,pd,_,_,.int am,rfl,rfl,cg.of Cy,rfl,_,_,rfl,rfl,_,rfl,cm (fun z=>?_) (fun z=>?_)⟩⟩
   ·have z':am < 1:=aN z
    exact kk _ _ (a8 z') s9
   have z1: ¬ am < 1:=fun q=>z (aG q)
   refine⟨_,rfl,rfl,true,yF _,fG ⟨_,rfl,pd,_,_,.int du,rfl,rfl,cg.of Cy,rfl,_,rfl,pd,_,_,.int dy,rfl,rfl,cg.of Cy,rfl,_,_,rfl,rfl,_,rfl,cm (fun z=>?_) (fun z=>?_)⟩⟩
   ·have z':du < dy:=aN z
    exact kk _ _ ((aU z1).trans (a8 z')) s9
   have z2: ¬ du < dy:=fun q=>z (aG q)
   refine⟨_,rfl,rfl,false,jr (show("bill":Str)≠"set" by decide +kernel),bT ?_⟩
   exact kk _ _ ((aU z1).trans (aU z2)) s9
  |rL wh dy am=>
   refine⟨_,rfl,pd,_,_,.str "pay",rfl,rfl,cg.of hd,rfl,_,rfl,rfl,.inr ⟨false,(by rw[jr (show("pay":Str)≠"set" by decide +kernel)]),?_⟩⟩
   refine⟨_,rfl,rfl,false,cL V.bl (by decide +kernel),bT (bT ?_)⟩
   refine⟨_,rfl,(by show 2<=sizeLine; decide),fun p9 n9=>⟨p9,_,rfl,.inl (bA.of ag),rfl,rfl,false,cL V.bl (by decide +kernel),bT (bT ?_)⟩⟩
   have s9:=aD.new (o:= .lst [V.str "set",.str "note"]) n9
   have Cy:=s9 _ _ hd
   refine jC (H':=upd H p9 (.lst [V.str "set",.str "note"])) rfl ?_
   generalize upd H p9 (.lst [V.str "set",.str "note"])=H9 at s9 Cy
   refine⟨_,rfl,rfl,false,jr (show("pay":Str)≠"set" by decide +kernel),bT (bT ?_)⟩
   refine⟨_,rfl,rfl,true,Tz (show("pay":Str)≠"sweep" by decide +kernel),fG ⟨_,rfl,_,rfl,pd,_,_,.int am,rfl,rfl,cg.of Cy,rfl,_,_,rfl,rfl,_,rfl,cm (fun z=>?_) (fun z=>?_)⟩⟩
   ·have z':am < 1:=aN z
    exact kk _ _ (a8 z') s9
   have z1: ¬ am < 1:=fun q=>z (aG q)
   refine⟨_,rfl,rfl,false,jr (show("pay":Str)≠"bill" by decide +kernel),bT (bT ?_)⟩
   refine⟨_,rfl,rfl,false,jr (show("pay":Str)≠"set" by decide +kernel),bT ?_⟩
   exact kk _ _ (aU z1) s9
  |fY wh=>
   refine⟨_,rfl,pd,_,_,.str "sweep",rfl,rfl,cg.of hd,rfl,_,rfl,rfl,.inr ⟨false,(by rw[jr (show("sweep":Str)≠"set" by decide +kernel)]),?_⟩⟩
   refine⟨_,rfl,rfl,false,cL V.bl (by decide +kernel),bT (bT ?_)⟩
   refine⟨_,rfl,(by show 2<=sizeLine; decide),fun p9 n9=>⟨p9,_,rfl,.inl (bA.of ag),rfl,rfl,false,cL V.bl (by decide +kernel),bT (bT ?_)⟩⟩
   have s9:=aD.new (o:= .lst [V.str "set",.str "note"]) n9
   refine jC (H':=upd H p9 (.lst [V.str "set",.str "note"])) rfl ?_
   generalize upd H p9 (.lst [V.str "set",.str "note"])=H9 at s9
   refine⟨_,rfl,rfl,false,jr (show("sweep":Str)≠"set" by decide +kernel),bT (bT ?_)⟩
   refine⟨_,rfl,rfl,false,btN _,bT (bT ?_)⟩
   refine⟨_,rfl,rfl,false,jr (show("sweep":Str)≠"bill" by decide +kernel),bT (bT ?_)⟩
   refine⟨_,rfl,rfl,false,jr (show("sweep":Str)≠"set" by decide +kernel),bT ?_⟩
   exact kk _ _ rfl s9
  |note bi dy am=>
   refine⟨_,rfl,pd,_,_,.str "note",rfl,rfl,cg.of hd,rfl,_,rfl,rfl,.inr ⟨false,(by rw[jr (show("note":Str)≠"set" by decide +kernel)]),?_⟩⟩
   refine⟨_,rfl,rfl,false,cL V.bl (by decide +kernel),bT (bT ?_)⟩
   refine⟨_,rfl,(by show 2<=sizeLine; decide),fun p9 n9=>⟨p9,_,rfl,.inl (bA.of ag),rfl,rfl,true,cL V.bl (by decide +kernel),fG ?_⟩⟩
   have s9:=aD.new (o:= .lst [V.str "set",.str "note"]) n9
   have Cy:=s9 _ _ hd
   have B9:=hB.same s9
   generalize upd H p9 (.lst [V.str "set",.str "note"])=H9 at s9 Cy B9
   have hlen:g.iA.length=S.aI.length:=B9.rb.length.symm
   refine vQ (x:=bi) (n:=S.aI.length) (fun R q=>⟨_,rfl,_,rfl,_,_,rfl,rfl,pd,_,_,.int bi,rfl,rfl,cg.of Cy,rfl,q⟩) (fun R q=>⟨_,rfl,sd,_,rfl,B9.gB,g.pb,_,rfl,.inl (bA.of B9.hb),by rw[ae,hlen]; exact q⟩) (cm (fun z=>?_) (fun z=>?_))
   ·have z': ¬ qq bi S.aI.length:=by simpa using z
    exact kk _ _ (a8 z') s9
   have z0: ¬ ¬ qq bi S.aI.length:=by simpa using z
   refine⟨_,rfl,rfl,false,jr (show("note":Str)≠"set" by decide +kernel),bT (bT ?_)⟩
   refine⟨_,rfl,rfl,true,Tz (show("note":Str)≠"sweep" by decide +kernel),fG ⟨_,rfl,_,rfl,pd,_,_,.int am,rfl,rfl,cg.of Cy,rfl,_,_,rfl,rfl,_,rfl,cm (fun z=>?_) (fun z=>?_)⟩⟩
   ·have z':am < 1:=aN z
    exact kk _ _ ((aU z0).trans (a8 z')) s9
   have z1: ¬ am < 1:=fun q=>z (aG q)
   refine⟨_,rfl,rfl,false,jr (show("note":Str)≠"bill" by decide +kernel),bT (bT ?_)⟩
   refine⟨_,rfl,rfl,false,jr (show("note":Str)≠"set" by decide +kernel),bT ?_⟩
   exact kk _ _ ((aU z0).trans (aU z1)) s9
  |set ci bi am=>
   have hlc:g.cps.length=S.credits.length:=hB.rc.length.symm
   refine⟨_,rfl,pd,_,_,.str "set",rfl,rfl,cg.of hd,rfl,_,rfl,rfl,.inr ⟨true,(by rw[yF]),?_⟩⟩
   refine⟨_,rfl,rfl,true,cL V.bl (by decide +kernel),fG ?_⟩
   refine vQ (x:=ci) (n:=S.credits.length) (fun R q=>⟨_,rfl,pd,_,_,.int ci,rfl,rfl,cg.of hd,rfl,q⟩) (fun R q=>⟨_,rfl,sd,_,rfl,hB.gC,g.pc,_,rfl,.inl (bA.of hB.hc),by rw[ae,hlc]; exact q⟩) (cm (fun z=>?_) (fun z=>?_))
   ·have z': ¬ qq ci S.credits.length:=by simpa using z
    exact kk _ _ (a8 z') (aD.refl _)
   have zc: ¬ ¬ qq ci S.credits.length:=by simpa using z
   refine⟨_,rfl,(by show 2<=sizeLine; decide),fun p9 n9=>⟨p9,_,rfl,.inl (bA.of ag),rfl,rfl,true,cL V.bl (by decide +kernel),fG ?_⟩⟩
   have s9:=aD.new (o:= .lst [V.str "set",.str "note"]) n9
   have Cy:=s9 _ _ hd
   have B9:=hB.same s9
   generalize upd H p9 (.lst [V.str "set",.str "note"])=H9 at s9 Cy B9
   have hlen:g.iA.length=S.aI.length:=B9.rb.length.symm
   refine vQ (x:=bi) (n:=S.aI.length) (fun R q=>⟨_,rfl,_,rfl,_,_,rfl,rfl,pd,_,_,.int bi,rfl,rfl,cg.of Cy,rfl,q⟩) (fun R q=>⟨_,rfl,sd,_,rfl,B9.gB,g.pb,_,rfl,.inl (bA.of B9.hb),by rw[ae,hlen]; exact q⟩) (cm (fun z=>?_) (fun z=>?_))
   ·have z': ¬ qq bi S.aI.length:=by simpa using z
    exact kk _ _ ((aU zc).trans (a8 z')) s9
   have zb: ¬ ¬ qq bi S.aI.length:=by simpa using z
   have ic:=Ge.mp zc
   have ib:=Ge.mp zb
   obtain⟨c,rfl⟩:=cw ic.1
   obtain⟨b,rfl⟩:=cw ib.1
   have hc:c < S.credits.length:=by have:=ic.2; lia
   have hb:b < S.aI.length:=by have:=ib.2; lia
   refine⟨_,rfl,rfl,true,yF _,fG ⟨_,rfl,_,rfl,pd,_,_,.int (c:Int),rfl,rfl,cg.of Cy,rfl,_,rfl,pd,_,_,.int (b:Int),rfl,rfl,cg.of Cy,rfl,sd,S,g,c,b,rfl,B9,hc,hb,fun Pp Ee=>⟨_,rfl,cm (fun z=>?_) (fun z=>?_)⟩⟩⟩
   ·have z':S.eK c b=false:=by simpa using z
    exact kk _ _ ((if_neg zc).trans ((if_neg zb).trans (if_pos (by simpa using z')))) (s9.trans Ee)
   have zg: ¬ S.eK (c:Int).toNat (b:Int).toNat=false:=by simpa using z
   have Mz:=Ee _ _ Cy
   have QX:=B9.same Ee
   have Ak:=s9.trans Ee
   refine⟨_,rfl,rfl,true,Tz (show("set":Str)≠"sweep" by decide +kernel),fG ⟨_,rfl,_,rfl,pd,_,_,.int am,rfl,rfl,cg.of Mz,rfl,_,_,rfl,rfl,_,rfl,cm (fun z=>?_) (fun z=>?_)⟩⟩
   ·have z':am < 1:=aN z
    exact kk _ _ ((aU zc).trans ((aU zb).trans ((aU zg).trans (a8 z')))) Ak
   have z1: ¬ am < 1:=fun q=>z (aG q)
   refine⟨_,rfl,rfl,false,jr (show("set":Str)≠"bill" by decide +kernel),bT (bT ?_)⟩
   obtain⟨p,_,ap,hp⟩:=QX.lc hc
   obtain⟨q,_,aq,hq⟩:=QX.lb hb
   refine⟨_,rfl,rfl,true,yF _,fG ?_⟩
   refine⟨_,rfl,pd,_,_,.int am,rfl,rfl,cg.of Mz,rfl,_,rfl,sd,_,rfl,QX.gC,_,rfl,pd,_,_,.int (c:Int),rfl,rfl,cg.of Mz,rfl,g.pc,_,_,.ref p,rfl,rfl,bA.of QX.hc,ap,p,_,_,.int (S.cr c).d,rfl,rfl,bA.of hp,rfl,?_⟩
   refine⟨_,rfl,sd,_,rfl,QX.gB,_,rfl,pd,_,_,.int (b:Int),rfl,rfl,cg.of Mz,rfl,g.pb,_,_,.ref q,rfl,rfl,bA.of QX.hb,aq,q,_,_,.int (S.bl b).d,rfl,rfl,bA.of hq,rfl,_,_,rfl,_,_,rfl,rfl,_,rfl,cm (fun z=>?_) (fun z=>?_)⟩
   ·have z':iK (S.cr (c:Int).toNat).d (S.bl (b:Int).toNat).d < am:=aN z
    exact kk _ _ ((aU zc).trans ((aU zb).trans ((aU zg).trans ((aU z1).trans (a8 z'))))) Ak
   ·have z': ¬ iK (S.cr (c:Int).toNat).d (S.bl (b:Int).toNat).d < am:=fun q=>z (aG q)
    exact kk _ _ ((aU zc).trans ((aU zb).trans ((aU zg).trans ((aU z1).trans (aU z'))))) Ak
def Pq (H:Hp)(f f':fB):Prop:= ∀x∈f'.fp,x∈f.fp∨H x=none
def XW (Q:VK)(H:Hp)(sd:Addr)(S:Bk)(f:fB)(d:br):Prop:=
 ∀v f' H',Frame f.fp H H'->di H' sd (S.enter d) f'->Pq H f f'->Rp H' (S.LV d).dt v->Q v H'
inductive uz (vs:List V)(H:Hp)(Q:VK)(E':XK):Prop
 |mk (sd pd:Addr)(S:Bk)(f:fB)(d:br)(h1:vs=[.ref sd,.ref pd])(h2:di H sd S f)(h3:H pd=some (.tup (br.vs d)))(h4:d.tells=true)(h5:S.credits.length < 64)(h6:S.aI.length < 64)(h7:S.made.length + 10000 < sizeLine)(h8:(S.bar d≠""-> ∀H',aD H H'->Q (.str (S.bar d)) H'))(h9:(S.bar d=""->XW Q H sd S f d)):uz vs H Q E'
theorem o5:aS ["_law_state","_law_deed","_law_text","_law_who"] ["_law_state","_law_deed"] (ay (top 60)):={}
theorem rn (T:Txt K mg):eM P w K mg base "_law_enter" 3 ["_law_state","_law_deed"] uz:=by
 have xB:eM P w K mg base "_law_barred" 2 ["_law_state","_law_deed"] vR:=xA T
 have pY:eM P w K mg base "_law_put" 1 ["_law_state","_law_credit","_law_bill","_law_amount"] Cu:=vM T
 have Al:eM P w K mg base "_law_swept" 2 ["_law_state","_law_who"] Ai:=Aj T
 refine T.zL.fe (k:=2) o5 (fun f cU A outer s H vs Q E hr h=>?_)
 ·obtain⟨sd,pd,S,g,d,rfl,hB,hd,ht,qQ,Mx,FC,kn,ky⟩:=h
  have hu:=jM hr
  have nd:=o5.nd
  refine⟨_,(ah (sv 2 nd (fc xB hr (aa (pv 0) (aa (pv 1) av))))
(ah (bN (aV oU (pv 2) aQ (aY _))
(au (a0 (pv 2)))
bb)
(ah (bN (aV cJ (xt (pv 1) ai) aQ (aY _))
(ah (bK (oW (cE hu (pv 0) aQ (fun _ _=>rfl)) (bP (aa (xt (pv 1) ai) (aa (xt (pv 1) ai) (aa (xt (pv 1) ai) (aa (xt (pv 1) ai) (aa (xt (pv 1) ai) av))))))))
(au (a0 (aO eP (mh T.dD (cE hu (pv 0) aQ (fun _ _=>rfl))) ai))))
bb)
(ah (bN (aV cJ (xt (pv 1) ai) aQ (aY _))
(ah (bK (oW (cE hu (pv 0) aQ (fun _ _=>rfl)) (bP (aa (xt (pv 1) ai) (aa (xt (pv 1) ai) (aa (xt (pv 1) ai) (aa (oT kP ai) (aa (xt (pv 1) ai) av))))))))
(au (a0 (aO eP (mh T.dD (cE hu (pv 0) aQ (fun _ _=>rfl))) ai))))
bb)
(ah (bN (aV cJ (xt (pv 1) ai) aQ (aY _))
(ah (sv 3 nd (xl (xl (cE hu (pv 0) aQ (fun _ _=>rfl)) (xt (pv 1) ai)) ai))
(ah (bK (oW (cE hu (pv 0) aQ (fun _ _=>rfl)) (bP (aa (pv 3) (aa (xt (pv 1) ai) (aa (xt (pv 1) ai) (aa (xt (pv 1) ai) (aa (xt (pv 1) ai) av))))))))
(au (a0 (aO eP (mh T.dD (cE hu (pv 0) aQ (fun _ _=>rfl))) ai)))))
bb)
(ah (bN (aV cJ (xt (pv 1) ai) aQ (aY _))
(ah (bK (fc pY hr (aa (pv 0) (aa (xt (pv 1) ai) (aa (xt (pv 1) ai) (aa (xt (pv 1) ai) av))))))
(au (a0 (xt (pv 1) ai))))
bb)
(au (a0 (fc Al hr (aa (pv 0) (aa (xt (pv 1) ai) av))))))))))),?_⟩
  refine⟨_,rfl,_,rfl,sd,pd,S,g,d,rfl,hB,hd,ht,fun H1 s1=>?_⟩
  by_cases oO:S.bar d=""
  case neg=>exact⟨_,rfl,rfl,true,Tz oO,fG ⟨_,rfl,kn oO H1 s1⟩⟩
  refine⟨_,rfl,rfl,false,(by rw[oO]; exact btN _),bT ?_⟩
  have B1:=hB.same s1
  have l7:=s1 _ _ hd
  have TB: ∀v f' H',Frame g.fp H1 H'->di H' sd (S.enter d) f'->Pq H1 g f'->Rp H' (S.LV d).dt v->Q v H':=fun v f' H' fr b fi r=>ky oO v f' H' (fr.mi s1) b (fun x hx=>(fi x hx).elim .inl fun z=> .inr (s1.free z)) r
  clear ky kn
  have lb:=B1.rb.length
  have lc:=B1.rc.length
  cases d with
  |jf n=>cases ht
  |ask o w d=>cases ht
  |fR w d l=>cases ht
  |dW wh dy du am=>
   refine⟨_,rfl,pd,_,_,.str "bill",rfl,rfl,cg.of l7,rfl,rfl,true,yF _,fG ?_⟩
   refine⟨_,rfl,sd,_,rfl,B1.gB,.inl ⟨rfl,_,bA.of B1.hb⟩,_,rfl,pd,_,_,.str wh,rfl,rfl,cg.of l7,rfl,_,rfl,pd,_,_,.int dy,rfl,rfl,cg.of l7,rfl,_,rfl,pd,_,_,.int du,rfl,rfl,cg.of l7,rfl,_,rfl,pd,_,_,.int am,rfl,rfl,cg.of l7,rfl,_,rfl,pd,_,_,.int am,rfl,rfl,cg.of l7,rfl,(by show 5<=sizeLine; decide),fun pr nr=>?_⟩
   have t1:=aD.new (o:= .lst (Rw.vs ⟨wh,dy,du,am,am⟩)) nr
   refine⟨g.pb,_,_,rfl,rfl,t1 _ _ B1.hb,a9 (by rw[ae]; lia),?_⟩
   have B2:=B1.kA (r:=⟨wh,dy,du,am,am⟩) nr
   have F2:Frame g.fp H1 (upd (upd H1 pr (.lst (Rw.vs ⟨wh,dy,du,am,am⟩))) g.pb (.lst (g.iA.map V.ref ++ [.ref pr]))):=t1.frame.tr (Frame.upd (by simp[fB.fp]))
   refine jC (H':=upd (upd H1 pr (.lst (Rw.vs ⟨wh,dy,du,am,am⟩))) g.pb (.lst (g.iA.map V.ref ++ [.ref pr]))) rfl ?_
   generalize upd (upd H1 pr (.lst (Rw.vs ⟨wh,dy,du,am,am⟩))) g.pb (.lst (g.iA.map V.ref ++ [.ref pr]))=H2 at B2 F2
   refine⟨_,rfl,sd,_,rfl,B2.gB,_,_,rfl,.inl (bA.of B2.hb),_,_,rfl,rfl,?_⟩
   refine TB _ (g.kA pr) H2 F2 B2 (fun x hx=>?_) (dm.mpr ?_)
   ·rcases aw.mp ((g.JI pr).mem_iff.mp hx) with rfl|hx
    ·exact .inr nr
    ·exact .inl hx
   ·show V.int _ =V.int (S.aI.length:Int)
    congr 1
    rw[ae]
    show((g.iA ++ [pr]).length:Int) - 1=_
    rw[aC,lb]
    simp
  |rL wh dy am=>
   refine⟨_,rfl,pd,_,_,.str "pay",rfl,rfl,cg.of l7,rfl,rfl,false,jr (show("pay":Str)≠"bill" by decide +kernel),bT ?_⟩
   refine⟨_,rfl,pd,_,_,.str "pay",rfl,rfl,cg.of l7,rfl,rfl,true,yF _,fG ?_⟩
   refine⟨_,rfl,sd,_,rfl,B1.gC,.inl ⟨rfl,_,bA.of B1.hc⟩,_,rfl,pd,_,_,.str wh,rfl,rfl,cg.of l7,rfl,_,rfl,pd,_,_,.int dy,rfl,rfl,cg.of l7,rfl,_,rfl,pd,_,_,.int am,rfl,rfl,cg.of l7,rfl,_,rfl,_,rfl,pd,_,_,.int am,rfl,rfl,cg.of l7,rfl,(by show 5<=sizeLine; decide),fun pr nr=>?_⟩
   have t1:=aD.new (o:= .lst (Rw.vs ⟨wh,dy,am,-1,am⟩)) nr
   refine⟨g.pc,_,_,rfl,rfl,t1 _ _ B1.hc,a9 (by rw[ae]; lia),?_⟩
   have B2:=B1.ip (r:=⟨wh,dy,am,-1,am⟩) nr
   have F2:Frame g.fp H1 (upd (upd H1 pr (.lst (Rw.vs ⟨wh,dy,am,-1,am⟩))) g.pc (.lst (g.cps.map V.ref ++ [.ref pr]))):=t1.frame.tr (Frame.upd (by simp[fB.fp]))
   refine jC (H':=upd (upd H1 pr (.lst (Rw.vs ⟨wh,dy,am,-1,am⟩))) g.pc (.lst (g.cps.map V.ref ++ [.ref pr]))) rfl ?_
   generalize upd (upd H1 pr (.lst (Rw.vs ⟨wh,dy,am,-1,am⟩))) g.pc (.lst (g.cps.map V.ref ++ [.ref pr]))=H2 at B2 F2
   refine⟨_,rfl,sd,_,rfl,B2.gC,_,_,rfl,.inl (bA.of B2.hc),_,_,rfl,rfl,?_⟩
   refine TB _ (g.ip pr) H2 F2 B2 (fun x hx=>?_) (dm.mpr ?_)
   ·rcases aw.mp ((g.Ft pr).mem_iff.mp hx) with rfl|hx
    ·exact .inr nr
    ·exact .inl hx
   ·show V.int _ =V.int (S.credits.length:Int)
    congr 1
    rw[ae]
    show((g.cps ++ [pr]).length:Int) - 1=_
    rw[aC,lc]
    simp
  |note bi dy am=>
   obtain⟨ib,ia⟩:=su oO
   obtain⟨b,rfl⟩:=cw ib.1
   have hb:b < S.aI.length:=by have:=ib.2; lia
   obtain⟨q,_,aq,hq⟩:=B1.lb hb
   refine⟨_,rfl,pd,_,_,.str "note",rfl,rfl,cg.of l7,rfl,rfl,false,jr (show("note":Str)≠"bill" by decide +kernel),bT ?_⟩
   refine⟨_,rfl,pd,_,_,.str "note",rfl,rfl,cg.of l7,rfl,rfl,false,jr (show("note":Str)≠"pay" by decide +kernel),bT ?_⟩
   refine⟨_,rfl,pd,_,_,.str "note",rfl,rfl,cg.of l7,rfl,rfl,true,yF _,fG ?_⟩
   refine⟨_,rfl,sd,_,rfl,B1.gB,_,rfl,pd,_,_,.int (b:Int),rfl,rfl,cg.of l7,rfl,g.pb,_,_,.ref q,rfl,rfl,bA.of B1.hb,aq,q,_,_,.str (S.bl b).aH,rfl,rfl,bA.of hq,rfl,?_⟩
   refine⟨_,rfl,sd,_,rfl,B1.gC,.inl ⟨rfl,_,bA.of B1.hc⟩,_,rfl,_,rfl,pd,_,_,.int dy,rfl,rfl,cg.of l7,rfl,_,rfl,pd,_,_,.int am,rfl,rfl,cg.of l7,rfl,_,rfl,pd,_,_,.int (b:Int),rfl,rfl,cg.of l7,rfl,_,rfl,pd,_,_,.int am,rfl,rfl,cg.of l7,rfl,(by show 5<=sizeLine; decide),fun pr nr=>?_⟩
   have t1:=aD.new (o:= .lst (Rw.vs ⟨(S.bl b).aH,dy,am,b,am⟩)) nr
   refine⟨g.pc,_,_,rfl,rfl,t1 _ _ B1.hc,a9 (by rw[ae]; lia),?_⟩
   have B2:=B1.ip (r:=⟨(S.bl b).aH,dy,am,b,am⟩) nr
   have F2:Frame g.fp H1 (upd (upd H1 pr (.lst (Rw.vs ⟨(S.bl b).aH,dy,am,b,am⟩))) g.pc (.lst (g.cps.map V.ref ++ [.ref pr]))):=t1.frame.tr (Frame.upd (by simp[fB.fp]))
   refine jC (H':=upd (upd H1 pr (.lst (Rw.vs ⟨(S.bl b).aH,dy,am,b,am⟩))) g.pc (.lst (g.cps.map V.ref ++ [.ref pr]))) rfl ?_
   generalize upd (upd H1 pr (.lst (Rw.vs ⟨(S.bl b).aH,dy,am,b,am⟩))) g.pc (.lst (g.cps.map V.ref ++ [.ref pr]))=H2 at B2 F2
   refine⟨_,rfl,sd,_,rfl,B2.gC,_,_,rfl,.inl (bA.of B2.hc),_,_,rfl,rfl,?_⟩
   refine TB _ (g.ip pr) H2 F2 B2 (fun x hx=>?_) (dm.mpr ?_)
   ·rcases aw.mp ((g.Ft pr).mem_iff.mp hx) with rfl|hx
    ·exact .inr nr
    ·exact .inl hx
   ·show V.int _ =V.int (S.credits.length:Int)
    congr 1
    rw[ae]
    show((g.cps ++ [pr]).length:Int) - 1=_
    rw[aC,lc]
    simp
  |set ci bi am=>
   obtain⟨ic,ib,_,_,_,_⟩:=qM oO
   obtain⟨c,rfl⟩:=cw ic.1
   obtain⟨b,rfl⟩:=cw ib.1
   have hc:c < S.credits.length:=by have:=ic.2; lia
   have hb:b < S.aI.length:=by have:=ib.2; lia
   refine⟨_,rfl,pd,_,_,.str "set",rfl,rfl,cg.of l7,rfl,rfl,false,jr (show("set":Str)≠"bill" by decide +kernel),bT ?_⟩
   refine⟨_,rfl,pd,_,_,.str "set",rfl,rfl,cg.of l7,rfl,rfl,false,jr (show("set":Str)≠"pay" by decide +kernel),bT ?_⟩
   refine⟨_,rfl,pd,_,_,.str "set",rfl,rfl,cg.of l7,rfl,rfl,false,jr (show("set":Str)≠"note" by decide +kernel),bT ?_⟩
   refine⟨_,rfl,pd,_,_,.str "set",rfl,rfl,cg.of l7,rfl,rfl,true,yF _,fG ?_⟩
   refine⟨_,rfl,_,rfl,pd,_,_,.int (c:Int),rfl,rfl,cg.of l7,rfl,_,rfl,pd,_,_,.int (b:Int),rfl,rfl,cg.of l7,rfl,_,rfl,pd,_,_,.int am,rfl,rfl,cg.of l7,rfl,sd,S,g,c,b,am,rfl,B1,hc,hb,by lia,fun H2 F2 B2=>?_⟩
   have hd2:=B1.tk F2 _ _ l7
   refine⟨_,rfl,pd,_,_,.int am,rfl,rfl,cg.of hd2,rfl,?_⟩
   exact TB _ g H2 F2 B2 (fun x hx=> .inl hx) (dm.mpr rfl)
  |fY wh=>
   refine⟨_,rfl,pd,_,_,.str "sweep",rfl,rfl,cg.of l7,rfl,rfl,false,jr (show("sweep":Str)≠"bill" by decide +kernel),bT ?_⟩
   refine⟨_,rfl,pd,_,_,.str "sweep",rfl,rfl,cg.of l7,rfl,rfl,false,jr (show("sweep":Str)≠"pay" by decide +kernel),bT ?_⟩
   refine⟨_,rfl,pd,_,_,.str "sweep",rfl,rfl,cg.of l7,rfl,rfl,false,jr (show("sweep":Str)≠"note" by decide +kernel),bT ?_⟩
   refine⟨_,rfl,pd,_,_,.str "sweep",rfl,rfl,cg.of l7,rfl,rfl,false,jr (show("sweep":Str)≠"set" by decide +kernel),bT ?_⟩
   refine⟨_,rfl,_,rfl,pd,_,_,.str wh,rfl,rfl,cg.of l7,rfl,sd,S,g,wh,rfl,B1,qQ,Mx,FC,fun D ms H2 F2 B2 nD hD hT=>?_⟩
   exact TB _ g H2 F2 B2 (fun x hx=> .inl hx) (jP.mpr ⟨D,ms,rfl,hD,hT.QU⟩)
def br.word:br->Str
 | .dW _ _ _ _=>"bill"
 | .rL _ _ _=>"pay"
 | .note _ _ _=>"note"
 | .set _ _ _=>"set"
 | .fY _=>"sweep"
 | .jf _=>"undo"
 | .ask o _ _=>if o then "owed" else "free"
 | .fR _ _ _=>"ages"
theorem uA {d:br}(h:d.tells=true∨ ∃m,d= .jf m): ∃r,br.vs d= .str (br.word d) :: r:=by
 cases d with
 |fR w d l=>rcases h with h|⟨m,h⟩ <;> cases h
 |_=>exact⟨_,rfl⟩
theorem FE {d:br}(h:d.tells=true):wR (.str (br.word d)) [.str "set",.str "sweep"]=d.isSet:=by
 cases d with
 |dW _ _ _ _=>show wR (.str "bill") _ =false; decide +kernel
 |rL _ _ _=>show wR (.str "pay") _ =false; decide +kernel
 |note _ _ _=>show wR (.str "note") _ =false; decide +kernel
 |set _ _ _=>show wR (.str "set") _ =true; decide +kernel
 |fY _=>show wR (.str "sweep") _ =true; decide +kernel
 |jf _=>cases h
 |ask _ _ _=>cases h
 |fR _ _ _=>cases h
def gN (H:Hp)(ss:List (Int×br))(vs:List V):Prop:=Paired (fun(st:Int×br) v=> ∃p pd,v= .ref p/\H p=some (.tup [.int st.1,.ref pd])/\H pd=some (.tup (br.vs st.2))/\st.2.tells=true) ss vs
theorem gN.mono {H H':Hp}{ss:List (Int×br)}{vs:List V}(h:gN H ss vs)(k:cH H H'):gN H' ss vs:=
 Paired.gP h fun _ _ ⟨p,pd,e,q1,q2,t⟩=>⟨p,pd,e,k _ _ q1,k _ _ q2,t⟩
inductive vS (vs:List V)(H:Hp)(Q:VK)(E':XK):Prop
 |mk (ps:Addr)(ss:List (Int×br))(us:List V)(h1:vs=[.ref ps])(h2:H ps=some (.lst us))(h3:gN H ss us)(h4:ss.length<=59)(h5:(cW ss Bk.new=none-> ∀H',aD H H'->Q .eu H'))(h6:(∀S,cW ss Bk.new=some S-> ∀sd f H',aD H H'->di H' sd S f->(∀b∈f.fp,H b=none)->Q (.ref sd) H')):vS vs H Q E'
theorem nP:aS ["_law_steps","_law_state","_law_number","_law_deed"] ["_law_steps"] (ay (top 61)):={}
theorem xC (T:Txt K mg):eM P w K mg base "_law_worked" 4 ["_law_steps"] vS:=by
 have mm:eM P w K mg base "_law_begun" 1 [] Fw:=rh T
 have mq:eM P w K mg base "_law_enter" 3 ["_law_state","_law_deed"] uz:=rn T
 refine T.xn.fe (k:=3) nP (fun f cU A outer s H vs Q E hr h=>?_)
 ·obtain⟨ps,ss,us,rfl,lA,MA,hl,kn,ky⟩:=h
  have nd:=nP.nd
  have hlen:=aL MA
  refine⟨_,(ah (sv 1 nd (Jf mm (hr.mono (by decide)) rfl))
(ah (dZ bw rfl (cO (pv 0)) (iU rfl (bY (gn 2 nd) (bY (gn 3 nd) gE)))
(au (bN (gj (cD eQ (by rfl) T.dj eo (aa (fc mq hr (aa (pv 1) (aa (pv 3) av))) (aa (gA (v:= .ty "str") (by rfl) T.Fq boot_str rfl) av))))
(au (a0 Dq))
bb)))
(au (a0 (pv 1))))),?_⟩
  refine⟨rfl,fun sd f0 H1 s1 B1 Mf nf=>?_⟩
  refine⟨_,rfl,ps,rfl,⟨_,bA.of (s1 _ _ lA)⟩,?_⟩
  refine fH (K:=K) (a:=ps) (xs:=us) (fun i σ H2=> ∃(S:Bk) (f:fB) (x2 x3:Option V),σ=[some (.ref ps),some (.ref sd),x2,x3]/\aD H H2/\di H2 sd S f/\(∀b∈f.fp,H b=none)/\WF S i/\cW ss Bk.new=cW (ss.drop i) S)
   ⟨Bk.new,f0,none,none,rfl,s1,B1,nf,WF.new,rfl⟩ (fun i σ H2 _ ⟨_,_,_,_,_,s2,_⟩=>bA.of (s2 _ _ lA)) ?_ ?_
  ·rintro i x σ H2 hx ⟨S,f2,x2,x3,rfl,s2,B2,Vy,wf,hw⟩
   have hi:i < ss.length:=by have:=(ak.mp hx).1; lia
   obtain⟨v,hv,p,pd,rfl,hp,Iq,ht⟩:=bI MA (af hi)
   rw[hx] at hv
   obtain rfl:x= .ref p:=aF hv
   have hdr:=NY hi
   rw[hdr] at hw
   generalize ss[i]=st at hp Iq ht hw
   obtain⟨n,d⟩:=st
   have tU:=s2 _ _ hp
   have Pr:=s2 _ _ Iq
   refine⟨p,_,rfl,cg.of tU,rfl,_,_,rfl,_,_,rfl,rfl,?_⟩
   refine⟨_,rfl,_,rfl,sd,pd,S,f2,d,rfl,B2,Pr,ht,by have:=wf.lc; lia,by have:=wf.lb; lia,by have:=wf.lm; rw[eI]; lia,fun hb H3 s3=>?_,fun hb v f3 H3 F3 B3 fi r=>?_⟩
   ·refine⟨_,_,_,true,rfl,.str _,yn (.str (S.bar d)),_,rfl,fG ?_⟩
    refine kn ?_ _ (s2.trans s3)
    rw[hw]
    show(if S.bar d="" then _ else none)=none
    rw[aU hb]
   ·have hS:Ve (S.LV d).dt=false:=by cases d <;> first|rfl|cases ht
    refine⟨_,_,_,false,rfl,r.ty,(yn _).trans (cL some hS),_,rfl,bT ?_⟩
    refine⟨S.enter d,f3,_,_,rfl,F3.same s2 Vy,B3,fun b E3=>?_,wf.enter (by lia) hb,?_⟩
    ·rcases fi b E3 with z|z
     ·exact Vy b z
     ·exact s2.free z
    ·rw[hw]
     show(if S.bar d="" then _ else none)=_
     rw[a8 hb]
  ·rintro σ H2 ⟨S,f2,x2,x3,rfl,s2,B2,Vy,wf,hw⟩
   rw[← hlen,List.drop_length] at hw
   exact⟨_,rfl,ky S hw sd f2 H2 s2 B2 Vy⟩
inductive FF (vs:List V)(H:Hp)(Q:VK)(E':XK):Prop
 |mk (pd:Addr)(wd:Str)(r:List V)(h1:vs=[.ref pd])(h2:H pd=some (.tup (.str wd :: r)))(h3: ∀H',aD H H'->Q (.bl (wR (.str wd) [.str "bill",.str "pay",.str "note",.str "set",.str "sweep"])) H'):FF vs H Q E'
theorem xD:aS ["_law_deed"] ["_law_deed"] (ay (top 62)):={}
theorem Am (T:Txt K mg):eM P w K mg base "_law_tells" 1 ["_law_deed"] FF:=by
 refine T.zM.fe (k:=0) xD (fun f cU A outer s H vs Q E hr h=>?_)
 ·obtain⟨pd,wd,r,rfl,hd,k⟩:=h
  refine⟨_,(au (a0 (fm om (xt (pv 0) ai) (bP (aa aQ (aa aQ (aa aQ (aa aQ (aa aQ av)))))) (by rfl)))),?_⟩
  refine⟨_,rfl,pd,_,_,.str wd,rfl,rfl,cg.of hd,cy (j:=0) rfl,(by show 5<=sizeLine; decide),fun p9 n9=>⟨p9,_,rfl,.inl (bA.of ag),rfl,rfl,?_⟩⟩
  exact k _ (aD.new n9)
def Nz (Q:VK)(H:Hp)(ps:Addr)(f:fB)(r:BJ×g8):Prop:=
 ∀(t:Addr) (v:V) (vT Dg:Addr) (f':fB) (An:List V) (H':Hp),H' t=some (.tup [v,.ref vT,.ref Dg])->Rp H' r.1.dt v->H' vT=some (.lst An)->gN H' r.2.steps An->di H' Dg r.2.bk f'->Frame f.fp H H'->Pq H f f'->vT∉f'.fp->(∀a o,a∉f.fp->H a=some o->vT=a->vT=ps)->Q (.ref t) H'
inductive J0 (vs:List V)(H:Hp)(Q:VK)(E':XK):Prop
 |mk (ps sd pd:Addr)(n:Nat)(T:g8)(us:List V)(f:fB)(d:br)(h1:vs=[.ref ps,.ref sd,.int n,.ref pd])(h2:H ps=some (.lst us))(h3:gN H T.steps us)(h4:di H sd T.bk f)(h5:ps∉f.fp)(h6:H pd=some (.tup (br.vs d)))(h7:(d.tells=true∨ ∃m,d= .jf m))(h8:Good T n)(h9:n<=59)(K3:Nz Q H ps f (cY T n d)):J0 vs H Q E'
theorem vU {T:g8}{n:Int}{d:br}(h:d.tells=true):cY T n d=if T.bk.bar d="" then(T.bk.LV d,(⟨T.steps ++ [(n,d)],T.bk.enter d⟩:g8)) else(.txt (T.bk.bar d),T):=by
 cases d <;> first|rfl|cases h
theorem rq:aS ["_law_steps","_law_state","_law_number","_law_deed","_law_rest","_law_step","_law_later","_law_answer"] ["_law_steps","_law_state","_law_number","_law_deed"] (ay (top 63)):={}
theorem fv {α:Type}(p:α->Bool){l:List α}{i:Nat}{x:α}(h:l[i]? =some x):(l.take (i + 1)).filter p=(l.take i).filter p ++ (if p x=true then[x] else[]):=by
 rw[Gb,h,kr]
 congr 1
 show[x].filter p=_
 by_cases c:p x=true
 ·rw[a8 c,cv c]; rfl
 ·rw[aU c,gT c]; rfl
theorem Cz (T:Txt K mg):eM P w K mg base "_law_done" 5 ["_law_steps","_law_state","_law_number","_law_deed"] J0:=by
 have xE:eM P w K mg base "_law_worked" 4 ["_law_steps"] vS:=xC T
 have mq:eM P w K mg base "_law_enter" 3 ["_law_state","_law_deed"] uz:=rn T
 refine T.BS.fe (k:=4) rq (fun f cU A outer s H vs Q E hr h=>?_)
 ·obtain⟨ps,sd,pd,n,T0,us,g,d,rfl,lA,MA,hB,FG,hd,hk,good,hn,k⟩:=h
  have nd:=rq.nd
  have hlen:=aL MA
  have hT:=good.len
  obtain⟨rr,hvs⟩:=uA hk
  have QY:H pd=some (.tup (.str (br.word d) :: rr)):=hvs▸hd
  refine⟨_,(ah (bN (aV cJ (xt (pv 3) ai) aQ (aY _))
(ah (sv 4 nd (bP av))
(ah (dZ bw rfl (cO (pv 0)) (gn 5 nd)
(au (bN (PW.pt (pw_or (aV oU (xt (pv 5) ai) (xt (pv 3) ai) (aY _)) (pw_or1 (aV zf (xt (xt (pv 5) ai) ai) (bP (aa aQ (aa aQ av))) (by rfl)))))
(au (bK (oW (pv 4) (pv 5))))
bb)))
(ah (bN (aV cJ (mh T.dD (pv 4)) (mh T.dD (pv 0)) (aY _))
(au (a0 (cG (aa aQ (aa (pv 0) (aa (pv 1) av))))))
bb)
(ah (sv 6 nd (fc xE hr (aa (pv 4) av)))
(ah (bN (yZ (IB (pv 6)))
(au (a0 (cG (aa aQ (aa (pv 0) (aa (pv 1) av))))))
bb)
(au (a0 (cG (aa aQ (aa (pv 4) (aa (pv 6) av)))))))))))
bb)
(ah (sv 7 nd (fc mq hr (aa (pv 1) (aa (pv 3) av))))
(ah (bN (gj (cD eQ (by rfl) T.dj eo (aa (pv 7) (aa (gA (v:= .ty "str") (by rfl) T.Fq boot_str rfl) av))))
(au (a0 (cG (aa (pv 7) (aa (pv 0) (aa (pv 1) av))))))
bb)
(au (a0 (cG (aa (pv 7) (aa (aO mW (pv 0) (bP (aa (cG (aa (pv 2) (aa (pv 3) av))) av))) (aa (pv 1) av))))))))),?_⟩
  refine⟨_,rfl,pd,_,_,.str (br.word d),rfl,rfl,cg.of QY,cy (j:=0) rfl,rfl,?_⟩
  clear QY hvs rr
  by_cases ht:d.tells=true
  ·
   have hw:br.word d≠"undo":=by
    cases d with
    |jf m=>cases ht
    |ask _ _ _=>cases ht
    |fR _ _ _=>cases ht
    |dW _ _ _ _=>show("bill":Str)≠"undo"; decide +kernel
    |rL _ _ _=>show("pay":Str)≠"undo"; decide +kernel
    |note _ _ _=>show("note":Str)≠"undo"; decide +kernel
    |set _ _ _=>show("set":Str)≠"undo"; decide +kernel
    |fY _=>show("sweep":Str)≠"undo"; decide +kernel
   refine⟨false,jr hw,bT ?_⟩
   have wf:=good.wf (by lia)
   rw[vU ht] at k
   refine⟨_,rfl,_,rfl,sd,pd,T0.bk,g,d,rfl,hB,hd,ht,by have:=wf.lc; lia,by have:=wf.lb; lia,by have:=wf.lm; rw[eI]; lia,fun hb H3 s3=>?_,fun hb v f3 H3 F3 B3 fi r=>?_⟩
   ·rw[aU hb] at k
    refine⟨_,rfl,_,_,_,true,rfl,.str _,yn (.str (T0.bk.bar d)),_,rfl,fG ?_⟩
    refine⟨_,rfl,_,rfl,_,rfl,(by show 3<=sizeLine; decide),fun t nt=>?_⟩
    have s4:=s3.trans (aD.new (o:= .tup [V.str (T0.bk.bar d),.ref ps,.ref sd]) nt)
    exact k t _ ps sd g us _ ag (fL.mpr rfl) (s4 _ _ lA) (MA.mono s4.tk) (hB.same s4) s4.frame (fun x hx=> .inl hx) FG (fun _ _ _ _ _=>rfl)
   ·rw[a8 hb] at k
    have hS:Ve (T0.bk.LV d).dt=false:=by cases d <;> first|rfl|cases ht
    refine⟨_,rfl,_,_,_,false,rfl,r.ty,(yn _).trans (cL some hS),_,rfl,bT ?_⟩
    have tk3:=hB.tk F3
    have Hy:=F3 _ _ FG lA
    have XX:=MA.mono tk3
    have NA:=tk3 _ _ hd
    refine⟨_,rfl,_,rfl,_,rfl,_,rfl,(by show 2<=sizeLine; decide),fun p1 n1=>⟨(by show 1<=sizeLine; decide),fun p2 n2=>?_⟩⟩
    have t1:=aD.new (o:= .tup [V.int (n:Int),.ref pd]) n1
    have t2:=aD.new (o:= .lst [V.ref p1]) n2
    have g1:upd (upd H3 p1 (.tup [V.int (n:Int),.ref pd])) p2 (.lst [V.ref p1]) p1=some (.tup [V.int (n:Int),.ref pd]):=t2 _ _ ag
    have g2:upd (upd H3 p1 (.tup [V.int (n:Int),.ref pd])) p2 (.lst [V.ref p1]) p2=some (.lst [V.ref p1]):=ag
    have tI:=t1.trans t2
    refine⟨ps,p2,_,_,rfl,rfl,tI _ _ Hy,g2,?_,fun p4 n4=>?_⟩
    ·refine dz (a9 ?_)
     show us.length + 1<=1000
     lia
    generalize upd (upd H3 p1 (.tup [V.int (n:Int),.ref pd])) p2 (.lst [V.ref p1])=H4 at tI g1 g2 n4
    have t4:=aD.new (o:= .lst (us ++ [V.ref p1])) n4
    refine⟨_,rfl,(by show 3<=sizeLine; decide),fun t nt=>?_⟩
    have t5:=aD.new (o:= .tup [v,V.ref p4,.ref sd]) nt
    have TC:=(tI.trans t4).trans t5
    have B5:=B3.same TC
    refine k t v p4 sd f3 (us ++ [.ref p1]) _ ag (Rp.mono TC _ r) (t5 _ _ ag) ?_ B5 (F3.cX TC) fi (B3.off ?_) (fun a o ha e q=>absurd q.symm (aJ (tI _ _ (F3 _ _ ha e)) n4))
    ·exact cz (XX.mono TC.tk) ⟨p1,pd,rfl,(t4.trans t5) _ _ g1,TC _ _ NA,ht⟩
    ·exact tI.free n4
  ·
   obtain⟨m,rfl⟩: ∃m,d= .jf m:=hk.resolve_left ht
   refine⟨true,yF _,fG ?_⟩
   refine⟨bh _,fun pr nr=>?_⟩
   have s1:aD H (upd H pr (.lst [])):=aD.new nr
   refine⟨_,rfl,ps,rfl,⟨_,bA.of (s1 _ _ lA)⟩,?_⟩
   refine fH (K:=K) (a:=ps) (xs:=us) (fun i σ H2=> ∃(rs:List V) (x5:Option V),σ=[some (.ref ps),some (.ref sd),some (.int (n:Int)),some (.ref pd),some (.ref pr),x5,none,none]/\aD H H2/\H2 pr=some (.lst rs)/\gN H2 ((T0.steps.take i).filter (cA m)) rs)
    ⟨[],none,rfl,s1,ag,.nil⟩ (fun i σ H2 _ ⟨_,_,_,s2,_⟩=>bA.of (s2 _ _ lA)) ?_ ?_
   ·rintro i x σ H2 hx ⟨rs,x5,rfl,s2,La,Lb⟩
    have hi:i < T0.steps.length:=by have:=(ak.mp hx).1; lia
    have oP:=af hi
    obtain⟨v,hv,p,pe,rfl,hp,hpe,Vz⟩:=bI MA oP
    rw[hx] at hv
    obtain rfl:x= .ref p:=aF hv
    have k6:=fv (cA m) oP
    generalize T0.steps[i]=st at hp hpe Vz k6
    obtain⟨n0,e⟩:=st
    have tU:=s2 _ _ hp
    have Pt:=s2 _ _ hpe
    have hd2:=s2 _ _ hd
    have BC:rs.length<=100:=by
     have:=aL Lb
     have:=aX (cA m) (T0.steps.take i)
     rw[bf] at this
     lia
    have yes:cA m (n0,e)=true-> ∀H3,aD H2 H3->(WG (V.ref pr) [V.ref p] H3 fun l xs y=> ∃(rs:List V) (x5:Option V),[some (V.ref ps),some (.ref sd),some (.int (n:Int)),some (.ref pd),some (.ref pr),some (.ref p),none,none]=[some (.ref ps),some (.ref sd),some (.int (n:Int)),some (.ref pd),some (.ref pr),x5,none,none]/\aD H (upd H3 l (.lst (xs ++ [y])))/\upd H3 l (.lst (xs ++ [y])) pr=some (.lst rs)/\gN (upd H3 l (.lst (xs ++ [y]))) ((T0.steps.take (i + 1)).filter (cA m)) rs):=fun z H3 s3=>by
     refine⟨pr,rs,_,rfl,rfl,s3 _ _ La,a9 (by lia),rs ++ [.ref p],_,rfl,(s2.trans s3).cI nr,ag,?_⟩
     rw[k6,a8 z]
     have tk:=s3.tk.trans (dQ (o:= .lst (rs ++ [.ref p])) (s3 _ _ La))
     exact cz (Lb.mono tk) ⟨p,pe,rfl,tk _ _ tU,tk _ _ Pt,Vz⟩
    refine⟨_,rfl,p,_,_,.int n0,rfl,rfl,cg.of tU,rfl,_,rfl,pd,_,_,.int m,rfl,rfl,cg.of hd2,rfl,rfl,_,rfl,cm (fun z=>fG ?_) (fun z=>?_)⟩
    ·have z':n0≠m:=fun q=>by rw[q] at z; simp at z
     refine⟨_,rfl,.inl ⟨rfl,_,bA.of La⟩,_,rfl,yes ?_ H2 (aD.refl _)⟩
     show(!(decide (n0=m) && e.isSet))=true
     rw[bp z']; rfl
    ·have z':n0=m:=by
      by_cases q:n0=m
      ·exact q
      ·exact absurd (by rw[bp (fun w=>q (by injection w))]; rfl) z
     obtain⟨re,hev⟩:=uA (d:=e) (.inl Vz)
     rw[hev] at Pt
     refine⟨_,rfl,p,_,_,.ref pe,rfl,rfl,cg.of tU,rfl,pe,_,_,.str (br.word e),rfl,rfl,cg.of Pt,cy (j:=0) rfl,(by show 2<=sizeLine; decide),fun p9 n9=>⟨p9,_,rfl,.inl (bA.of ag),rfl,rfl,!e.isSet,cL V.bl (by rw[a8 rfl,FE Vz]),cm (fun q=>?_) (fun q=>?_)⟩⟩
     ·have t9:=aD.new (o:= .lst [V.str "set",.str "sweep"]) n9
      refine⟨_,rfl,.inl ⟨rfl,_,bA.of (t9 _ _ La)⟩,_,rfl,yes ?_ _ t9⟩
      show(!(decide (n0=m) && e.isSet))=true
      rw[aG z',Bool.true_and]; exact q
     ·have t9:=aD.new (o:= .lst [V.str "set",.str "sweep"]) n9
      refine⟨rs,_,rfl,s2.trans t9,t9 _ _ La,?_⟩
      have no: ¬ cA m (n0,e)=true:=by
       show ¬ (!(decide (n0=m) && e.isSet))=true
       rw[aG z',Bool.true_and]; exact q
      rw[k6,aU no,bR]
      exact Lb.mono t9.tk
   ·rintro σ H2 ⟨rs,x5,rfl,s2,La,Lb⟩
    rw[← hlen,a7] at Lb
    have BC:=aL Lb
    have VA:=aX (cA m) T0.steps
    have o6:cY T0 n (.jf m)=if(T0.steps.filter (cA m)).length=T0.steps.length then(.txt "no setting",T0) else
      match cW (T0.steps.filter (cA m)) Bk.new with
      |none=>(.txt "needed",T0)
      |some S=>(.txt "undone",⟨T0.steps.filter (cA m),S⟩):=rfl
    have Lc:=hB.same s2
    refine⟨_,rfl,pr,_,rfl,.inl (bA.of La),_,rfl,ps,_,rfl,.inl (bA.of (s2 _ _ lA)),rfl,_,rfl,cm (fun z=>?_) (fun z=>?_)⟩
    ·have z':(T0.steps.filter (cA m)).length=T0.steps.length:=by
      have:=aN z
      injection this with this
      lia
     rw[o6,a8 z'] at k
     refine⟨_,rfl,_,rfl,(by show 3<=sizeLine; decide),fun t nt=>?_⟩
     have s4:=s2.trans (aD.new (o:= .tup [V.str "no setting",.ref ps,.ref sd]) nt)
     exact k t _ ps sd g us _ ag (fL.mpr rfl) (s4 _ _ lA) (MA.mono s4.tk) (hB.same s4) s4.frame (fun x hx=> .inl hx) FG (fun _ _ _ _ _=>rfl)
    have z': ¬ (T0.steps.filter (cA m)).length=T0.steps.length:=fun q=>z (aG (by congr 1; lia))
    rw[o6,aU z'] at k
    refine⟨_,rfl,pr,T0.steps.filter (cA m),rs,rfl,La,Lb,by lia,fun hw H3 s3=>?_,fun S hw sd3 f3 H3 s3 B3 nf=>?_⟩
    ·rw[hw] at k
     refine⟨_,rfl,true,rfl,fG ⟨_,rfl,_,rfl,(by show 3<=sizeLine; decide),fun t nt=>?_⟩⟩
     have s4:=(s2.trans s3).trans (aD.new (o:= .tup [V.str "needed",.ref ps,.ref sd]) nt)
     exact k t _ ps sd g us _ ag (fL.mpr rfl) (s4 _ _ lA) (MA.mono s4.tk) (hB.same s4) s4.frame (fun x hx=> .inl hx) FG (fun _ _ _ _ _=>rfl)
    ·rw[hw] at k
     refine⟨_,rfl,false,rfl,bT ⟨_,rfl,_,rfl,(by show 3<=sizeLine; decide),fun t nt=>?_⟩⟩
     have t4:=aD.new (o:= .tup [V.str "undone",.ref pr,.ref sd3]) nt
     have s4:=(s2.trans s3).trans t4
     refine k t _ pr sd3 f3 rs _ ag (fL.mpr rfl) ((s3.trans t4) _ _ La) (Lb.mono (s3.trans t4).tk) (B3.same t4) s4.frame (fun x hx=> .inr (s2.free (nf x hx))) (fun q=>?_) (fun a o ha e q=>absurd q.symm (aJ e nr))
     have:=nf pr q
     rw[La] at this
     cases this
end
end eG
namespace L2
open PySem PySem.Spec PyProof.Rows
theorem Ao {X:Cx}{scope:Scope}{x y:Str}{c d:Addr}{j k:Nat}(GI:closureFor scope X.env=pure [(x,c),(y,d)]:=by rfl)(mB: ∀z∈scope.names,z.2≠ .cell:=by decide +kernel)(mT:scope.kind= .function:=by rfl)(u5: ∀x∈scope.names,x.2= .local->scope.names.lookup x.1=some .local:=by decide +kernel)
  (hx:X.env.cells.lookup x=some c:=by rfl) (hy:X.env.cells.lookup y=some d:=by rfl) (zo:List (Str×NameKind)) (Sh:(relabel scope X.env).names=zo:=by rfl) (BC: ∀z∈zo,(z.2= .cell∨z.2= .free)->z.1=x∨z.1=y:=by decide +kernel)
  (hN:X.N[j]? =some x:=by rfl) (hN2:X.N[k]? =some y:=by rfl) (hk:X.env.kindOf x=some .cell∨X.env.kindOf x=some .free:=by exact Or.inl rfl) (K1:X.env.kindOf y=some .cell∨X.env.kindOf y=some .free:=by exact Or.inl rfl)
  (Ng:(relabel scope X.env).names.lookup x=some .cell∨(relabel scope X.env).names.lookup x=some .free:=by exact Or.inl rfl) (XY:(relabel scope X.env).names.lookup y=some .cell∨(relabel scope X.env).names.lookup y=some .free:=by exact Or.inl rfl):sj X scope [(x,c),(y,d)] [x,y] [j,k]:=by
 refine⟨GI,mB,mT,u5,fun z c' h=>?_,fun z h=>?_,.cons ⟨hN,hk,Ng⟩ (.cons ⟨hN2,K1,XY⟩ .nil)⟩
 ·rcases aw.mp (b9 h) with e|e
  ·cases e; exact hx
  ·rcases aw.mp e with e|e
   ·cases e; exact hy
   ·cases e
 ·have e:z=x∨z=y:=by
   rcases h with h|h
   ·rw[Sh] at h
    exact BC _ (b9 h) (.inl rfl)
   ·rw[Sh] at h
    exact BC _ (b9 h) (.inr rfl)
  by_cases q:z=x
  ·exact⟨c,by rw[q]; simp[List.lookup]⟩
  ·have q2:z=y:=e.resolve_left q
   have q3:(z == x)=false:=by simpa using q
   exact⟨d,by rw[List.lookup,q3,q2]; simp[List.lookup]⟩
end L2
namespace eG
open PySem L2 PyProof.Rows K4
seal L2.oS L2.PS L2.PE L2.PT L2.PW L2.PA L2.PC L2.PG L2.KY L2.PI L2.LH L2.K0 L2.PO L2.oF L2.Nc L2.iN L2.IU L2.Oh
section
variable {P:Program}{w:World}{K:Frag}{mg:Str->Option Value}{base:Heap}
inductive pZ (A:dY)(vs:List V)(H:Hp)(Q:VK)(E':XK):Prop
 |mk (pw p:Addr)(S:Bk)(f:eN)(t:Nat×Nat×Int)(day:Int)(h1:vs=[.ref pw,.ref p,.int day])(h2:dE A H pw S f)(h3:H p=some (.tup [.int t.1,.int t.2.1,.int t.2.2]))(h4:t.1 < S.credits.length)(h5:t.2.1 < S.aI.length)(h6:Q (.bl (decide (S.fS t<=day))) H):pZ A vs H Q E'
theorem Ap:aS ["work","setting","day"] ["work","setting","day"] (ay (top 40)):={}
theorem CA (T:Txt K mg){A:dY}(G:jB K mg A):eM P w K mg base "counts_at" 2 ["work","setting","day"] (pZ A):=by
 have xF:eM P w K mg base "counts_from" 1 ["credit","bill"] (Ea A):=xr T G
 refine T.BO.fe (k:=1) Ap (fun f cU A' outer s H vs Q E hr h=>?_)
 ·obtain⟨pw,p,S,g,t,day,rfl,hW,hp,hc,hb,k⟩:=h
  obtain⟨dw,hw⟩:=hW.obj
  obtain⟨pc,c1,c2⟩:=hW.rc.get hc
  obtain⟨pb,b1,b2⟩:=hW.rb.get hb
  refine⟨_,(au (a0 (fm sS (fc xF hr (aa (xl (bX (pv 0) rfl) (xt (pv 1) ai)) (aa (xl (bX (pv 0) rfl) (xt (pv 1) ai)) av))) (pv 2) (aY _)))),?_⟩
  refine⟨_,rfl,pw,_,dw,_,_,rfl,hw,G.bH,G.cF,g9 g,_,rfl,p,_,_,.int t.1,rfl,rfl,cg.of hp,rfl,g.pc,_,_,.ref pc,rfl,rfl,bA.of hW.hc,cy (by rw[aB,c1]; rfl),?_⟩
  refine⟨_,rfl,pw,_,dw,_,_,rfl,hw,G.bH,G.dX,ji g,_,rfl,p,_,_,.int t.2.1,rfl,rfl,cg.of hp,rfl,g.pb,_,_,.ref pb,rfl,rfl,bA.of hW.hb,cy (by rw[aB,b1]; rfl),?_⟩
  exact⟨pc,pb,t.1,t.2.1,S.cr t.1,S.bl t.2.1,rfl,c2,b2,_,rfl,_,_,rfl,rfl,k⟩
inductive qa (A:dY)(vs:List V)(H:Hp)(Q:VK)(E':XK):Prop
 |mk (pw:Addr)(S:Bk)(f:eN)(n:Nat)(day:Int)(h1:vs=[.ref pw,.int day])(h2:dE A H pw S f)(h3:WF S n)(h4:S.made.length<=1000000)(h5: ∀D ms H',aD H H'->H D=none->H' D=some (.lst ms)->ie H' (S.made.filter fun t=>decide (S.fS t<=day)) ms->Q (.ref D) H'):qa A vs H Q E'
theorem vV:aS ["work","day"] ["work","day"] (ay (top 39)):={}
theorem xG (T:Txt K mg){A:dY}(G:jB K mg A):eM P w K mg base "counting_at" 3 ["work","day"] (qa A):=by
 have CB:eM P w K mg base "counts_at" 2 ["work","setting","day"] (pZ A):=CA T G
 refine T.xg.fe (k:=2) vV (fun f cU A' outer s H vs Q E hr h=>?_)
 ·obtain⟨pw,S,g,n,day,rfl,hW,wf,hz,k⟩:=h
  obtain⟨dw,hw⟩:=hW.obj
  obtain⟨ms,m1,m2⟩:=hW.hm
  have hlen:=aL m2
  refine⟨_,(au (a0 (gq (tn:=["setting"]) (cn:=["work","day"]) (cj:=[0,1]) rfl (Ao (zo:=[(".0",.local),("setting",.local),("counts_at",.globalImplicit),("day",.cell),("work",.cell)])) (cO (bX (pv 0) rfl)) (fun _ _ _ _=>(dU (i:=0) (show(["setting","work","day"]:List Str).Nodup by decide +kernel) rfl (Or.inl rfl))) (fun _ _ _ _=>(mZ (gj (fc CB hr (aa (pv 1) (aa (pv 0) (aa (pv 2) av))))))) (fun _ _ _ _=>(pv 0))))),?_⟩
  refine⟨_,rfl,pw,_,dw,_,_,rfl,hw,G.bH,G.mj,Fu g,g.pm,rfl,⟨_,bA.of m1⟩,?_⟩
  refine dO (K:=K) (a:=g.pm) (xs:=ms) (fun D i σ H6=>H D=none/\ ∃v rs,σ=[v,some (.ref pw),some (.int day)]/\aD H H6/\H6 D=some (.lst rs)/\ie H6 ((S.made.take i).filter fun t=>decide (S.fS t<=day)) rs) (fun D hD=>⟨hD,none,[],rfl,aD.new hD,ag,.nil⟩) (fun D i σ H6 _ ⟨_,_,_,_,t3,_⟩=>bA.of (t3 _ _ m1)) ?_ ?_
  ·rintro D i x σ H6 hx ⟨hD,v,rs,rfl,t3,gi,hT⟩
   have hi:i < S.made.length:=by have:=(ak.mp hx).1; lia
   have oP:=af hi
   obtain⟨v',hv,p,rfl,hp⟩:=bI m2 oP
   rw[hx] at hv
   obtain rfl:x= .ref p:=aF hv
   have hm:=wf.m _ (bG hi)
   have k6:=fv (fun t=>decide (S.fS t<=day)) oP
   generalize S.made[i]=t at hp hm k6
   have Lb:rs.length<=1000000:=by
    have:=aL hT
    have:=aX (fun t=>decide (S.fS t<=day)) (S.made.take i)
    rw[bf] at this
    lia
   refine⟨_,rfl,_,rfl,_,rfl,pw,p,S,g,t,day,rfl,hW.same t3,t3 _ _ hp,hm.1,hm.2,_,rfl,cm (fun z=>?_) (fun z=>?_)⟩
   ·rw[a8 z] at k6
    refine⟨_,rfl,_,gi,i9 Lb,hD,_,rs ++ [.ref p],rfl,t3.cI hD,ag,?_⟩
    rw[k6]
    have tk:=dQ (o:= .lst (rs ++ [.ref p])) gi
    exact cz (hT.mono tk) ⟨p,rfl,tk _ _ (t3 _ _ hp)⟩
   ·rw[aU z,bR] at k6
    refine⟨hD,_,rs,rfl,t3,gi,?_⟩
    rw[k6]
    exact hT
  ·rintro D σ H6 hD ⟨_,v,rs,rfl,t3,gi,hT⟩
   rw[← hlen,a7] at hT
   exact k D rs H6 t3 hD gi hT
def iF (H:Hp)(l:List (Nat×Int))(vs:List V):Prop:=Paired (fun(t:Nat×Int) v=> ∃p,v= .ref p/\H p=some (.tup [.int t.1,.int t.2])) l vs
theorem iF.mono {H H':Hp}{l:List (Nat×Int)}{vs:List V}(h:iF H l vs)(k:cH H H'):iF H' l vs:=Paired.gP h fun _ _ ⟨p,e,q⟩=>⟨p,e,k _ _ q⟩
theorem iF.QU {H:Hp}: ∀{l:List (Nat×Int)} {vs:List V},iF H l vs->hV H (l.map fun t=> .tup [.int t.1,.int t.2]) vs
 |_,_,.nil=>cQ.mpr rfl
 |_,_,.cons ⟨p,e,q⟩ t=>by
  subst e
  exact bC.mpr ⟨_,_,rfl,eF q (bC.mpr ⟨_,_,rfl,dm.mpr rfl,bC.mpr ⟨_,_,rfl,dm.mpr rfl,cQ.mpr rfl⟩⟩),iF.QU t⟩
section
variable (S:Bk)(aR:Bool)(aH:Str)(day:Int)
def pD (k:Nat):Bool:=decide (((S.rows aR).getD k default).aH=aH) && (decide (((S.rows aR).getD k default).a<=day) && decide (0 < S.rest aR k day))
def kD (i:Nat):List (Int×Nat):=((List.range i).filter (pD S aR aH day)).map fun k=>(keyOf aR ((S.rows aR).getD k default),k)
def gD (x:Int×Nat):List Int:=[x.1,(x.2:Int),S.rest aR x.2 day]
end
section
variable {S:Bk}{aR:Bool}{aH:Str}{day:Int}{i:Nat}
theorem FH:kD S aR aH day (i + 1)=kD S aR aH day i ++ (if pD S aR aH day i=true then[(keyOf aR ((S.rows aR).getD i default),i)] else[]):=by
 unfold kD
 rw[oC,kr,aK]
 congr 1
 by_cases c:pD S aR aH day i=true
 ·rw[a8 c,cv c]; rfl
 ·rw[aU c,gT c]; rfl
theorem TF: ∀x∈kD S aR aH day i,x.2 < i:=by
 intro x hx
 obtain⟨k,hk,rfl⟩:=bF.mp hx
 exact dk.mp (eY.mp hk).1
theorem TH:((kD S aR aH day i).map (·.2)).Nodup:=by
 unfold kD
 rw[eD]
 have e:((fun x:Int×Nat=>x.2) ∘ fun k=>(keyOf aR ((S.rows aR).getD k default),k))=id:=rfl
 rw[e,Ba]
 exact mH.filter _
theorem Ef:(kD S aR aH day i).length<=i:=by
 unfold kD
 rw[ae]
 exact aZ (aX _ _) (by rw[dr]; exact aE _)
theorem CC:S.fu aR aH day=(ez (kD S aR aH day (S.rows aR).length)).map fun x=>(x.2,S.rest aR x.2 day):=by
 have e:kD S aR aH day (S.rows aR).length=(gu (S.rows aR) aH (keyOf aR)).filter fun x=>decide (((S.rows aR).getD x.2 default).a<=day) && decide (0 < S.rest aR x.2 day):=by
  unfold kD gu
  rw[Lj,qo]
  congr 1
  apply rR
  intro k _
  show pD S aR aH day k=_
  unfold pD
  rw[Bool.and_comm]
  rfl
 rw[e,l8]
 unfold Bk.fu inOrder
 rw[← sZ (fun x:Int×Nat=>x.2) (fun k=>decide (((S.rows aR).getD k default).a<=day) && decide (0 < S.rest aR k day)),eD]
 rfl
end
inductive uB (vs:List V)(H:Hp)(Q:VK)(E':XK):Prop
 |mk (sd:Addr)(S:Bk)(f:fB)(n:Nat)(aR:Bool)(aH:Str)(day:Int)(h1:vs=[.ref sd,.str aH,.int day,.int (if aR=true then 1 else 0)])(h2:di H sd S f)(h3:WF S n)(h4:n<=60)(h5: ∀D ms H',aD H H'->H D=none->H' D=some (.lst ms)->iF H' (S.fu aR aH day) ms->Q (.ref D) H'):uB vs H Q E'
theorem Pu (aR:Bool)(r:Rw):se r.vs (2 + (if aR=true then(1:Int) else 0))=some (.int (tj aR r)):=by cases aR <;> rfl
theorem Pw (aR:Bool)(r:Rw):se r.vs (1 + (if aR=true then(1:Int) else 0))=some (.int (keyOf aR r)):=by cases aR <;> rfl
theorem FI (aR:Bool)(t:Nat×Nat×Int):se [V.int t.1,.int t.2.1,.int t.2.2] (if aR=true then(1:Int) else 0)=some (.int (spotOf aR t:Int)):=by cases aR <;> rfl
theorem nQ:aS ["_law_state","_law_who","_law_day","_law_spot","_law_rows","_law_keys","_law_k","_law_amount","_law_setting","_law_late"] ["_law_state","_law_who","_law_day","_law_spot"] (ay (top 64)):={}
theorem o7 (T:Txt K mg):eM P w K mg base "_law_at_day" 1 ["_law_state","_law_who","_law_day","_law_spot"] uB:=by
 refine T.xp.fe (k:=0) nQ (fun f cU A outer s H vs Q E hr h=>?_)
 ·obtain⟨sd,S,g,n,aR,aH,day,rfl,hB,wf,hn,k⟩:=h
  have hu:=jM hr
  have nd:=nQ.nd
  refine⟨_,(iw (sv 4 nd (cE hu (pv 0) (xl (bP (aa aQ (aa aQ av))) (pv 3)) (fun _ _=>rfl)))
(ah (sv 5 nd (bP av))
(ah (dZ bw rfl (iV rfl T.jA (aa (mh T.dD (pv 4)) av)) (gn 6 nd)
(ah (sv 7 nd (xl (xl (pv 4) (pv 6)) (aO cB ai (pv 3))))
(ah (dZ bw rfl (cO (cE hu (pv 0) aQ (fun _ _=>rfl))) (gn 8 nd)
(ah (sv 9 nd (cD (ya rfl) (by rfl) T.Nr boot_max (aa (xl (xl (cE hu (pv 0) aQ (fun _ _=>rfl)) (xt (pv 8) ai)) ai) (aa (xl (xl (cE hu (pv 0) aQ (fun _ _=>rfl)) (xt (pv 8) ai)) ai) av))))
(au (bN (PW.pt (pw_and (aV cJ (xt (pv 8) (pv 3)) (pv 6) (aY _)) (pw_and1 (aV sS (pv 9) (pv 2) (aY _)))))
(au (sv 7 nd (aO eP (pv 7) (xt (pv 8) ai))))
bb))))
(au (bN (PW.pt (pw_and (aV cJ (xl (xl (pv 4) (pv 6)) ai) (pv 1) (aY _)) (pw_and (aV sS (xl (xl (pv 4) (pv 6)) ai) (pv 2) (aY _)) (pw_and1 (aV iO (pv 7) ai (aY _))))))
(au (bK (oW (pv 5) (cG (aa (xl (xl (pv 4) (pv 6)) (aO cB ai (pv 3))) (aa (pv 6) (aa (pv 7) av)))))))
bb)))))
(au (a0 (gq (tn:=["_law_key"]) (cn:=[]) (cj:=[]) rfl zl (cO (cD qL (by rfl) T.qR boot_sorted (aa (pv 5) av))) (fun _ _ _ _=>(dU (i:=0) (show(["_law_key"]:List Str).Nodup by decide +kernel) rfl (Or.inl rfl))) (fun _ _ _ _=>kQ) (fun _ _ _ _=>(cG (aa (jd (l5 (K:=K) rfl) (pv 0) ai (fun _ _=>rfl)) (aa (jd (l5 (K:=K) rfl) (pv 0) ai (fun _ _=>rfl)) av)))))))))),?_⟩
  refine⟨fun σ' H'=> ∃(pR:Addr) (HA:List Addr),σ'=[some (.ref sd),some (.str aH),some (.int day),some (.int (if aR=true then 1 else 0)),some (.ref pR),none,none,none,none,none]/\aD H H'/\H' pR=some (.lst (HA.map V.ref))/\eU H' (S.rows aR) HA,?_,?_⟩
  ·refine⟨_,rfl,(by show 2<=sizeLine; decide),fun p9 n9=>⟨_,rfl,?_⟩⟩
   have t9:=aD.new (o:= .lst [V.str "credits",.str "bills"]) n9
   have B9:=hB.same t9
   cases aR with
   |true=>exact⟨p9,_,_,.str "bills",rfl,rfl,bA.of ag,rfl,sd,_,rfl,B9.gB,g.pb,g.iA,rfl,t9,B9.hb,B9.rb⟩
   |false=>exact⟨p9,_,_,.str "credits",rfl,rfl,bA.of ag,rfl,sd,_,rfl,B9.gC,g.pc,g.cps,rfl,t9,B9.hc,B9.rc⟩
  rintro σ H1 ⟨pR,HA,rfl,s1,hpR,hrR⟩
  refine⟨bh _,fun pk nk=>?_⟩
  have XZ:=s1.free nk
  have s1k:aD H (upd H1 pk (.lst [])):=(s1.trans (aD.new nk))
  have hlR:=hrR.length
  have BC:(S.rows aR).length<=60:=by
   cases aR with
   |true=>exact aZ wf.lb hn
   |false=>exact aZ wf.lc hn
  refine⟨_,rfl,pR,_,rfl,.inl (bA.of (aD.new nk _ _ hpR)),((HA.map V.ref).length:Int),rfl,by lia,by rw[ae]; lia,?_⟩
  rw[dN]
  refine iW (lo:=0) (n:=(HA.map V.ref).length) (fun i σ H2=> ∃(xs:List V) (x6 x7 x8 x9:Option V),σ=[some (.ref sd),some (.str aH),some (.int day),some (.int (if aR=true then 1 else 0)),some (.ref pR),some (.ref pk),x6,x7,x8,x9]/\aD H1 H2/\H2 pk=some (.lst xs)/\gr H2 ((kD S aR aH day i).map (gD S aR day)) xs)
   ⟨[],none,none,none,none,rfl,aD.new nk,ag,.nil⟩ ?_ ?_
  ·rintro i σ H2 hi ⟨xs,x6,x7,x8,x9,rfl,s2,hx,hT⟩
   rw[iJ]
   have wW:i < (S.rows aR).length:=by rw[ae] at hi; lia
   obtain⟨r,ri,K9⟩:=hrR.at wW
   have ar:se (HA.map V.ref) (i:Int)=some (.ref r):=cy (by rw[aB,ri]; rfl)
   have tU:=s2 _ _ hpR
   have yD:=s2 _ _ K9
   have B2:=hB.same (s1.trans s2)
   obtain⟨ms,m1,m2⟩:=B2.hm
   have Pn:xs.length<=i:=by
    have:=aL hT
    rw[ae] at this
    have:=Ef (S:=S) (aR:=aR) (aH:=aH) (day:=day) (i:=i)
    lia
   refine⟨_,rfl,_,rfl,pR,_,_,.ref r,rfl,rfl,bA.of tU,ar,_,rfl,_,_,rfl,rfl,r,_,_,_,rfl,rfl,bA.of yD,Pu aR _,?_⟩
   refine⟨_,rfl,sd,_,rfl,B2.gM,g.pm,rfl,⟨_,bA.of m1⟩,?_⟩
   refine fH (K:=K) (a:=g.pm) (xs:=ms) (fun j σ H3=> ∃(x8 x9:Option V),σ=[some (.ref sd),some (.str aH),some (.int day),some (.int (if aR=true then 1 else 0)),some (.ref pR),some (.ref pk),some (.int (i:Int)),some (.int (tj aR ((S.rows aR).getD i default) - (((S.made.take j).filter (S.cnt aR i day)).map (·.2.2)).sum)),x8,x9]/\H3=H2)
    ⟨x8,x9,by simp[List.take_zero],rfl⟩ (fun j σ H3 _ ⟨_,_,_,e⟩=>by rw[e]; exact bA.of m1) ?_ ?_
   ·rintro j x σ H3 hx3 ⟨x8,x9,rfl,rfl⟩
    have hj:j < S.made.length:=by have:=(ak.mp hx3).1; have:=aL m2; lia
    have TJ:=af hj
    obtain⟨v,hv,p8,rfl,TK⟩:=bI m2 TJ
    rw[hx3] at hv
    obtain rfl:x= .ref p8:=aF hv
    have uf:=wf.m _ (bG hj)
    have k6:=fv (S.cnt aR i day) TJ
    generalize S.made[j]=t at TK uf k6
    obtain⟨qc,_,ac,hqc⟩:=B2.lc uf.1
    obtain⟨qb,_,ab,hqb⟩:=B2.lb uf.2
    refine⟨_,rfl,sd,_,rfl,B2.gC,_,rfl,p8,_,_,.int t.1,rfl,rfl,cg.of TK,rfl,g.pc,_,_,.ref qc,rfl,rfl,bA.of B2.hc,ac,qc,_,_,.int (S.cr t.1).a,rfl,rfl,bA.of hqc,rfl,?_⟩
    refine⟨_,rfl,sd,_,rfl,B2.gB,_,rfl,p8,_,_,.int t.2.1,rfl,rfl,cg.of TK,rfl,g.pb,_,_,.ref qb,rfl,rfl,bA.of B2.hb,ab,qb,_,_,.int (S.bl t.2.1).a,rfl,rfl,bA.of hqb,rfl,_,_,rfl,?_⟩
    have no:S.cnt aR i day t=false-> ∃(y8 y9:Option V),[some (V.ref sd),some (.str aH),some (.int day),some (.int (if aR=true then 1 else 0)),some (.ref pR),some (.ref pk),some (.int (i:Int)),some (.int (tj aR ((S.rows aR).getD i default) - (((S.made.take j).filter (S.cnt aR i day)).map (·.2.2)).sum)),some (.ref p8),some (.int (if(S.cr t.1).a < (S.bl t.2.1).a then(S.bl t.2.1).a else(S.cr t.1).a))]=[some (.ref sd),some (.str aH),some (.int day),some (.int (if aR=true then 1 else 0)),some (.ref pR),some (.ref pk),some (.int (i:Int)),some (.int (tj aR ((S.rows aR).getD i default) - (((S.made.take (j + 1)).filter (S.cnt aR i day)).map (·.2.2)).sum)),y8,y9]/\H3=H3:=fun z=>by
     refine⟨some (.ref p8),some (.int (if(S.cr t.1).a < (S.bl t.2.1).a then(S.bl t.2.1).a else(S.cr t.1).a)),?_,rfl⟩
     rw[aU (by rw[z]; exact aW),bR] at k6
     rw[k6]
    refine⟨_,rfl,_,rfl,p8,_,_,_,rfl,rfl,cg.of TK,FI aR t,_,rfl,rfl,_,rfl,cm (fun z1=>?_) (fun z1=>bT (no ?_))⟩
    ·refine⟨_,rfl,_,rfl,_,_,rfl,rfl,_,rfl,cm (fun z2=>?_) (fun z2=>no ?_)⟩
     ·refine⟨_,rfl,_,rfl,p8,_,_,.int t.2.2,rfl,rfl,cg.of TK,rfl,_,_,rfl,rfl,some (.ref p8),some (.int (if(S.cr t.1).a < (S.bl t.2.1).a then(S.bl t.2.1).a else(S.cr t.1).a)),?_,rfl⟩
      have e1:spotOf aR t=i:=by
       have:=aN z1
       injection this with this
       lia
      have e2:S.fS t<=day:=aN z2
      have yes:S.cnt aR i day t=true:=by
       unfold Bk.cnt
       rw[aG e1,aG e2]; rfl
      rw[a8 yes] at k6
      rw[k6,aK,List.sum_append]
      show[_,_,_,_,_,_,_,some (V.int (_ - _ - t.2.2)),_,_]=_
      simp only[List.map_cons,List.map_nil,List.sum_cons,List.sum_nil,Int.add_zero,Int.sub_sub]
     ·unfold Bk.cnt
      have e2: ¬ S.fS t<=day:=fun q=>z2 (aG q)
      rw[bp e2,lS]
    ·unfold Bk.cnt
     have e1: ¬ spotOf aR t=i:=fun q=>z1 (aG (by rw[q]))
     rw[bp e1,qt]
   ·rintro σ H3 ⟨x8,x9,rfl,rfl⟩
    have FC:ms.length=S.made.length:=(aL m2).symm
    have Fp:tj aR ((S.rows aR).getD i default) - (((S.made.take ms.length).filter (S.cnt aR i day)).map (·.2.2)).sum=S.rest aR i day:=by
     rw[FC,a7]; rfl
    rw[Fp]
    have no:pD S aR aH day i=false-> ∃(ys:List V) (y6 y7 y8 y9:Option V),[some (V.ref sd),some (.str aH),some (.int day),some (.int (if aR=true then 1 else 0)),some (.ref pR),some (.ref pk),some (.int (i:Int)),some (.int (S.rest aR i day)),x8,x9]=[some (.ref sd),some (.str aH),some (.int day),some (.int (if aR=true then 1 else 0)),some (.ref pR),some (.ref pk),y6,y7,y8,y9]/\aD H1 H3/\H3 pk=some (.lst ys)/\gr H3 ((kD S aR aH day (i + 1)).map (gD S aR day)) ys:=fun z=>
     ⟨xs,_,_,_,_,rfl,s2,hx,by rw[FH,aU (by rw[z]; exact aW),bR]; exact hT⟩
    generalize Hu:(S.rows aR).getD i default=row at yD
    have Ld:pD S aR aH day i=(decide (row.aH=aH) && (decide (row.a<=day) && decide (0 < S.rest aR i day))):=by unfold pD; rw[Hu]
    refine⟨_,rfl,_,rfl,pR,_,_,.ref r,rfl,rfl,bA.of tU,ar,r,_,_,.str row.aH,rfl,rfl,bA.of yD,rfl,_,rfl,rfl,_,rfl,cm (fun d1=>?_) (fun d1=>bT (no (by rw[Ld,bp (rm d1)]; rfl)))⟩
    refine⟨_,rfl,_,rfl,pR,_,_,.ref r,rfl,rfl,bA.of tU,ar,r,_,_,.int row.a,rfl,rfl,bA.of yD,rfl,_,rfl,_,_,rfl,rfl,_,rfl,cm (fun d2=>?_) (fun d2=>bT (no (by rw[Ld,bp (fun q=>d2 (aG q)),qt,lS])))⟩
    refine⟨_,rfl,_,_,rfl,rfl,_,rfl,cm (fun d3=>?_) (fun d3=>no (by rw[Ld,bp (fun q=>d3 (aG q)),lS,lS]))⟩
    have yes:pD S aR aH day i=true:=by
     rw[Ld,aG (uw d1),aG (aN d2),aG (aN d3)]; rfl
    refine⟨_,rfl,.inl ⟨rfl,_,bA.of hx⟩,_,rfl,_,rfl,pR,_,_,.ref r,rfl,rfl,bA.of tU,ar,_,rfl,_,_,rfl,rfl,r,_,_,_,rfl,rfl,bA.of yD,Pw aR row,_,rfl,_,rfl,(by show 3<=sizeLine; decide),fun p8 n8=>?_⟩
    have t8:=aD.new (o:= .tup [V.int (keyOf aR row),.int (i:Int),.int (S.rest aR i day)]) n8
    refine⟨pk,xs,_,rfl,rfl,t8 _ _ hx,a9 (by lia),xs ++ [.ref p8],_,_,_,_,rfl,(s2.trans t8).cI nk,ag,?_⟩
    rw[FH,a8 yes,aK,Hu]
    exact gr.snoc (hT.mono (t8.tk.trans (dQ (t8 _ _ hx)))) (dC (t8 _ _ hx) _ _ ag)
  ·rintro σ H2 ⟨xs,x6,x7,x8,x9,rfl,s2,hx,hT⟩
   have Pn:=aL hT
   have Vx:=Ef (S:=S) (aR:=aR) (aH:=aH) (day:=day) (i:=(HA.map V.ref).length)
   have Fy:=TF (S:=S) (aR:=aR) (aH:=aH) (day:=day) (i:=(HA.map V.ref).length)
   have lA:(HA.map V.ref).length=(S.rows aR).length:=by rw[ae]; lia
   have hle: ∀x∈kD S aR aH day (HA.map V.ref).length,x.2 < 1000:=fun x hx=>by have:=Fy x hx; lia
   have jU:S.fu aR aH day=(ez (kD S aR aH day (HA.map V.ref).length)).map fun x=>(x.2,S.rest aR x.2 day):=by rw[lA]; exact CC
   have hnd:=TH (S:=S) (aR:=aR) (aH:=aH) (day:=day) (i:=(HA.map V.ref).length)
   generalize kD S aR aH day (HA.map V.ref).length=ks at hT Pn Vx hle jU hnd
   rw[ae] at Pn
   refine⟨_,rfl,pk,xs,_,ua,rfl,bA.of hx,(by lia),hT,(fun t ht=>?_),(fun t ht u hu=>?_),fun D ys us nD K8 perm le=>?_⟩
   ·obtain⟨x,_,rfl⟩:=bF.mp ht
    simp[gD]
   ·obtain⟨x,yr,rfl⟩:=bF.mp ht
    obtain⟨y,Ag,rfl⟩:=bF.mp hu
    refine qS (u:=[S.rest aR x.2 day]) (v:=[S.rest aR y.2 day]) (hle x yr) (hle y Ag) (fun e=>⟨by rw[e],lK hnd yr Ag e⟩) ?_
    rw[HT.l4,a8 rfl]; rfl
   ·have RV:=tu hle hnd (fun x _=>rfl) perm le
    subst RV
    have tD:=aD.new (o:= .lst ys) nD
    refine⟨D,rfl,⟨_,bA.of ag⟩,?_⟩
    have Fz:=K8.mono tD.tk
    generalize Mw:upd H2 D (.lst ys)=H3 at tD Fz
    have QW:H3 D=some (.lst ys):=by rw[← Mw]; exact ag
    have s3:=(s1.trans s2).trans tD
    clear Mw K8 perm le hT
    have Tj:=aL Fz
    refine dO (K:=K) (a:=D) (xs:=ys) (fun D' i σ H6=>H3 D'=none/\ ∃v rs,σ=[v]/\aD H3 H6/\H6 D'=some (.lst rs)/\iF H6 (((ez ks).take i).map fun x=>(x.2,S.rest aR x.2 day)) rs) (fun D' pX=>⟨pX,none,[],rfl,aD.new pX,ag,.nil⟩) (fun D' i σ H6 _ ⟨_,_,_,_,t3,_⟩=>bA.of (t3 _ _ QW)) ?_ ?_
    ·rintro D' i x σ H6 FA ⟨pX,v,rs,rfl,t3,gi,hP⟩
     have hi:i < (ez ks).length:=by
      have:=(ak.mp FA).1
      rw[ae] at Tj
      lia
     have g0:((ez ks).map (gD S aR day))[i]? =some (gD S aR day (ez ks)[i]):=by rw[aB,af hi]; rfl
     obtain⟨v',hv,pp,e1,Io⟩:=bI Fz g0
     rw[FA] at hv
     obtain rfl:x=v':=aF hv
     subst e1
     have lT:=jt hi
     have Hv:=t3 _ _ Io
     generalize (ez ks)[i]=z at Hv lT
     have Ed:rs.length<=100:=by
      have:=aL hP
      rw[ae,bf] at this
      have:=(dg ks).length_eq
      lia
     refine⟨_,rfl,pp,_,_,.int (z.2:Int),rfl,rfl,cg.of Hv,rfl,_,rfl,pp,_,_,.int (S.rest aR z.2 day),rfl,rfl,cg.of Hv,rfl,(by show 2<=sizeLine; decide),fun r6 m6=>?_⟩
     have t6:=aD.new (o:= .tup [V.int (z.2:Int),.int (S.rest aR z.2 day)]) m6
     refine⟨rs,t6 _ _ gi,a9 (by lia),pX,_,rs ++ [.ref r6],rfl,(t3.trans t6).cI pX,ag,?_⟩
     rw[lT,aK]
     have tk:=t6.tk.trans (dQ (o:= .lst (rs ++ [.ref r6])) (t6 _ _ gi))
     exact cz (hP.mono tk) ⟨r6,rfl,dQ (o:= .lst (rs ++ [.ref r6])) (t6 _ _ gi) _ _ ag⟩
    ·rintro D' σ H6 pX ⟨_,v,rs,rfl,t3,gi,hP⟩
     refine k D' rs H6 (s3.trans t3) (s3.free pX) gi ?_
     rw[jU]
     rw[← Tj,ae,a7] at hP
     exact hP
theorem yG {S:Bk}{aR:Bool}{aH:Str}{day:Int}{t:Nat×Int}(h:t∈S.fu aR aH day):t.1 < (S.rows aR).length:=by
 unfold Bk.fu at h
 obtain⟨k,hk,rfl⟩:=bF.mp h
 exact(kE.mp (eY.mp hk).1).1
theorem yH {S:Bk}{aR:Bool}{aH:Str}{day:Int}:(S.fu aR aH day).length<=(S.rows aR).length:=by
 rw[CC,ae,(dg _).length_eq]
 exact Ef
theorem vW (fS:Int)(bO:List Int):L2.placeOf fS bO < bO.length + 2:=by
 unfold L2.placeOf
 split
 ·lia
 ·have:=aX (fun l=>decide (l < fS)) bO
  lia
theorem yI (l:List Int)(i:Nat)(x:Int):(iP l i x).length=l.length:=by unfold iP; rw[List.length_set]
theorem FJ (n:Nat)(b:Int):(List.replicate n [V.int b]).flatten=(List.replicate n b).map V.int:=by
 induction n with
 |zero=>rfl
 |succ n ih=>rw[cM,iS,ih,cM]; rfl
inductive Eg (vs:List V)(H:Hp)(Q:VK)(E':XK):Prop
 |mk (sd pl:Addr)(S:Bk)(f:fB)(n:Nat)(aH:Str)(day:Int)(bO:List Int)(h1:vs=[.ref sd,.str aH,.int day,.ref pl])(h2:di H sd S f)(h3:WF S n)(h4:n<=60)(h5:H pl=some (.tup (bO.map V.int)))(h6:bO.length<=11)(h7: ∀D H',aD H H'->H D=none->H' D=some (.lst ((S.tY aH day bO).map V.int))->Q (.ref D) H'):Eg vs H Q E'
theorem rz:aS ["_law_state","_law_who","_law_day","_law_limits","_law_sums","_law_bill","_law_left","_law_late","_law_place"] ["_law_state","_law_who","_law_day","_law_limits"] (ay (top 65)):={}
theorem CD (T:Txt K mg):eM P w K mg base "_law_aged" 2 ["_law_state","_law_who","_law_day","_law_limits"] Eg:=by
 have k7:eM P w K mg base "_law_at_day" 1 ["_law_state","_law_who","_law_day","_law_spot"] uB:=o7 T
 refine T.BU.fe (k:=1) rz (fun f cU A outer s H vs Q E hr h=>?_)
 ·obtain⟨sd,pl,S,g,n,aH,day,bO,rfl,hB,wf,hn,gQ,Ed,k⟩:=h
  have hu:=jM hr
  have nd:=rz.nd
  refine⟨_,(ah (sv 4 nd (aO zj (bP (aa ai av)) (aO cB (mh T.dD (pv 3)) ai)))
(ah (dZ bw rfl (cO (fc k7 hr (aa (pv 0) (aa (pv 1) (aa (pv 2) (aa ai av)))))) (iU rfl (bY (gn 5 nd) (bY (gn 6 nd) gE)))
(ah (sv 7 nd (aO eP (pv 2) (xl (xl (cE hu (pv 0) aQ (fun _ _=>rfl)) (pv 5)) ai)))
(ah (sv 8 nd ai)
(iw (bN (aV iO (pv 7) ai (aY _))
(au (sv 8 nd (aO cB ai (mh T.dD (gq (tn:=["_law_limit"]) (cn:=["_law_late"]) (cj:=[7]) rfl (gY (zo:=[(".0",.local),("_law_limit",.local),("_law_late",.cell)])) (ID (pv 3)) (fun _ _ _ _=>(dU (i:=0) (show(["_law_limit","_law_late"]:List Str).Nodup by decide +kernel) rfl (Or.inl rfl))) (fun _ _ _ _=>(mZ (aV ju (pv 0) (pv 1) (aY _)))) (fun _ _ _ _=>(pv 0)))))))
bb)
(au (lY (aO cB (xl (pv 4) (pv 8)) (pv 6)) (pI (pv 4) (pv 8) set_list)))))))
(au (a0 (pv 4))))),?_⟩
  refine⟨(by show 1<=sizeLine; decide),fun p9 n9=>?_⟩
  have t9:=aD.new (o:= .lst [V.int 0]) n9
  have J1:(bO.map V.int).length=bO.length:=ae _
  refine⟨_,rfl,pl,_,rfl,.inr (cg.of (t9 _ _ gQ)),_,_,rfl,rfl,p9,_,_,rfl,rfl,ag,by lia,by lia,?_,fun ps CF=>?_⟩
  ·show 1 * _<=sizeLine
   rw[J1,eI]
   lia
  have e2:(((bO.map V.int).length:Int) + 2).toNat=bO.length + 2:=by rw[J1]; lia
  rw[e2,FJ]
  have Ak:=aD.new (o:= .lst ((List.replicate (bO.length + 2) (0:Int)).map V.int)) CF
  have Ee:=t9.trans Ak
  have lA:upd (upd H p9 (.lst [V.int 0])) ps (.lst ((List.replicate (bO.length + 2) (0:Int)).map V.int)) ps=some (.lst ((List.replicate (bO.length + 2) (0:Int)).map V.int)):=ag
  have HB:H ps=none:=t9.free CF
  generalize upd (upd H p9 (.lst [V.int 0])) ps (.lst ((List.replicate (bO.length + 2) (0:Int)).map V.int))=H1 at Ee lA
  refine⟨_,rfl,_,rfl,_,rfl,sd,S,g,n,true,aH,day,rfl,hB.same Ee,wf,hn,fun D ms H2 s2 nD hD hP=>?_⟩
  refine⟨D,rfl,⟨_,bA.of hD⟩,?_⟩
  have QK:=Ee.trans s2
  have uf: ∀t∈S.fu true aH day,t.1 < S.aI.length:=fun t ht=>yG (aR:=true) ht
  have QZ:S.tY aH day bO=(S.fu true aH day).foldl (fun l t=>iP l (L2.placeOf (day - (S.bl t.1).b) bO) t.2) (List.replicate (bO.length + 2) 0):=rfl
  rw[QZ] at k
  generalize S.fu true aH day=ts at hP uf k
  have X0:D≠ps:=fun e=>by rw[e,lA] at nD; cases nD
  refine fH (K:=K) (a:=D) (xs:=ms) (fun i σ H3=> ∃(l:List Int) (x5 x6 x7 x8:Option V),σ=[some (.ref sd),some (.str aH),some (.int day),some (.ref pl),some (.ref ps),x5,x6,x7,x8]/\aD H H3/\H3 D=some (.lst ms)/\iF H3 ts ms/\H3 ps=some (.lst (l.map V.int))/\l.length=bO.length + 2/\l=(ts.take i).foldl (fun l t=>iP l (L2.placeOf (day - (S.bl t.1).b) bO) t.2) (List.replicate (bO.length + 2) 0))
   ⟨_,none,none,none,none,rfl,QK,hD,hP,s2 _ _ lA,dM,rfl⟩ (fun i σ H3 _ ⟨_,_,_,_,_,_,_,h,_⟩=>bA.of h) ?_ ?_
  ·rintro i x σ H3 hx ⟨l,x5,x6,x7,x8,rfl,s3,QW,MB,Je,FK,he⟩
   have hi:i < ts.length:=by have:=(ak.mp hx).1; have:=aL MB; lia
   have oP:=af hi
   obtain⟨v,hv,p,rfl,hp⟩:=bI MB oP
   rw[hx] at hv
   obtain rfl:x= .ref p:=aF hv
   have hm:=uf _ (bG hi)
   rw[jJ (fun l t=>iP l (L2.placeOf (day - (S.bl t.1).b) bO) t.2) ts _ oP,← he]
   generalize ts[i]=t at hp hm
   have B3:=hB.same s3
   obtain⟨q,_,aq,hq⟩:=B3.lb hm
   refine⟨p,_,rfl,cg.of hp,rfl,_,_,rfl,_,_,rfl,rfl,?_⟩
   refine⟨_,rfl,_,rfl,sd,_,rfl,B3.gB,_,rfl,g.pb,_,_,.ref q,rfl,rfl,bA.of B3.hb,aq,q,_,_,.int (S.bl t.1).b,rfl,rfl,bA.of hq,rfl,_,_,rfl,rfl,?_⟩
   refine⟨fun σ' H'=>σ'=[some (.ref sd),some (.str aH),some (.int day),some (.ref pl),some (.ref ps),some (.int (t.1:Int)),some (.int t.2),some (.int (day - (S.bl t.1).b)),some (.int (L2.placeOf (day - (S.bl t.1).b) bO:Int))]/\aD H3 H',?_,?_⟩
   ·refine⟨_,rfl,_,_,rfl,rfl,_,rfl,cm (fun z=>?_) (fun z=>?_)⟩
    ·have z':0 < (day - (S.bl t.1).b):=aN z
     refine⟨_,rfl,pl,rfl,⟨_,cg.of (s3 _ _ gQ)⟩,?_⟩
     refine BB (K:=K) (a:=pl) (xs:=bO.map V.int) (fun D' j σ H6=>H3 D'=none/\ ∃v,σ=[v,some (.int (day - (S.bl t.1).b))]/\aD H3 H6/\H6 D'=some (.lst (((bO.take j).filter fun l=>decide (l < (day - (S.bl t.1).b))).map V.int))) (fun D' pX=>⟨pX,none,rfl,aD.new pX,ag⟩) (fun D' j σ H6 _ ⟨_,_,_,t3,_⟩=>cg.of (t3 _ _ (s3 _ _ gQ))) ?_ ?_
     ·rintro D' j x σ H6 FA ⟨pX,v,rfl,t3,gi⟩
      rw[aB] at FA
      obtain⟨y,hy,rfl⟩:=bo.mp FA
      have k6:=fv (fun l=>decide (l < (day - (S.bl t.1).b))) hy
      have hlen:((bO.take j).filter fun l=>decide (l < (day - (S.bl t.1).b))).length<=100:=by
       have:=aX (fun l=>decide (l < (day - (S.bl t.1).b))) (bO.take j)
       rw[bf] at this
       lia
      refine⟨_,rfl,_,rfl,_,_,rfl,rfl,_,rfl,cm (fun q=>?_) (fun q=>?_)⟩
      ·rw[a8 q] at k6
       refine⟨_,rfl,_,gi,a9 (by rw[ae]; lia),pX,_,rfl,t3.cI pX,?_⟩
       rw[ag,k6,aK]
       rfl
      ·rw[aU q,bR] at k6
       refine⟨pX,_,rfl,t3,?_⟩
       rw[k6]
       exact gi
     ·rintro D' σ H6 pX ⟨_,v,rfl,t3,gi⟩
      refine⟨D',_,rfl,.inl (bA.of gi),_,_,rfl,rfl,?_,t3⟩
      have e:L2.placeOf (day - (S.bl t.1).b) bO=1 + (bO.filter fun l=>decide (l < (day - (S.bl t.1).b))).length:=by
       unfold L2.placeOf
       rw[aU (by lia)]
      rw[e,ae,ae,a7]
      simp
    ·have z': ¬ 0 < (day - (S.bl t.1).b):=fun q=>z (aG q)
     have e:L2.placeOf (day - (S.bl t.1).b) bO=0:=by
      unfold L2.placeOf
      rw[a8 (by lia)]
     rw[e]
     exact⟨rfl,aD.refl _⟩
   ·rintro σ' H4 ⟨rfl,s4⟩
    have hpo:=vW (day - (S.bl t.1).b) bO
    generalize L2.placeOf (day - (S.bl t.1).b) bO=j at hpo
    have Q0:=s4 _ _ Je
    refine⟨_,rfl,_,rfl,ps,_,_,.int (l.getD j 0),rfl,rfl,bA.of Q0,nF (by lia),_,rfl,_,_,rfl,rfl,?_⟩
    refine⟨_,rfl,_,rfl,ps,_,_,j,rfl,rfl,Q0,ra (by rw[ae]; lia),?_⟩
    have tk:=dQ (o:= .lst ((l.map V.int).set j (.int (l.getD j 0 + t.2)))) Q0
    refine⟨iP l j t.2,_,_,_,_,rfl,(s3.trans s4).cI HB,?_,(MB.mono s4.tk).mono tk,?_,?_,rfl⟩
    ·rw[az X0]; exact s4 _ _ QW
    ·rw[ag]
     unfold iP
     rw[Ih]
    ·rw[yI]; exact FK
  ·rintro σ H3 ⟨l,x5,x6,x7,x8,rfl,s3,QW,MB,Je,FK,he⟩
   rw[← aL MB,a7] at he
   rw[he] at Je
   exact⟨_,rfl,k ps H3 s3 HB Je⟩
def j8 (H:Hp)(ok:Addr->Prop):BJ->V->Prop
 | .int i,v=>v= .int i
 | .txt s,v=>v= .str s
 | .sets l,v=> ∃D ms,v= .ref D/\ok D/\H D=some (.lst ms)/\ie H l ms
 | .pairs l,v=> ∃D ms,v= .ref D/\ok D/\H D=some (.lst ms)/\iF H l ms
 | .ints l,v=> ∃D,v= .ref D/\ok D/\H D=some (.lst (l.map V.int))
theorem j8.keep {H H':Hp}{ok Q1:Addr->Prop}{a:BJ}{v:V}(h:j8 H ok a v)(kl: ∀D xs,ok D->H D=some (.lst xs)->Q1 D/\H' D=some (.lst xs))(kt:cH H H'):j8 H' Q1 a v:=by
 cases a with
 |int i=>exact h
 |txt s=>exact h
 |sets l=>
  obtain⟨D,ms,e,o,z,t⟩:=h
  obtain⟨o',z'⟩:=kl _ _ o z
  exact⟨D,ms,e,o',z',t.mono kt⟩
 |pairs l=>
  obtain⟨D,ms,e,o,z,t⟩:=h
  obtain⟨o',z'⟩:=kl _ _ o z
  exact⟨D,ms,e,o',z',iF.mono t kt⟩
 |«ints» l=>
  obtain⟨D,e,o,z⟩:=h
  obtain⟨o',z'⟩:=kl _ _ o z
  exact⟨D,e,o',z'⟩
inductive vX (vs:List V)(H:Hp)(Q:VK)(E':XK):Prop
 |mk (sd pd:Addr)(S:Bk)(f:fB)(n:Nat)(h1:vs=[.ref sd,.ref pd])(h2:di H sd S f)(h3:WF S n)(h4:n<=60)(h5:((∃(o:Bool) (aH:Str) (day:Int),H pd=some (.tup (br.vs (.ask o aH day)))/\ ∀v H',aD H H'->j8 H' (fun D=>H D=none) (.pairs (S.fu o aH day)) v->Q v H')∨(∃(aH:Str) (day:Int) (bO:List Int) (pl:Addr),H pd=some (.tup [.str "ages",.str aH,.int day,.ref pl])/\H pl=some (.tup (bO.map V.int))/\bO.length<=11/\ ∀v H',aD H H'->j8 H' (fun D=>H D=none) (.ints (S.tY aH day bO)) v->Q v H'))):vX vs H Q E'
theorem sF:aS ["_law_state","_law_deed"] ["_law_state","_law_deed"] (ay (top 66)):={}
theorem vY {H:Hp}: ∀l:List Int,hV H (l.map Dt.int) (l.map V.int)
 |[]=>cQ.mpr rfl
 |x :: l=>bC.mpr ⟨_,_,rfl,dm.mpr rfl,vY l⟩
theorem ug (T:Txt K mg):eM P w K mg base "_law_reported" 3 ["_law_state","_law_deed"] vX:=by
 have k7:eM P w K mg base "_law_at_day" 1 ["_law_state","_law_who","_law_day","_law_spot"] uB:=o7 T
 have CG:eM P w K mg base "_law_aged" 2 ["_law_state","_law_who","_law_day","_law_limits"] Eg:=CD T
 refine T.tZ.fe (k:=2) sF (fun f cU A outer s H vs Q E hr h=>?_)
 ·obtain⟨sd,pd,S,g,n,rfl,hB,wf,hn,hk⟩:=h
  refine⟨_,(ah (bN (aV cJ (xt (pv 1) ai) aQ (aY _))
(au (a0 (fc CG hr (aa (pv 0) (aa (xt (pv 1) ai) (aa (xt (pv 1) ai) (aa (xt (pv 1) ai) av)))))))
bb)
(au (a0 (fc k7 hr (aa (pv 0) (aa (xt (pv 1) ai) (aa (xt (pv 1) ai) (aa (gF jD (by rfl) T.vC boot_int (aa (fm cJ (xt (pv 1) ai) aQ (aY _)) av)) av)))))))),?_⟩
  rcases hk with⟨o,aH,day,hd,k⟩|⟨aH,day,bO,pl,hd,gQ,Ed,k⟩
  ·have je:(if o=true then("owed":Str) else "free")≠"ages":=by cases o <;> decide +kernel
   refine⟨_,rfl,pd,_,_,.str (if o=true then "owed" else "free"),rfl,rfl,cg.of hd,rfl,rfl,false,jr je,bT ?_⟩
   refine⟨_,rfl,_,rfl,pd,_,_,.str aH,rfl,rfl,cg.of hd,rfl,_,rfl,pd,_,_,.int day,rfl,rfl,cg.of hd,rfl,_,rfl,pd,_,_,.str (if o=true then "owed" else "free"),rfl,rfl,cg.of hd,rfl,rfl,.inr ⟨o,?_,sd,S,g,n,o,aH,day,rfl,hB,wf,hn,fun D ms H2 s2 nD hD hP=>?_⟩⟩
   ·cases o with
    |true=>exact cL (fun x=>[x]) (yF _)
    |false=>exact cL (fun x=>[x]) (jr (by decide +kernel))
   ·exact k _ _ s2 ⟨D,ms,rfl,nD,hD,hP⟩
  ·refine⟨_,rfl,pd,_,_,.str "ages",rfl,rfl,cg.of hd,rfl,rfl,true,yF _,fG ?_⟩
   refine⟨_,rfl,_,rfl,pd,_,_,.str aH,rfl,rfl,cg.of hd,rfl,_,rfl,pd,_,_,.int day,rfl,rfl,cg.of hd,rfl,_,rfl,pd,_,_,.ref pl,rfl,rfl,cg.of hd,rfl,sd,pl,S,g,n,aH,day,bO,rfl,hB,wf,hn,gQ,Ed,fun D H2 s2 nD hD=>?_⟩
   exact k _ _ s2 ⟨D,rfl,nD,hD⟩
theorem fz {X:Cx}{K:Frag}{e:Expr}{f:Str}{pos:Pos}{ta:TE}(h:X.K=K)(he:PE X e ta)(hb:attributeBase e f X.env (eval e X.env)=eval e X.env):PE X (.Attribute e f pos) (RO K ta f):=by subst h; exact bX he hb
def CI (A:dY)(aR:Bool):Addr:=if aR=true then A.dW else A.d8
def Aq (aR:Bool)(k:Nat)(r:Rw):List (Str×V):=if aR=true then fC k r else ff k r
theorem yJ (aR:Bool)(k:Nat)(r:Rw):(Aq aR k r).lookup ("number":Str)=some (V.int k):=by cases aR <;> rfl
theorem Px (aR:Bool)(k:Nat)(r:Rw):(Aq aR k r).lookup ("day":Str)=some (V.int r.a):=by cases aR <;> rfl
theorem HC (aR:Bool)(k:Nat)(r:Rw):(Aq aR k r).lookup ("amount":Str)=some (V.int (tj aR r)):=by cases aR <;> rfl
theorem Ar {A:dY}(G:jB K mg A)(aR:Bool):wO K (CI A aR):=by cases aR; exact G.dh; exact G.d9
theorem yK {A:dY}(G:jB K mg A)(aR:Bool):b0 K (CI A aR) "number":=by cases aR; exact G.eO; exact G.eV
theorem Py {A:dY}(G:jB K mg A)(aR:Bool):b0 K (CI A aR) "day":=by cases aR; exact G.ja; exact G.nv
theorem HE {A:dY}(G:jB K mg A)(aR:Bool):b0 K (CI A aR) "amount":=by cases aR; exact G.lI; exact G.nz
def MC (A:dY)(H:Hp)(S:Bk)(aR:Bool)(ks:List Nat)(qs:List Addr):Prop:=Paired (fun(k:Nat) q=>eA H q (CI A aR) (Aq aR k ((S.rows aR).getD k default))) ks qs
def pR (S:Bk)(aR:Bool)(day:Int)(k:Nat):Bool:=decide (((S.rows aR).getD k default).a<=day) && decide (0 < S.rest aR k day)
inductive rA (A:dY)(vs:List V)(H:Hp)(Q:VK)(E':XK):Prop
 |mk (pw pt:Addr)(S:Bk)(f:eN)(n:Nat)(aR:Bool)(day:Int)(ks:List Nat)(qs:List Addr)(h1:vs=[.ref pw,.ref pt,.int (if aR=true then 1 else 0),.int day])(h2:dE A H pw S f)(h3:WF S n)(h4:S.made.length<=1000000)(h5:H pt=some (.lst (qs.map V.ref)))(h6:MC A H S aR ks qs)(h7:ks.length<=100)(h8: ∀D ms H',aD H H'->H D=none->H' D=some (.lst ms)->iF H' ((ks.filter (pR S aR day)).map fun k=>(k,S.rest aR k day)) ms->Q (.ref D) H'):rA A vs H Q E'
theorem mE:aS ["work","told","place","day","counting","remaining","item","rest"] ["work","told","place","day"] (ay (top 38)):={}
theorem nR (T:Txt K mg){A:dY}(G:jB K mg A):eM P w K mg base "remaining_at" 4 ["work","told","place","day"] (rA A):=by
 have xH:eM P w K mg base "counting_at" 3 ["work","day"] (qa A):=xG T G
 refine T.vA.fe (k:=3) mE (fun f cU A' outer s H vs Q E hr h=>?_)
 ·obtain⟨pw,pt,S,g,n,aR,day,ks,qs,rfl,hW,wf,hz,wF,hI,Fy,k⟩:=h
  have nd:=mE.nd
  have hlen:=aL hI
  refine⟨_,(ah (sv 4 nd (fc xH hr (aa (pv 0) (aa (pv 3) av))))
(ah (sv 5 nd (bP av))
(ah (dZ bw rfl (cO (pv 1)) (gn 6 nd)
(ah (sv 7 nd (aO eP (bX (pv 6) rfl) (cD (lB rfl) (by rfl) T.BV boot_sum (aa (gq (tn:=["setting"]) (cn:=["place","item"]) (cj:=[2,6]) rfl (Ao (zo:=[(".0",.local),("setting",.local),("item",.cell),("place",.cell)])) (cO (pv 4)) (fun _ _ _ _=>(dU (i:=0) (show(["setting","place","item"]:List Str).Nodup by decide +kernel) rfl (Or.inl rfl))) (fun _ _ _ _=>(mZ (aV cJ (jd (l5 (K:=K) rfl) (pv 0) (pv 1) (fun _ _=>rfl)) (fz (K:=K) rfl (pv 2) rfl) (aY _)))) (fun _ _ _ _=>(jd (l5 (K:=K) rfl) (pv 0) ai (fun _ _=>rfl)))) av))))
(au (bN (PW.pt (pw_and (aV sS (bX (pv 6) rfl) (pv 3) (aY _)) (pw_and1 (aV iO (pv 7) ai (aY _)))))
(au (bK (oW (pv 5) (cG (aa (bX (pv 6) rfl) (aa (pv 7) av))))))
bb))))
(au (a0 (pv 5)))))),?_⟩
  refine⟨_,rfl,_,rfl,pw,S,g,n,day,rfl,hW,wf,hz,fun pc cs H1 s1 nc hc hT=>?_⟩
  refine⟨bh _,fun pr nr=>?_⟩
  have nr0:=s1.free nr
  have sr:=aD.new (o:= .lst []) nr
  refine⟨_,rfl,pt,rfl,⟨_,bA.of ((s1.trans sr) _ _ wF)⟩,?_⟩
  refine fH (K:=K) (a:=pt) (xs:=qs.map V.ref) (fun i σ H2=> ∃(rs:List V) (x6 x7:Option V),σ=[some (.ref pw),some (.ref pt),some (.int (if aR=true then 1 else 0)),some (.int day),some (.ref pc),some (.ref pr),x6,x7]/\aD H1 H2/\H2 pr=some (.lst rs)/\iF H2 (((ks.take i).filter (pR S aR day)).map fun k=>(k,S.rest aR k day)) rs)
   ⟨[],none,none,rfl,sr,ag,.nil⟩ (fun i σ H2 _ ⟨_,_,_,_,s2,_⟩=>bA.of ((s1.trans s2) _ _ wF)) ?_ ?_
  ·rintro i x σ H2 hx ⟨rs,x6,x7,rfl,s2,yD,hP⟩
   rw[aB] at hx
   obtain⟨q,hq,rfl⟩:=bo.mp hx
   have hi:i < ks.length:=by have:=(ak.mp hq).1; lia
   have oP:=af hi
   obtain⟨q',sU,lL⟩:=bI hI oP
   rw[hq] at sU
   obtain rfl:q=q':=aF sU
   have k6:=fv (pR S aR day) oP
   generalize ks[i]=kk at lL k6
   have s02:=s1.trans s2
   obtain⟨dq,A6⟩:=lL.same s02
   have LR:=s2 _ _ hc
   have GL:=hT.mono s2.tk
   have qQ:=aL GL
   have VA:=aX (fun t=>decide (S.fS t<=day)) S.made
   have BC:rs.length<=100:=by
    have e1:=aL hP
    have e2:=aX (pR S aR day) (ks.take i)
    rw[ae] at e1
    rw[bf] at e2
    lia
   refine⟨_,rfl,q,_,dq,_,_,rfl,A6,Ar G aR,HE G aR,HC aR _ _,_,rfl,pc,rfl,⟨_,bA.of LR⟩,?_⟩
   refine dO (K:=K) (a:=pc) (xs:=cs) (fun D j σ H6=>H2 D=none/\ ∃v,σ=[v,some (.int (if aR=true then 1 else 0)),some (.ref q)]/\aD H2 H6/\H6 D=some (.lst (((((S.made.filter fun t=>decide (S.fS t<=day)).take j).filter fun t=>decide (spotOf aR t=kk)).map (·.2.2)).map V.int))) (fun D hD=>⟨hD,none,rfl,aD.new hD,ag⟩) (fun D j σ H6 _ ⟨_,_,_,t3,_⟩=>bA.of (t3 _ _ LR)) ?_ ?_
   ·rintro D j x σ H6 FA ⟨hD,v,rfl,t3,gi⟩
    have hj:j < (S.made.filter fun t=>decide (S.fS t<=day)).length:=by have:=(ak.mp FA).1; lia
    have TJ:=af hj
    obtain⟨v',hv,p,rfl,hp⟩:=bI GL TJ
    rw[FA] at hv
    obtain rfl:x= .ref p:=aF hv
    have J2:=fv (fun t=>decide (spotOf aR t=kk)) TJ
    generalize (S.made.filter fun t=>decide (S.fS t<=day))[j]=t at hp J2
    have hsz:((((S.made.filter fun t=>decide (S.fS t<=day)).take j).filter fun t=>decide (spotOf aR t=kk)).map (·.2.2)).length<=1000000:=by
     rw[ae]
     have e1:=aX (fun t=>decide (spotOf aR t=kk)) ((S.made.filter fun t=>decide (S.fS t<=day)).take j)
     rw[bf] at e1
     lia
    have NB:=t3 _ _ hp
    refine⟨_,rfl,_,rfl,p,_,_,_,rfl,rfl,cg.of NB,FI aR t,_,rfl,q,_,dq,_,_,rfl,t3 _ _ A6,Ar G aR,yK G aR,yJ aR _ _,rfl,_,rfl,cm (fun z=>?_) (fun z=>?_)⟩
    ·have z':spotOf aR t=kk:=by
      have:=aN z
      injection this with this
      lia
     rw[a8 (aG z')] at J2
     refine⟨_,rfl,p,_,_,.int t.2.2,rfl,rfl,cg.of NB,rfl,_,gi,i9 (by rw[ae]; exact hsz),hD,_,rfl,t3.cI hD,?_⟩
     rw[ag,J2,aK,aK]
     rfl
    ·have z': ¬ spotOf aR t=kk:=fun e=>z (aG (by rw[e]))
     rw[aU (by rw[bp z']; exact aW),bR] at J2
     refine⟨hD,_,rfl,t3,?_⟩
     rw[J2]
     exact gi
   ·rintro D σ H6 hD ⟨_,v,rfl,t3,gi⟩
    rw[← qQ,a7,qo] at gi
    refine⟨D,_,rfl,bA.of gi,_,_,rfl,rfl,?_⟩
    have Fp:tj aR ((S.rows aR).getD kk default) - ((S.made.filter fun t=>decide (spotOf aR t=kk) && decide (S.fS t<=day)).map (·.2.2)).sum=S.rest aR kk day:=rfl
    have NC:=t3 _ _ yD
    have Q2:=hP.mono t3.tk
    have s6:=s2.trans t3
    have no:pR S aR day kk=false-> ∃(rs:List V) (x6 x7:Option V),[some (V.ref pw),some (.ref pt),some (.int (if aR=true then 1 else 0)),some (.int day),some (.ref pc),some (.ref pr),some (.ref q),some (.int (S.rest aR kk day))]=[some (.ref pw),some (.ref pt),some (.int (if aR=true then 1 else 0)),some (.int day),some (.ref pc),some (.ref pr),x6,x7]/\aD H1 H6/\H6 pr=some (.lst rs)/\iF H6 (((ks.take (i + 1)).filter (pR S aR day)).map fun k=>(k,S.rest aR k day)) rs:=fun z=>by
     rw[aU (by rw[z]; exact aW),bR] at k6
     exact⟨rs,some (.ref q),some (.int (S.rest aR kk day)),rfl,s6,NC,by rw[k6]; exact Q2⟩
    refine⟨_,rfl,q,_,dq,_,_,rfl,t3 _ _ A6,Ar G aR,Py G aR,Px aR _ _,_,rfl,_,_,rfl,rfl,_,rfl,cm (fun z1=>?_) (fun z1=>bT (no ?_))⟩
    ·refine⟨_,rfl,_,_,rfl,rfl,_,rfl,cm (fun z2=>?_) (fun z2=>no ?_)⟩
     ·have yes:pR S aR day kk=true:=by
       unfold pR
       rw[aG (aN z1),aG (show 0 < S.rest aR kk day from aN z2)]; rfl
      rw[a8 yes] at k6
      refine⟨_,rfl,.inl ⟨rfl,_,bA.of NC⟩,_,rfl,q,_,dq,_,_,rfl,t3 _ _ A6,Ar G aR,yK G aR,yJ aR _ _,_,rfl,(by show 2<=sizeLine; decide),fun p8 n8=>?_⟩
      have t8:=aD.new (o:= .tup [V.int (kk:Int),.int (S.rest aR kk day)]) n8
      refine⟨pr,rs,_,rfl,rfl,t8 _ _ NC,a9 (by lia),rs ++ [.ref p8],some (.ref q),some (.int (S.rest aR kk day)),rfl,(s6.trans t8).cI nr,ag,?_⟩
      rw[k6,aK]
      have tk:=t8.tk.trans (dQ (o:= .lst (rs ++ [.ref p8])) (t8 _ _ NC))
      have fin:iF (upd (upd H6 p8 (.tup [V.int (kk:Int),.int (S.rest aR kk day)])) pr (.lst (rs ++ [.ref p8]))) ((((ks.take i).filter (pR S aR day)).map fun k=>(k,S.rest aR k day)) ++ [(kk,S.rest aR kk day)]) (rs ++ [.ref p8]):=cz (Q2.mono tk) ⟨p8,rfl,dQ (o:= .lst (rs ++ [.ref p8])) (t8 _ _ NC) _ _ ag⟩
      exact fin
     ·unfold pR
      rw[bp (show ¬ 0 < S.rest aR kk day from fun e=>z2 (aG e)),lS]
    ·unfold pR
     rw[bp (fun e=>z1 (aG e)),qt]
  ·rintro σ H2 ⟨rs,x6,x7,rfl,s2,yD,hP⟩
   rw[ae,← hlen,a7] at hP
   exact⟨_,rfl,k pr rs H2 (s1.trans s2) nr0 yD hP⟩
structure qr (K:Frag)(mg:Str->Option Value)(x:Str)(st:Stmt)(tb:Addr):Prop where
 ex: ∃(f c:Addr) (oc:Value) (od:Option Addr) (kV doc pm:Value) (an:Option Addr) (ct:Value) (Gx:Array (Option Value)),K.lookup f=some ⟨oc,od,.func (fnOf x x (gH st) (dB st) (ay st) .none kV doc pm an (.ref c) ct),Gx⟩/\codeIn K (.ref c) x=true/\
  keepIn K (.ref f)=true/\mg x=some (.ref f)/\codeHdIn K c tb=true
theorem qr.fe {x:Str}{st:Stmt}{tb:Addr}{N ps:List Str}{k:Nat}{sp:Sp}(D:qr K mg x st tb)(KB:K.In base)(S:aS N ps (ay st))
  (fX: ∀(f c:Addr) (A:Around) (outer:List Env) (s:Shared) (H:Hp) (vs:List V) (Q:VK) (E:XK),PySem.W.CodeHd base c tb->fb k (A.deeper (envOfC x (ay st) s.heap.objs.size f (.ref c)))->sp vs H Q E->
   ∃t,oS (lp sf P w K mg base N x (ay st) f (.ref c) A outer s H E).EK (dB st) t/\t {nx:=fun _ H'=>Q .eu H',rt:=Q} (L2.start N vs) H)
  (hb: ∀(kV doc pm:Value) (an:Option Addr) (cU ct:Value) (us:List Value),us.length=ps.length->bindArgs (fnOf x x (gH st) (dB st) (ay st) .none kV doc pm an cU ct) ⟨us,[]⟩=pure (ps.zip us):=by intro _ _ _ _ _ _ us hl; rcases us with _|⟨_,_|⟨_,_|⟨_,_⟩⟩⟩ <;> first|(cases hl; done)|rfl)
  (len: ∀vs H Q E,sp vs H Q E->vs.length=ps.length:=by intro _ _ _ _ h; first|(cases h; subst_vars; rfl)|(repeat (first|(obtain⟨rfl,_⟩:=h; rfl; done)|obtain⟨_,h⟩:=h))):eM P w K mg base x (k + 1) ps sp:=by
 obtain⟨f,c,oc,od,kV,doc,pm,an,ct,Gx,lk,rK,hk,hm,hh⟩:=D.ex
 have F:gp K x x st f _:=pL lk rK hk
 refine⟨f,_,IS lk rK S len fun A outer s H vs Q E hr y2=>?_,hm,hk,F.binds hb⟩
 obtain⟨t,h,q⟩:=fX f c A outer s H vs Q E (PySem.W.codeHd_of_K KB hh) hr y2
 exact⟨t,h.EK,q⟩
theorem rB {th:List (Int×Nat)}{i:Nat}(h:i < th.length):(th.map Fx).getD i []=Fx (th.getD i (0,0)):=getD_map Fx th i (0,0) [] h
theorem vZ {th:List (Int×Nat)}{p:List Nat}(h1: ∀x∈th,x.2 < 1000)(nd:(th.map (·.2)).Nodup)(hp:p.Perm (List.range th.length))(le:p.Pairwise (fun i j=>ua ((th.map Fx).getD i [])<=ua ((th.map Fx).getD j []))):p.map (fun i=>th.getD i (0,0))=ez th:=by
 have hr:(List.range th.length).map (fun i=>th.getD i (0,0))=th:=yq th (0,0)
 refine nu tX _ _ ((hp.map _).trans ((List.Perm.of_eq hr).trans (dg th).symm)) ?_ (BY h1 nd)
 rw[rQ]
 refine le.imp_of_mem fun{a b} ha hb z=>?_
 have la:a < th.length:=dk.mp (hp.mem_iff.mp ha)
 have lb:b < th.length:=dk.mp (hp.mem_iff.mp hb)
 rw[rB la,rB lb] at z
 exact z
theorem nS {α β:Type}{F:α->β->Prop}{l₁:List α}{l₂:List β}(h:Paired F l₁ l₂)(d:α)(e:β): ∀p:List Nat,(∀i∈p,i < l₁.length)->Paired F (p.map fun i=>l₁.getD i d) (p.map fun i=>l₂.getD i e)
 |[],_=> .nil
 |i :: p,hi=>by
  have hl:=hi i bJ
  obtain⟨b,e1,e2⟩:=bI h (af hl)
  refine .cons ?_ (nS h d e p fun j hj=>hi j (ba _ hj))
  show F (l₁.getD i d) (l₂.getD i e)
  rw[aj,aj,af hl,e1]
  exact e2
theorem bM {H H':Hp}{tb:Addr}{pos:Pos}{qual:Str}(t:Tb H tb pos qual)(s:aD H H'):Tb H' tb pos qual:=by
 obtain⟨ps,h1,h2,h3⟩:=t
 refine⟨ps,s _ _ h1,h2,?_⟩
 rcases h3 with h3|⟨c',h3,h4⟩
 ·exact .inl h3
 ·exact .inr ⟨c',h3,s _ _ h4⟩
theorem v7 {H:Hp}{tb q C:Addr}{pos:Pos}{qual:Str}{fs:List (Str×V)}(t:Tb H tb pos qual)(h:eA H q C fs):q∉[tb]:=fun z=>by
 obtain⟨ps,h1,_⟩:=t
 obtain⟨dx,e⟩:=h
 rw[ao.mp z,h1] at e
 cases e
def Pz:Pos:=⟨69,30,69,66⟩
def fh (rows:List Rw)(aH:Str)(i:Nat):List Nat:=(List.range i).filter fun k=>decide ((rows.getD k default).aH=aH)
inductive uC (A:dY)(tb:Addr)(vs:List V)(H:Hp)(Q:VK)(E':XK):Prop
 |mk (pb:Addr)(iA:List Addr)(S:Bk)(aH:Str)(h1:vs=[.ref pb,.str aH])(h2:H pb=some (.lst (iA.map V.ref)))(h3:gw H A.dW fC S.aI iA)(h4:S.aI.length < 64)(h5:Tb H tb Pz ((("bills_in_order":Str) ++ ".<locals>.") ++ "<lambda>"))(h6: ∀D qs H',Frame [tb] H H'->Tb H' tb Pz ((("bills_in_order":Str) ++ ".<locals>.") ++ "<lambda>")->H D=none->H' D=some (.lst (qs.map V.ref))->iE A H' S (inOrder S.aI aH (·.b)) qs->Q (.ref D) H'):uC A tb vs H Q E'
theorem kM:aS ["bills","who","theirs"] ["bills","who"] (ay (top 17)):={}
theorem lM (T:Txt K mg){A:dY}{tb:Addr}(G:jB K mg A)(DL:qr K mg "bills_in_order" (top 17) tb)(KB:K.In base)(BM:BMain mg base):eM P w K mg base "bills_in_order" 2 ["bills","who"] (uC A tb):=by
 refine DL.fe (k:=1) KB kM (fun f c A' outer s H vs Q E CH hr h=>?_)
 ·obtain⟨pb,iA,S,aH,rfl,TL,hO,hl,X1,k⟩:=h
  have nd:=kM.nd
  refine⟨_,(ah (jN (i:=2) nd rfl (Or.inl rfl) (tn:=["bill"]) (cn:=["who"]) (cj:=[1]) rfl (gY (zo:=[(".0",.local),("bill",.local),("who",.cell)])) (cO (pv 0)) (fun _ _ _ _=>(dU (i:=0) (show(["bill","who"]:List Str).Nodup by decide +kernel) rfl (Or.inl rfl))) (fun _ _ _ _=>(mZ (aV cJ (fz (K:=K) rfl (pv 0) rfl) (pv 1) (aY _)))) (fun _ _ _ _=>(pv 0)))
(au (a0 (vy (N:=["bill"]) (y:="bill") rfl T.qR BM rfl CH (hr.mono (by decide)) {} (fun _ _ _ _ _=>(cG (aa (fz (K:=K) rfl (pv 0) rfl) (aa (fz (K:=K) rfl (pv 0) rfl) av)))) (pv 2))))),?_⟩
  refine⟨_,rfl,pb,rfl,⟨_,bA.of TL⟩,?_⟩
  refine dO (K:=K) (a:=pb) (xs:=iA.map V.ref) (fun D i σ H6=>H D=none/\ ∃(v:Option V) (qs:List Addr),σ=[v,some (.str aH)]/\aD H H6/\H6 D=some (.lst (qs.map V.ref))/\iE A H6 S (fh S.aI aH i) qs) (fun D hD=>⟨hD,none,[],rfl,aD.new hD,ag,.nil⟩) (fun D i σ H6 _ ⟨_,_,_,_,t3,_⟩=>bA.of (t3 _ _ TL)) ?_ ?_
  ·rintro D i x σ H6 hx ⟨hD,v,qs,rfl,t3,gi,hB⟩
   rw[aB] at hx
   obtain⟨q,hq,rfl⟩:=bo.mp hx
   have hi:i < S.aI.length:=by have:=(ak.mp hq).1; have:=hO.1; lia
   obtain⟨dq,A6⟩:=(hO.2 i q hq).same t3
   have X2:qs.length<=100:=by
    have e1:=aL hB
    have e2:(fh S.aI aH i).length<=i:=aZ (aX _ _) (by rw[dr]; exact aE _)
    lia
   have rC:fh S.aI aH (i + 1)=fh S.aI aH i ++ (if decide ((S.aI.getD i default).aH=aH)=true then[i] else[]):=by
    unfold fh
    rw[oC,kr]
    congr 1
    by_cases z:decide ((S.aI.getD i default).aH=aH)=true
    ·rw[a8 z,cv (p:=fun k=>decide ((S.aI.getD k default).aH=aH)) z]; rfl
    ·rw[aU z,gT (p:=fun k=>decide ((S.aI.getD k default).aH=aH)) z]; rfl
   refine⟨_,rfl,q,_,dq,_,_,rfl,A6,G.d9,G.kH,DY _ _,_,rfl,rfl,_,rfl,cm (fun z=>?_) (fun z=>?_)⟩
   ·rw[a8 (aG (uw z))] at rC
    refine⟨_,rfl,_,gi,a9 (by rw[ae]; lia),hD,_,qs ++ [q],rfl,t3.cI hD,by rw[ag,aK]; rfl,?_⟩
    rw[rC]
    have kp: ∀{y C:Addr} {gs:List (Str×V)},eA H6 y C gs->eA (upd H6 D (.lst (qs.map V.ref ++ [V.ref q]))) y C gs:=fun{y C gs} ⟨dy,ey⟩=>⟨dy,by rw[az (mz ey gi (by intro w; cases w))]; exact ey⟩
    exact cz (Paired.gP hB fun _ _ w=>kp w) (kp ⟨dq,A6⟩)
   ·rw[aU (by rw[bp (rm z)]; exact aW),bR] at rC
    refine⟨hD,_,qs,rfl,t3,gi,?_⟩
    rw[rC]
    exact hB
  ·rintro D σ H6 hD ⟨_,v,qs,rfl,t3,gi,hB⟩
   have Mx:(iA.map V.ref).length=S.aI.length:=by rw[ae]; exact hO.1
   rw[Mx] at hB
   have HF:=bM X1 t3
   have hth:gu S.aI aH (·.b)=(fh S.aI aH S.aI.length).map fun k=>((S.bl k).b,k):=rfl
   have Fy: ∀x∈fh S.aI aH S.aI.length,x < S.aI.length:=fun x hx=>dk.mp (eY.mp hx).1
   have Ma:(fh S.aI aH S.aI.length).Nodup:=mH.filter _
   have X3:(fh S.aI aH S.aI.length).length<=S.aI.length:=aZ (aX _ _) (by rw[dr]; exact aE _)
   have jU:inOrder S.aI aH (·.b)=(ez ((fh S.aI aH S.aI.length).map fun k=>((S.bl k).b,k))).map (·.2):=rfl
   generalize fh S.aI aH S.aI.length=ks at hB Fy Ma X3 jU
   have X4:=aL hB
   have Ka:((ks.map fun k=>((S.bl k).b,k)):List (Int×Nat)).length=ks.length:=ae _
   have rD: ∀x∈(ks.map fun k=>((S.bl k).b,k)),x.2 < 1000:=fun x hx=>by
    obtain⟨k0,QL,rfl⟩:=bF.mp hx
    have:=Fy k0 QL
    show k0 < 1000
    lia
   have hnd:((ks.map fun k=>((S.bl k).b,k)).map (·.2)).Nodup:=by
    rw[eD]
    have e:((fun x:Int×Nat=>x.2) ∘ fun k=>((S.bl k).b,k))=id:=rfl
    rw[e,Ba]
    exact Ma
   have xI: ∀i,i < ks.length->(ks.map fun k=>((S.bl k).b,k)).getD i (0,0)=((S.bl (ks.getD i 0)).b,ks.getD i 0):=fun i hi=>getD_map (fun k=>((S.bl k).b,k)) ks i 0 (0,0) hi
   generalize X5:(ks.map fun k=>((S.bl k).b,k))=th at Ka rD hnd xI jU
   refine⟨_,rfl,D,qs.map V.ref,th.map Fx,ua,rfl,bA.of gi,by rw[ae]; lia,by rw[ae,ae]; lia,HF,(fun t ht=>?_),(fun t ht u hu=>?_),fun i hi H2 fr R hR=>?_,fun D2 p H2 hp le fr GL Ir Hx=>?_⟩
   ·obtain⟨x,_,rfl⟩:=bF.mp ht
    simp[Fx]
   ·obtain⟨x,yr,rfl⟩:=bF.mp ht
    obtain⟨y,Ag,rfl⟩:=bF.mp hu
    exact qS (rD x yr) (rD y Ag) (fun e=>⟨rfl,lK hnd yr Ag e⟩) rfl
   ·rw[ae] at hi
    have wW:i < ks.length:=by lia
    obtain⟨q,e1,e2⟩:=bI hB (af wW)
    have X6:(qs.map V.ref).getD i .eu= .ref q:=by rw[aj,aB,e1]; rfl
    have X7:ks.getD i 0=ks[i]:=by rw[aj,af wW]; rfl
    obtain⟨dq,A6⟩:=e2.frame fr (v7 HF e2)
    rw[rB (by lia),xI i wW,X7] at hR
    rw[X6]
    exact⟨_,rfl,q,_,dq,_,_,rfl,A6,G.d9,G.ny,JJ _ _,_,rfl,q,_,dq,_,_,rfl,A6,G.d9,G.eV,lE _ _,(by show 2<=sizeLine; decide),fun p np=>hR p np⟩
   ·rw[ae] at hp
    have gQ: ∀i∈p,i < ks.length:=fun i hi=>by have:=dk.mp (hp.mem_iff.mp hi); lia
    have PB:=vZ rD hnd (by rw[Ka,X4]; exact hp) le
    have Lc:iE A H2 S ks qs:=Paired.gP hB fun _ _ w=>w.frame fr (v7 HF w)
    refine k D2 (p.map fun i=>qs.getD i tb) H2 ((t3.frame).tr fr) GL (t3.free Ir) ?_ ?_
    ·rw[Hx,eD]
     congr 2
     apply gS
     intro i hi
     exact getD_map V.ref qs i tb .eu (by have:=gQ i hi; lia)
    ·rw[jU,← PB,eD]
     have e:p.map ((fun x:Int×Nat=>x.2) ∘ fun i=>th.getD i (0,0))=p.map fun i=>ks.getD i 0:=gS fun i hi=>by
      show(th.getD i (0,0)).2=_
      rw[xI i (gQ i hi)]
     rw[e]
     exact nS Lc 0 tb p gQ
def PD:Pos:=⟨72,30,72,72⟩
inductive uD (A:dY)(tb:Addr)(vs:List V)(H:Hp)(Q:VK)(E':XK):Prop
 |mk (pb:Addr)(iA:List Addr)(S:Bk)(aH:Str)(h1:vs=[.ref pb,.str aH])(h2:H pb=some (.lst (iA.map V.ref)))(h3:gw H A.d8 ff S.credits iA)(h4:S.credits.length < 64)(h5:Tb H tb PD ((("credits_in_order":Str) ++ ".<locals>.") ++ "<lambda>"))(h6: ∀D qs H',Frame [tb] H H'->Tb H' tb PD ((("credits_in_order":Str) ++ ".<locals>.") ++ "<lambda>")->H D=none->H' D=some (.lst (qs.map V.ref))->gK A H' S (inOrder S.credits aH (·.a)) qs->Q (.ref D) H'):uD A tb vs H Q E'
theorem jx:aS ["all_credits","who","theirs"] ["all_credits","who"] (ay (top 18)):={}
theorem j9 (T:Txt K mg){A:dY}{tb:Addr}(G:jB K mg A)(DL:qr K mg "credits_in_order" (top 18) tb)(KB:K.In base)(BM:BMain mg base):eM P w K mg base "credits_in_order" 2 ["all_credits","who"] (uD A tb):=by
 refine DL.fe (k:=1) KB jx (fun f c A' outer s H vs Q E CH hr h=>?_)
 ·obtain⟨pb,iA,S,aH,rfl,TL,hO,hl,X1,k⟩:=h
  have nd:=jx.nd
  refine⟨_,(ah (jN (i:=2) nd rfl (Or.inl rfl) (tn:=["credit"]) (cn:=["who"]) (cj:=[1]) rfl (gY (zo:=[(".0",.local),("credit",.local),("who",.cell)])) (cO (pv 0)) (fun _ _ _ _=>(dU (i:=0) (show(["credit","who"]:List Str).Nodup by decide +kernel) rfl (Or.inl rfl))) (fun _ _ _ _=>(mZ (aV cJ (fz (K:=K) rfl (pv 0) rfl) (pv 1) (aY _)))) (fun _ _ _ _=>(pv 0)))
(au (a0 (vy (N:=["credit"]) (y:="credit") rfl T.qR BM rfl CH (hr.mono (by decide)) {} (fun _ _ _ _ _=>(cG (aa (fz (K:=K) rfl (pv 0) rfl) (aa (fz (K:=K) rfl (pv 0) rfl) av)))) (pv 2))))),?_⟩
  refine⟨_,rfl,pb,rfl,⟨_,bA.of TL⟩,?_⟩
  refine dO (K:=K) (a:=pb) (xs:=iA.map V.ref) (fun D i σ H6=>H D=none/\ ∃(v:Option V) (qs:List Addr),σ=[v,some (.str aH)]/\aD H H6/\H6 D=some (.lst (qs.map V.ref))/\gK A H6 S (fh S.credits aH i) qs) (fun D hD=>⟨hD,none,[],rfl,aD.new hD,ag,.nil⟩) (fun D i σ H6 _ ⟨_,_,_,_,t3,_⟩=>bA.of (t3 _ _ TL)) ?_ ?_
  ·rintro D i x σ H6 hx ⟨hD,v,qs,rfl,t3,gi,hB⟩
   rw[aB] at hx
   obtain⟨q,hq,rfl⟩:=bo.mp hx
   have hi:i < S.credits.length:=by have:=(ak.mp hq).1; have:=hO.1; lia
   obtain⟨dq,A6⟩:=(hO.2 i q hq).same t3
   have X2:qs.length<=100:=by
    have e1:=aL hB
    have e2:(fh S.credits aH i).length<=i:=aZ (aX _ _) (by rw[dr]; exact aE _)
    lia
   have rC:fh S.credits aH (i + 1)=fh S.credits aH i ++ (if decide ((S.credits.getD i default).aH=aH)=true then[i] else[]):=by
    unfold fh
    rw[oC,kr]
    congr 1
    by_cases z:decide ((S.credits.getD i default).aH=aH)=true
    ·rw[a8 z,cv (p:=fun k=>decide ((S.credits.getD k default).aH=aH)) z]; rfl
    ·rw[aU z,gT (p:=fun k=>decide ((S.credits.getD k default).aH=aH)) z]; rfl
   refine⟨_,rfl,q,_,dq,_,_,rfl,A6,G.dh,G.kY,JK _ _,_,rfl,rfl,_,rfl,cm (fun z=>?_) (fun z=>?_)⟩
   ·rw[a8 (aG (uw z))] at rC
    refine⟨_,rfl,_,gi,a9 (by rw[ae]; lia),hD,_,qs ++ [q],rfl,t3.cI hD,by rw[ag,aK]; rfl,?_⟩
    rw[rC]
    have kp: ∀{y C:Addr} {gs:List (Str×V)},eA H6 y C gs->eA (upd H6 D (.lst (qs.map V.ref ++ [V.ref q]))) y C gs:=fun{y C gs} ⟨dy,ey⟩=>⟨dy,by rw[az (mz ey gi (by intro w; cases w))]; exact ey⟩
    exact cz (Paired.gP hB fun _ _ w=>kp w) (kp ⟨dq,A6⟩)
   ·rw[aU (by rw[bp (rm z)]; exact aW),bR] at rC
    refine⟨hD,_,qs,rfl,t3,gi,?_⟩
    rw[rC]
    exact hB
  ·rintro D σ H6 hD ⟨_,v,qs,rfl,t3,gi,hB⟩
   have Mx:(iA.map V.ref).length=S.credits.length:=by rw[ae]; exact hO.1
   rw[Mx] at hB
   have HF:=bM X1 t3
   have hth:gu S.credits aH (·.a)=(fh S.credits aH S.credits.length).map fun k=>((S.cr k).a,k):=rfl
   have Fy: ∀x∈fh S.credits aH S.credits.length,x < S.credits.length:=fun x hx=>dk.mp (eY.mp hx).1
   have Ma:(fh S.credits aH S.credits.length).Nodup:=mH.filter _
   have X3:(fh S.credits aH S.credits.length).length<=S.credits.length:=aZ (aX _ _) (by rw[dr]; exact aE _)
   have jU:inOrder S.credits aH (·.a)=(ez ((fh S.credits aH S.credits.length).map fun k=>((S.cr k).a,k))).map (·.2):=rfl
   generalize fh S.credits aH S.credits.length=ks at hB Fy Ma X3 jU
   have X4:=aL hB
   have Ka:((ks.map fun k=>((S.cr k).a,k)):List (Int×Nat)).length=ks.length:=ae _
   have rD: ∀x∈(ks.map fun k=>((S.cr k).a,k)),x.2 < 1000:=fun x hx=>by
    obtain⟨k0,QL,rfl⟩:=bF.mp hx
    have:=Fy k0 QL
    show k0 < 1000
    lia
   have hnd:((ks.map fun k=>((S.cr k).a,k)).map (·.2)).Nodup:=by
    rw[eD]
    have e:((fun x:Int×Nat=>x.2) ∘ fun k=>((S.cr k).a,k))=id:=rfl
    rw[e,Ba]
    exact Ma
   have xI: ∀i,i < ks.length->(ks.map fun k=>((S.cr k).a,k)).getD i (0,0)=((S.cr (ks.getD i 0)).a,ks.getD i 0):=fun i hi=>getD_map (fun k=>((S.cr k).a,k)) ks i 0 (0,0) hi
   generalize X5:(ks.map fun k=>((S.cr k).a,k))=th at Ka rD hnd xI jU
   refine⟨_,rfl,D,qs.map V.ref,th.map Fx,ua,rfl,bA.of gi,by rw[ae]; lia,by rw[ae,ae]; lia,HF,(fun t ht=>?_),(fun t ht u hu=>?_),fun i hi H2 fr R hR=>?_,fun D2 p H2 hp le fr GL Ir Hx=>?_⟩
   ·obtain⟨x,_,rfl⟩:=bF.mp ht
    simp[Fx]
   ·obtain⟨x,yr,rfl⟩:=bF.mp ht
    obtain⟨y,Ag,rfl⟩:=bF.mp hu
    exact qS (rD x yr) (rD y Ag) (fun e=>⟨rfl,lK hnd yr Ag e⟩) rfl
   ·rw[ae] at hi
    have wW:i < ks.length:=by lia
    obtain⟨q,e1,e2⟩:=bI hB (af wW)
    have X6:(qs.map V.ref).getD i .eu= .ref q:=by rw[aj,aB,e1]; rfl
    have X7:ks.getD i 0=ks[i]:=by rw[aj,af wW]; rfl
    obtain⟨dq,A6⟩:=e2.frame fr (v7 HF e2)
    rw[rB (by lia),xI i wW,X7] at hR
    rw[X6]
    exact⟨_,rfl,q,_,dq,_,_,rfl,A6,G.dh,G.ja,JL _ _,_,rfl,q,_,dq,_,_,rfl,A6,G.dh,G.eO,oq _ _,(by show 2<=sizeLine; decide),fun p np=>hR p np⟩
   ·rw[ae] at hp
    have gQ: ∀i∈p,i < ks.length:=fun i hi=>by have:=dk.mp (hp.mem_iff.mp hi); lia
    have PB:=vZ rD hnd (by rw[Ka,X4]; exact hp) le
    have Lc:gK A H2 S ks qs:=Paired.gP hB fun _ _ w=>w.frame fr (v7 HF w)
    refine k D2 (p.map fun i=>qs.getD i tb) H2 ((t3.frame).tr fr) GL (t3.free Ir) ?_ ?_
    ·rw[Hx,eD]
     congr 2
     apply gS
     intro i hi
     exact getD_map V.ref qs i tb .eu (by have:=gQ i hi; lia)
    ·rw[jU,← PB,eD]
     have e:p.map ((fun x:Int×Nat=>x.2) ∘ fun i=>th.getD i (0,0))=p.map fun i=>ks.getD i 0:=gS fun i hi=>by
      show(th.getD i (0,0)).2=_
      rw[xI i (gQ i hi)]
     rw[e]
     exact nS Lc 0 tb p gQ
theorem v8 {A:dY}{H H':Hp}{pw tb:Addr}{S:Bk}{f:eN}(h:dE A H pw S f)(ht: ∃ps,H tb=some (.mO ps))(fr:Frame [tb] H H'):dE A H' pw S f:=by
 obtain⟨ps,ht⟩:=ht
 have kl: ∀{a:Addr} {xs:List V},H a=some (.lst xs)->H' a=some (.lst xs):=fun{a xs} e=>fr _ _ (fun z=>by rw[ao.mp z,ht] at e; cases e) e
 have ki: ∀{a C dx:Addr} {gs:List (Str×V)},H a=some (.ins C dx gs)->H' a=some (.ins C dx gs):=fun{a C dx gs} e=>fr _ _ (fun z=>by rw[ao.mp z,ht] at e; cases e) e
 have kt:cH H H':=fun a xs e=>fr _ _ (fun z=>by rw[ao.mp z,ht] at e; cases e) e
 obtain⟨dw,hw⟩:=h.obj
 obtain⟨ms,m1,m2⟩:=h.hm
 exact⟨⟨dw,ki hw⟩,kl h.hb,kl h.hc,kl h.hl,kl h.hf,⟨ms,kl m1,m2.mono kt⟩,h.rb.keep fun _ _ _ e=>ki e,h.rc.keep fun _ _ _ e=>ki e,h.nd⟩
def lN (H:Hp)(tb:Addr):Prop:=Tb H tb Pz ((("bills_in_order":Str) ++ ".<locals>.") ++ "<lambda>")
def mr (H:Hp)(tb:Addr):Prop:=Tb H tb PD ((("credits_in_order":Str) ++ ".<locals>.") ++ "<lambda>")
inductive As (A:dY)(tb:Addr)(vs:List V)(H:Hp)(Q:VK)(E':XK):Prop
 |mk (pw:Addr)(S:Bk)(f:eN)(n:Nat)(aH:Str)(day:Int)(h1:vs=[.ref pw,.str aH,.int day])(h2:dE A H pw S f)(h3:WF S n)(h4:n<=60)(h5:lN H tb)(h6: ∀D ms H',Frame [tb] H H'->lN H' tb->H D=none->H' D=some (.lst ms)->iF H' (S.fu true aH day) ms->Q (.ref D) H'):As A tb vs H Q E'
inductive Eh (A:dY)(tb:Addr)(vs:List V)(H:Hp)(Q:VK)(E':XK):Prop
 |mk (pw:Addr)(S:Bk)(f:eN)(n:Nat)(aH:Str)(day:Int)(h1:vs=[.ref pw,.str aH,.int day])(h2:dE A H pw S f)(h3:WF S n)(h4:n<=60)(h5:mr H tb)(h6: ∀D ms H',Frame [tb] H H'->mr H' tb->H D=none->H' D=some (.lst ms)->iF H' (S.fu false aH day) ms->Q (.ref D) H'):Eh A tb vs H Q E'
theorem Ei:aS ["work","who","day"] ["work","who","day"] (ay (top 36)):={}
theorem yL (T:Txt K mg){A:dY}{tb:Addr}(G:jB K mg A)(DL:qr K mg "bills_in_order" (top 17) tb)(KB:K.In base)(BM:BMain mg base):eM P w K mg base "owed_at" 5 ["work","who","day"] (As A tb):=by
 have i6:eM P w K mg base "bills_in_order" 2 ["bills","who"] (uC A tb):=lM T G DL KB BM
 have ka:eM P w K mg base "remaining_at" 4 ["work","told","place","day"] (rA A):=nR T G
 refine T.G7.fe (k:=4) Ei (fun f cU A' outer s H vs Q E hr h=>?_)
 ·obtain⟨pw,S,g,n,aH,day,rfl,hW,wf,hn,hT,k⟩:=h
  obtain⟨dw,hw⟩:=hW.obj
  refine⟨_,(au (a0 (fc ka hr (aa (pv 0) (aa (fc i6 hr (aa (bX (pv 0) rfl) (aa (pv 1) av))) (aa ai (aa (pv 2) av))))))),?_⟩
  refine⟨_,rfl,_,rfl,pw,_,dw,_,_,rfl,hw,G.bH,G.dX,ji g,_,rfl,g.pb,g.iA,S,aH,rfl,hW.hb,hW.rb,(by have:=wf.lb; lia),hT,fun D qs H1 fr Iu nD hD hB=>?_⟩
  have Dh:=v8 hW (let⟨ps,e,_⟩:=hT; ⟨ps,e⟩) fr
  have MD:(inOrder S.aI aH (·.b)).length<=100:=by
   have e:(inOrder S.aI aH (·.b)).length=((List.range S.aI.length).filter fun k=>decide ((S.aI.getD k default).aH=aH)).length:=by
    unfold inOrder gu
    rw[ae,(dg _).length_eq,ae]
   have:=aX (fun k=>decide ((S.aI.getD k default).aH=aH)) (List.range S.aI.length)
   rw[dr] at this
   have:=wf.lb
   lia
  refine⟨_,rfl,pw,D,S,g,n,true,day,inOrder S.aI aH (·.b),qs,rfl,Dh,wf,(by have:=wf.lm; lia),hD,hB,MD,fun D2 ms H2 s2 Ir Hx hP=>?_⟩
  exact k D2 ms H2 (fr.cX s2) (bM Iu s2) (fr.free (fun z=>by
   obtain⟨ps,e,_⟩:=Iu
   rw[ao.mp z,e] at Ir
   cases Ir) Ir) Hx hP
theorem Ej:aS ["work","who","day"] ["work","who","day"] (ay (top 37)):={}
theorem HG (T:Txt K mg){A:dY}{tb:Addr}(G:jB K mg A)(DL:qr K mg "credits_in_order" (top 18) tb)(KB:K.In base)(BM:BMain mg base):eM P w K mg base "free_at" 5 ["work","who","day"] (Eh A tb):=by
 have hJ:eM P w K mg base "credits_in_order" 2 ["all_credits","who"] (uD A tb):=j9 T G DL KB BM
 have ka:eM P w K mg base "remaining_at" 4 ["work","told","place","day"] (rA A):=nR T G
 refine T.G8.fe (k:=4) Ej (fun f cU A' outer s H vs Q E hr h=>?_)
 ·obtain⟨pw,S,g,n,aH,day,rfl,hW,wf,hn,hT,k⟩:=h
  obtain⟨dw,hw⟩:=hW.obj
  refine⟨_,(au (a0 (fc ka hr (aa (pv 0) (aa (fc hJ hr (aa (bX (pv 0) rfl) (aa (pv 1) av))) (aa ai (aa (pv 2) av))))))),?_⟩
  refine⟨_,rfl,_,rfl,pw,_,dw,_,_,rfl,hw,G.bH,G.cF,g9 g,_,rfl,g.pc,g.cps,S,aH,rfl,hW.hc,hW.rc,(by have:=wf.lc; lia),hT,fun D qs H1 fr Iu nD hD hB=>?_⟩
  have Dh:=v8 hW (let⟨ps,e,_⟩:=hT; ⟨ps,e⟩) fr
  have MD:(inOrder S.credits aH (·.a)).length<=100:=by
   have e:(inOrder S.credits aH (·.a)).length=((List.range S.credits.length).filter fun k=>decide ((S.credits.getD k default).aH=aH)).length:=by
    unfold inOrder gu
    rw[ae,(dg _).length_eq,ae]
   have:=aX (fun k=>decide ((S.credits.getD k default).aH=aH)) (List.range S.credits.length)
   rw[dr] at this
   have:=wf.lc
   lia
  refine⟨_,rfl,pw,D,S,g,n,false,day,inOrder S.credits aH (·.a),qs,rfl,Dh,wf,(by have:=wf.lm; lia),hD,hB,MD,fun D2 ms H2 s2 Ir Hx hP=>?_⟩
  exact k D2 ms H2 (fr.cX s2) (bM Iu s2) (fr.free (fun z=>by
   obtain⟨ps,e,_⟩:=Iu
   rw[ao.mp z,e] at Ir
   cases Ir) Ir) Hx hP
inductive Au (vs:List V)(H:Hp)(Q:VK)(E':XK):Prop
 |mk (fS:Int)(pl:Addr)(bO:List Int)(h1:vs=[.int fS,.ref pl])(h2:H pl=some (.tup (bO.map V.int)))(h3:bO.length<=11)(h4: ∀H',aD H H'->Q (.int (L2.placeOf fS bO:Int)) H'):Au vs H Q E'
theorem CJ:aS ["late","limits"] ["late","limits"] (ay (top 1)):={}
theorem Ek (T:Txt K mg):eM P w K mg base "place_of" 1 ["late","limits"] Au:=by
 refine T.DU.fe (k:=0) CJ (fun f cU A' outer s H vs Q E hr h=>?_)
 ·obtain⟨fS,pl,bO,rfl,gQ,Ed,k⟩:=h
  refine⟨_,(ah (bN (aV sS (pv 0) ai (aY _))
(au (a0 ai))
bb)
(au (a0 (aO cB ai (mh T.dD (gq (tn:=["limit"]) (cn:=["late"]) (cj:=[0]) rfl (gY (zo:=[(".0",.local),("limit",.local),("late",.cell)])) (ID (pv 1)) (fun _ _ _ _=>(dU (i:=0) (show(["limit","late"]:List Str).Nodup by decide +kernel) rfl (Or.inl rfl))) (fun _ _ _ _=>(mZ (aV ju (pv 0) (pv 1) (aY _)))) (fun _ _ _ _=>(pv 0)))))))),?_⟩
  refine⟨_,rfl,_,_,rfl,rfl,_,rfl,cm (fun z=>?_) (fun z=>?_)⟩
  ·have z':fS<=0:=aN z
   have e:L2.placeOf fS bO=0:=a8 z'
   have q:=k H (aD.refl _)
   rw[e] at q
   exact q
  have z': ¬ fS<=0:=fun q=>z (aG q)
  have e:L2.placeOf fS bO=1 + (bO.filter fun l=>decide (l < fS)).length:=aU z'
  refine⟨_,rfl,pl,rfl,⟨_,cg.of gQ⟩,?_⟩
  refine BB (K:=K) (a:=pl) (xs:=bO.map V.int) (fun D' j σ H6=>H D'=none/\ ∃v,σ=[v,some (.int fS)]/\aD H H6/\H6 D'=some (.lst (((bO.take j).filter fun l=>decide (l < fS)).map V.int))) (fun D' pX=>⟨pX,none,rfl,aD.new pX,ag⟩) (fun D' j σ H6 _ ⟨_,_,_,t3,_⟩=>cg.of (t3 _ _ gQ)) ?_ ?_
  ·rintro D' j x σ H6 FA ⟨pX,v,rfl,t3,gi⟩
   rw[aB] at FA
   obtain⟨y,hy,rfl⟩:=bo.mp FA
   have k6:=fv (fun l=>decide (l < fS)) hy
   have hlen:((bO.take j).filter fun l=>decide (l < fS)).length<=100:=by
    have:=aX (fun l=>decide (l < fS)) (bO.take j)
    rw[bf] at this
    lia
   refine⟨_,rfl,_,rfl,_,_,rfl,rfl,_,rfl,cm (fun q=>?_) (fun q=>?_)⟩
   ·rw[a8 q] at k6
    refine⟨_,rfl,_,gi,a9 (by rw[ae]; lia),pX,_,rfl,t3.cI pX,?_⟩
    rw[ag,k6,aK]
    rfl
   ·rw[aU q,bR] at k6
    refine⟨pX,_,rfl,t3,?_⟩
    rw[k6]
    exact gi
  ·rintro D' σ H6 pX ⟨_,v,rfl,t3,gi⟩
   refine⟨D',_,rfl,.inl (bA.of gi),_,_,rfl,rfl,?_⟩
   have q:=k H6 t3
   rw[e] at q
   have e2:(1:Int) + ((((bO.take (bO.map V.int).length).filter fun l=>decide (l < fS)).map V.int).length:Int)=((1 + (bO.filter fun l=>decide (l < fS)).length:Nat):Int):=by
    rw[ae,ae,a7]
    simp
   rw[← e2] at q
   exact q
inductive El (A:dY)(tb:Addr)(vs:List V)(H:Hp)(Q:VK)(E':XK):Prop
 |mk (pw pl:Addr)(S:Bk)(f:eN)(n:Nat)(aH:Str)(day:Int)(bO:List Int)(h1:vs=[.ref pw,.str aH,.int day,.ref pl])(h2:dE A H pw S f)(h3:WF S n)(h4:n<=60)(h5:lN H tb)(h6:H pl=some (.tup (bO.map V.int)))(h7:bO.length<=11)(h8: ∀D H',Frame [tb] H H'->lN H' tb->H D=none->H' D=some (.lst ((S.tY aH day bO).map V.int))->Q (.ref D) H'):El A tb vs H Q E'
theorem v9:aS ["work","who","day","limits","sums","number","left","place"] ["work","who","day","limits"] (ay (top 41)):={}
theorem HI (T:Txt K mg){A:dY}{tb:Addr}(G:jB K mg A)(DL:qr K mg "bills_in_order" (top 17) tb)(KB:K.In base)(BM:BMain mg base):eM P w K mg base "ages_at" 6 ["work","who","day","limits"] (El A tb):=by
 have sG:eM P w K mg base "owed_at" 5 ["work","who","day"] (As A tb):=yL T G DL KB BM
 have Em:eM P w K mg base "place_of" 1 ["late","limits"] Au:=Ek T
 refine T.G9.fe (k:=5) v9 (fun f cU A' outer s H vs Q E hr h=>?_)
 ·obtain⟨pw,pl,S,g,n,aH,day,bO,rfl,hW,wf,hn,hT,gQ,Ed,k⟩:=h
  have nd:=v9.nd
  refine⟨_,(ah (sv 4 nd (aO zj (bP (aa ai av)) (aO cB (mh T.dD (pv 3)) ai)))
(ah (dZ bw rfl (cO (fc sG hr (aa (pv 0) (aa (pv 1) (aa (pv 2) av))))) (iU rfl (bY (gn 5 nd) (bY (gn 6 nd) gE)))
(ah (sv 7 nd (fc Em hr (aa (aO eP (pv 2) (bX (xl (bX (pv 0) rfl) (pv 5)) rfl)) (aa (pv 3) av))))
(au (lY (aO cB (xl (pv 4) (pv 7)) (pv 6)) (pI (pv 4) (pv 7) set_list)))))
(au (a0 (pv 4))))),?_⟩
  refine⟨(by show 1<=sizeLine; decide),fun p9 n9=>?_⟩
  have t9:=aD.new (o:= .lst [V.int 0]) n9
  have J1:(bO.map V.int).length=bO.length:=ae _
  refine⟨_,rfl,pl,_,rfl,.inr (cg.of (t9 _ _ gQ)),_,_,rfl,rfl,p9,_,_,rfl,rfl,ag,by lia,by lia,?_,fun ps CF=>?_⟩
  ·show 1 * _<=sizeLine
   rw[J1,eI]
   lia
  have e2:(((bO.map V.int).length:Int) + 2).toNat=bO.length + 2:=by rw[J1]; lia
  rw[e2,FJ]
  have Ak:=aD.new (o:= .lst ((List.replicate (bO.length + 2) (0:Int)).map V.int)) CF
  have Ee:=t9.trans Ak
  have lA:upd (upd H p9 (.lst [V.int 0])) ps (.lst ((List.replicate (bO.length + 2) (0:Int)).map V.int)) ps=some (.lst ((List.replicate (bO.length + 2) (0:Int)).map V.int)):=ag
  have HB:H ps=none:=t9.free CF
  generalize upd (upd H p9 (.lst [V.int 0])) ps (.lst ((List.replicate (bO.length + 2) (0:Int)).map V.int))=H1 at Ee lA
  have Iu:=bM hT Ee
  refine⟨_,rfl,_,rfl,_,rfl,pw,S,g,n,aH,day,rfl,hW.same Ee,wf,hn,Iu,fun D ms H2 fr GL nD hD hP=>?_⟩
  refine⟨D,rfl,⟨_,bA.of hD⟩,?_⟩
  have mO: ∃q,H1 tb=some (.mO q):=let⟨q,e,_⟩:=Iu; ⟨q,e⟩
  have off: ∀{a:Addr} {o:HO},H1 a=some o->(∀q,o≠ .mO q)->H2 a=some o:=fun{a o} e hq=>fr _ _ (fun z=>by
   obtain⟨q,eq⟩:=mO
   rw[ao.mp z,eq] at e
   exact hq q (aF e).symm) e
  have Av:=v8 (hW.same Ee) mO fr
  have PF:=off lA (fun _ z=>by cases z)
  have PH:=off (Ee _ _ gQ) (fun _ z=>by cases z)
  have fr0:Frame [tb] H H2:=fr.mi Ee
  have uf: ∀t∈S.fu true aH day,t.1 < S.aI.length:=fun t ht=>yG (aR:=true) ht
  have QZ:S.tY aH day bO=(S.fu true aH day).foldl (fun l t=>iP l (L2.placeOf (day - (S.bl t.1).b) bO) t.2) (List.replicate (bO.length + 2) 0):=rfl
  rw[QZ] at k
  generalize S.fu true aH day=ts at hP uf k
  have X0:D≠ps:=fun e=>by rw[e,lA] at nD; cases nD
  refine fH (K:=K) (a:=D) (xs:=ms) (fun i σ H3=> ∃(l:List Int) (x5 x6 x7:Option V),σ=[some (.ref pw),some (.str aH),some (.int day),some (.ref pl),some (.ref ps),x5,x6,x7]/\Frame [ps] H2 H3/\H3 ps=some (.lst (l.map V.int))/\l.length=bO.length + 2/\l=(ts.take i).foldl (fun l t=>iP l (L2.placeOf (day - (S.bl t.1).b) bO) t.2) (List.replicate (bO.length + 2) 0))
   ⟨_,none,none,none,rfl,Frame.refl,PF,List.length_replicate,rfl⟩ (fun i σ H3 _ ⟨_,_,_,_,_,f3,_⟩=>bA.of (f3 _ _ (by simpa using X0) hD)) ?_ ?_
  ·rintro i x σ H3 hx ⟨l,x5,x6,x7,rfl,f3,Je,FK,he⟩
   have VB: ∀{a:Addr} {o:HO},H2 a=some o->(∀q,o≠ .lst q)->H3 a=some o:=fun{a o} e hq=>f3 _ _ (fun z=>by
    rw[ao.mp z,PF] at e
    exact hq _ (aF e).symm) e
   have hi:i < ts.length:=by have:=(ak.mp hx).1; have:=aL hP; lia
   have oP:=af hi
   obtain⟨v,hv,p,rfl,hp⟩:=bI hP oP
   rw[hx] at hv
   obtain rfl:x= .ref p:=aF hv
   have hm:=uf _ (bG hi)
   rw[jJ (fun l t=>iP l (L2.placeOf (day - (S.bl t.1).b) bO) t.2) ts _ oP,← he]
   generalize ts[i]=t at hp hm
   obtain⟨dw,hw⟩:=Av.obj
   obtain⟨q,q1,dq,q2⟩:=Av.rb.get hm
   have X8:g.pb∉[ps]:=fun z=>by
    have e:=hW.hb
    rw[ao.mp z,HB] at e
    cases e
   have Q3:=VB hp (fun _ z=>by cases z)
   have hw3:=VB hw (fun _ z=>by cases z)
   have hq3:=VB q2 (fun _ z=>by cases z)
   have X9:=VB PH (fun _ z=>by cases z)
   refine⟨p,_,rfl,cg.of Q3,rfl,_,_,rfl,_,_,rfl,rfl,?_⟩
   refine⟨_,rfl,_,rfl,pw,_,dw,_,_,rfl,hw3,G.bH,G.dX,ji g,_,rfl,g.pb,_,_,.ref q,rfl,rfl,bA.of (f3 _ _ X8 Av.hb),cy (by rw[aB,q1]; rfl),q,_,dq,_,_,rfl,hq3,G.d9,G.ny,JJ _ _,_,_,rfl,rfl,_,rfl,_,pl,bO,rfl,X9,Ed,fun H4 s4=>?_⟩
   have hpo:=vW (day - (S.bl t.1).b) bO
   have Q0:=s4 _ _ Je
   refine⟨_,rfl,_,rfl,ps,_,_,.int (l.getD (L2.placeOf (day - (S.bl t.1).b) bO) 0),rfl,rfl,bA.of Q0,nF (by show L2.placeOf (day - (S.bl t.1).b) bO < _; lia),_,rfl,_,_,rfl,rfl,?_⟩
   refine⟨_,rfl,_,rfl,ps,_,_,L2.placeOf (day - (S.bl t.1).b) bO,rfl,rfl,Q0,ra (by rw[ae]; show L2.placeOf (day - (S.bl t.1).b) bO < _; lia),?_⟩
   refine⟨iP l (L2.placeOf (day - (S.bl t.1).b) bO) t.2,_,_,_,rfl,(f3.cX s4).tr (Frame.upd (by simp)),?_,?_,rfl⟩
   ·rw[ag]
    unfold iP
    rw[Ih]
   ·rw[yI]; exact FK
  ·rintro σ H3 ⟨l,x5,x6,x7,rfl,f3,Je,FK,he⟩
   rw[← aL hP,a7] at he
   rw[he] at Je
   refine⟨_,rfl,k ps H3 (fun b o hb e=>f3 b o (fun z=>by rw[ao.mp z,HB] at e; cases e) (fr0 b o hb e)) ?_ HB Je⟩
   obtain⟨q,e1,Sb,e3⟩:=GL
   have kx: ∀{a:Addr} {o:HO},H2 a=some o->(∀q,o≠ .lst q)->H3 a=some o:=fun{a o} e hq=>f3 _ _ (fun z=>by
    rw[ao.mp z,PF] at e
    exact hq _ (aF e).symm) e
   refine⟨q,kx e1 (fun _ z=>by cases z),Sb,?_⟩
   rcases e3 with e3|⟨c',e3,e4⟩
   ·exact .inl e3
   ·exact .inr ⟨c',e3,kx e4 (fun _ z=>by cases z)⟩
def eX (pk pw:Addr):List (Str×V):=[("kept",.ref pk),("work",.ref pw)]
theorem uE (pk pw:Addr):(eX pk pw).lookup ("kept":Str)=some (V.ref pk):=by rfl
theorem uF (pk pw:Addr):(eX pk pw).lookup ("work":Str)=some (V.ref pw):=by rfl
theorem Kb (pk pw:Addr):eE "work" (.ref pw) (eE "kept" (.ref pk) [])=eX pk pw:=by rfl
inductive Aw (A:dY)(vs:List V)(H:Hp)(Q:VK)(E':XK):Prop
 |mk (x dx:Addr)(h1:vs=[.ref x])(h2:H x=some (.ins A.book dx []))(h3: ∀pk pw f H',Frame [x] H H'->H' x=some (.ins A.book dx (eX pk pw))->H' pk=some (.dK [])->dE A H' pw Bk.new f->H pk=none->H pw=none->(∀b∈f.fp,H b=none)->pk∉f.fp->Q .eu H'):Aw A vs H Q E'
theorem ME:aS ["self"] ["self"] (ay (mem 29 0)):={}
theorem PJ {A:dY}(G:jB K mg A):uc P w K mg base "Book" A.book 3 ["self"] (Aw A):=by
 have En:uc P w K mg base "Work" A.work 1 ["self"] (uy A):=JY G
 refine Mq (k:=2) G.Mo G.Mn ME (fun f cU A' outer s H vs Q E hr h=>?_)
 ·obtain⟨x,dx,rfl,hx,k⟩:=h
  refine⟨_,(ah (fT (pv 0) Bx rfl) (au (fT (pv 0) (JM En (hr.mono (by decide)) rfl) rfl))),?_⟩
  intro pk nk
  have ne1:pk≠x:=(aJ hx nk).symm
  refine⟨_,rfl,x,_,dx,_,rfl,aD.new nk _ _ hx,G.eW,G.gI,lt1000 Co (by decide),?_⟩
  have F1:Frame [x] H (upd (upd H pk (.dK [])) x (.ins A.book dx (eE "kept" (.ref pk) []))):=(aD.new nk).frame.tr (Frame.upd (by simp))
  have g1:upd (upd H pk (.dK [])) x (.ins A.book dx (eE "kept" (.ref pk) [])) x=some (.ins A.book dx (eE "kept" (.ref pk) [])):=ag
  have k1:upd (upd H pk (.dK [])) x (.ins A.book dx (eE "kept" (.ref pk) [])) pk=some (.dK []):=by rw[az ne1,ag]
  generalize upd (upd H pk (.dK [])) x (.ins A.book dx (eE "kept" (.ref pk) []))=H1 at F1 g1 k1 ⊢
  intro xw Ya MF PL ne
  have s2:=lJ (C:=A.work) (fs:=[]) MF PL ne
  refine⟨xw,Ya,rfl,ag,fun g H3 Lv W3 nf=>⟨rfl,?_⟩⟩
  have Yb:x≠xw:=aJ g1 MF
  have nek:pk≠xw:=aJ k1 MF
  have g3:=Lv _ _ (by simpa using Yb) (s2 _ _ g1)
  have k3:=Lv _ _ (by simpa using nek) (s2 _ _ k1)
  refine⟨_,rfl,x,_,dx,_,rfl,g3,G.eW,G.gJ,lt1000 (pl Co) (by decide),?_⟩
  rw[Kb]
  have fw: ∀b∈g.fp,H1 b=none:=fun b hb=>s2.free (nf b hb)
  have off: ∀b,H1 b=none->b≠x->H b=none:=fun b e n=>F1.free (by simpa using n) e
  have xf:x∉g.fp:=fun z=>by have:=fw x z; rw[g1] at this; cases this
  have TM:dE A (upd H3 x (.ins A.book dx (eX pk xw))) xw Bk.new g:=by
   obtain⟨dw,hw⟩:=W3.obj
   obtain⟨ms,m1,m2⟩:=W3.hm
   have nx: ∀p∈g.fp,p≠x:=fun p hp z=>xf (z▸hp)
   refine⟨⟨dw,by rw[az Yb.symm]; exact hw⟩,by rw[az (nx _ (by simp[eN.fp]))]; exact W3.hb,by rw[az (nx _ (by simp[eN.fp]))]; exact W3.hc,by rw[az (nx _ (by simp[eN.fp]))]; exact W3.hl,by rw[az (nx _ (by simp[eN.fp]))]; exact W3.hf,⟨ms,by rw[az (nx _ (by simp[eN.fp]))]; exact m1,?_⟩,?_,?_,W3.nd⟩
   ·cases m2
    exact .nil
   ·exact⟨W3.rb.1,fun i p e=>by have:=(ak.mp e).1; have h0:=W3.rb.1; rw[h0] at this; exact absurd this (iI _)⟩
   ·exact⟨W3.rc.1,fun i p e=>by have:=(ak.mp e).1; have h0:=W3.rc.1; rw[h0] at this; exact absurd this (iI _)⟩
  refine k pk xw g _ ?_ ag (by rw[az ne1]; exact k3) TM nk (off xw MF Yb.symm) (fun b hb=>off b (fw b hb) (fun z=>xf (z▸hb))) (fun z=>by have:=fw pk z; rw[k1] at this; cases this)
  intro b o hb e
  have bx:b≠x:=by simpa using hb
  rw[az bx]
  have e1:=F1 b o hb e
  exact Lv b o (by simpa using aJ e1 MF) (s2 b o e1)
def Ax (r:List Bool):Dt:= .lst (r.map Dt.bl)
def Kc (t:Nat×Nat×Int):Dt:= .tup [.int t.1,.int t.2.1,.int t.2.2]
theorem hZ (fs ls:List Int)(al:List (List Bool)): ∀i,(bU fs ls al i).2.length<=i
 |0=>aE _
 |i + 1=>by
  have:=hZ fs ls al i
  unfold bU
  split
  ·lia
  ·rw[aC]; show _ + 1<=_; lia
def Yc:Option Nat->V
 |none=> .eu
 |some j=> .int j
def qd (bc:List (Key×V))(j:Nat):Bool:=(gh bc (Sum.inl (j:Int):Key)).isSome
inductive Ay (K:Frag)(vs:List V)(H:Hp)(Q:VK)(E':XK):Prop
 |mk (f:Int)(pl:Addr)(ls:List Int)(pr:Addr)(row:List Bool)(pt:Addr)(bc:List (Key×V))(h1:vs=[.int f,.ref pl,.ref pr,.ref pt])(h2:bA K H pl (ls.map V.int))(h3:bA K H pr (row.map V.bl))(h4:row.length=ls.length)(h5:H pt=some (.dK bc))(h6: ∀H',aD H H'->Q (Yc (g6 f ls row (qd bc))) H'):Ay K vs H Q E'
def nU (H:Hp)(ms:List (Nat×Nat×Int))(vs:List V):Prop:=Paired (fun(t:Nat×Nat×Int) v=> ∃p,v= .ref p/\H p=some (.tup [.int t.1,.int t.2.1,.int t.2.2])) ms vs
theorem nU.mono {H H':Hp}{ms:List (Nat×Nat×Int)}{vs:List V}(h:nU H ms vs)(k: ∀b xs,H b=some (.tup xs)->H' b=some (.tup xs)):nU H' ms vs:=
 Paired.gP h fun _ _ ⟨p,e,q⟩=>⟨p,e,k _ _ q⟩
theorem nU.rp {H:Hp}: ∀{ms:List (Nat×Nat×Int)} {vs:List V},nU H ms vs->hV H (ms.map Kc) vs
 |_,_,.nil=>cQ.mpr rfl
 |_,_,.cons ⟨p,e,q⟩ t=>bC.mpr ⟨_,_,rfl,e▸eF q (bC.mpr ⟨_,_,rfl,dm.mpr rfl,bC.mpr ⟨_,_,rfl,dm.mpr rfl,bC.mpr ⟨_,_,rfl,dm.mpr rfl,cQ.mpr rfl⟩⟩⟩),nU.rp t⟩
theorem MG {H:Hp}{p:Addr}{o:HO}{bc:List (Key×V)}(h:H p=some (.dK bc)): ∀b xs,H b=some (.tup xs)->upd H p o b=some (.tup xs):=fun b xs e=>by
 rw[az (mz e h (by intro z; cases z))]; exact e
theorem nV:aS ["free","lefts","fitting","taken","bill","left"] ["free","lefts","fitting","taken"] (ay (top 21)):={}
theorem xJ (T:Txt K mg):eM P w K mg base "first_alike" 1 ["free","lefts","fitting","taken"] (Ay K):=by
 refine T.xa.fe (k:=0) nV (fun f cU A outer s H vs Q E hr h=>?_)
 ·obtain⟨fr,pl,ls,pr,row,pt,bc,rfl,hL,hR,BC,hT,k⟩:=h
  have hu:=jM hr
  have nd:=nV.nd
  refine⟨_,(ah (dZ bw rfl (qG rfl T.jh (aa (pv 1) av)) (iU rfl (bY (gn 4 nd) (bY (gn 5 nd) gE)))
(au (bN (PW.pt (pw_and (gj (xl (pv 2) (pv 4))) (pw_and (aV cJ (pv 5) (pv 0) (aY _)) (pw_and1 (yZ (GD hu (pv 4) (pv 3)))))))
(au (a0 (pv 4)))
bb)))
(au (a0 Dq))),?_⟩
  refine⟨_,rfl,pl,rfl,⟨_,hL⟩,?_⟩
  refine m8 (K:=K) (a:=pl) (xs:=ls.map V.int) (fun i σ H2=> ∃x4 x5,σ=[some (.int fr),some (.ref pl),some (.ref pr),some (.ref pt),x4,x5]/\aD H H2/\ ∀j,j < i->(row.getD j false && decide (ls.getD j 0=fr) && !qd bc j)=false)
   ⟨none,none,rfl,aD.refl _,fun j hj=>absurd hj (iI _)⟩ (fun i σ H2 _ ⟨_,_,_,s2,_⟩=>s2.seq hL) ?_ ?_
  ·rintro i x p σ H2 hx hp ⟨x4,x5,rfl,s2,TN⟩
   have hi:i < ls.length:=by have:=(ak.mp hx).1; rwa [ae] at this
   rw[aB,af hi] at hx
   obtain rfl:V.int ls[i]=x:=aF hx
   have s3:aD H2 (upd H2 p (.tup [.int i,.int ls[i]])):=aD.new hp
   refine⟨p,_,rfl,cg.of ag,rfl,_,_,rfl,_,_,rfl,rfl,?_⟩
   have s4:=s2.trans s3
   generalize upd H2 p (.tup [.int i,.int ls[i]])=H3 at s4 ⊢
   have TQ:i < row.length:=by lia
   have PM:ls.getD i 0=ls[i]:=by rw[aj,af hi]; rfl
   have TR:row.getD i false=row[i]:=by rw[aj,af TQ]; rfl
   have next:(row.getD i false && decide (ls.getD i 0=fr) && !qd bc i)=false-> ∀j,j < i + 1->(row.getD j false && decide (ls.getD j 0=fr) && !qd bc j)=false:=fun e j hj=>by
    rcases Nat.lt_succ_iff_lt_or_eq.mp hj with h|h
    ·exact TN j h
    ·rw[h]; exact e
   refine⟨_,rfl,_,rfl,pr,_,_,.bl row[i],rfl,rfl,s4.seq hR,cy (by rw[aB,af TQ]; rfl),_,rfl,?_⟩
   refine cm (fun c1=>?_) (fun c1=>bT ?_)
   ·refine⟨_,rfl,_,rfl,rfl,_,rfl,cm (fun c2=>?_) (fun c2=>bT ?_)⟩
    ·have TU:ls[i]=fr:=by have:=aN c2; injection this
     refine⟨_,rfl,_,rfl,pt,_,rfl,mJ.k (k:=Sum.inl (i:Int)) (s4 _ _ hT),_,rfl,cm (fun c3=>?_) (fun c3=>?_)⟩
     ·
      refine⟨_,rfl,?_⟩
      have e:g6 fr ls row (qd bc)=some i:=by
       unfold g6
       refine List.find?_range_eq_some.mpr ⟨?_,dk.mpr hi,fun j hj=>?_⟩
       ·rw[TR,PM,c1,TU]
        simpa[qd] using c3
       ·rw[TN j hj]; rfl
      have q:=k H3 s4
      rw[e] at q
      exact q
     ·refine⟨_,_,rfl,s4,next ?_⟩
      have c3':qd bc i=true:=by
       unfold qd
       cases h:(gh bc (Sum.inl (i:Int):Key)).isSome with
       |true=>rfl
       |false=>rw[h] at c3; exact absurd rfl c3
      rw[c3']; simp
    ·have TU: ¬ ls[i]=fr:=fun z=>c2 (aG (by rw[z]))
     refine⟨_,_,rfl,s4,next ?_⟩
     rw[PM,decide_eq_false TU]; simp
   ·refine⟨_,_,rfl,s4,next ?_⟩
    rw[TR,Bool.eq_false_iff.mpr c1]; rfl
  ·rintro σ H2 ⟨x4,x5,rfl,s2,TN⟩
   rw[ae] at TN
   have e:g6 fr ls row (qd bc)=none:=by
    unfold g6
    refine List.find?_eq_none.mpr fun j hj=>?_
    rw[TN j (dk.mp hj)]
    exact aW
   have q:=k H2 s2
   rw[e] at q
   exact q
inductive wa (K:Frag)(vs:List V)(H:Hp)(Q:VK)(E':XK):Prop
 |mk (pf pl pa:Addr)(fs ls:List Int)(al:List (List Bool))(h1:vs=[.ref pf,.ref pl,.ref pa])(h2:bA K H pf (fs.map V.int))(h3:bA K H pl (ls.map V.int))(h4:Rp H (.lst (al.map Ax)) (.ref pa))(h5:fs.length<=1000)(h6:al.length=fs.length)(h7:(∀r∈al,r.length=ls.length))(h8: ∀v H',aD H H'->Rp H' (.lst ((bU fs ls al fs.length).2.map Kc)) v->Q v H'):wa K vs H Q E'
theorem CK:aS ["frees","lefts","allowed","taken","made","credit","free","bill"] ["frees","lefts","allowed"] (ay (top 20)):={}
theorem MH (T:Txt K mg):eM P w K mg base "alike" 2 ["frees","lefts","allowed"] (wa K):=by
 have xK:eM P w K mg base "first_alike" 1 ["free","lefts","fitting","taken"] (Ay K):=xJ T
 refine T.Mb.fe (k:=1) CK (fun f cU A outer s H vs Q E hr h=>?_)
 ·obtain⟨pf,pl,pa,fs,ls,al,rfl,hF,hL,hA,hf1,W0,Kd,k⟩:=h
  have hu:=jM hr
  have nd:=CK.nd
  obtain⟨pa',refs,e0,Yd,Eo⟩:=jP.mp hA
  cases e0
  refine⟨_,(ah (sv 3 nd Bx)
(ah (sv 4 nd (bP av))
(ah (dZ bw rfl (qG rfl T.jh (aa (pv 0) av)) (iU rfl (bY (gn 5 nd) (bY (gn 6 nd) gE)))
(ah (sv 7 nd (fc xK hr (aa (pv 6) (aa (pv 1) (aa (xl (pv 2) (pv 5)) (aa (pv 3) av))))))
(au (bN (yZ (Lq (pv 7)))
(ah (E1 hu (pv 3) (pv 7) lj rfl)
(au (bK (oW (pv 4) (cG (aa (pv 5) (aa (pv 7) (aa (pv 6) av))))))))
bb))))
(au (a0 (pv 4)))))),?_⟩
  intro pt nt
  refine⟨bh _,fun pm nm=>?_⟩
  have s1:aD H (upd H pt (.dK [])):=aD.new nt
  have s2:aD H (upd (upd H pt (.dK [])) pm (.lst [])):=s1.trans (aD.new nm)
  have Ye:H pm=none:=s1.free nm
  have ND:pt≠pm:=aJ ag nm
  refine⟨_,rfl,pf,rfl,⟨_,s2.seq hF⟩,?_⟩
  refine m8 (K:=K) (a:=pf) (xs:=fs.map V.int) (fun i σ H2=> ∃x5 x6 x7 bc ms,σ=[some (.ref pf),some (.ref pl),some (.ref pa),some (.ref pt),some (.ref pm),x5,x6,x7]/\aD H H2/\H2 pt=some (.dK bc)/\(∀j:Nat,qd bc j=(bU fs ls al i).1 j)/\bc.length<=i/\H2 pm=some (.lst ms)/\nU H2 (bU fs ls al i).2 ms)
   ⟨none,none,none,[],[],rfl,s2,by rw[az ND]; exact ag,fun j=>rfl,aE _,ag,.nil⟩ (fun i σ H2 _ ⟨_,_,_,_,_,_,s3,_⟩=>s3.seq hF) ?_ ?_
  ·rintro i x p σ H2 hx hp ⟨x5,x6,x7,bc,ms,rfl,s3,hT,lT,Fy,hM,FL⟩
   have hi:i < fs.length:=by have:=(ak.mp hx).1; rwa [ae] at this
   rw[aB,af hi] at hx
   obtain rfl:V.int fs[i]=x:=aF hx
   have s4:aD H2 (upd H2 p (.tup [.int i,.int fs[i]])):=aD.new hp
   refine⟨p,_,rfl,cg.of ag,rfl,_,_,rfl,_,_,rfl,rfl,?_⟩
   have s5:=s3.trans s4
   have NF:=s4 _ _ hT
   have nW:=s4 _ _ hM
   have Ep:=FL.mono (f9 s4)
   generalize upd H2 p (.tup [.int i,.int fs[i]])=H3 at s5 NF nW Ep ⊢
   clear s4 hp
   have TV:i < al.length:=by lia
   have g0:(al.map Ax)[i]? =some (Ax al[i]):=by rw[aB,af TV]; rfl
   obtain⟨rv,VC,VD⟩:=Eo.get g0
   obtain⟨pr,Yf,e1,K9,yD⟩:=jP.mp VD
   subst e1
   have hrx:Yf=al[i].map V.bl:=by
    clear K9 VC VD
    generalize al[i]=r at yD
    induction r generalizing Yf with
    |nil=>exact cQ.mp yD
    |cons b r ih=>
     obtain⟨v,rest,e,h1,h2⟩:=bC.mp yD
     rw[e,qI.mp h1,ih rest h2]; rfl
   subst hrx
   have Yg:fs.getD i 0=fs[i]:=by rw[aj,af hi]; rfl
   have Yh:al.getD i []=al[i]:=by rw[aj,af TV]; rfl
   refine⟨_,rfl,_,rfl,_,rfl,_,rfl,pa,_,_,.ref pr,rfl,rfl,bA.of (s5 _ _ Yd),cy VC,_,rfl,fs[i],pl,ls,pr,al[i],pt,bc,rfl,s5.seq hL,bA.of (s5 _ _ K9),Kd _ (bG _),NF,fun H4 s6=>?_⟩
   have etk:qd bc=(bU fs ls al i).1:=funext lT
   have sR:bU fs ls al (i + 1)=match g6 fs[i] ls al[i] (qd bc) with
     |none=>bU fs ls al i
     |some j=>(fun x=>x == j || (bU fs ls al i).1 x,(bU fs ls al i).2 ++ [(i,j,fs[i])]):=by
    rw[etk,← Yg,← Yh]; rfl
   cases hb:g6 fs[i] ls al[i] (qd bc) with
   |none=>
    rw[hb] at sR
    refine⟨_,rfl,_,rfl,bT ?_⟩
    refine⟨_,_,_,bc,ms,rfl,s5.trans s6,s6 _ _ NF,?_,by lia,s6 _ _ nW,?_⟩
    ·intro j; rw[sR]; exact lT j
    ·rw[sR]; exact Ep.mono (f9 s6)
   |some j=>
    rw[hb] at sR
    refine⟨_,rfl,_,rfl,fG ?_⟩
    have Q4:=s6 _ _ NF
    have wb:=s6 _ _ nW
    refine⟨_,rfl,_,rfl,pt,_,rfl,GA.k (k:=Sum.inl (j:Int)) Q4 (a9 (by lia)),?_⟩
    have Ke:upd H4 pt (.dK (putK bc (Sum.inl (j:Int):Key) (.bl true))) pm=some (.lst ms):=by rw[az ND.symm]; exact wb
    have FC:=(Ep.length)
    have Q5:=hZ fs ls al i
    have s7:aD H (upd H4 pt (.dK (putK bc (Sum.inl (j:Int):Key) (.bl true)))):=(s5.trans s6).cI nt
    have Er:nU (upd H4 pt (.dK (putK bc (Sum.inl (j:Int):Key) (.bl true)))) (bU fs ls al i).2 ms:=(Ep.mono (f9 s6)).mono (MG Q4)
    have HF:upd H4 pt (.dK (putK bc (Sum.inl (j:Int):Key) (.bl true))) pt=some (.dK (putK bc (Sum.inl (j:Int):Key) (.bl true))):=ag
    generalize upd H4 pt (.dK (putK bc (Sum.inl (j:Int):Key) (.bl true)))=H5 at Ke s7 Er HF ⊢
    refine⟨_,rfl,.inl ⟨rfl,_,bA.of Ke⟩,_,rfl,_,rfl,_,rfl,(by show 3<=sizeLine; decide),fun p8 n8=>?_⟩
    have s8:aD H5 (upd H5 p8 (.tup [.int i,.int j,.int fs[i]])):=aD.new n8
    refine⟨pm,ms,_,rfl,rfl,s8 _ _ Ke,a9 (by lia),?_⟩
    refine⟨_,_,_,putK bc (Sum.inl (j:Int):Key) (.bl true),ms ++ [.ref p8],rfl,(s7.trans s8).cI Ye,?_,fun x=>?_,?_,ag,?_⟩
    ·rw[az ND]; exact s8 _ _ HF
    ·rw[sR]
     unfold qd
     rw[I9]
     by_cases hx:x=j
     ·subst hx; simp
     ·have: ¬ (Sum.inl (x:Int):Key)=Sum.inl (j:Int):=fun z=>hx (by injection z with z; lia)
      rw[aU this]
      have h2:=lT x
      unfold qd at h2
      rw[h2]
      simp[hx]
    ·have:=kC bc (Sum.inl (j:Int):Key) (.bl true)
     lia
    ·rw[sR]
     exact cz ((Er.mono (f9 s8)).mono (dC (s8 _ _ Ke))) ⟨p8,rfl,dC (s8 _ _ Ke) _ _ ag⟩
  ·rintro σ H2 ⟨x5,x6,x7,bc,ms,rfl,s3,hT,lT,Fy,hM,FL⟩
   rw[ae] at FL
   refine⟨_,rfl,?_⟩
   exact k _ _ s3 (jz hM FL.rp)
def cS (fs ls:List Int)(al:List (List Bool))(i:Nat):List (Nat×Int):=(bD (fs.getD i 0) (ck fs ls al i).1 (al.getD i []) (ck fs ls al i).1.length).2
theorem CL (fs ls:List Int)(al:List (List Bool))(i:Nat):(ck fs ls al (i + 1)).1=dG (ck fs ls al i).1 (cS fs ls al i):=rfl
theorem tJ (fs ls:List Int)(al:List (List Bool))(i:Nat):(ck fs ls al (i + 1)).2=(ck fs ls al i).2 ++ (cS fs ls al i).map fun x=>(i,x.1,x.2):=rfl
def PN (H:Hp)(ps:List (Nat×Int))(vs:List V):Prop:=Paired (fun(t:Nat×Int) v=> ∃p,v= .ref p/\H p=some (.tup [.int t.1,.int t.2])) ps vs
theorem PN.mono {H H':Hp}{ps:List (Nat×Int)}{vs:List V}(h:PN H ps vs)(k: ∀b xs,H b=some (.tup xs)->H' b=some (.tup xs)):PN H' ps vs:=
 Paired.gP h fun _ _ ⟨p,e,q⟩=>⟨p,e,k _ _ q⟩
theorem gv (f:Int)(l:List Int)(row:List Bool): ∀j,(bD f l row j).2.length<=j
 |0=>aE _
 |j + 1=>by
  have:=gv f l row j
  rw[bD]
  split
  ·rw[aC]; show _ + 1<=_; lia
  ·lia
inductive Az (K:Frag)(vs:List V)(H:Hp)(Q:VK)(E':XK):Prop
 |mk (f:Int)(pl:Addr)(ls:List Int)(pr:Addr)(row:List Bool)(h1:vs=[.int f,.ref pl,.ref pr])(h2:bA K H pl (ls.map V.int))(h3:bA K H pr (row.map V.bl))(h4:row.length=ls.length)(h5:ls.length<=100)(h6: ∀(q:Addr) (ms:List V) (H':Hp),aD H H'->H q=none->H' q=some (.lst ms)->PN H' (bD f ls row ls.length).2 ms->Q (.ref q) H'):Az K vs H Q E'
theorem tK:aS ["free","lefts","fitting","still_free","parts","bill","left","amount"] ["free","lefts","fitting"] (ay (top 23)):={}
theorem Es (T:Txt K mg):eM P w K mg base "parts_of" 1 ["free","lefts","fitting"] (Az K):=by
 refine T.DW.fe (k:=0) tK (fun f cU A outer s H vs Q E hr h=>?_)
 ·obtain⟨fr,pl,ls,pr,row,rfl,hL,hR,BC,Nw,k⟩:=h
  have hu:=jM hr
  have nd:=tK.nd
  refine⟨_,(ah (sv 3 nd (pv 0))
(ah (sv 4 nd (bP av))
(ah (dZ bw rfl (qG rfl T.jh (aa (pv 1) av)) (iU rfl (bY (gn 5 nd) (bY (gn 6 nd) gE)))
(ah (sv 7 nd (cD (rZ rfl) (by rfl) T.JF boot_min (aa (pv 3) (aa (pv 6) av))))
(au (bN (PW.pt (pw_and (gj (xl (pv 2) (pv 5))) (pw_and1 (aV iO (pv 7) ai (aY _)))))
(ah (bK (oW (pv 4) (cG (aa (pv 5) (aa (pv 7) av)))))
(au (sv 3 nd (aO eP (pv 3) (pv 7)))))
bb))))
(au (a0 (pv 4)))))),?_⟩
  refine⟨_,rfl,?_⟩
  refine⟨bh _,fun q nq=>?_⟩
  have s1:aD H (upd H q (.lst [])):=aD.new nq
  refine⟨_,rfl,pl,rfl,⟨_,s1.seq hL⟩,?_⟩
  refine m8 (K:=K) (a:=pl) (xs:=ls.map V.int) (fun i σ H2=> ∃(x5 x6 x7:Option V) (ms:List V),σ=[some (.int fr),some (.ref pl),some (.ref pr),some (.int (bD fr ls row i).1),some (.ref q),x5,x6,x7]/\aD H H2/\H2 q=some (.lst ms)/\PN H2 (bD fr ls row i).2 ms)
   ⟨none,none,none,[],rfl,s1,ag,.nil⟩ (fun i σ H2 _ ⟨_,_,_,_,_,s2,_⟩=>s2.seq hL) ?_ ?_
  ·rintro i x p σ H2 hx hp ⟨x5,x6,x7,ms,rfl,s2,hM,hP⟩
   have hi:i < ls.length:=by have:=(ak.mp hx).1; rwa [ae] at this
   rw[aB,af hi] at hx
   obtain rfl:V.int ls[i]=x:=aF hx
   have s3:aD H2 (upd H2 p (.tup [.int i,.int ls[i]])):=aD.new hp
   refine⟨p,_,rfl,cg.of ag,rfl,_,_,rfl,_,_,rfl,rfl,?_⟩
   have s4:=s2.trans s3
   have MI:=s3 _ _ hM
   have MB:=hP.mono (f9 s3)
   generalize upd H2 p (.tup [.int i,.int ls[i]])=H3 at s4 MI MB ⊢
   have TQ:i < row.length:=by lia
   have PM:ls.getD i 0=ls[i]:=getD_at hi
   have TR:row.getD i false=row[i]:=getD_at TQ
   have hlen:ms.length<=i:=by have:=hP.length; have:=gv fr ls row i; lia
   refine⟨_,rfl,_,rfl,_,_,rfl,?_⟩
   have em:(if ls[i] < (bD fr ls row i).1 then ls[i] else(bD fr ls row i).1)=iK (bD fr ls row i).1 (ls.getD i 0):=by rw[PM]; rfl
   rw[em]
   have sR:bD fr ls row (i + 1)=if row.getD i false=true/\0 < iK (bD fr ls row i).1 (ls.getD i 0) then((bD fr ls row i).1 - iK (bD fr ls row i).1 (ls.getD i 0),(bD fr ls row i).2 ++ [(i,iK (bD fr ls row i).1 (ls.getD i 0))]) else bD fr ls row i:=by rw[bD]
   generalize iK (bD fr ls row i).1 (ls.getD i 0)=am at sR ⊢
   have no: ¬ (row.getD i false=true/\0 < am)-> ∃(x5 x6 x7:Option V) (ms:List V),[some (.int fr),some (.ref pl),some (.ref pr),some (.int (bD fr ls row i).1),some (.ref q),some (V.int i),some (V.int ls[i]),some (V.int am)]=[some (.int fr),some (.ref pl),some (.ref pr),some (.int (bD fr ls row (i + 1)).1),some (.ref q),x5,x6,x7]/\aD H H3/\H3 q=some (.lst ms)/\PN H3 (bD fr ls row (i + 1)).2 ms:=fun c=>by
    rw[sR,aU c]
    exact⟨_,_,_,ms,rfl,s4,MI,MB⟩
   refine⟨_,rfl,_,rfl,pr,_,_,.bl row[i],rfl,rfl,s4.seq hR,cy (by rw[aB,af TQ]; rfl),_,rfl,?_⟩
   refine cm (fun c1=>?_) (fun c1=>bT ?_)
   ·refine⟨_,rfl,_,_,rfl,rfl,_,rfl,cm (fun c2=>?_) (fun c2=>?_)⟩
    ·have TU:0 < am:=aN c2
     rw[a8 ⟨by rw[TR]; exact c1,TU⟩] at sR
     refine⟨_,rfl,.inl ⟨rfl,_,bA.of MI⟩,_,rfl,_,rfl,(by show 2<=sizeLine; decide),fun p8 n8=>?_⟩
     have s8:aD H3 (upd H3 p8 (.tup [.int i,.int am])):=aD.new n8
     refine⟨q,ms,_,rfl,rfl,s8 _ _ MI,a9 (by lia),?_⟩
     refine⟨_,rfl,_,rfl,_,_,rfl,rfl,?_⟩
     refine⟨_,_,_,ms ++ [.ref p8],by rw[sR]; rfl,(s4.trans s8).cI nq,ag,?_⟩
     rw[sR]
     exact cz ((MB.mono (f9 s8)).mono (dC (s8 _ _ MI))) ⟨p8,rfl,dC (s8 _ _ MI) _ _ ag⟩
    ·exact no fun z=>c2 (aG z.2)
   ·exact no fun z=>c1 (by rw[← TR]; exact z.1)
  ·rintro σ H2 ⟨x5,x6,x7,ms,rfl,s2,hM,hP⟩
   rw[ae] at hP
   refine⟨_,rfl,?_⟩
   exact k _ _ _ s2 nq hM hP
theorem qe (f:Int)(l:List Int)(row:List Bool): ∀j,∀x∈(bD f l row j).2,x.1 < j
 |0,x,hx=>by cases hx
 |j + 1,x,hx=>by
  rw[bD] at hx
  split at hx
  ·rcases bq.mp hx with hx|hx
   ·have:=qe f l row j x hx; lia
   ·rw[ao] at hx; subst hx; exact f7 _
  ·have:=qe f l row j x hx; lia
theorem CM (fs ls:List Int)(al:List (List Bool)): ∀i,(ck fs ls al i).2.length<=i * ls.length
 |0=>by show 0<=_; lia
 |i + 1=>by
  have:=CM fs ls al i
  have h2:=gv (fs.getD i 0) (ck fs ls al i).1 (al.getD i []) (ck fs ls al i).1.length
  rw[tJ,aC,ae,wI]
  unfold cS
  rw[jG] at h2 ⊢
  lia
inductive wc (K:Frag)(vs:List V)(H:Hp)(Q:VK)(E':XK):Prop
 |mk (pf pl pa:Addr)(fs ls:List Int)(al:List (List Bool))(h1:vs=[.ref pf,.ref pl,.ref pa])(h2:bA K H pf (fs.map V.int))(h3:bA K H pl (ls.map V.int))(h4:Rp H (.lst (al.map Ax)) (.ref pa))(h5:fs.length<=63)(h6:ls.length<=63)(h7:al.length=fs.length)(h8:(∀r∈al,r.length=ls.length))(h9: ∀(pm:Addr) (ms:List V) (H':Hp),aD H H'->H' pm=some (.lst ms)->nU H' (ck fs ls al fs.length).2 ms->Q (.ref pm) H'):wc K vs H Q E'
theorem FN {H:Hp}: ∀(r:List Bool) {xs:List V},hV H (r.map Dt.bl) xs->xs=r.map V.bl
 |[],_,h=>cQ.mp h
 |b :: r,_,h=>by
  obtain⟨v,rest,e,h1,h2⟩:=bC.mp h
  rw[e,qI.mp h1,FN r h2]; rfl
theorem PQ {H:Hp}{al:List (List Bool)}{refs:List V}(h:hV H (al.map Ax) refs){i:Nat}(hi:i < al.length): ∃pr,refs[i]? =some (.ref pr)/\H pr=some (.lst (al[i].map V.bl)):=by
 have g0:(al.map Ax)[i]? =some (Ax al[i]):=by rw[aB,af hi]; rfl
 obtain⟨rv,VC,VD⟩:=h.get g0
 obtain⟨pr,Yf,e1,K9,yD⟩:=jP.mp VD
 rw[FN _ yD] at K9
 exact⟨pr,by rw[VC,e1],K9⟩
theorem o8:aS ["frees","lefts","allowed","still_left","made","credit","free","parts","bill","amount"] ["frees","lefts","allowed"] (ay (top 22)):={}
theorem AA (T:Txt K mg):eM P w K mg base "shared_out" 2 ["frees","lefts","allowed"] (wc K):=by
 have Et:eM P w K mg base "parts_of" 1 ["free","lefts","fitting"] (Az K):=Es T
 refine T.zB.fe (k:=1) o8 (fun f cU A outer s H vs Q E hr h=>?_)
 ·obtain⟨pf,pl,pa,fs,ls,al,rfl,hF,hL,hA,hf1,Nw,W0,Kd,k⟩:=h
  have hu:=jM hr
  have nd:=o8.nd
  obtain⟨pa',refs,e0,Yd,Eo⟩:=jP.mp hA
  cases e0
  refine⟨_,(ah (sv 3 nd (gF zi (by rfl) T.vE boot_list (aa (pv 1) av)))
(ah (sv 4 nd (bP av))
(ah (dZ bw rfl (qG rfl T.jh (aa (pv 0) av)) (iU rfl (bY (gn 5 nd) (bY (gn 6 nd) gE)))
(ah (sv 7 nd (fc Et hr (aa (pv 6) (aa (pv 3) (aa (xl (pv 2) (pv 5)) av)))))
(au (dZ bw rfl (cO (pv 7)) (iU rfl (bY (gn 8 nd) (bY (gn 9 nd) gE)))
(ah (lY (aO eP (xl (pv 3) (pv 8)) (pv 9)) (pI (pv 3) (pv 8) set_list))
(au (bK (oW (pv 4) (cG (aa (pv 5) (aa (pv 8) (aa (pv 9) av))))))))))))
(au (a0 (pv 4)))))),?_⟩
  refine⟨_,rfl,pl,_,rfl,.inl hL,fun q nq=>?_⟩
  refine⟨bh _,fun pm nm=>?_⟩
  have s1:aD H (upd H q (.lst (ls.map V.int))):=aD.new nq
  have s2:aD H (upd (upd H q (.lst (ls.map V.int))) pm (.lst [])):=s1.trans (aD.new nm)
  have Ye:H pm=none:=s1.free nm
  have Yi:q≠pm:=aJ ag nm
  refine⟨_,rfl,pf,rfl,⟨_,s2.seq hF⟩,?_⟩
  refine m8 (K:=K) (a:=pf) (xs:=fs.map V.int) (fun i σ H2=> ∃(x5 x6 x7 x8 x9:Option V) (ms:List V),σ=[some (.ref pf),some (.ref pl),some (.ref pa),some (.ref q),some (.ref pm),x5,x6,x7,x8,x9]/\aD H H2/\H2 q=some (.lst ((ck fs ls al i).1.map V.int))/\H2 pm=some (.lst ms)/\nU H2 (ck fs ls al i).2 ms)
   ⟨none,none,none,none,none,[],rfl,s2,by rw[az Yi]; exact ag,ag,.nil⟩ (fun i σ H2 _ ⟨_,_,_,_,_,_,_,s3,_⟩=>s3.seq hF) ?_ ?_
  ·rintro i x p σ H2 hx hp ⟨x5,x6,x7,x8,x9,ms,rfl,s3,hQ,hM,FL⟩
   have hi:i < fs.length:=by have:=(ak.mp hx).1; rwa [ae] at this
   rw[aB,af hi] at hx
   obtain rfl:V.int fs[i]=x:=aF hx
   have s4:aD H2 (upd H2 p (.tup [.int i,.int fs[i]])):=aD.new hp
   refine⟨p,_,rfl,cg.of ag,rfl,_,_,rfl,_,_,rfl,rfl,?_⟩
   have s5:=s3.trans s4
   have VE:=s4 _ _ hQ
   have nW:=s4 _ _ hM
   have Ep:=FL.mono (f9 s4)
   generalize upd H2 p (.tup [.int i,.int fs[i]])=H3 at s5 VE nW Ep ⊢
   clear s4 hp
   have TV:i < al.length:=by lia
   obtain⟨pr,Yj,Yk⟩:=PQ Eo TV
   have Yg:fs.getD i 0=fs[i]:=getD_at hi
   have Yh:al.getD i []=al[i]:=getD_at TV
   have Ed:=jG fs ls al i
   have PR:cS fs ls al i=(bD fs[i] (ck fs ls al i).1 al[i] (ck fs ls al i).1.length).2:=by unfold cS; rw[Yg,Yh]
   have aan:(cS fs ls al i).length<=ls.length:=by rw[PR,Ed]; exact gv _ _ _ _
   have Yl: ∀x∈cS fs ls al i,x.1 < ls.length:=by rw[PR,Ed]; exact qe _ _ _ _
   have Q5:=CM fs ls al i
   have ac1:(ck fs ls al i).2.length<=3969:=aZ Q5 (qv (show i<=63 by lia) Nw)
   refine⟨_,rfl,_,rfl,_,rfl,_,rfl,pa,_,_,.ref pr,rfl,rfl,bA.of (s5 _ _ Yd),cy Yj,fs[i],q,(ck fs ls al i).1,pr,al[i],rfl,bA.of VE,bA.of (s5 _ _ Yk),by rw[Ed]; exact Kd _ (bG _),by rw[Ed]; lia,fun r TX H4 s6 PU XJ hP=>?_⟩
   rw[← PR] at hP
   have hQ5:=s6 _ _ VE
   have wb:=s6 _ _ nW
   have Ym:=Ep.mono (f9 s6)
   have hrq:r≠q:=(aJ VE PU).symm
   have Sm:r≠pm:=(aJ nW PU).symm
   have s7:=s5.trans s6
   have PH:TX.length=(cS fs ls al i).length:=hP.length.symm
   refine⟨_,rfl,r,rfl,⟨_,bA.of XJ⟩,?_⟩
   refine fH (K:=K) (a:=r) (xs:=TX) (fun m σ H5=> ∃(x8 x9:Option V) (ms:List V),σ=[some (.ref pf),some (.ref pl),some (.ref pa),some (.ref q),some (.ref pm),some (.int i),some (.int fs[i]),some (.ref r),x8,x9]/\aD H H5/\H5 q=some (.lst ((dG (ck fs ls al i).1 ((cS fs ls al i).take m)).map V.int))/\H5 pm=some (.lst ms)/\nU H5 ((ck fs ls al i).2 ++ ((cS fs ls al i).take m).map fun x=>(i,x.1,x.2)) ms/\H5 r=some (.lst TX)/\PN H5 (cS fs ls al i) TX)
    ⟨_,_,ms,rfl,s7,hQ5,wb,by simpa using Ym,XJ,hP⟩ (fun m σ H5 _ ⟨_,_,_,_,_,_,_,_,h,_⟩=>bA.of h) ?_ ?_
   ·rintro m x σ H5 hx ⟨y8,y9,TY,rfl,t5,PV,Ke,Er,NC,Q2⟩
    have hm:m < (cS fs ls al i).length:=by have:=(ak.mp hx).1; lia
    have g0:(cS fs ls al i)[m]? =some (cS fs ls al i)[m]:=af hm
    obtain⟨v,hv,pp,e1,Io⟩:=bI Q2 g0
    rw[hx] at hv
    obtain rfl:x=v:=aF hv
    subst e1
    have hb:(cS fs ls al i)[m].1 < ls.length:=Yl _ (bG _)
    have lT:=jt hm
    have Vh:(dG (ck fs ls al i).1 ((cS fs ls al i).take m)).length=ls.length:=by rw[pQ,Ed]
    generalize (cS fs ls al i)[m]=pt at Io hb lT g0
    obtain⟨b,am⟩:=pt
    dsimp only at Io hb
    refine⟨pp,_,rfl,cg.of Io,rfl,_,_,rfl,_,_,rfl,rfl,?_⟩
    refine⟨_,rfl,_,rfl,q,_,_,_,rfl,rfl,bA.of PV,nF (by rw[Vh]; exact hb),_,rfl,_,_,rfl,rfl,_,rfl,_,rfl,q,_,_,b,rfl,rfl,PV,ra (by rw[ae,Vh]; exact hb),?_⟩
    rw[← Ih]
    have hap:dG (ck fs ls al i).1 ((cS fs ls al i).take (m + 1))=(dG (ck fs ls al i).1 ((cS fs ls al i).take m)).set b ((dG (ck fs ls al i).1 ((cS fs ls al i).take m)).getD b 0 - am):=by rw[lT,tf]
    rw[← hap]
    have t6:aD H (upd H5 q (.lst ((dG (ck fs ls al i).1 ((cS fs ls al i).take (m + 1))).map V.int))):=t5.cI nq
    have HJ:upd H5 q (.lst ((dG (ck fs ls al i).1 ((cS fs ls al i).take (m + 1))).map V.int)) pm=some (.lst TY):=by rw[az Yi.symm]; exact Ke
    have hQ7:upd H5 q (.lst ((dG (ck fs ls al i).1 ((cS fs ls al i).take (m + 1))).map V.int)) q=some (.lst ((dG (ck fs ls al i).1 ((cS fs ls al i).take (m + 1))).map V.int)):=ag
    have hr7:upd H5 q (.lst ((dG (ck fs ls al i).1 ((cS fs ls al i).take (m + 1))).map V.int)) r=some (.lst TX):=by rw[az hrq]; exact NC
    have PX:=Er.mono (dC (o:= .lst ((dG (ck fs ls al i).1 ((cS fs ls al i).take (m + 1))).map V.int)) PV)
    have hP7:=Q2.mono (dC (o:= .lst ((dG (ck fs ls al i).1 ((cS fs ls al i).take (m + 1))).map V.int)) PV)
    generalize upd H5 q (.lst ((dG (ck fs ls al i).1 ((cS fs ls al i).take (m + 1))).map V.int))=H6 at t6 HJ hQ7 hr7 PX hP7 ⊢
    have FC:=PX.length
    rw[aC,ae,bf] at FC
    refine⟨_,rfl,.inl ⟨rfl,_,bA.of HJ⟩,_,rfl,_,rfl,_,rfl,(by show 3<=sizeLine; decide),fun p8 n8=>?_⟩
    have s8:aD H6 (upd H6 p8 (.tup [.int i,.int b,.int am])):=aD.new n8
    refine⟨pm,TY,_,rfl,rfl,s8 _ _ HJ,i9 (by lia),?_⟩
    refine⟨_,_,TY ++ [.ref p8],rfl,(t6.trans s8).cI Ye,?_,ag,?_,?_,?_⟩
    ·rw[az Yi]; exact s8 _ _ hQ7
    ·rw[lT,aK,← eL]
     exact cz ((PX.mono (f9 s8)).mono (dC (s8 _ _ HJ))) ⟨p8,rfl,dC (s8 _ _ HJ) _ _ ag⟩
    ·rw[az Sm]; exact s8 _ _ hr7
    ·exact(hP7.mono (f9 s8)).mono (dC (s8 _ _ HJ))
   ·rintro σ H5 ⟨y8,y9,TY,rfl,t5,PV,Ke,Er,NC,Q2⟩
    rw[PH,a7] at PV Er
    exact⟨_,_,_,_,_,TY,rfl,t5,by rw[CL]; exact PV,Ke,by rw[tJ]; exact Er⟩
  ·rintro σ H2 ⟨x5,x6,x7,x8,x9,ms,rfl,s3,hQ,hM,FL⟩
   rw[ae] at FL
   refine⟨_,rfl,?_⟩
   exact k _ _ _ s3 hM FL
theorem MJ {X:Cx}{K:Frag}{es:List Expr}{k:Nat}{pos:Pos}{t:Na}{n:Nat}(hK:X.K=K)(hc:X.calm=true)(h:KY X es t)(hn:(assignEach es X.env).length=n)(sR:(assignEach es X.env).findIdx? (·.1)=none):PG X (.Tuple es k pos) (RF K n t):=by
 subst hK
 exact iU hc h hn sR
theorem fZ {H H':Hp}{tb:Addr}{fp:List Addr}{pos:Pos}{qual:Str}(t:Tb H tb pos qual)(fr:Frame fp H H')(ht:tb∉fp)(hf: ∀a∈fp,∀φ,H a≠some (.ext φ)):Tb H' tb pos qual:=by
 obtain⟨ps,h1,h2,h3⟩:=t
 refine⟨ps,fr _ _ ht h1,h2,?_⟩
 rcases h3 with h3|⟨c',h3,h4⟩
 ·exact .inl h3
 ·exact .inr ⟨c',h3,fr _ _ (fun z=>hf _ z _ h4) h4⟩
theorem c9 {H:Hp}{tb:Addr}{pos:Pos}{qual:Str}(t:Tb H tb pos qual): ∃ps,H tb=some (.mO ps):=let⟨ps,e,_⟩:=t; ⟨ps,e⟩
theorem dF {fp Sv:List Addr}{H H':Hp}(f:Frame fp H H')(h: ∀x∈fp,x∈Sv):Frame Sv H H':=fun b o hb e=>f b o (fun z=>hb (h b z)) e
theorem uG {H:Hp}{p C D:Addr}{fs:List (Str×V)}{ys:List V}{o:HO}(h:eA H p C fs)(e:H D=some (.lst ys)):eA (upd H D o) p C fs:=let⟨dx,z⟩:=h; ⟨dx,by rw[az (mz z e (by intro q; cases q))]; exact z⟩
theorem gK.upd {A:dY}{H:Hp}{S:Bk}{cs:List Nat}{qs:List Addr}{D:Addr}{ys:List V}{o:HO}(h:gK A H S cs qs)(e:H D=some (.lst ys)):gK A (L2.upd H D o) S cs qs:=Paired.gP h fun _ _ z=>uG z e
theorem iE.upd {A:dY}{H:Hp}{S:Bk}{cs:List Nat}{qs:List Addr}{D:Addr}{ys:List V}{o:HO}(h:iE A H S cs qs)(e:H D=some (.lst ys)):iE A (L2.upd H D o) S cs qs:=Paired.gP h fun _ _ z=>uG z e
theorem gK.tb {A:dY}{H H':Hp}{S:Bk}{cs:List Nat}{qs:List Addr}{tb:Addr}{pos:Pos}{qual:Str}(h:gK A H S cs qs)(t:Tb H tb pos qual)(fr:Frame [tb] H H'):gK A H' S cs qs:=Paired.gP h fun _ _ z=>z.frame fr (v7 t z)
theorem ou {rows:List Rw}{c:Nat}(h:c < rows.length):(rows.map fun r=>V.int r.d)[c]? =some (.int (rows.getD c default).d):=by
 rw[aB,af h,aj,af h]; rfl
theorem ow (rows:List Rw)(aH:Str)(key:Rw->Int):(inOrder rows aH key).length<=rows.length:=by
 have e:(inOrder rows aH key).length=((List.range rows.length).filter fun k=>decide ((rows.getD k default).aH=aH)).length:=by
  unfold inOrder gu
  rw[ae,(dg _).length_eq,ae]
 have:=aX (fun k=>decide ((rows.getD k default).aH=aH)) (List.range rows.length)
 rw[dr] at this
 lia
def mF (rows:List Rw)(k:Nat):Bool:=decide (0 < (rows.getD k default).d)
abbrev Kf:=List Int->List Int->List (List Bool)->List (Nat×Nat×Int)
def qf:Kf:=fun fs ls al=>(bU fs ls al fs.length).2
def CO:Kf:=fun fs ls al=>(ck fs ls al fs.length).2
structure Kg (way:Kf):Prop where
 lt: ∀fs ls al,∀t∈way fs ls al,t.1 < fs.length/\t.2.1 < ls.length
 len: ∀fs ls al,fs.length<=63->ls.length<=63->(way fs ls al).length<=4000
def PY (way:Kf)(sp:Sp):Prop:= ∀(pf pl pa:Addr) (fs ls:List Int) (al:List (List Bool)) (H:Hp) (Q:VK),H pf=some (.lst (fs.map V.int))->H pl=some (.lst (ls.map V.int))->Rp H (.lst (al.map Ax)) (.ref pa)->fs.length<=63->ls.length<=63->al.length=fs.length->(∀r∈al,r.length=ls.length)->
 (∀(pm:Addr) (ms:List V) (H':Hp),aD H H'->H' pm=some (.lst ms)->ie H' (way fs ls al) ms->Q (.ref pm) H')->sp [.ref pf,.ref pl,.ref pa] H Q E0
def jb (H:Hp)(D:Addr)(al:List (List Bool))(rs:List V):Prop:=Paired (fun(r:List Bool) v=> ∃p,v= .ref p/\p≠D/\H p=some (.lst (r.map V.bl))) al rs
theorem jb.upd {H:Hp}{D:Addr}{al:List (List Bool)}{rs:List V}{o:HO}(h:jb H D al rs):jb (L2.upd H D o) D al rs:=Paired.gP h fun _ _ ⟨p,e,n,z⟩=>⟨p,e,n,by rw[az n]; exact z⟩
theorem jb.same {H H':Hp}{D:Addr}{al:List (List Bool)}{rs:List V}(h:jb H D al rs)(s:aD H H'):jb H' D al rs:=Paired.gP h fun _ _ ⟨p,e,n,z⟩=>⟨p,e,n,s _ _ z⟩
theorem yM {H:Hp}: ∀r:List Bool,hV H (r.map Dt.bl) (r.map V.bl)
 |[]=>cQ.mpr rfl
 |b :: r=>bC.mpr ⟨_,_,rfl,qI.mpr rfl,yM r⟩
theorem jb.rp {H:Hp}{D:Addr}: ∀{al:List (List Bool)} {rs:List V},jb H D al rs->hV H (al.map Ax) rs
 |_,_,.nil=>cQ.mpr rfl
 |_,_,.cons ⟨p,e,_,z⟩ t=>bC.mpr ⟨_,_,rfl,e▸jz z (yM _),jb.rp t⟩
theorem HL {S:Bk}{l:List (Nat×Nat×Int)}{i:Nat}{t:Nat×Nat×Int}(h:l[i]? =some t):kz S (l.take (i + 1))=(kz S (l.take i)).put t.1 t.2.1 t.2.2:=jJ (fun(S:Bk) (t:Nat×Nat×Int)=>S.put t.1 t.2.1 t.2.2) l S h
theorem FO (S:Bk): ∀l,(kz S l).aI.length=S.aI.length/\(kz S l).credits.length=S.credits.length
 |[]=>⟨rfl,rfl⟩
 |t :: l=>by
  obtain⟨a,b⟩:=FO (S.put t.1 t.2.1 t.2.2) l
  exact⟨a.trans eh,b.trans eh⟩
inductive AB (P:Program)(w:World)(K:Frag)(mg:Str->Option Value)(base:Heap)(A:dY)(tB tC:Addr)(vs:List V)(H:Hp)(Q:VK)(E':XK):Prop
 |mk (pw fa:Addr)(S:Bk)(f:eN)(n:Nat)(aH:Str)(way:Kf)(sp:Sp)(h1:vs=[.ref pw,.str aH,.ref fa])(h2:dE A H pw S f)(h3:WF S n)(h4:n<=62)(h5:lN H tB)(h6:mr H tC)(h7:Kg way)(h8:XB P w K mg base 2 fa sp)(h9:PY way sp)(K3: ∀gs ts fs ls al,vh S aH gs ts fs ls al-> ∀D ms H',Frame (tB :: tC :: f.fp) H H'->lN H' tB->mr H' tC->dE A H' pw (kz S ((way fs ls al).map (ma gs ts))) f->H D=none->H' D=some (.lst ms)->ie H' ((way fs ls al).map (ma gs ts)) ms->Q (.ref D) H'):AB P w K mg base A tB tC vs H Q E'
theorem kN:aS ["self","who","way","givers","takers","frees","lefts","found","numbered","credit_number","bill_number","amount"] ["self","who","way"] (ay (mem 25 7)):={}
theorem CP (T:Txt K mg){A:dY}{tB tC:Addr}(G:jB K mg A)(DB:qr K mg "bills_in_order" (top 17) tB)(DC:qr K mg "credits_in_order" (top 18) tC)(je:tB≠tC)(KB:K.In base)(BM:BMain mg base):gW sf P w K mg base A.work "one_round" 3 ["self","who","way"] (AB P w K mg base A tB tC):=by
 have i6:eM P w K mg base "bills_in_order" 2 ["bills","who"] (uC A tB):=lM T G DB KB BM
 have hJ:eM P w K mg base "credits_in_order" 2 ["all_credits","who"] (uD A tC):=j9 T G DC KB BM
 have xM:eM P w K mg base "row_of_fits" 2 ["credit","bills"] (JZ A):=xy T G
 have JW:gW sf P w K mg base A.work "put" 1 ["self","credit_number","bill_number","amount"] (z8 A):=Nv G
 refine Mp (k:=2) G.qX G.bH kN (fun f cU A' outer s H vs Q E hr h=>?_)
 ·obtain⟨pw,fa,S,g,n,aH,way,sp,rfl,hW,wf,hn,kj,jK,TZ,hFv,hWC,k⟩:=h
  have nd:=kN.nd
  have hlc:S.credits.length<=62:=by have:=wf.lc; lia
  have hlb:S.aI.length<=62:=by have:=wf.lb; lia
  refine⟨_,(ah (sv 3 nd (gq (tn:=["credit"]) (cn:=["self"]) (cj:=[0]) rfl (gY (zo:=[(".0",.local),("credit",.local),("self",.cell)])) (cO (fc hJ hr (aa (bX (pv 0) rfl) (aa (pv 1) av)))) (fun _ _ _ _=>(dU (i:=0) (show(["credit","self"]:List Str).Nodup by decide +kernel) rfl (Or.inl rfl))) (fun _ _ _ _=>(mZ (aV iO (jd (ly (K:=K) rfl) (fz (K:=K) rfl (pv 1) rfl) (fz (K:=K) rfl (pv 0) rfl) (fun _ _=>rfl)) ai (aY _)))) (fun _ _ _ _=>(pv 0))))
(ah (sv 4 nd (gq (tn:=["bill"]) (cn:=["self"]) (cj:=[0]) rfl (gY (zo:=[(".0",.local),("bill",.local),("self",.cell)])) (cO (fc i6 hr (aa (bX (pv 0) rfl) (aa (pv 1) av)))) (fun _ _ _ _=>(dU (i:=0) (show(["bill","self"]:List Str).Nodup by decide +kernel) rfl (Or.inl rfl))) (fun _ _ _ _=>(mZ (aV iO (jd (ly (K:=K) rfl) (fz (K:=K) rfl (pv 1) rfl) (fz (K:=K) rfl (pv 0) rfl) (fun _ _=>rfl)) ai (aY _)))) (fun _ _ _ _=>(pv 0))))
(ah (jN (i:=5) nd rfl (Or.inl rfl) (tn:=["credit"]) (cn:=["self"]) (cj:=[0]) rfl (gY (zo:=[(".0",.local),("credit",.local),("self",.cell)])) (cO (pv 3)) (fun _ _ _ _=>(dU (i:=0) (show(["credit","self"]:List Str).Nodup by decide +kernel) rfl (Or.inl rfl))) (fun _ _ _ _=>kQ) (fun _ _ _ _=>(jd (ly (K:=K) rfl) (fz (K:=K) rfl (pv 1) rfl) (fz (K:=K) rfl (pv 0) rfl) (fun _ _=>rfl))))
(ah (jN (i:=6) nd rfl (Or.inl rfl) (tn:=["bill"]) (cn:=["self"]) (cj:=[0]) rfl (gY (zo:=[(".0",.local),("bill",.local),("self",.cell)])) (cO (pv 4)) (fun _ _ _ _=>(dU (i:=0) (show(["bill","self"]:List Str).Nodup by decide +kernel) rfl (Or.inl rfl))) (fun _ _ _ _=>kQ) (fun _ _ _ _=>(jd (ly (K:=K) rfl) (fz (K:=K) rfl (pv 1) rfl) (fz (K:=K) rfl (pv 0) rfl) (fun _ _=>rfl))))
(ah (sv 7 nd (Pb (i:=2) (k:=2) (hr.mono (by decide)) rfl (Or.inl rfl) (aa (pv 5) (aa (pv 6) (aa (gq (tn:=["credit"]) (cn:=["takers"]) (cj:=[4]) rfl (gY (zo:=[(".0",.local),("credit",.local),("row_of_fits",.globalImplicit),("takers",.cell)])) (cO (pv 3)) (fun _ _ _ _=>(dU (i:=0) (show(["credit","takers"]:List Str).Nodup by decide +kernel) rfl (Or.inl rfl))) (fun _ _ _ _=>kQ) (fun _ _ _ _=>(fc xM hr (aa (pv 0) (aa (pv 1) av))))) av)))))
(ah (jN (i:=8) nd rfl (Or.inl rfl) (tn:=["giver","taker","amount"]) (cn:=["takers","givers"]) (cj:=[4,3]) rfl (Ao (zo:=[(".0",.local),("giver",.local),("taker",.local),("amount",.local),("givers",.cell),("takers",.cell)])) (cO (pv 7)) (fun _ _ _ _=>(MJ (K:=K) (n:=3) rfl rfl (bY (dU (i:=0) (show(["giver","taker","amount","takers","givers"]:List Str).Nodup by decide +kernel) rfl (Or.inl rfl) (Or.inr rfl)) (bY (dU (i:=1) (show(["giver","taker","amount","takers","givers"]:List Str).Nodup by decide +kernel) rfl (Or.inl rfl) (Or.inr rfl)) (bY (dU (i:=2) (show(["giver","taker","amount","takers","givers"]:List Str).Nodup by decide +kernel) rfl (Or.inl rfl) (Or.inr rfl)) gE))) rfl rfl)) (fun _ _ _ _=>kQ) (fun _ _ _ _=>(cG (aa (fz (K:=K) rfl (jd (ly (K:=K) rfl) (pv 4) (pv 0) (fun _ _=>rfl)) rfl) (aa (fz (K:=K) rfl (jd (ly (K:=K) rfl) (pv 3) (pv 1) (fun _ _=>rfl)) rfl) (aa (pv 2) av))))))
(ah (dZ bw rfl (cO (pv 8)) (iU rfl (bY (gn 9 nd) (bY (gn 10 nd) (bY (gn 11 nd) gE))))
(au (bK (nE JW (hr.mono (by decide)) mY (pv 0) (aa (pv 9) (aa (pv 10) (aa (pv 11) av)))))))
(au (a0 (pv 8)))))))))),?_⟩
  obtain⟨dw,hw⟩:=hW.obj
  refine⟨_,rfl,pw,_,dw,_,_,rfl,hw,G.bH,G.cF,g9 g,_,rfl,g.pc,g.cps,S,aH,rfl,hW.hc,hW.rc,(by lia),jK,fun D1 Yn H1 Kh kb T1 Hw Js=>?_⟩
  have Dh:=v8 hW (c9 jK) Kh
  have Ki: ∀a∈[tC],∀φ,H a≠some (.ext φ):=fun a ha φ e=>by
   obtain⟨ps,z⟩:=c9 jK
   rw[ao.mp ha,z] at e
   cases e
  have js:lN H1 tB:=fZ kj Kh (by simpa using je) Ki
  have F1:Frame (tB :: tC :: g.fp) H H1:=dF Kh (by intro x hx; rw[List.mem_singleton.mp hx]; simp)
  clear Ki
  refine⟨D1,rfl,⟨_,bA.of Hw⟩,?_⟩
  have MD:=ow S.credits aH (·.a)
  have PZ: ∀c∈inOrder S.credits aH (·.a),c < S.credits.length:=fun c hc=>(kE.mp hc).1
  have LS:=hX S.credits aH (·.a)
  generalize inOrder S.credits aH (·.a)=ord at Js MD PZ LS
  have Le:=aL Js
  refine dO (K:=K) (a:=D1) (xs:=Yn.map V.ref) (fun D i σ H6=>H1 D=none/\ ∃(v:Option V) (rs:List Addr),σ=[v,some (.ref pw)]/\aD H1 H6/\H6 D=some (.lst (rs.map V.ref))/\gK A H6 S ((ord.take i).filter (mF S.credits)) rs) (fun D hD=>⟨hD,none,[],rfl,aD.new hD,ag,.nil⟩) (fun D i σ H6 _ ⟨_,_,_,_,t3,_⟩=>bA.of (t3 _ _ Hw)) ?_ ?_
  ·rintro D i x σ H6 hx ⟨hD,v,rs,rfl,t3,gi,P0⟩
   rw[aB] at hx
   obtain⟨q,hq,rfl⟩:=bo.mp hx
   have hi:i < ord.length:=by have:=(ak.mp hq).1; lia
   have oP:=af hi
   obtain⟨q',sU,lL⟩:=bI Js oP
   rw[hq] at sU
   obtain rfl:q=q':=aF sU
   have k6:=fv (mF S.credits) oP
   have qQ:=PZ _ (bG hi)
   generalize ord[i]=c at lL k6 qQ
   obtain⟨dq,MK⟩:=lL.same t3
   have Kj:=Dh.same t3
   obtain⟨P1,P2⟩:=Kj.obj
   have BC:rs.length<=1000:=by
    have e1:=aL P0
    have e2:=aX (mF S.credits) (ord.take i)
    rw[bf] at e2
    lia
   refine⟨_,rfl,pw,_,P1,_,_,rfl,P2,G.bH,G.fF,lH g,_,rfl,q,_,dq,_,_,rfl,MK,G.dh,G.eO,oq _ _,g.pf,_,_,.int (S.cr c).d,rfl,rfl,bA.of Kj.hf,cy (ou qQ),_,_,rfl,rfl,_,rfl,cm (fun z=>?_) (fun z=>?_)⟩
   ·have z':mF S.credits c=true:=z
    rw[a8 z'] at k6
    refine⟨_,rfl,_,gi,a9 (by rw[ae]; exact BC),hD,_,rs ++ [q],rfl,t3.cI hD,(by rw[ag,aK]; rfl),?_⟩
    rw[k6]
    exact cz (P0.upd gi) (uG ⟨dq,MK⟩ gi)
   ·have z': ¬ mF S.credits c=true:=z
    rw[aU z',bR] at k6
    refine⟨hD,_,rs,rfl,t3,gi,?_⟩
    rw[k6]
    exact P0
  rintro pg σ H2 npg ⟨_,v,rs,rfl,s2,VF,ML⟩
  rw[ae,← Le,a7] at ML
  have egs:ord.filter (mF S.credits)=inTurn S.credits aH (·.a):=LS.symm
  rw[egs] at ML
  clear LS egs PZ MD Js Le Hw
  have PM:(inTurn S.credits aH (·.a)).length<=62:=by
   rw[hX]
   have e1:=aX (fun k=>decide (0 < (S.credits.getD k default).d)) (inOrder S.credits aH (·.a))
   have e2:=ow S.credits aH (·.a)
   lia
  have VG: ∀c∈inTurn S.credits aH (·.a),c < S.credits.length:=fun c hc=>(eR.mp hc).1
  have Av:=Dh.same s2
  have kB:lN H2 tB:=bM js s2
  have mL:mr H2 tC:=bM kb s2
  have F2:=F1.cX s2
  clear Kh Dh js kb s2 F1
  obtain⟨Yo,QV⟩:=Av.obj
  refine⟨_,rfl,pw,_,Yo,_,_,rfl,QV,G.bH,G.dX,ji g,_,rfl,g.pb,g.iA,S,aH,rfl,Av.hb,Av.rb,(by lia),kB,fun D1 Yn H1 Kh js T1 Hw Js=>?_⟩
  have Dh:=v8 Av (c9 kB) Kh
  have Ki: ∀a∈[tB],∀φ,H2 a≠some (.ext φ):=fun a ha φ e=>by
   obtain⟨ps,z⟩:=c9 kB
   rw[ao.mp ha,z] at e
   cases e
  have kb:mr H1 tC:=fZ mL Kh (by simpa using je.symm) Ki
  have F1:Frame (tB :: tC :: g.fp) H H1:=F2.tr (dF Kh (by intro x hx; rw[List.mem_singleton.mp hx]; simp))
  have hG1:=ML.tb kB Kh
  have T2:H1 pg=some (.lst (rs.map V.ref)):=Kh _ _ (fun z=>by
   obtain⟨ps,e⟩:=c9 kB
   rw[ao.mp z,e] at VF
   cases VF) VF
  clear Ki
  refine⟨D1,rfl,⟨_,bA.of Hw⟩,?_⟩
  have MD:=ow S.aI aH (·.b)
  have PZ: ∀c∈inOrder S.aI aH (·.b),c < S.aI.length:=fun c hc=>(kE.mp hc).1
  have LS:=hX S.aI aH (·.b)
  generalize inOrder S.aI aH (·.b)=ord at Js MD PZ LS
  have Le:=aL Js
  refine dO (K:=K) (a:=D1) (xs:=Yn.map V.ref) (fun D i σ H6=>H1 D=none/\ ∃(v:Option V) (us:List Addr),σ=[v,some (.ref pw)]/\aD H1 H6/\H6 D=some (.lst (us.map V.ref))/\iE A H6 S ((ord.take i).filter (mF S.aI)) us) (fun D hD=>⟨hD,none,[],rfl,aD.new hD,ag,.nil⟩) (fun D i σ H6 _ ⟨_,_,_,_,t3,_⟩=>bA.of (t3 _ _ Hw)) ?_ ?_
  ·rintro D i x σ H6 hx ⟨hD,v,us,rfl,t3,gi,P0⟩
   rw[aB] at hx
   obtain⟨q,hq,rfl⟩:=bo.mp hx
   have hi:i < ord.length:=by have:=(ak.mp hq).1; lia
   have oP:=af hi
   obtain⟨q',sU,lL⟩:=bI Js oP
   rw[hq] at sU
   obtain rfl:q=q':=aF sU
   have k6:=fv (mF S.aI) oP
   have qQ:=PZ _ (bG hi)
   generalize ord[i]=c at lL k6 qQ
   obtain⟨dq,MK⟩:=lL.same t3
   have Kj:=Dh.same t3
   obtain⟨P1,P2⟩:=Kj.obj
   have BC:us.length<=1000:=by
    have e1:=aL P0
    have e2:=aX (mF S.aI) (ord.take i)
    rw[bf] at e2
    lia
   refine⟨_,rfl,pw,_,P1,_,_,rfl,P2,G.bH,G.fE,lG g,_,rfl,q,_,dq,_,_,rfl,MK,G.d9,G.eV,lE _ _,g.pl,_,_,.int (S.bl c).d,rfl,rfl,bA.of Kj.hl,cy (ou qQ),_,_,rfl,rfl,_,rfl,cm (fun z=>?_) (fun z=>?_)⟩
   ·have z':mF S.aI c=true:=z
    rw[a8 z'] at k6
    refine⟨_,rfl,_,gi,a9 (by rw[ae]; exact BC),hD,_,us ++ [q],rfl,t3.cI hD,(by rw[ag,aK]; rfl),?_⟩
    rw[k6]
    exact cz (P0.upd gi) (uG ⟨dq,MK⟩ gi)
   ·have z': ¬ mF S.aI c=true:=z
    rw[aU z',bR] at k6
    refine⟨hD,_,us,rfl,t3,gi,?_⟩
    rw[k6]
    exact P0
  rintro pt σ H3 npt ⟨_,v',us,rfl,s3,wF,Fz⟩
  rw[ae,← Le,a7] at Fz
  have ets:ord.filter (mF S.aI)=inTurn S.aI aH (·.b):=LS.symm
  rw[ets] at Fz
  clear LS ets PZ MD Js Le Hw
  have htl:(inTurn S.aI aH (·.b)).length<=62:=by
   rw[hX]
   have e1:=aX (fun k=>decide (0 < (S.aI.getD k default).d)) (inOrder S.aI aH (·.b))
   have e2:=ow S.aI aH (·.b)
   lia
  have ND: ∀c∈inTurn S.aI aH (·.b),c < S.aI.length:=fun c hc=>(eR.mp hc).1
  have z9:=Dh.same s3
  have rE:lN H3 tB:=bM js s3
  have rF:mr H3 tC:=bM kb s3
  have F3:=F1.cX s3
  have T3:=hG1.same s3
  have MM:=s3 _ _ T2
  clear Kh Dh js kb s3 F1 hG1 T2 F2 Av kB mL ML VF QV
  generalize hgs:inTurn S.credits aH (·.a)=gs at T3 PM VG
  generalize hts:inTurn S.aI aH (·.b)=ts at Fz htl ND
  have hgq:=aL T3
  have htq:=aL Fz
  have hR:vh S aH gs ts (gs.map fun g=>(S.cr g).d) (ts.map fun t=>(S.bl t).d) (gs.map fun g=>ts.map fun t=>S.eK g t):=⟨hgs.symm,hts.symm,rfl,rfl,rfl⟩
  refine⟨_,rfl,pg,rfl,⟨_,bA.of MM⟩,?_⟩
  refine dO (K:=K) (a:=pg) (xs:=rs.map V.ref) (fun D i σ H6=>H3 D=none/\ ∃(v:Option V),σ=[v,some (.ref pw)]/\aD H3 H6/\H6 D=some (.lst (((gs.take i).map fun g=>(S.cr g).d).map V.int))) (fun D hD=>⟨hD,none,rfl,aD.new hD,ag⟩) (fun D i σ H6 _ ⟨_,_,_,t3,_⟩=>bA.of (t3 _ _ MM)) ?_ ?_
  ·rintro D i x σ H6 hx ⟨hD,v,rfl,t3,gi⟩
   rw[aB] at hx
   obtain⟨q,hq,rfl⟩:=bo.mp hx
   have hi:i < gs.length:=by have:=(ak.mp hq).1; lia
   obtain⟨q',sU,lL⟩:=bI T3 (af hi)
   rw[hq] at sU
   obtain rfl:q=q':=aF sU
   have lT:=jt hi
   have qQ:=VG _ (bG hi)
   generalize gs[i]=c at lL lT qQ
   obtain⟨dq,MK⟩:=lL.same t3
   have Kj:=z9.same t3
   obtain⟨P1,P2⟩:=Kj.obj
   refine⟨_,rfl,pw,_,P1,_,_,rfl,P2,G.bH,G.fF,lH g,_,rfl,q,_,dq,_,_,rfl,MK,G.dh,G.eO,oq _ _,g.pf,_,_,.int (S.cr c).d,rfl,rfl,bA.of Kj.hf,cy (ou qQ),_,gi,a9 (by rw[ae,ae,bf]; lia),hD,_,rfl,t3.cI hD,?_⟩
   rw[ag,lT,aK,aK]
   rfl
  rintro pf σ H4 MN ⟨_,v4,rfl,s4,FG⟩
  rw[ae,← hgq,a7] at FG
  have hG4:=T3.same s4
  have NF:=Fz.same s4
  have TM:=z9.same s4
  have sH:lN H4 tB:=bM rE s4
  have sI:mr H4 tC:=bM rF s4
  have F4:=F3.cX s4
  have T4:=s4 _ _ MM
  have we:=s4 _ _ wF
  clear s4 F3 rE rF z9 Fz T3 MM wF
  refine⟨_,rfl,pt,rfl,⟨_,bA.of we⟩,?_⟩
  refine dO (K:=K) (a:=pt) (xs:=us.map V.ref) (fun D i σ H6=>H4 D=none/\ ∃(v:Option V),σ=[v,some (.ref pw)]/\aD H4 H6/\H6 D=some (.lst (((ts.take i).map fun g=>(S.bl g).d).map V.int))) (fun D hD=>⟨hD,none,rfl,aD.new hD,ag⟩) (fun D i σ H6 _ ⟨_,_,_,t3,_⟩=>bA.of (t3 _ _ we)) ?_ ?_
  ·rintro D i x σ H6 hx ⟨hD,v,rfl,t3,gi⟩
   rw[aB] at hx
   obtain⟨q,hq,rfl⟩:=bo.mp hx
   have hi:i < ts.length:=by have:=(ak.mp hq).1; lia
   obtain⟨q',sU,lL⟩:=bI NF (af hi)
   rw[hq] at sU
   obtain rfl:q=q':=aF sU
   have lT:=jt hi
   have qQ:=ND _ (bG hi)
   generalize ts[i]=c at lL lT qQ
   obtain⟨dq,MK⟩:=lL.same t3
   have Kj:=TM.same t3
   obtain⟨P1,P2⟩:=Kj.obj
   refine⟨_,rfl,pw,_,P1,_,_,rfl,P2,G.bH,G.fE,lG g,_,rfl,q,_,dq,_,_,rfl,MK,G.d9,G.eV,lE _ _,g.pl,_,_,.int (S.bl c).d,rfl,rfl,bA.of Kj.hl,cy (ou qQ),_,gi,a9 (by rw[ae,ae,bf]; lia),hD,_,rfl,t3.cI hD,?_⟩
   rw[ag,lT,aK,aK]
   rfl
  rintro pl σ H5 Yp ⟨_,v5,rfl,s5,gQ⟩
  rw[ae,← htq,a7] at gQ
  have Yq:=hG4.same s5
  have Q4:=NF.same s5
  have hW5:=TM.same s5
  have Kk:lN H5 tB:=bM sH s5
  have Kl:mr H5 tC:=bM sI s5
  have F5:=F4.cX s5
  have MO:=s5 _ _ T4
  have P4:=s5 _ _ we
  have T5:=s5 _ _ FG
  clear s5 F4 sH sI TM NF hG4 T4 we FG
  refine⟨fa,sp,rfl,hFv,_,rfl,_,rfl,_,rfl,pg,rfl,⟨_,bA.of MO⟩,?_⟩
  refine dO (K:=K) (a:=pg) (xs:=rs.map V.ref) (fun D i σ H6=>H5 D=none/\ ∃(v:Option V) (ws:List V),σ=[v,some (.ref pt)]/\aD H5 H6/\H6 D=some (.lst ws)/\jb H6 D ((gs.take i).map fun g=>ts.map fun t=>S.eK g t) ws) (fun D hD=>⟨hD,none,[],rfl,aD.new hD,ag,.nil⟩) (fun D i σ H6 _ ⟨_,_,_,_,t3,_⟩=>bA.of (t3 _ _ MO)) ?_ ?_
  ·rintro D i x σ H6 hx ⟨hD,v,ws,rfl,t3,gi,Q7⟩
   rw[aB] at hx
   obtain⟨q,hq,rfl⟩:=bo.mp hx
   have hi:i < gs.length:=by have:=(ak.mp hq).1; lia
   obtain⟨q',sU,lL⟩:=bI Yq (af hi)
   rw[hq] at sU
   obtain rfl:q=q':=aF sU
   have lT:=jt hi
   have qQ:=VG _ (bG hi)
   generalize gs[i]=c at lL lT qQ
   have E2:=aL Q7
   rw[ae,bf] at E2
   refine⟨_,rfl,_,rfl,q,pt,S,c,ts,us,rfl,lL.same t3,t3 _ _ P4,Q4.same t3,(by lia),fun p H7 t7 np hp=>?_⟩
   have Yr:(ts.map fun b=>oX (S.cr c) (S.bl b) b)=ts.map fun t=>S.eK c t:=gS fun b hb=>yC wf qQ (ND b hb)
   rw[Yr] at hp
   have Q8:=t7 _ _ gi
   have Ld:p≠D:=(aJ gi np).symm
   refine⟨_,Q8,a9 (by lia),hD,_,ws ++ [.ref p],rfl,(t3.trans t7).cI hD,ag,?_⟩
   rw[lT,aK]
   exact cz ((Q7.same t7).upd) ⟨p,rfl,Ld,by rw[az Ld]; exact hp⟩
  rintro pa σ H6 npa ⟨_,v6,ws,rfl,s6,MP,Q7⟩
  rw[ae,← hgq,a7] at Q7
  refine hWC pf pl pa _ _ _ H6 _ (s6 _ _ T5) (s6 _ _ gQ) (jz MP Q7.rp) (by rw[ae]; lia) (by rw[ae]; lia) (by rw[ae,ae]) (fun r hr=>by
   obtain⟨x,_,rfl⟩:=bF.mp hr
   rw[ae,ae]) fun pm ms H7 s7 HM FL=>?_
  have iu:=TZ.lt (gs.map fun g=>(S.cr g).d) (ts.map fun t=>(S.bl t).d) (gs.map fun g=>ts.map fun t=>S.eK g t)
  have hlen:=TZ.len (gs.map fun g=>(S.cr g).d) (ts.map fun t=>(S.bl t).d) (gs.map fun g=>ts.map fun t=>S.eK g t) (by rw[ae]; lia) (by rw[ae]; lia)
  rw[ae,ae] at iu
  have kk:=k _ _ _ _ _ hR
  generalize way (gs.map fun g=>(S.cr g).d) (ts.map fun t=>(S.bl t).d) (gs.map fun g=>ts.map fun t=>S.eK g t)=fd at iu hlen FL kk
  have xN:=s6.trans s7
  have hG7:=Yq.same xN
  have hT7:=Q4.same xN
  have VH:=hW5.same xN
  have P5:lN H7 tB:=bM Kk xN
  have P6:mr H7 tC:=bM Kl xN
  have F7:=F5.cX xN
  have T6:=xN _ _ MO
  have T7:=xN _ _ P4
  clear xN s6 s7 F5 Kk Kl hW5 Q4 Yq MO P4 T5 gQ Q7 MP k hWC hFv
  have VA:=aL FL
  refine⟨_,rfl,pm,rfl,⟨_,bA.of HM⟩,?_⟩
  refine dO (K:=K) (a:=pm) (xs:=ms) (fun D i σ H6=>H7 D=none/\ ∃(v1 v2 v3:Option V) (ws:List V),σ=[v1,v2,v3,some (.ref pt),some (.ref pg)]/\aD H7 H6/\H6 D=some (.lst ws)/\ie H6 ((fd.take i).map (ma gs ts)) ws) (fun D hD=>⟨hD,none,none,none,[],rfl,aD.new hD,ag,.nil⟩) (fun D i σ H6 _ ⟨_,_,_,_,_,_,t3,_⟩=>bA.of (t3 _ _ HM)) ?_ ?_
  ·rintro D i x σ H6 hx ⟨hD,v1,v2,v3,ws,rfl,t3,gi,HF⟩
   have hi:i < fd.length:=by have:=(ak.mp hx).1; lia
   obtain⟨v',hv,p,rfl,hp⟩:=bI FL (af hi)
   rw[hx] at hv
   obtain rfl:x= .ref p:=aF hv
   have lT:=jt hi
   obtain⟨l1,l2⟩:=iu _ (bG hi)
   generalize fd[i]=t at hp lT l1 l2
   have E2:=aL HF
   rw[ae,bf] at E2
   have g1:gs[t.1]? =some (gs.getD t.1 0):=by rw[aj,af l1]; rfl
   have g2:ts[t.2.1]? =some (ts.getD t.2.1 0):=by rw[aj,af l2]; rfl
   obtain⟨q1,Le,i1⟩:=bI hG7 g1
   obtain⟨q2,A6,i2⟩:=bI hT7 g2
   obtain⟨d1,e1⟩:=i1.same t3
   obtain⟨d2,e2⟩:=i2.same t3
   refine⟨p,_,rfl,cg.of (t3 _ _ hp),rfl,_,_,rfl,_,_,rfl,_,_,rfl,rfl,?_⟩
   refine⟨_,rfl,_,rfl,pg,_,_,.ref q1,rfl,rfl,bA.of (t3 _ _ T6),cy (by rw[aB,Le]; rfl),q1,_,d1,_,_,rfl,e1,G.dh,G.eO,oq _ _,?_⟩
   refine⟨_,rfl,_,rfl,pt,_,_,.ref q2,rfl,rfl,bA.of (t3 _ _ T7),cy (by rw[aB,A6]; rfl),q2,_,d2,_,_,rfl,e2,G.d9,G.eV,lE _ _,_,rfl,(by show 3<=sizeLine; decide),fun p8 n8=>?_⟩
   have s8:=aD.new (o:= .tup [.int (gs.getD t.1 0:Nat),.int (ts.getD t.2.1 0:Nat),.int t.2.2]) n8
   have Q9:=s8 _ _ gi
   refine⟨_,Q9,i9 (by lia),hD,_,_,_,ws ++ [.ref p8],rfl,(t3.trans s8).cI hD,ag,?_⟩
   rw[lT,aK]
   have tk:=dQ (o:= .lst (ws ++ [.ref p8])) Q9
   exact cz ((HF.mono s8.tk).mono tk) ⟨p8,rfl,tk _ _ ag⟩
  rintro pn σ H8 P7 ⟨_,w1,w2,w3,ws,rfl,s8,Hr,T8⟩
  rw[← VA,a7] at T8
  have Ra:=VH.same s8
  have T9:lN H8 tB:=bM P5 s8
  have Ua:mr H8 tC:=bM P6 s8
  have F8:=F7.cX s8
  have Ys:H pn=none:=by
   cases e:H pn with
   |none=>rfl
   |some o=>
    exfalso
    by_cases jU:pn∈tB :: tC :: g.fp
    ·rcases aw.mp jU with z|jU
     ·obtain⟨ps,q⟩:=c9 P5
      rw[← z,P7] at q
      cases q
     ·rcases aw.mp jU with z|jU
      ·obtain⟨ps,q⟩:=c9 P6
       rw[← z,P7] at q
       cases q
      ·exact VH.new P7 jU
    ·have q:=F7 _ _ jU e
     rw[P7] at q
     cases q
  have Ub:pn∉g.fp:=VH.new P7
  have uf: ∀t∈fd.map (ma gs ts),t.1 < S.credits.length/\t.2.1 < S.aI.length:=fun t ht=>by
   obtain⟨u,hu,rfl⟩:=bF.mp ht
   obtain⟨l1,l2⟩:=iu u hu
   exact⟨VG _ (jS l1),ND _ (jS l2)⟩
  have Ed:(fd.map (ma gs ts)).length<=4000:=by rw[ae]; exact hlen
  generalize fd.map (ma gs ts)=L at T8 kk uf Ed
  have E2:=aL T8
  clear iu hlen FL HM T6 T7 hG7 hT7 VH P5 P6 F7 s8
  refine⟨_,rfl,pn,rfl,⟨_,bA.of Hr⟩,?_⟩
  refine fH (K:=K) (a:=pn) (xs:=ws) (fun i σ H2=> ∃(x9 xO HN:Option V),σ=[some (.ref pw),some (.str aH),some (.ref fa),some (.ref pg),some (.ref pt),some (.ref pf),some (.ref pl),some (.ref pm),some (.ref pn),x9,xO,HN]/\Frame g.fp H8 H2/\dE A H2 pw (kz S (L.take i)) g)
   ⟨none,none,none,rfl,Frame.refl,Ra⟩ (fun i σ H2 _ ⟨_,_,_,_,f2,_⟩=>bA.of (f2 _ _ Ub Hr)) ?_ ?_
  ·rintro i x σ H2 hx ⟨x9,xO,HN,rfl,f2,Av⟩
   have hi:i < L.length:=by have:=(ak.mp hx).1; lia
   have oP:=af hi
   obtain⟨v',hv,p,rfl,hp⟩:=bI T8 oP
   rw[hx] at hv
   obtain rfl:x= .ref p:=aF hv
   have wF:=HL (S:=S) oP
   obtain⟨m1,m2⟩:=uf _ (bG hi)
   generalize L[i]=t at hp wF m1 m2
   obtain⟨b1,b2⟩:=FO S (L.take i)
   have FC:(kz S (L.take i)).made.length < sizeLine:=by
    rw[jF,aC,bf]
    have:=wf.lm
    exact i9 (by lia)
   obtain⟨Yo,QV⟩:=Av.obj
   refine⟨p,_,rfl,cg.of (Ra.tk f2 _ _ hp),rfl,_,_,rfl,_,_,rfl,_,_,rfl,rfl,?_⟩
   refine⟨_,rfl,pw,Yo,_,rfl,QV,JU g,_,rfl,_,rfl,_,rfl,pw,_,g,t.1,t.2.1,t.2.2,rfl,Av,(by rw[b2]; exact m1),(by rw[b1]; exact m2),FC,fun H3 f3 W3=>?_⟩
   refine⟨_,_,_,rfl,f2.tr f3,?_⟩
   rw[wF]
   exact W3
  ·rintro σ H2 ⟨x9,xO,HN,rfl,f2,Av⟩
   rw[← E2,a7] at Av
   have ext2: ∀a∈g.fp,∀φ,H8 a≠some (.ext φ):=fun a ha φ e=>by
    obtain⟨xs,z⟩:=Ra.lists a ha
    rw[z] at e
    cases e
   have HP:tB∉g.fp:=Ra.off fun xs e=>by
    obtain⟨ps,z⟩:=c9 T9
    rw[z] at e
    cases e
   have HQ:tC∉g.fp:=Ra.off fun xs e=>by
    obtain⟨ps,z⟩:=c9 Ua
    rw[z] at e
    cases e
   exact⟨_,rfl,kk pn ws H2 (F8.tr (dF f2 fun x hx=>by simp[hx])) (fZ T9 f2 HP ext2) (fZ Ua f2 HQ ext2) Av Ys (f2 _ _ Ub Hr) (T8.mono (Ra.tk f2))⟩
theorem rG (g:eN):(lF g).lookup ("one_round":Str)=none:=by rfl
theorem o9 {α β:Type}{F:α->β->Prop}: ∀{l₁:List α} {r₁:List β} {l₂:List α} {r₂:List β},Paired F l₁ r₁->Paired F l₂ r₂->Paired F (l₁ ++ l₂) (r₁ ++ r₂)
 |_,_,_,_,.nil,h=>h
 |_,_,_,_,.cons a t,h=> .cons a (o9 t h)
theorem Eu:Kg qf:=⟨fun fs ls al t h=>md fs ls al _ t h,fun fs ls al h1 _=>by
 have:=L2.hZ fs ls al fs.length
 show(bU fs ls al fs.length).2.length<=4000
 lia⟩
theorem Km:Kg CO:=⟨fun fs ls al t h=>vn fs ls al _ t h,fun fs ls al h1 h2=>by
 have:=pS fs ls al fs.length
 have h3:fs.length * ls.length<=63 * 63:=qv h1 h2
 show(ck fs ls al fs.length).2.length<=4000
 lia⟩
theorem tL {H:Hp}: ∀{ms:List (Nat×Nat×Int)} {xs:List V},hV H (ms.map Kc) xs->ie H ms xs
 |[],_,h=>by
  rw[cQ.mp h]
  exact .nil
 |t :: ms,_,h=>by
  obtain⟨v,r,rfl,h1,h2⟩:=bC.mp h
  obtain⟨a,ys,rfl,h3,h4⟩:=jO.mp h1
  obtain⟨u1,r1,rfl,e1,h5⟩:=bC.mp h4
  obtain⟨u2,r2,rfl,e2,h6⟩:=bC.mp h5
  obtain⟨u3,r3,rfl,e3,h7⟩:=bC.mp h6
  obtain rfl:=cQ.mp h7
  obtain rfl:=dm.mp e1
  obtain rfl:=dm.mp e2
  obtain rfl:=dm.mp e3
  exact .cons ⟨a,rfl,h3⟩ (tL h2)
theorem Kn:PY qf (wa K):=fun pf pl pa fs ls al H Q h1 h2 h3 h4 h5 h6 h7 k=>
 ⟨pf,pl,pa,fs,ls,al,rfl,bA.of h1,bA.of h2,h3,by lia,h6,h7,fun v H' s r=>by
  obtain⟨a,xs,rfl,e,r'⟩:=jP.mp r
  exact k a xs H' s e (tL r')⟩
theorem P8:PY CO (wc K):=fun pf pl pa fs ls al H Q h1 h2 h3 h4 h5 h6 h7 k=>
 ⟨pf,pl,pa,fs,ls,al,rfl,bA.of h1,bA.of h2,h3,h4,h5,h6,h7,fun pm ms H' s e r=>k pm ms H' s e r⟩
inductive AD (A:dY)(tB tC:Addr)(vs:List V)(H:Hp)(Q:VK)(E':XK):Prop
 |mk (pw:Addr)(S:Bk)(f:eN)(n:Nat)(aH:Str)(h1:vs=[.ref pw,.str aH])(h2:dE A H pw S f)(h3:WF S n)(h4:n<=60)(h5:lN H tB)(h6:mr H tC)(h7: ∀D ms H',Frame (tB :: tC :: f.fp) H H'->lN H' tB->mr H' tC->dE A H' pw (S.jR aH) f->H D=none->H' D=some (.lst ms)->ie H' ((S.jR aH).made.drop S.made.length) ms->Q (.ref D) H'):AD A tB tC vs H Q E'
theorem pj:aS ["self","who","first","second"] ["self","who"] (ay (mem 25 6)):={}
theorem MQ (T:Txt K mg){A:dY}{tB tC:Addr}(G:jB K mg A)(DB:qr K mg "bills_in_order" (top 17) tB)(DC:qr K mg "credits_in_order" (top 18) tC)(je:tB≠tC)(KB:K.In base)(BM:BMain mg base):gW sf P w K mg base A.work "sweep" 4 ["self","who"] (AD A tB tC):=by
 have tM:gW sf P w K mg base A.work "one_round" 3 ["self","who","way"] (AB P w K mg base A tB tC):=CP T G DB DC je KB BM
 obtain⟨f1,m1,V1⟩:=eM.Z4 (MH (P:=P) (w:=w) (base:=base) T)
 obtain⟨f2,m2,V2⟩:=eM.Z4 (AA (P:=P) (w:=w) (base:=base) T)
 refine Mp (k:=3) G.xq G.bH pj (fun f cU A' outer s H vs Q E hr h=>?_)
 ·obtain⟨pw,S,g,n,aH,rfl,hW,wf,hn,kj,jK,k⟩:=h
  have nd:=pj.nd
  refine⟨_,(ah (sv 2 nd (nE tM (hr.mono (by decide)) mY (pv 0) (aa (pv 1) (aa (EJ (v:= .ref f1) rfl m1 rfl) av))))
(ah (sv 3 nd (nE tM (hr.mono (by decide)) mY (pv 0) (aa (pv 1) (aa (EJ (v:= .ref f2) rfl m2 rfl) av))))
(au (a0 (aO mW (pv 2) (pv 3)))))),?_⟩
  obtain⟨dw,hw⟩:=hW.obj
  refine⟨_,rfl,pw,dw,_,rfl,hw,rG g,_,rfl,pw,f1,S,g,n,aH,qf,_,rfl,hW,wf,(by lia),kj,jK,Eu,V1,Kn,fun gs ts fs ls al R D1 Yt H1 F1 js kb Dh T1 Hw Iu=>?_⟩
  obtain⟨er,lr⟩:=Jo R
  have Yr:fs.length=gs.length:=by rw[R.ef,ae]
  have eS:kz S ((qf fs ls al).map (ma gs ts))=bQ aH S true:=by rw[er]; unfold qf; rw[Yr]
  have em:(bQ aH S true).made=S.made ++ (qf fs ls al).map (ma gs ts):=by rw[← eS]; exact jF _ _
  obtain⟨_,l1,e1,b1,n1⟩:=vo S aH true
  have el1:l1=(qf fs ls al).map (ma gs ts):=List.append_cancel_left (e1.symm.trans em)
  rw[eS] at Dh
  rw[← el1] at Iu
  have hcb:S.credits.length * S.aI.length<=60 * 60:=qv (by have:=wf.lc; lia) (by have:=wf.lb; lia)
  have wf1:WF (bQ aH S true) (n + 1):=by
   refine wf.later lr (fun t ht=>?_) (dI _) ?_
   ·rw[e1] at ht
    rcases bq.mp ht with ht|ht
    ·exact wf.m t ht
    ·exact b1 t ht
   ·rw[e1,aC]
    have:=wf.lm
    have:=wf.lc
    lia
  obtain⟨dw1,Te⟩:=Dh.obj
  refine⟨_,rfl,pw,dw1,_,rfl,Te,rG g,_,rfl,pw,f2,_,g,n + 1,aH,CO,_,rfl,Dh,wf1,(by lia),js,kb,Km,V2,P8,fun Uc VI Ud VJ VL R2 D2 Ny H2 F2 kB mL Av Ir Hx GL=>?_⟩
  obtain⟨er2,lr2⟩:=Jq R2
  have Yu:Ud.length=Uc.length:=by rw[R2.ef,ae]
  have eS2:kz (bQ aH S true) ((CO Ud VJ VL).map (ma Uc VI))=S.jR aH:=by
   show _ =bQ aH (bQ aH S true) false
   rw[er2]; unfold CO; rw[Yu]
  have em2:(S.jR aH).made=(bQ aH S true).made ++ (CO Ud VJ VL).map (ma Uc VI):=by rw[← eS2]; exact jF _ _
  rw[eS2] at Av
  have FC:(S.jR aH).made.length<=8000 * 60 + 8000:=by
   obtain⟨_,l3,e3,_,n3⟩:=qN S aH
   rw[e3,aC]
   have:=wf.lm
   have:=wf.lc
   lia
  have Yv:D1∉tB :: tC :: g.fp:=fun z=>by
   rcases aw.mp z with z|z
   ·obtain⟨ps,e⟩:=c9 kj
    rw[← z,T1] at e
    cases e
   ·rcases aw.mp z with z|z
    ·obtain⟨ps,e⟩:=c9 jK
     rw[← z,T1] at e
     cases e
    ·exact hW.new T1 z
  have Yw:=F2 _ _ Yv Hw
  have kt:cH H1 H2:=fun b xs e=>F2 b _ (fun z=>by
   rcases aw.mp z with z|z
   ·obtain⟨ps,e'⟩:=c9 js
    rw[z,e'] at e
    cases e
   ·rcases aw.mp z with z|z
    ·obtain⟨ps,e'⟩:=c9 kb
     rw[z,e'] at e
     cases e
    ·obtain⟨ys,e'⟩:=Dh.lists b z
     rw[e'] at e
     cases e) e
  have t1:=aL Iu
  have t2:=aL GL
  have hlen:(S.jR aH).made.length=S.made.length + l1.length + ((CO Ud VJ VL).map (ma Uc VI)).length:=by
   rw[em2,e1,aC,aC]
  refine⟨_,rfl,_,rfl,D1,D2,Yt,Ny,rfl,rfl,Yw,Hx,?_,fun p np=>?_⟩
  ·have:Yt.length + Ny.length<=1000000:=by lia
   exact dz (i9 this)
  ·have s3:=aD.new (o:= .lst (Yt ++ Ny)) np
   have F:=F1.tr F2
   have np0:H p=none:=by
    cases e:H p with
    |none=>rfl
    |some o=>
     exfalso
     by_cases jU:p∈tB :: tC :: g.fp
     ·rcases aw.mp jU with z|jU
      ·obtain⟨ps,q⟩:=c9 kB
       rw[← z,np] at q
       cases q
      ·rcases aw.mp jU with z|jU
       ·obtain⟨ps,q⟩:=c9 mL
        rw[← z,np] at q
        cases q
       ·exact Av.new np jU
     ·have q:=F _ _ jU e
      rw[np] at q
      cases q
   refine k p _ _ (F.cX s3) (bM kB s3) (bM mL s3) (Av.same s3) np0 ag ?_
   have ed:(S.jR aH).made.drop S.made.length=l1 ++ (CO Ud VJ VL).map (ma Uc VI):=by
    rw[em2,e1,eL,List.drop_left]
   rw[ed]
   exact o9 ((Iu.mono kt).mono s3.tk) (GL.mono s3.tk)
theorem AE (g:eN):(lF g).lookup ("tell_bill":Str)=none:=by rfl
theorem uh (g:eN):(lF g).lookup ("tell_payment":Str)=none:=by rfl
theorem AF (g:eN):(lF g).lookup ("tell_note":Str)=none:=by rfl
theorem wg (g:eN):(lF g).lookup ("set_by_hand":Str)=none:=by rfl
theorem Ko (g:eN):(lF g).lookup ("sweep":Str)=none:=by rfl
inductive uH (A:dY)(K:Frag)(tB tC:Addr)(vs:List V)(H:Hp)(Q:VK)(E:XK):Prop
 |mk (pw pd:Addr)(S:Bk)(f:eN)(n:Nat)(d:br)(h1:vs=[.ref pw,.ref pd])(h2:dE A H pw S f)(h3:WF S n)(h4:n<=60)(h5:lN H tB)(h6:mr H tC)(h7:H pd=some (.tup (br.vs d)))(h8:d.tells=true)(h9:(S.bar d=""-> ∀v f' H',f'.fp=f.fp->Frame (tB :: tC :: f.fp) H H'->lN H' tB->mr H' tC->dE A H' pw (S.enter d) f'->j8 H' (fun D=>H D=none) (S.LV d) v->Q v H'))(K3:(S.bar d≠""->Mu A K E (S.bar d) H)):uH A K tB tC vs H Q E
theorem FP:aS ["work","deed","kind"] ["work","deed"] (ay (top 30)):={}
theorem Kp (T:Txt K mg){A:dY}{tB tC:Addr}(G:jB K mg A)(DB:qr K mg "bills_in_order" (top 17) tB)(DC:qr K mg "credits_in_order" (top 18) tC)(je:tB≠tC)(KB:K.In base)(BM:BMain mg base):vG P w K mg base "done" 7 ["work","deed"] (uH A K tB tC):=by
 have CQ:gW (mK P w mg) P w K mg base A.work "tell_bill" 5 ["self","who","day","due","amount"] (Aa A K):=Cr T G
 have wj:gW (mK P w mg) P w K mg base A.work "tell_payment" 6 ["self","who","day","amount"] (Ac A K):=vL T G
 have CS:gW (mK P w mg) P w K mg base A.work "tell_note" 6 ["self","bill_number","day","amount"] (Ad A K):=Cs T G
 have xP:gW (mK P w mg) P w K mg base A.work "set_by_hand" 5 ["self","credit_number","bill_number","amount"] (JV A K):=xv T G
 have MR:gW sf P w K mg base A.work "sweep" 4 ["self","who"] (AD A tB tC):=MQ T G DB DC je KB BM
 refine Pf (k:=6) T.O7 FP (fun f cU A' outer s H vs Q E hr mC h=>?_)
 ·obtain⟨pw,pd,S,g,n,d,rfl,hW,wf,hn,kj,jK,hd,ht,k1,k2⟩:=h
  have nd:=FP.nd
  obtain⟨dw,hw⟩:=hW.obj
  refine⟨_,(ah (sv 2 nd (xt (pv 1) ai))
(ah (bN (aV cJ (pv 2) aQ (aY _))
(au (a0 (nE CQ (hr.mono (by decide)) mC.pass (pv 0) (aa (xt (pv 1) ai) (aa (xt (pv 1) ai) (aa (xt (pv 1) ai) (aa (xt (pv 1) ai) av)))))))
bb)
(ah (bN (aV cJ (pv 2) aQ (aY _))
(au (a0 (nE wj (hr.mono (by decide)) mC.pass (pv 0) (aa (xt (pv 1) ai) (aa (xt (pv 1) ai) (aa (xt (pv 1) ai) av))))))
bb)
(ah (bN (aV cJ (pv 2) aQ (aY _))
(au (a0 (nE CS (hr.mono (by decide)) mC.pass (pv 0) (aa (xt (pv 1) ai) (aa (xt (pv 1) ai) (aa (xt (pv 1) ai) av))))))
bb)
(ah (bN (aV cJ (pv 2) aQ (aY _))
(au (a0 (nE xP (hr.mono (by decide)) mC.pass (pv 0) (aa (xt (pv 1) ai) (aa (xt (pv 1) ai) (aa (xt (pv 1) ai) av))))))
bb)
(au (a0 (nE MR (hr.mono (by decide)) mY (pv 0) (aa (xt (pv 1) ai) av))))))))),?_⟩
  have ext: ∀a∈g.fp,∀φ,H a≠some (.ext φ):=fun a ha φ e=>by
   obtain⟨xs,z⟩:=hW.lists a ha
   rw[z] at e
   cases e
  have HP:tB∉g.fp:=hW.off fun xs e=>by
   obtain⟨ps,z⟩:=c9 kj
   rw[z] at e
   cases e
  have HQ:tC∉g.fp:=hW.off fun xs e=>by
   obtain⟨ps,z⟩:=c9 jK
   rw[z] at e
   cases e
  cases d with
  |jf n=>cases ht
  |ask o w d=>cases ht
  |fR w d l=>cases ht
  |dW wh dy du am=>
   refine⟨_,rfl,pd,_,_,.str "bill",rfl,rfl,cg.of hd,rfl,?_⟩
   refine⟨_,rfl,rfl,true,yF _,fG ⟨_,rfl,pw,dw,_,rfl,hw,AE g,_,rfl,pd,_,_,.str wh,rfl,rfl,cg.of hd,rfl,_,rfl,pd,_,_,.int dy,rfl,rfl,cg.of hd,rfl,_,rfl,pd,_,_,.int du,rfl,rfl,cg.of hd,rfl,_,rfl,pd,_,_,.int am,rfl,rfl,cg.of hd,rfl,pw,S,g,wh,dy,du,am,rfl,hW,(by have:=wf.lb; lia),fun hb f1 H1 e1 F1 W1=>?_,k2⟩⟩
   exact k1 hb _ f1 H1 e1 (dF F1 fun x hx=>by simp[hx]) (fZ kj F1 HP ext) (fZ jK F1 HQ ext) W1 rfl
  |rL wh dy am=>
   refine⟨_,rfl,pd,_,_,.str "pay",rfl,rfl,cg.of hd,rfl,?_⟩
   refine⟨_,rfl,rfl,false,jr (show("pay":Str)≠"bill" by decide +kernel),bT ?_⟩
   refine⟨_,rfl,rfl,true,yF _,fG ⟨_,rfl,pw,dw,_,rfl,hw,uh g,_,rfl,pd,_,_,.str wh,rfl,rfl,cg.of hd,rfl,_,rfl,pd,_,_,.int dy,rfl,rfl,cg.of hd,rfl,_,rfl,pd,_,_,.int am,rfl,rfl,cg.of hd,rfl,pw,S,g,wh,dy,am,rfl,hW,(by have:=wf.lc; lia),fun hb f1 H1 e1 F1 W1=>?_,k2⟩⟩
   exact k1 hb _ f1 H1 e1 (dF F1 fun x hx=>by simp[hx]) (fZ kj F1 HP ext) (fZ jK F1 HQ ext) W1 rfl
  |note b dy am=>
   refine⟨_,rfl,pd,_,_,.str "note",rfl,rfl,cg.of hd,rfl,?_⟩
   refine⟨_,rfl,rfl,false,jr (show("note":Str)≠"bill" by decide +kernel),bT ?_⟩
   refine⟨_,rfl,rfl,false,jr (show("note":Str)≠"pay" by decide +kernel),bT ?_⟩
   refine⟨_,rfl,rfl,true,yF _,fG ⟨_,rfl,pw,dw,_,rfl,hw,AF g,_,rfl,pd,_,_,.int b,rfl,rfl,cg.of hd,rfl,_,rfl,pd,_,_,.int dy,rfl,rfl,cg.of hd,rfl,_,rfl,pd,_,_,.int am,rfl,rfl,cg.of hd,rfl,pw,S,g,b,dy,am,rfl,hW,(by have:=wf.lc; lia),fun hb f1 H1 e1 F1 W1=>?_,k2⟩⟩
   exact k1 hb _ f1 H1 e1 (dF F1 fun x hx=>by simp[hx]) (fZ kj F1 HP ext) (fZ jK F1 HQ ext) W1 rfl
  |set c b am=>
   refine⟨_,rfl,pd,_,_,.str "set",rfl,rfl,cg.of hd,rfl,?_⟩
   refine⟨_,rfl,rfl,false,jr (show("set":Str)≠"bill" by decide +kernel),bT ?_⟩
   refine⟨_,rfl,rfl,false,jr (show("set":Str)≠"pay" by decide +kernel),bT ?_⟩
   refine⟨_,rfl,rfl,false,jr (show("set":Str)≠"note" by decide +kernel),bT ?_⟩
   refine⟨_,rfl,rfl,true,yF _,fG ⟨_,rfl,pw,dw,_,rfl,hw,wg g,_,rfl,pd,_,_,.int c,rfl,rfl,cg.of hd,rfl,_,rfl,pd,_,_,.int b,rfl,rfl,cg.of hd,rfl,_,rfl,pd,_,_,.int am,rfl,rfl,cg.of hd,rfl,pw,S,g,n,c,b,am,rfl,hW,wf,(i9 (by have:=wf.lm; lia)),fun hb f1 H1 e1 F1 W1=>?_,k2⟩⟩
   exact k1 hb _ f1 H1 e1 (dF F1 fun x hx=>by simp[hx]) (fZ kj F1 HP ext) (fZ jK F1 HQ ext) W1 rfl
  |fY wh=>
   refine⟨_,rfl,pd,_,_,.str "sweep",rfl,rfl,cg.of hd,rfl,?_⟩
   refine⟨_,rfl,rfl,false,jr (show("sweep":Str)≠"bill" by decide +kernel),bT ?_⟩
   refine⟨_,rfl,rfl,false,jr (show("sweep":Str)≠"pay" by decide +kernel),bT ?_⟩
   refine⟨_,rfl,rfl,false,jr (show("sweep":Str)≠"note" by decide +kernel),bT ?_⟩
   refine⟨_,rfl,rfl,false,jr (show("sweep":Str)≠"set" by decide +kernel),bT ?_⟩
   refine⟨_,rfl,pw,dw,_,rfl,hw,Ko g,_,rfl,pd,_,_,.str wh,rfl,rfl,cg.of hd,rfl,pw,S,g,n,wh,rfl,hW,wf,(by lia),kj,jK,fun D ms H1 F1 js kb W1 nD hD hT=>?_⟩
   exact k1 rfl _ g H1 rfl F1 js kb W1 ⟨D,ms,rfl,nD,hD,hT⟩
theorem Kq {α:Type}(x:α)(xs:List α):se (x :: xs) 0=some x:=cy (xs:=x :: xs) (j:=0) rfl
def k8 (H:Hp)(ss:List (Int×br))(bc:List (Key×V)):Prop:=Paired (fun(st:Int×br) (kv:Key×V)=>kv.1=Sum.inl st.1/\ ∃pd,kv.2= .ref pd/\H pd=some (.tup (br.vs st.2))/\st.2.tells=true) ss bc
theorem k8.mono {H H':Hp}{ss:List (Int×br)}{bc:List (Key×V)}(h:k8 H ss bc)(k:cH H H'):k8 H' ss bc:=Paired.gP h fun _ _ ⟨e,p,e2,z,t⟩=>⟨e,p,e2,k _ _ z,t⟩
structure fM (A:dY)(H:Hp)(pb pk pw:Addr)(T:g8)(f:eN):Prop where
 obj:eA H pb A.book (eX pk pw)
 kept: ∃bc,H pk=some (.dK bc)/\k8 H T.steps bc
 wk:dE A H pw T.bk f
theorem fM.same {A:dY}{H H':Hp}{pb pk pw:Addr}{T:g8}{f:eN}(h:fM A H pb pk pw T f)(s:aD H H'):fM A H' pb pk pw T f:=by
 obtain⟨bc,k1,k2⟩:=h.kept
 exact⟨h.obj.same s,⟨bc,s _ _ k1,k2.mono s.tk⟩,h.wk.same s⟩
theorem FQ {A:dY}{H H':Hp}{pw:Addr}{S:Bk}{f:eN}(h:dE A H pw S f)(kl: ∀a xs,H a=some (.lst xs)->H' a=some (.lst xs))(ki: ∀a C dx fs,fs.length=5->H a=some (.ins C dx fs)->H' a=some (.ins C dx fs))(kt:cH H H'):dE A H' pw S f:=by
 obtain⟨dw,hw⟩:=h.obj
 obtain⟨ms,m1,m2⟩:=h.hm
 exact⟨⟨dw,ki _ _ _ _ rfl hw⟩,kl _ _ h.hb,kl _ _ h.hc,kl _ _ h.hl,kl _ _ h.hf,⟨ms,kl _ _ m1,m2.mono kt⟩,⟨h.rb.1,fun i p e=>let⟨dx,z⟩:=h.rb.2 i p e; ⟨dx,ki _ _ _ _ rfl z⟩⟩,⟨h.rc.1,fun i p e=>let⟨dx,z⟩:=h.rc.2 i p e; ⟨dx,ki _ _ _ _ rfl z⟩⟩,h.nd⟩
def Kr (o:HO):Prop:=(∀xs,o≠ .lst xs)/\(∀xs,o≠ .tup xs)/\ ∀C dx fs,fs.length=5->o≠ .ins C dx fs
theorem wm {A:dY}{H:Hp}{pw p:Addr}{S:Bk}{f:eN}{o u:HO}(h:dE A H pw S f)(e:H p=some o)(n:Kr o):dE A (upd H p u) pw S f:=
 FQ h (fun a xs z=>by rw[az (fun q=>by rw[q,e] at z; exact n.1 xs (aF z))]; exact z) (fun a C dx fs hl z=>by rw[az (fun q=>by rw[q,e] at z; exact n.2.2 C dx fs hl (aF z))]; exact z)
  (fun a xs z=>by rw[az (fun q=>by rw[q,e] at z; exact n.2.1 xs (aF z))]; exact z)
theorem uI (bc:List (Key×V)):Kr (.dK bc):=⟨fun _ z=>(by cases z),fun _ z=>(by cases z),fun _ _ _ _ z=>(by cases z)⟩
theorem Ks (φ:Heap->Prop):Kr (.ext φ):=⟨fun _ z=>(by cases z),fun _ z=>(by cases z),fun _ _ _ _ z=>(by cases z)⟩
theorem yN (C dx pk pw:Addr):Kr (.ins C dx (eX pk pw)):=⟨fun _ z=>(by cases z),fun _ z=>(by cases z),fun _ _ fs hl z=>(by injection z with _ _ z; rw[← z] at hl; cases hl)⟩
theorem AG {H:Hp}{p:Addr}{o u:HO}(e:H p=some o)(n:Kr o):cH H (upd H p u):=fun a xs z=>by rw[az (fun q=>by rw[q,e] at z; exact n.2.1 xs (aF z))]; exact z
theorem sJ {H:Hp}{m:Int}: ∀{ss:List (Int×br)} {bc:List (Key×V)},k8 H ss bc->gh bc (Sum.inl m:Key)=none-> ∀st∈ss,st.1≠m
 |_,_,.nil,_,_,h=>by cases h
 |_,_,.cons (a:=a) (b:=kv) ⟨e,_⟩ t,hv,st,h=>by
  by_cases q:kv.1=(Sum.inl m:Key)
  ·rw[fI q] at hv
   cases hv
  ·rw[fq q] at hv
   rcases aw.mp h with rfl|h
   ·intro z
    rw[e,z] at q
    exact q rfl
   ·exact sJ t hv st h
theorem yO {H:Hp}{m:Int}{v:V}: ∀{ss:List (Int×br)} {bc:List (Key×V)},k8 H ss bc->gh bc (Sum.inl m:Key)=some v-> ∃st∈ss,st.1=m/\ ∃pd,v= .ref pd/\H pd=some (.tup (br.vs st.2))/\st.2.tells=true
 |_,_,.nil,hv=>by cases hv
 |_,_,.cons (a:=a) (b:=kv) ⟨e,pd,e2,z,tl⟩ t,hv=>by
  by_cases q:kv.1=(Sum.inl m:Key)
  ·rw[fI q] at hv
   rw[e] at q
   refine⟨a,bJ,by injection q,pd,?_,z,tl⟩
   rw[← aF hv,e2]
  ·rw[fq q] at hv
   obtain⟨st,h1,h2⟩:=yO t hv
   exact⟨st,ba _ h1,h2⟩
theorem CU {H:Hp}{m:Int}: ∀{ss:List (Int×br)} {bc:List (Key×V)},k8 H ss bc->(∀st∈ss,st.1≠m)->gh bc (Sum.inl m:Key)=none
 |_,_,.nil,_=>rfl
 |_,_,.cons (a:=a) (b:=kv) ⟨e,_⟩ t,h=>by
  rw[fq (fun q=>by
   rw[e] at q
   exact h a bJ (by injection q))]
  exact CU t fun st hs=>h st (ba _ hs)
theorem yP {H:Hp}{m:Int}: ∀{ss:List (Int×br)} {bc:List (Key×V)},k8 H ss bc->k8 H (ss.filter fun st=>decide (st.1≠m)) (lu bc (Sum.inl m:Key))
 |_,_,.nil=> .nil
 |_,_,.cons (a:=a) (b:=kv) ⟨e,r⟩ t=>by
  have ih:=yP (m:=m) t
  unfold lu at ih ⊢
  by_cases q:a.1=m
  ·have q':kv.1=(Sum.inl m:Key):=by rw[e,q]
   rw[List.filter_cons_of_neg (by simp[q]),List.filter_cons_of_neg (by simp[q'])]
   exact ih
  ·have q': ¬ kv.1=(Sum.inl m:Key):=by rw[e]; intro z; exact q (by injection z)
   rw[List.filter_cons_of_pos (by simp[q]),List.filter_cons_of_pos (by simp[q'])]
   exact .cons ⟨e,r⟩ ih
theorem wo: ∀{ss:List (Int×br)},ss.Pairwise (fun a b=>a.1 < b.1)-> ∀{x y:Int×br},x∈ss->y∈ss->x.1=y.1->x=y
 |[],_,_,_,h,_,_=>by cases h
 |a :: ss,hp,x,y,hx,hy,e=>by
  rw[en] at hp
  rcases aw.mp hx with hx|hx
  ·rcases aw.mp hy with hy|hy
   ·rw[hx,hy]
   ·have:=hp.1 y hy
    rw[hx] at e
    lia
  ·rcases aw.mp hy with hy|hy
   ·have:=hp.1 x hx
    rw[hy] at e
    lia
   ·exact wo hp.2 hx hy e
def HR (ss:List (Int×br))(m:Int):Bool:=ss.any fun st=>decide (st.1=m) && st.2.isSet
theorem qg (ss:List (Int×br))(m:Int):(ss.filter (cA m)).length=ss.length↔HR ss m=false:=by
 rw[List.length_filter_eq_length_iff]
 unfold HR
 rw[rN]
 constructor
 ·intro h st hs
  have:=h st hs
  unfold cA at this
  cases h2:decide (st.1=m) && st.2.isSet
  ·simp
  ·rw[h2] at this
   cases this
 ·intro h st hs
  have:=h st hs
  unfold cA
  cases h2:decide (st.1=m) && st.2.isSet
  ·rfl
  ·exact absurd h2 this
theorem Kt {ss:List (Int×br)}{m:Int}{st:Int×br}(hp:ss.Pairwise (fun a b=>a.1 < b.1))(hs:st∈ss)(e:st.1=m):HR ss m=st.2.isSet:=by
 unfold HR
 cases h:st.2.isSet with
 |true=>exact List.any_eq_true.mpr ⟨st,hs,by simp[e,h]⟩
 |false=>
  rw[rN]
  intro x hx z
  have z':x.1=m/\x.2.isSet=true:=by simpa using z
  have q:=wo hp hx hs (z'.1.trans e.symm)
  rw[q,h] at z'
  cases z'.2
theorem CV {ss:List (Int×br)}{m:Int}(h: ∀st∈ss,st.1≠m):HR ss m=false:=by
 unfold HR
 rw[rN]
 intro x hx z
 have z':x.1=m/\x.2.isSet=true:=by simpa using z
 exact h x hx z'.1
theorem Ku {ss:List (Int×br)}{m:Int}(hp:ss.Pairwise (fun a b=>a.1 < b.1))(h:HR ss m=true):ss.filter (cA m)=ss.filter fun st=>decide (st.1≠m):=by
 apply rR
 intro st hs
 unfold cA
 by_cases e:st.1=m
 ·rw[← Kt hp hs e,h]
  simp[e]
 ·simp[e]
theorem CW (pk pw:Addr):(eX pk pw).lookup ("in_force":Str)=none:=by rfl
theorem MS (pk pw:Addr):(eX pk pw).lookup ("undo":Str)=none:=by rfl
theorem Ue (pk pw:Addr):(eX pk pw).lookup ("do":Str)=none:=by rfl
inductive sM (A:dY)(vs:List V)(H:Hp)(Q:VK)(E':XK):Prop
 |mk (pb pk pw:Addr)(T:g8)(f:eN)(n:Nat)(m:Int)(h1:vs=[.ref pb,.int m])(h2:fM A H pb pk pw T f)(h3:Good T n)(h4: ∀H',aD H H'->Q (.bl (HR T.steps m)) H'):sM A vs H Q E'
theorem sN:aS ["self","number"] ["self","number"] (ay (mem 29 3)):={}
theorem Ew {A:dY}(G:jB K mg A):gW sf P w K mg base A.book "in_force" 1 ["self","number"] (sM A):=by
 refine Mp (k:=0) G.sC G.eW sN (fun f cU A' outer s H vs Q E hr h=>?_)
 ·obtain⟨pb,pk,pw,T,g,n,m,rfl,hB,hG,k⟩:=h
  have hu:=jM hr
  obtain⟨db,hb⟩:=hB.obj
  obtain⟨bc,hk,hK⟩:=hB.kept
  refine⟨_,(au (a0 (rX (N6 (Ow hu (pv 1) (bX (pv 0) rfl))) (pH (fm om (xt (cE hu (bX (pv 0) rfl) (pv 1) (fun _ _=>rfl)) ai) (cG (aa aQ (aa aQ av))) (by rfl)))))),?_⟩
  refine⟨_,rfl,_,rfl,pb,_,db,_,_,rfl,hb,G.eW,G.gI,uE _ _,pk,_,rfl,mJ.k (k:=(Sum.inl m:Key)) hk,_,rfl,?_⟩
  cases hv:gh bc (Sum.inl m:Key) with
  |none=>
   refine bT ?_
   have q:=k H (aD.refl _)
   rw[CV (sJ hK hv)] at q
   exact q
  |some v=>
   refine fG ?_
   obtain⟨st,hs,e,pd,rfl,Iq,ht⟩:=yO hK hv
   obtain⟨r,er⟩:=uA (.inl ht)
   rw[er] at Iq
   refine⟨_,rfl,pb,_,db,_,_,rfl,hb,G.eW,G.gI,uE _ _,_,rfl,pk,.ref pd,rfl,(by have z:=mJ.k (k:=(Sum.inl m:Key)) hk; rw[hv] at z; exact z),pd,_,_,.str (br.word st.2),rfl,rfl,cg.of Iq,Kq _ _,(by show 2<=sizeLine; decide),fun p np=>?_⟩
   have s1:=aD.new (o:= .tup [.str "set",.str "sweep"]) np
   refine⟨p,_,rfl,.inr (cg.of ag),rfl,rfl,?_⟩
   have q:=k _ s1
   rw[Kt hG.inc hs e,← FE ht] at q
   exact q
inductive P9 (A:dY)(K:Frag)(tB tC:Addr)(vs:List V)(H:Hp)(Q:VK)(E:XK):Prop
 |mk (pb pd pk pw:Addr)(T:g8)(f:eN)(n:Nat)(d:br)(h1:vs=[.ref pb,.int n,.ref pd])(h2:fM A H pb pk pw T f)(h3:Good T n)(h4:n<=59)(h5:lN H tB)(h6:mr H tC)(h7:H pd=some (.tup (br.vs d)))(h8:d.tells=true)(h9:(T.bk.bar d=""-> ∀v f' H',f'.fp=f.fp->Frame (tB :: tC :: pk :: f.fp) H H'->lN H' tB->mr H' tC->fM A H' pb pk pw ⟨T.steps ++ [((n:Int),d)],T.bk.enter d⟩ f'->j8 H' (fun D=>H D=none) (T.bk.LV d) v->Q v H'))(K3:(T.bk.bar d≠""->Mu A K E (T.bk.bar d) H)):P9 A K tB tC vs H Q E
theorem wq:aS ["self","number","deed","answer"] ["self","number","deed"] (ay (mem 29 1)):={}
theorem Yx (T:Txt K mg){A:dY}{tB tC:Addr}(G:jB K mg A)(DB:qr K mg "bills_in_order" (top 17) tB)(DC:qr K mg "credits_in_order" (top 18) tC)(je:tB≠tC)(KB:K.In base)(BM:BMain mg base):gW (mK P w mg) P w K mg base A.book "do" 8 ["self","number","deed"] (P9 A K tB tC):=by
 have Ex:vG P w K mg base "done" 7 ["work","deed"] (uH A K tB tC):=Kp T G DB DC je KB BM
 refine qZ (k:=7) G.D5 G.eW wq (fun f cU A' outer s H vs Q E hr mC h=>?_)
 ·obtain⟨pb,pd,pk,pw,T,g,n,d,rfl,hB,hG,hn,kj,jK,hd,ht,k1,k2⟩:=h
  have hu:=jM hr
  have nd:=wq.nd
  obtain⟨db,hb⟩:=hB.obj
  obtain⟨bc,hk,hK⟩:=hB.kept
  have hW:=hB.wk
  refine⟨_,(ah (sv 3 nd (sD Ex (hr.mono (by decide)) rfl mC.pass (aa (bX (pv 0) rfl) (aa (pv 2) av))))
(ah (E1 hu (bX (pv 0) rfl) (pv 1) (pv 2) rfl)
(au (a0 (pv 3))))),?_⟩
  refine⟨_,rfl,pb,_,db,_,_,rfl,hb,G.eW,G.gJ,uF _ _,_,rfl,pw,pd,T.bk,g,n,d,rfl,hW,hG.wf (by lia),(by lia),kj,jK,hd,ht,fun oO v f1 H1 e1 F1 js kb W1 hA=>?_,k2⟩
  have Qa: ∀a o,H a=some o->(∀xs,o≠ .lst xs)->(∀ps,o≠ .mO ps)->a∉tB :: tC :: g.fp:=fun a o e n1 n2 z=>by
   rcases aw.mp z with z|z
   ·obtain⟨ps,q⟩:=c9 kj
    rw[z,q] at e
    exact n2 ps (aF e).symm
   ·rcases aw.mp z with z|z
    ·obtain⟨ps,q⟩:=c9 jK
     rw[z,q] at e
     exact n2 ps (aF e).symm
    ·obtain⟨xs,q⟩:=hW.lists a z
     rw[q] at e
     exact n1 xs (aF e).symm
  have kt:cH H H1:=fun a xs e=>F1 _ _ (Qa _ _ e (fun _ z=>by cases z) (fun _ z=>by cases z)) e
  have Ug:=F1 _ _ (Qa _ _ hb (fun _ z=>by cases z) (fun _ z=>by cases z)) hb
  have HS:=F1 _ _ (Qa _ _ hk (fun _ z=>by cases z) (fun _ z=>by cases z)) hk
  have hK1:=hK.mono kt
  have l7:=kt _ _ hd
  have Fy:=aL hK
  have hlen:=hG.len
  refine⟨_,rfl,_,rfl,pb,_,db,_,_,rfl,Ug,G.eW,G.gI,uE _ _,_,rfl,pk,_,rfl,GA.k (k:=(Sum.inl (n:Int):Key)) HS (a9 (by lia)),?_⟩
  rw[Ja _ (CU hK1 fun st hs=>by have:=(hG.lt st hs).2; lia)]
  have s2: ∀a o,a≠pk->H1 a=some o->upd H1 pk (.dK (bc ++ [(Sum.inl (n:Int),V.ref pd)])) a=some o:=fun a o hn e=>by rw[az hn]; exact e
  have nbk:pb≠pk:=mz Ug HS (by intro z; cases z)
  have Yy:=AG (u:= .dK (bc ++ [(Sum.inl (n:Int),V.ref pd)])) HS (uI bc)
  refine⟨_,rfl,k1 oO v f1 _ e1 ((dF F1 fun x hx=>?_).tr (Frame.upd (by simp))) (fZ js (Frame.upd (fp:=[pk]) (by simp)) (fun z=>?_) (fun a ha φ e=>?_)) (fZ kb (Frame.upd (fp:=[pk]) (by simp)) (fun z=>?_) (fun a ha φ e=>?_)) ⟨⟨db,s2 _ _ nbk Ug⟩,⟨_,ag,?_⟩,wm W1 HS (uI bc)⟩ ?_⟩
  ·rcases aw.mp hx with hx|hx
   ·simp[hx]
   ·rcases aw.mp hx with hx|hx
    ·simp[hx]
    ·simp[hx]
  ·obtain⟨ps,q⟩:=c9 js
   rw[ao.mp z,HS] at q
   cases q
  ·rw[ao.mp ha,HS] at e
   cases e
  ·obtain⟨ps,q⟩:=c9 kb
   rw[ao.mp z,HS] at q
   cases q
  ·rw[ao.mp ha,HS] at e
   cases e
  ·exact cz (hK1.mono Yy) ⟨rfl,pd,rfl,Yy _ _ l7,ht⟩
  ·exact hA.keep (fun D xs o e=>⟨o,s2 _ _ (mz e HS (by intro z; cases z)) e⟩) Yy
theorem CY: ∀{ss:List (Int×br)} {B S:Bk} {i:Nat} {k:Int} {d:br},cW (ss.take i) B=some S->ss[i]? =some (k,d)->S.bar d≠""->iz ss B=S.bar d/\cW ss B=none
 |[],_,_,_,_,_,_,h,_=>by simp at h
 |(k0,d0) :: ss,B,S,0,k,d,hw,h,hb=>by
  cases hw
  have e:(k0,d0)=(k,d):=by simpa using h
  cases e
  unfold iz cW
  rw[aU hb,aU hb]
  exact⟨rfl,rfl⟩
 |(k0,d0) :: ss,B,S,i + 1,k,d,hw,h,hb=>by
  rw[List.take_succ_cons] at hw
  unfold cW at hw
  split at hw
  ·rename_i q
   have ih:=CY hw (by simpa using h) hb
   unfold iz cW
   rw[a8 q,a8 q]
   exact ih
  ·cases hw
theorem CZ {ss:List (Int×br)}{B S:Bk}{i:Nat}{k:Int}{d:br}(hw:cW (ss.take i) B=some S)(h:ss[i]? =some (k,d))(hb:S.bar d=""):cW (ss.take (i + 1)) B=some (S.enter d):=by
 obtain⟨hi,e⟩:=ak.mp h
 rw[jt hi,kW,hw,e]
 show(if S.bar d="" then some (S.enter d) else none)=_
 rw[a8 hb]
def Yz (A:dY)(K:Frag)(tB tC:Addr)(fp:List Addr)(E:XK)(t:Str)(H:Hp):Prop:= ∀C dx H',gU K C A.refusal->Frame fp H H'->lN H' tB->mr H' tC->H dx=none->H' dx=some (.xd [("text",.str t)])->E (.ref C) (some dx) H'
inductive AH (A:dY)(K:Frag)(tB tC:Addr)(vs:List V)(H:Hp)(Q:VK)(E:XK):Prop
 |mk (pk:Addr)(ss:List (Int×br))(bc:List (Key×V))(h1:vs=[.ref pk])(h2:H pk=some (.dK bc))(h3:k8 H ss bc)(h4:ss.length<=59)(h5:(iz ss Bk.new=""∨iz ss Bk.new="too much"))(h6:lN H tB)(h7:mr H tC)(h8:(∀S,cW ss Bk.new=some S-> ∀pw f H',Frame [tB,tC] H H'->lN H' tB->mr H' tC->dE A H' pw S f->H pw=none->(∀b∈f.fp,H b=none)->Q (.ref pw) H'))(h9:(cW ss Bk.new=none->Yz A K tB tC [tB,tC,pk] E "needed" H)):AH A K tB tC vs H Q E
theorem px:aS ["kept","work","deed"] ["kept"] (ay (top 31)):={}
theorem NG {H:Hp}{tb d:Addr}{pos:Pos}{qual:Str}{φ:Heap->Prop}{u:HO}(t:Tb H tb pos qual)(e:H d=some (.ext φ))(n: ∀q:Str,φ≠fun h=>h.CodeRec (.ref d) q):Tb (upd H d u) tb pos qual:=by
 obtain⟨ps,h1,h2,h3⟩:=t
 refine⟨ps,by rw[az (mz h1 e (by intro z; cases z))]; exact h1,h2,?_⟩
 rcases h3 with h3|⟨c',h3,h4⟩
 ·exact .inl h3
 ·refine .inr ⟨c',h3,?_⟩
  by_cases z:c'=d
  ·subst z
   rw[e] at h4
   have h5:=aF h4
   injection h5 with h5
   exact absurd h5 (n qual)
  ·rw[az z]
   exact h4
theorem AI (T:Txt K mg){A:dY}{tB tC:Addr}(G:jB K mg A)(DB:qr K mg "bills_in_order" (top 17) tB)(DC:qr K mg "credits_in_order" (top 18) tC)(je:tB≠tC)(hnd:A.iZ≠A.tooMuch)(KB:K.In base)(BM:BMain mg base):vG P w K mg base "done_again" 8 ["kept"] (AH A K tB tC):=by
 have Ex:vG P w K mg base "done" 7 ["work","deed"] (uH A K tB tC):=Kp T G DB DC je KB BM
 have En:uc P w K mg base "Work" A.work 1 ["self"] (uy A):=JY G
 refine Pf (k:=7) T.zC px (fun f cU A' outer s H vs Q E hr mC h=>?_)
 ·obtain⟨pk,ss,bc,rfl,hk,hK,hl,hfb,kj,jK,k1,k2⟩:=h
  have nd:=px.nd
  refine⟨_,(ah (sv 1 nd (JM En (hr.mono (by decide)) rfl))
(ah (Mc mC.own rfl (pv 0) (gn 2 nd)
(au (BL mC rfl rfl G.vF G.pW (show mg "Needed"≠some (.ref A.tooMuch) from fun z=>hnd (by rw[G.yz] at z; injection z with z; injection z)) (Hq T G) (hr.h.mono (by decide)) rfl (fun xe pn E hx=>au (bK (sD Ex (hr.mono (by decide)) rfl hx (aa (pv 1) (aa (pv 2) av))))))))
(au (a0 (pv 1))))),?_⟩
  intro xw Ya MF PL ne
  have s1:=lJ (C:=A.work) (fs:=[]) MF PL ne
  refine⟨xw,Ya,rfl,ag,fun g H1 F1 W1 nf=>⟨rfl,?_⟩⟩
  have fg: ∀b∈g.fp,H b=none:=fun b hb=>s1.free (nf b hb)
  have S1:aD H H1:=fun b o e=>F1 b o (by simpa using aJ e MF) (s1 b o e)
  clear F1 nf s1
  refine⟨_,rfl,?_⟩
  have HS:=S1 _ _ hk
  have hlen:=aL hK
  refine JG (td:=fun _ _ _=>True) HS fun φ hφ=>⟨fun i σ H2=> ∃(S:Bk) (f:eN) (x2:Option V),σ=[some (.ref pk),some (.ref xw),x2]/\cW (ss.take i) Bk.new=some S/\dE A H2 xw S f/\(∀b∈f.fp,H b=none)/\Frame [tB,tC,pk] H H2/\H2 pk=some (.ext φ)/\lN H2 tB/\mr H2 tC,?_,?_,?_,?_⟩
  ·have ext: ∀a∈[pk],∀φ,H1 a≠some (.ext φ):=fun a ha φ e=>by
    rw[ao.mp ha,HS] at e
    cases e
   have nB:tB∉[pk]:=fun z=>by
    obtain⟨ps,q⟩:=c9 kj
    rw[ao.mp z,hk] at q
    cases q
   have nC:tC∉[pk]:=fun z=>by
    obtain⟨ps,q⟩:=c9 jK
    rw[ao.mp z,hk] at q
    cases q
   exact⟨Bk.new,g,none,rfl,rfl,wm W1 HS (uI bc),fg,(S1.frame (fp:=[tB,tC,pk])).tr (Frame.upd (by simp)),ag,fZ (bM kj S1) (Frame.upd (fp:=[pk]) (by simp)) nB ext,fZ (bM jK S1) (Frame.upd (fp:=[pk]) (by simp)) nC ext⟩
  ·rintro i σ H2 ⟨S,f,x2,_,_,_,_,_,e,_⟩
   exact e
  ·rintro i x σ H2 hx ⟨S,f,x2,rfl,hw,hW,hf,F2,e2,kB,mL⟩
   rw[aB] at hx
   obtain⟨kv,Vt,rfl⟩:=bo.mp hx
   have hi:i < ss.length:=by have:=(ak.mp Vt).1; lia
   have oP:=af hi
   obtain⟨kv',Uh,ek,pd,epd,Iq,ht⟩:=bI hK oP
   rw[Vt] at Uh
   obtain rfl:kv=kv':=aF Uh
   generalize ss[i]=st at oP ek Iq ht
   obtain⟨sn,d⟩:=st
   rw[epd]
   have Pr:H2 pd=some (.tup (br.vs d)):=F2 _ _ (fun z=>by
    simp only[List.mem_cons,List.not_mem_nil,or_false] at z
    rcases z with z|z|z
    ·obtain⟨ps,q⟩:=c9 kj
     rw[← z,Iq] at q
     cases q
    ·obtain⟨ps,q⟩:=c9 jK
     rw[← z,Iq] at q
     cases q
    ·rw[z,hk] at Iq
     cases Iq) Iq
   have wf:WF S (0 + (ss.take i).length):=sy _ WF.new hw (by rw[bf]; lia)
   refine⟨_,rfl,_,rfl,xw,pd,S,f,_,d,rfl,hW,wf,(by rw[bf]; lia),kB,mL,Pr,ht,fun hb v f' H3 e3 F3 rE rF W3 _=>?_,fun hb=>?_⟩
   ·refine⟨S.enter d,f',_,rfl,CZ hw oP hb,W3,(by rw[e3]; exact hf),F2.trans F3 (fun x hx=>?_),F3 _ _ (fun z=>?_) e2,rE,rF⟩
    ·rcases aw.mp hx with hx|hx
     ·exact .inl (by simp[hx])
     ·rcases aw.mp hx with hx|hx
      ·exact .inl (by simp[hx])
      ·exact .inr (hf x hx)
    ·rcases aw.mp z with z|z
     ·obtain⟨ps,q⟩:=c9 kB
      rw[← z,e2] at q
      cases q
     ·rcases aw.mp z with z|z
      ·obtain⟨ps,q⟩:=c9 mL
       rw[← z,e2] at q
       cases q
      ·have:=hf _ z
       rw[hk] at this
       cases this
   ·obtain⟨ef,ew⟩:=CY hw oP hb
    have et:S.bar d="too much":=(hfb.resolve_left (by rw[ef]; exact hb)).symm.trans ef |>.symm
    intro C hC hCt dx H3 s3 nd3 NA
    have U5:C=A.tooMuch:=hCt et
    refine⟨by rw[U5],fun YA n2=>?_⟩
    have s4:=aD.new (o:= .xd [("text",.str "needed")]) n2
    have Kv:=s3.trans s4
    refine k2 ew A.iZ YA _ G.yA (F2.cX Kv) (bM kB Kv) (bM mL Kv) ?_ ag
    have Ui:=s3.free n2
    cases e:H YA with
    |none=>rfl
    |some o=>
     exfalso
     by_cases jU:YA∈[tB,tC,pk]
     ·simp only[List.mem_cons,List.not_mem_nil,or_false] at jU
      rcases jU with z|z|z
      ·obtain⟨ps,q⟩:=c9 kB
       rw[← z,Ui] at q
       cases q
      ·obtain⟨ps,q⟩:=c9 mL
       rw[← z,Ui] at q
       cases q
      ·rw[z,e2] at Ui
       cases Ui
     ·have q:=F2 _ _ jU e
      rw[Ui] at q
      cases q
  ·rintro σ H2 ⟨S,f,x2,rfl,hw,hW,hf,F2,e2,kB,mL⟩
   rw[← hlen,a7] at hw
   refine⟨_,rfl,k1 S hw xw f _ (fun b o hb e=>?_) (NG kB e2 hφ.2) (NG mL e2 hφ.2) (wm hW e2 (Ks φ)) MF hf⟩
   by_cases z:b=pk
   ·subst z
    rw[hk] at e
    rw[ag]
    exact e
   ·rw[az z]
    exact F2 _ _ (by simp only[List.mem_cons,List.not_mem_nil,or_false,not_or] at hb ⊢; exact⟨hb.1,hb.2,z⟩) e
theorem Qb (pk pw rM:Addr):eE "work" (.ref rM) (eX pk pw)=eX pk rM:=by rfl
theorem Qc (pk wt pw:Addr):eE "kept" (.ref wt) (eX pk pw)=eX wt pw:=by rfl
inductive Ey (A:dY)(K:Frag)(tB tC:Addr)(vs:List V)(H:Hp)(Q:VK)(E:XK):Prop
 |mk (pb pk pw:Addr)(T:g8)(f:eN)(n:Nat)(m:Int)(h1:vs=[.ref pb,.int m])(h2:fM A H pb pk pw T f)(h3:Good T n)(h4:n<=59)(h5:lN H tB)(h6:mr H tC)(h7:(HR T.steps m=true-> ∀S,cW (T.steps.filter (cA m)) Bk.new=some S-> ∀wt rM f' H',Frame [tB,tC,pb] H H'->lN H' tB->mr H' tC->fM A H' pb wt rM ⟨T.steps.filter (cA m),S⟩ f'->H wt=none->(∀b∈f'.fp,H b=none)->Q (.str "undone") H'))(h8:(HR T.steps m=true->cW (T.steps.filter (cA m)) Bk.new=none->Yz A K tB tC [tB,tC] E "needed" H))(h9:(HR T.steps m=false->Yz A K tB tC [tB,tC] E "no setting" H)):Ey A K tB tC vs H Q E
theorem rH:aS ["self","number","kept"] ["self","number"] (ay (mem 29 2)):={}
theorem Qd (T:Txt K mg){A:dY}{tB tC:Addr}(G:jB K mg A)(DB:qr K mg "bills_in_order" (top 17) tB)(DC:qr K mg "credits_in_order" (top 18) tC)(je:tB≠tC)(hnd:A.iZ≠A.tooMuch)(KB:K.In base)(BM:BMain mg base):gW (mK P w mg) P w K mg base A.book "undo" 9 ["self","number"] (Ey A K tB tC):=by
 have AJ:vG P w K mg base "done_again" 8 ["kept"] (AH A K tB tC):=AI T G DB DC je hnd KB BM
 have Ez:gW sf P w K mg base A.book "in_force" 1 ["self","number"] (sM A):=Ew G
 refine qZ (k:=8) G.zT G.eW rH (fun f cU A' outer s H vs Q E hr mC h=>?_)
 ·obtain⟨pb,pk,pw,TT,g,n,m,rfl,hB,hG,hn,kj,jK,k1,k2,k3⟩:=h
  have hu:=jM hr
  have nd:=rH.nd
  obtain⟨db,hb⟩:=hB.obj
  refine⟨_,(ah (bN (kO (gj (nE Ez (hr.mono (by decide)) mY (pv 0) (aa (pv 1) av))))
(au (jW mC (zX T G) (hr.h.mono (by decide)) rfl rfl))
bb)
(ah (sv 2 nd (gF BX (by rfl) T.O9 (by rfl) (aa (bX (pv 0) rfl) av)))
(ah (bK (Jc (pv 2) (pv 1) ⟨rfl,rfl,rfl,rfl⟩))
(ah (fT (pv 0) (sD AJ (hr.mono (by decide)) rfl mC.pass (aa (pv 2) av)) rfl)
(ah (fT (pv 0) (pv 2) rfl)
(au (a0 aQ))))))),?_⟩
  refine⟨_,rfl,pb,db,_,rfl,hb,CW _ _,_,rfl,pb,pk,pw,TT,g,n,m,rfl,hB,hG,fun H1 s1=>⟨_,rfl,?_⟩⟩
  refine cm (fun z=>?_) (fun z=>?_)
  ·have z':HR TT.steps m=false:=by simpa using z
   intro dx nn
   have s2:=s1.trans (aD.new (o:= .xd [("text",.str "no setting")]) nn)
   exact k3 z' A.jI dx _ G.qU s2.frame (bM kj s2) (bM jK s2) (s1.free nn) ag
  have z':HR TT.steps m=true:=by simpa using z
  have Nx:=hB.same s1
  obtain⟨bc,hk,hK⟩:=Nx.kept
  have Ug:=s1 _ _ hb
  refine⟨_,rfl,pb,_,db,_,_,rfl,Ug,G.eW,G.gI,uE _ _,pk,bc,rfl,hk,fun p2 np2=>?_⟩
  have s2:=aD.new (o:= .dK bc) np2
  have tU:upd H1 p2 (.dK bc) p2=some (.dK bc):=ag
  have n2:H p2=none:=s1.free np2
  have S2:=s1.trans s2
  have hK2:=hK.mono s2.tk
  generalize upd H1 p2 (.dK bc)=H2 at tU S2 hK2
  clear s2
  cases hv:gh bc (Sum.inl m:Key) with
  |none=>
   have:=CV (sJ hK hv)
   rw[z'] at this
   cases this
  |some v=>
  refine⟨_,rfl,p2,rfl,.inl ⟨bc,.inl tU⟩,_,rfl,bc,(Sum.inl m:Key),v,tU,rfl,hv,?_⟩
  have VM:=(yP (m:=m) hK2).mono (AG (u:= .dK (lu bc (Sum.inl m:Key))) tU (uI bc))
  rw[← Ku hG.inc z'] at VM
  have S3:aD H (upd H2 p2 (.dK (lu bc (Sum.inl m:Key)))):=S2.cI n2
  have Q3:upd H2 p2 (.dK (lu bc (Sum.inl m:Key))) p2=some (.dK (lu bc (Sum.inl m:Key))):=ag
  generalize upd H2 p2 (.dK (lu bc (Sum.inl m:Key)))=H3 at VM S3 Q3
  have VA:=aX (cA m) TT.steps
  have PM:=hG.len
  have Uj:(cW TT.steps Bk.new).isSome=true:=by rw[hG.w]; rfl
  refine⟨_,rfl,p2,_,_,rfl,Q3,VM,(by lia),OM m TT.steps (ni.refl Bk.new) Uj,bM kj S3,bM jK S3,fun S hS rM f' H4 F4 sH sI W4 npw nf4=>?_,fun hS=>?_⟩
  case refine_2=>
   intro C dx H4 hC F4 sH sI nd4 hd4
   refine k2 z' hS C dx H4 hC ((S3.frame (fp:=[tB,tC])).trans F4 (fun x hx=>?_)) sH sI (S3.free nd4) hd4
   simp only[List.mem_cons,List.not_mem_nil,or_false] at hx
   rcases hx with hx|hx|hx
   ·exact .inl (by simp[hx])
   ·exact .inl (by simp[hx])
   ·exact .inr (by rw[hx]; exact n2)
  have off: ∀a o,H3 a=some o->(∀ps,o≠ .mO ps)->a∉[tB,tC]:=fun a o e n1 z=>by
   simp only[List.mem_cons,List.not_mem_nil,or_false] at z
   rcases z with z|z
   ·obtain⟨ps,q⟩:=c9 (bM kj S3)
    rw[z,q] at e
    exact n1 ps (aF e).symm
   ·obtain⟨ps,q⟩:=c9 (bM jK S3)
    rw[z,q] at e
    exact n1 ps (aF e).symm
  have AK:=F4 _ _ (off _ _ (S3 _ _ hb) (fun _ z=>by cases z)) (S3 _ _ hb)
  have VN:=F4 _ _ (off _ _ Q3 (fun _ z=>by cases z)) Q3
  have hK4:=VM.mono (fun a xs e=>F4 _ _ (off _ _ e (fun _ z=>by cases z)) e)
  have F4':Frame [tB,tC,pb] H H4:=dF ((S3.frame (fp:=[tB,tC])).tr F4) (by simp)
  refine⟨_,rfl,pb,_,db,_,rfl,AK,G.eW,G.gJ,(by show 2 < 1000; decide),?_⟩
  rw[Qb]
  have e5:upd H4 pb (.ins A.book db (eX pk rM)) pb=some (.ins A.book db (eX pk rM)):=ag
  have Uk:=yN A.book db pk pw
  have W5:=wm (u:= .ins A.book db (eX pk rM)) W4 AK Uk
  have nb2:p2≠pb:=(aJ hb n2).symm
  have Rb:upd H4 pb (.ins A.book db (eX pk rM)) p2=some (.dK (lu bc (Sum.inl m:Key))):=by rw[az nb2]; exact VN
  have hK5:=hK4.mono (AG (u:= .ins A.book db (eX pk rM)) AK Uk)
  have Ul: ∀a∈[pb],∀φ,H4 a≠some (.ext φ):=fun a ha φ e=>by
   rw[ao.mp ha,AK] at e
   cases e
  have nB:tB∉[pb]:=fun z=>by
   obtain⟨ps,q⟩:=c9 sH
   rw[ao.mp z,AK] at q
   cases q
  have nC:tC∉[pb]:=fun z=>by
   obtain⟨ps,q⟩:=c9 sI
   rw[ao.mp z,AK] at q
   cases q
  have Kk:lN (upd H4 pb (.ins A.book db (eX pk rM))) tB:=fZ sH (Frame.upd (fp:=[pb]) (by simp)) nB Ul
  have Kl:mr (upd H4 pb (.ins A.book db (eX pk rM))) tC:=fZ sI (Frame.upd (fp:=[pb]) (by simp)) nC Ul
  have F5:Frame [tB,tC,pb] H (upd H4 pb (.ins A.book db (eX pk rM))):=F4'.tr (Frame.upd (by simp))
  generalize upd H4 pb (.ins A.book db (eX pk rM))=H5 at e5 W5 Rb hK5 Kk Kl F5
  refine⟨_,rfl,_,rfl,pb,_,db,_,rfl,e5,G.eW,G.gI,(by show 2 < 1000; decide),?_⟩
  rw[Qc]
  have NH:=yN A.book db pk rM
  have Um: ∀a∈[pb],∀φ,H5 a≠some (.ext φ):=fun a ha φ e=>by
   rw[ao.mp ha,e5] at e
   cases e
  refine k1 z' S hS p2 rM f' _ (F5.tr (Frame.upd (by simp))) (fZ Kk (Frame.upd (fp:=[pb]) (by simp)) nB Um) (fZ Kl (Frame.upd (fp:=[pb]) (by simp)) nC Um) ⟨⟨db,ag⟩,⟨_,by rw[az nb2]; exact Rb,hK5.mono (AG e5 NH)⟩,wm W5 e5 NH⟩ n2 (fun b hb=>S3.free (nf4 b hb))
def Dt.v:Dt->V
 | .int i=> .int i
 | .str s=> .str s
 | .bl b=> .bl b
 |_=> .eu
def Dt.flat:Dt->Bool
 | .int _=>true
 | .str _=>true
 | .bl _=>true
 |_=>false
theorem wu {H:Hp}: ∀{ds:List Dt} {xs:List V},ds.all Dt.flat=true->hV H ds xs->xs=ds.map Dt.v
 |[],_,_,h=>cQ.mp h
 |d :: ds,_,hf,h=>by
  obtain⟨v,r,rfl,h1,h2⟩:=bC.mp h
  rw[List.all_cons,uk] at hf
  rw[wu hf.2 h2]
  cases d with
  |int i=>rw[dm.mp h1]; rfl
  |str s=>rw[fL.mp h1]; rfl
  |bl b=>rw[qI.mp h1]; rfl
  |eu=>cases hf.1
  |lst _=>cases hf.1
  |tup _=>cases hf.1
def sO (H:Hp)(pd:Addr):br->Prop
 | .fR w dy l=> ∃pl,H pd=some (.tup [.str "ages",.str w,.int dy,.ref pl])/\H pl=some (.tup (l.map V.int))
 |d=>H pd=some (.tup (br.vs d))
theorem AL {H:Hp}{d:br}{v:V}(h:Rp H d.dt v): ∃pd,v= .ref pd/\sO H pd d:=by
 cases d with
 |fR w dy l=>
  obtain⟨a,xs,rfl,h1,h2⟩:=jO.mp h
  obtain⟨v1,r1,rfl,e1,h2⟩:=bC.mp h2
  obtain⟨v2,r2,rfl,e2,h2⟩:=bC.mp h2
  obtain⟨v3,r3,rfl,e3,h2⟩:=bC.mp h2
  obtain⟨v4,r4,rfl,e4,h2⟩:=bC.mp h2
  obtain rfl:=cQ.mp h2
  obtain rfl:=fL.mp e1
  obtain rfl:=fL.mp e2
  obtain rfl:=dm.mp e3
  obtain⟨pl,ys,rfl,h4,h5⟩:=jO.mp e4
  have e5:=wu (by rw[List.all_map]; exact List.all_eq_true.mpr fun _ _=>rfl) h5
  rw[e5,eD] at h4
  exact⟨a,rfl,pl,h1,h4⟩
 |_=>
  obtain⟨a,xs,rfl,h1,h2⟩:=jO.mp h
  have e5:=wu (by rfl) h2
  rw[e5] at h1
  exact⟨a,rfl,h1⟩
theorem sO.mono {H H':Hp}{pd:Addr}{d:br}(h:sO H pd d)(k:cH H H'):sO H' pd d:=by
 cases d with
 |fR w dy l=>
  obtain⟨pl,h1,h2⟩:=h
  exact⟨pl,k _ _ h1,k _ _ h2⟩
 |_=>exact k _ _ h
theorem lO {A:dY}{H H':Hp}{pb pk pw:Addr}{T:g8}{f:eN}(h:fM A H pb pk pw T f)(k: ∀a o,H a=some o->(∀ps,o≠ .mO ps)->H' a=some o):fM A H' pb pk pw T f:=by
 obtain⟨db,hb⟩:=h.obj
 obtain⟨bc,k1,k2⟩:=h.kept
 have kt:cH H H':=fun a xs e=>k _ _ e (fun _ z=>by cases z)
 exact⟨⟨db,k _ _ hb (fun _ z=>by cases z)⟩,⟨bc,k _ _ k1 (fun _ z=>by cases z),k2.mono kt⟩,FQ h.wk (fun a xs e=>k _ _ e (fun _ z=>by cases z)) (fun a C dx fs _ e=>k _ _ e (fun _ z=>by cases z)) kt⟩
theorem yQ {H H':Hp}{fp:List Addr}{a:Addr}{o:HO}(F:Frame fp H H')(ht: ∀t∈fp,∃ps,H t=some (.mO ps))(e:H a=some o)(n: ∀ps,o≠ .mO ps):H' a=some o:=F _ _ (fun z=>by
 obtain⟨ps,q⟩:=ht a z
 rw[q] at e
 exact n ps (aF e).symm) e
theorem MT {d:br}(h:d.tells=true):br.word d≠"owed"/\br.word d≠"free"/\br.word d≠"ages"/\br.word d≠"undo":=by
 cases d with
 |dW _ _ _ _=>show("bill":Str)≠"owed"/\("bill":Str)≠"free"/\("bill":Str)≠"ages"/\("bill":Str)≠"undo"; decide +kernel
 |rL _ _ _=>show("pay":Str)≠"owed"/\("pay":Str)≠"free"/\("pay":Str)≠"ages"/\("pay":Str)≠"undo"; decide +kernel
 |note _ _ _=>show("note":Str)≠"owed"/\("note":Str)≠"free"/\("note":Str)≠"ages"/\("note":Str)≠"undo"; decide +kernel
 |set _ _ _=>show("set":Str)≠"owed"/\("set":Str)≠"free"/\("set":Str)≠"ages"/\("set":Str)≠"undo"; decide +kernel
 |fY _=>show("sweep":Str)≠"owed"/\("sweep":Str)≠"free"/\("sweep":Str)≠"ages"/\("sweep":Str)≠"undo"; decide +kernel
 |jf _=>cases h
 |ask _ _ _=>cases h
 |fR _ _ _=>cases h
inductive wx (A:dY)(tB tC:Addr)(vs:List V)(H:Hp)(Q:VK)(E':XK):Prop
 |mk (pb pd pk pw:Addr)(T:g8)(f:eN)(n:Nat)(d:br)(h1:vs=[.ref pb,.int n,.ref pd])(h2:fM A H pb pk pw T f)(h3:Good T n)(h4:n<=59)(h5:lN H tB)(h6:mr H tC)(h7:sO H pd d)(h8:d.ok)(h9: ∀v wt rM f' H',Frame (tB :: tC :: pb :: pk :: f.fp) H H'->lN H' tB->mr H' tC->fM A H' pb wt rM (cY T n d).2 f'->(∀x∈wt :: f'.fp,x∈pk :: f.fp∨H x=none)->j8 H' (fun D=>H D=none/\D∉wt :: f'.fp) (cY T n d).1 v->Q v H'):wx A tB tC vs H Q E'
theorem rJ:aS ["book","number","deed","kind","refusal"] ["book","number","deed"] (ay (top 35)):={}
theorem C0 (T:Txt K mg){A:dY}{tB tC:Addr}(G:jB K mg A)(DB:qr K mg "bills_in_order" (top 17) tB)(DC:qr K mg "credits_in_order" (top 18) tC)(je:tB≠tC)(hnd:A.iZ≠A.tooMuch)(KB:K.In base)(BM:BMain mg base):eM P w K mg base "answer_of" 10 ["book","number","deed"] (wx A tB tC):=by
 have Qe:gW (mK P w mg) P w K mg base A.book "undo" 9 ["self","number"] (Ey A K tB tC):=Qd T G DB DC je hnd KB BM
 have YB:gW (mK P w mg) P w K mg base A.book "do" 8 ["self","number","deed"] (P9 A K tB tC):=Yx T G DB DC je KB BM
 have sG:eM P w K mg base "owed_at" 5 ["work","who","day"] (As A tB):=yL T G DB KB BM
 have HU:eM P w K mg base "free_at" 5 ["work","who","day"] (Eh A tC):=HG T G DC KB BM
 have HV:eM P w K mg base "ages_at" 6 ["work","who","day","limits"] (El A tB):=HI T G DB KB BM
 refine T.BN.fe (k:=9) rJ (fun f cU A' outer s H vs Q E hr h=>?_)
 ·obtain⟨pb,pd,pk,pw,TT,g,n,d,rfl,hB,hG,hn,kj,jK,hd,cu,k⟩:=h
  have nd:=rJ.nd
  refine⟨_,(ah (sv 3 nd (xt (pv 2) ai))
(ah (bN (aV cJ (pv 3) aQ (aY _))
(au (a0 (fc sG hr (aa (bX (pv 0) rfl) (aa (xt (pv 2) ai) (aa (xt (pv 2) ai) av))))))
bb)
(ah (bN (aV cJ (pv 3) aQ (aY _))
(au (a0 (fc HU hr (aa (bX (pv 0) rfl) (aa (xt (pv 2) ai) (aa (xt (pv 2) ai) av))))))
bb)
(ah (bN (aV cJ (pv 3) aQ (aY _))
(au (a0 (fc HV hr (aa (bX (pv 0) rfl) (aa (xt (pv 2) ai) (aa (xt (pv 2) ai) (aa (xt (pv 2) ai) av)))))))
bb)
(au (G1 (i:=4) rfl rfl rfl nd rfl rfl rfl G.fU G.DZ (fun xe pn E hx=>(ah (bN (aV cJ (pv 3) aQ (aY _))
(au (a0 (nE Qe (hr.mono (by decide)) hx (pv 0) (aa (jd (l5 (K:=K) rfl) (pv 2) ai (fun _ _=>rfl)) av))))
bb)
(au (a0 (nE YB (hr.mono (by decide)) hx (pv 0) (aa (pv 1) (aa (pv 2) av))))))))))))),?_⟩
  obtain⟨db,hb⟩:=hB.obj
  have hW:=hB.wk
  have NI: ∀t∈[tB,tC],∃ps,H t=some (.mO ps):=fun t z=>by
   simp only[List.mem_cons,List.not_mem_nil,or_false] at z
   rcases z with rfl|rfl
   ·exact c9 kj
   ·exact c9 jK
  have big: ∀x∈[tB,tC],x∈tB :: tC :: pb :: pk :: g.fp:=fun x z=>by
   simp only[List.mem_cons,List.not_mem_nil,or_false] at z
   rcases z with rfl|rfl <;> simp
  have Uo: ∀a∈[tB],∀φ,H a≠some (.ext φ):=fun a ha φ e=>by
   obtain⟨ps,q⟩:=c9 kj
   rw[ao.mp ha,q] at e
   cases e
  have YC: ∀a∈[tC],∀φ,H a≠some (.ext φ):=fun a ha φ e=>by
   obtain⟨ps,q⟩:=c9 jK
   rw[ao.mp ha,q] at e
   cases e
  obtain⟨bc,hk,hK⟩:=hB.kept
  have Nq: ∀D,H D=none->D∉pk :: g.fp:=fun D e z=>by
   rcases aw.mp z with z|z
   ·rw[z,hk] at e
    cases e
   ·exact hW.new e z
  have wf:=hG.wf (by lia:n<=60)
  by_cases ht:d.tells=true
  ·have Ik:H pd=some (.tup (br.vs d)):=by cases d <;> first|exact hd|cases ht
   obtain⟨r,er⟩:=uA (.inl ht)
   have QY:H pd=some (.tup (.str (br.word d) :: r)):=by rw[← er]; exact Ik
   obtain⟨w1,w2,w3,w4⟩:=MT ht
   rw[vU ht] at k
   refine⟨_,rfl,pd,_,_,.str (br.word d),rfl,rfl,cg.of QY,Kq _ _,?_⟩
   refine⟨_,rfl,rfl,false,jr w1,bT ?_⟩
   refine⟨_,rfl,rfl,false,jr w2,bT ?_⟩
   refine⟨_,rfl,rfl,false,jr w3,bT ?_⟩
   refine⟨_,rfl,rfl,false,jr w4,bT ⟨_,rfl,pb,db,_,rfl,hb,Ue _ _,_,rfl,_,rfl,pb,pd,pk,pw,TT,g,n,d,rfl,hB,hG,hn,kj,jK,Ik,ht,fun oO v f1 H1 e1 F1 js kb Nx hA=>?_,fun oO=>?_⟩⟩
   ·rw[a8 oO] at k
    refine k v pk pw f1 H1 (dF F1 fun x z=>?_) js kb Nx (by rw[e1]; exact fun x hx=> .inl hx) (hA.keep (fun D xs o e=>⟨⟨o,by rw[e1]; exact Nq D o⟩,e⟩) fun _ _ e=>e)
    rcases aw.mp z with z|z
    ·simp[z]
    ·rcases aw.mp z with z|z
     ·simp[z]
     ·rcases aw.mp z with z|z
      ·simp[z]
      ·simp[z]
   ·rw[aU oO] at k
    intro C hC _ dx H1 s1 JN De
    exact⟨C,dx,_,rfl,rfl,hC,De,k _ pk pw g H1 s1.frame (bM kj s1) (bM jK s1) (hB.same s1) (fun x hx=> .inl hx) rfl⟩
  cases d with
  |dW _ _ _ _=>exact absurd rfl ht
  |rL _ _ _=>exact absurd rfl ht
  |note _ _ _=>exact absurd rfl ht
  |set _ _ _=>exact absurd rfl ht
  |fY _=>exact absurd rfl ht
  |ask o wh dy=>
   have hd:H pd=some (.tup (br.vs (.ask o wh dy))):=hd
   cases o with
   |true=>
    refine⟨_,rfl,pd,_,_,.str "owed",rfl,rfl,cg.of hd,rfl,?_⟩
    refine⟨_,rfl,rfl,true,yF _,fG ⟨_,rfl,pb,_,db,_,_,rfl,hb,G.eW,G.gJ,uF _ _,_,rfl,pd,_,_,.str wh,rfl,rfl,cg.of hd,rfl,_,rfl,pd,_,_,.int dy,rfl,rfl,cg.of hd,rfl,pw,TT.bk,g,n,wh,dy,rfl,hW,wf,(by lia),kj,fun D ms H1 F1 js nD hD hP=>?_⟩⟩
    have F2:Frame [tB,tC] H H1:=dF F1 (by simp)
    exact k _ pk pw g H1 (dF F2 big) js (fZ jK F1 (by simpa using je.symm) Uo) (lO hB fun a o e z=>yQ F2 NI e z) (fun x hx=> .inl hx) ⟨D,ms,rfl,⟨nD,Nq D nD⟩,hD,hP⟩
   |false=>
    refine⟨_,rfl,pd,_,_,.str "free",rfl,rfl,cg.of hd,rfl,?_⟩
    refine⟨_,rfl,rfl,false,jr (show("free":Str)≠"owed" by decide +kernel),bT ?_⟩
    refine⟨_,rfl,rfl,true,yF _,fG ⟨_,rfl,pb,_,db,_,_,rfl,hb,G.eW,G.gJ,uF _ _,_,rfl,pd,_,_,.str wh,rfl,rfl,cg.of hd,rfl,_,rfl,pd,_,_,.int dy,rfl,rfl,cg.of hd,rfl,pw,TT.bk,g,n,wh,dy,rfl,hW,wf,(by lia),jK,fun D ms H1 F1 kb nD hD hP=>?_⟩⟩
    have F2:Frame [tB,tC] H H1:=dF F1 (by simp)
    exact k _ pk pw g H1 (dF F2 big) (fZ kj F1 (by simpa using je) YC) kb (lO hB fun a o e z=>yQ F2 NI e z) (fun x hx=> .inl hx) ⟨D,ms,rfl,⟨nD,Nq D nD⟩,hD,hP⟩
  |fR wh dy bO=>
   obtain⟨pl,hd,gQ⟩:=hd
   refine⟨_,rfl,pd,_,_,.str "ages",rfl,rfl,cg.of hd,rfl,?_⟩
   refine⟨_,rfl,rfl,false,jr (show("ages":Str)≠"owed" by decide +kernel),bT ?_⟩
   refine⟨_,rfl,rfl,false,jr (show("ages":Str)≠"free" by decide +kernel),bT ?_⟩
   refine⟨_,rfl,rfl,true,yF _,fG ⟨_,rfl,pb,_,db,_,_,rfl,hb,G.eW,G.gJ,uF _ _,_,rfl,pd,_,_,.str wh,rfl,rfl,cg.of hd,rfl,_,rfl,pd,_,_,.int dy,rfl,rfl,cg.of hd,rfl,_,rfl,pd,_,_,.ref pl,rfl,rfl,cg.of hd,rfl,pw,pl,TT.bk,g,n,wh,dy,bO,rfl,hW,wf,(by lia),kj,gQ,cu.1,fun D H1 F1 js nD hD=>?_⟩⟩
   have F2:Frame [tB,tC] H H1:=dF F1 (by simp)
   exact k _ pk pw g H1 (dF F2 big) js (fZ jK F1 (by simpa using je.symm) Uo) (lO hB fun a o e z=>yQ F2 NI e z) (fun x hx=> .inl hx) ⟨D,rfl,⟨nD,Nq D nD⟩,hD⟩
  |jf m=>
   have hd:H pd=some (.tup (br.vs (.jf m))):=hd
   refine⟨_,rfl,pd,_,_,.str "undo",rfl,rfl,cg.of hd,rfl,?_⟩
   refine⟨_,rfl,rfl,false,jr (show("undo":Str)≠"owed" by decide +kernel),bT ?_⟩
   refine⟨_,rfl,rfl,false,jr (show("undo":Str)≠"free" by decide +kernel),bT ?_⟩
   refine⟨_,rfl,rfl,false,jr (show("undo":Str)≠"ages" by decide +kernel),bT ?_⟩
   have YD:cY TT n (.jf m)=if(TT.steps.filter (cA m)).length=TT.steps.length then(BJ.txt "no setting",TT) else
     match cW (TT.steps.filter (cA m)) Bk.new with
     |none=>(.txt "needed",TT)
     |some S=>(.txt "undone",⟨TT.steps.filter (cA m),S⟩):=rfl
   refine⟨_,rfl,rfl,true,yF _,fG ⟨_,rfl,pb,db,_,rfl,hb,MS _ _,_,rfl,pd,_,_,.int m,rfl,rfl,cg.of hd,rfl,pb,pk,pw,TT,g,n,m,rfl,hB,hG,hn,kj,jK,fun hF S hS wt rM f' H1 F1 js kb Nx nk nf=>?_,fun hF hS=>?_,fun hF=>?_⟩⟩
   ·have Tc: ¬ (TT.steps.filter (cA m)).length=TT.steps.length:=fun z=>by
     rw[(qg _ _).mp z] at hF
     cases hF
    rw[YD,aU Tc,hS] at k
    refine k _ wt rM f' H1 (dF F1 (fun x z=>?_)) js kb Nx (fun x hx=> .inr ?_) rfl
    ·simp only[List.mem_cons,List.not_mem_nil,or_false] at z
     rcases z with rfl|rfl|rfl <;> simp
    ·rcases aw.mp hx with hx|hx
     ·rw[hx]; exact nk
     ·exact nf x hx
   ·have Tc: ¬ (TT.steps.filter (cA m)).length=TT.steps.length:=fun z=>by
     rw[(qg _ _).mp z] at hF
     cases hF
    rw[YD,aU Tc,hS] at k
    intro C dx H1 hC F1 js kb JN De
    exact⟨C,dx,_,rfl,rfl,hC,De,k _ pk pw g H1 (dF F1 big) js kb (lO hB fun a o e z=>yQ F1 NI e z) (fun x hx=> .inl hx) rfl⟩
   ·rw[YD,a8 ((qg _ _).mpr hF)] at k
    intro C dx H1 hC F1 js kb JN De
    exact⟨C,dx,_,rfl,rfl,hC,De,k _ pk pw g H1 (dF F1 big) js kb (lO hB fun a o e z=>yQ F1 NI e z) (fun x hx=> .inl hx) rfl⟩
theorem yR (d:br): ∀(l:List br) (T:g8) (n:Nat),dP (l ++ [d]) T n=((dP l T n).1 ++ [(cY (dP l T n).2 ((n + l.length:Nat):Int) d).1],(cY (dP l T n).2 ((n + l.length:Nat):Int) d).2)
 |[],T,n=>rfl
 |e :: l,T,n=>by
  show((cY T n e).1 :: (dP (l ++ [d]) (cY T n e).2 (n + 1)).1,(dP (l ++ [d]) (cY T n e).2 (n + 1)).2)=_
  rw[yR d l,show n + 1 + l.length=n + (e :: l).length by rw[bS]; lia]
  rfl
theorem yS {ds:List br}{i:Nat}(hi:i < ds.length):dP (ds.take (i + 1)) g8.new 0=((dP (ds.take i) g8.new 0).1 ++ [(cY (dP (ds.take i) g8.new 0).2 (i:Int) ds[i]).1],(cY (dP (ds.take i) g8.new 0).2 (i:Int) ds[i]).2):=by
 rw[jt hi,yR,bf,Nat.zero_add,Nat.min_eq_left (dz hi)]
theorem HW {A:dY}{H:Hp}{pb pk pw pt:Addr}{T:g8}{f:eN}{ws:List V}{o:HO}(h:fM A H pb pk pw T f)(e:H pt=some (.lst ws))(n:pt∉f.fp):fM A (upd H pt o) pb pk pw T f:=by
 obtain⟨db,hb⟩:=h.obj
 obtain⟨bc,k1,k2⟩:=h.kept
 have kt:cH H (upd H pt o):=dQ e
 have ki: ∀{a C dx:Addr} {gs:List (Str×V)},H a=some (.ins C dx gs)->upd H pt o a=some (.ins C dx gs):=fun{a C dx gs} z=>by rw[az (mz z e (by intro q; cases q))]; exact z
 have kl: ∀p∈f.fp,∀xs,H p=some (.lst xs)->upd H pt o p=some (.lst xs):=fun p hp xs z=>by rw[az (fun(q:p=pt)=>n (q▸hp))]; exact z
 obtain⟨dw,hw⟩:=h.wk.obj
 obtain⟨ms,m1,m2⟩:=h.wk.hm
 have hW:=h.wk
 exact⟨⟨db,ki hb⟩,⟨bc,by rw[az (mz k1 e (by intro q; cases q))]; exact k1,k2.mono kt⟩,
  ⟨⟨dw,ki hw⟩,kl _ (by simp[eN.fp]) _ hW.hb,kl _ (by simp[eN.fp]) _ hW.hc,kl _ (by simp[eN.fp]) _ hW.hl,kl _ (by simp[eN.fp]) _ hW.hf,⟨ms,kl _ (by simp[eN.fp]) _ m1,m2.mono kt⟩,hW.rb.keep fun _ _ _ z=>ki z,hW.rc.keep fun _ _ _ z=>ki z,hW.nd⟩⟩
theorem FR {A:dY}{H:Hp}{pb pk pw tB tC a:Addr}{T:g8}{f:eN}(h:fM A H pb pk pw T f)(kj:lN H tB)(jK:mr H tC)(z:a∈tB :: tC :: pb :: pk :: f.fp):(∃ps,H a=some (.mO ps))∨(∃C dx fs,H a=some (.ins C dx fs))∨(∃bc,H a=some (.dK bc))∨(∃xs,H a=some (.lst xs))/\a∈f.fp:=by
 rcases aw.mp z with rfl|z
 ·exact .inl (c9 kj)
 rcases aw.mp z with rfl|z
 ·exact .inl (c9 jK)
 rcases aw.mp z with rfl|z
 ·obtain⟨db,hb⟩:=h.obj
  exact .inr (.inl ⟨_,_,_,hb⟩)
 rcases aw.mp z with rfl|z
 ·obtain⟨bc,k1,_⟩:=h.kept
  exact .inr (.inr (.inl ⟨_,k1⟩))
 ·exact .inr (.inr (.inr ⟨h.wk.lists a z,z⟩))
theorem Kw {A:dY}{H H':Hp}{pb pk pw tB tC:Addr}{T:g8}{f:eN}(h:fM A H pb pk pw T f)(kj:lN H tB)(jK:mr H tC)(F:Frame (tB :: tC :: pb :: pk :: f.fp) H H'):cH H H':=fun a xs e=>F _ _ (fun z=>by
 rcases FR h kj jK z with⟨_,q⟩|⟨_,_,_,q⟩|⟨_,q⟩|⟨⟨_,q⟩,_⟩ <;> (rw[e] at q; cases q)) e
theorem EA {A:dY}{H H':Hp}{pb pk pw tB tC a:Addr}{T:g8}{f:eN}{xs:List V}(h:fM A H pb pk pw T f)(kj:lN H tB)(jK:mr H tC)(F:Frame (tB :: tC :: pb :: pk :: f.fp) H H')(e:H a=some (.lst xs))(n:a∉pk :: f.fp):H' a=some (.lst xs):=F _ _ (fun z=>by
 rcases FR h kj jK z with⟨_,q⟩|⟨_,_,_,q⟩|⟨_,q⟩|⟨_,q⟩
 ·rw[e] at q; cases q
 ·rw[e] at q; cases q
 ·rw[e] at q; cases q
 ·exact n (ba _ q)) e
inductive AM (A:dY)(tB tC:Addr)(vs:List V)(H:Hp)(Q:VK)(E':XK):Prop
 |mk (pb pk pw ps:Addr)(f:eN)(ds:List br)(ms:List V)(h1:vs=[.ref pb,.ref ps])(h2:fM A H pb pk pw g8.new f)(h3:H ps=some (.lst ms))(h4:ps∉f.fp)(h5:eT H ds ms)(h6:ds.length<=60)(h7:(∀d∈ds,d.ok))(h8:lN H tB)(h9:mr H tC)(K3: ∀pt ws wt rM f' H',Frame (tB :: tC :: pb :: pk :: f.fp) H H'->lN H' tB->mr H' tC->H pt=none->H' pt=some (.lst ws)->Paired (j8 H' (fun D=>D≠pt/\(D∈pk :: f.fp∨H D=none))) (dP ds g8.new 0).1 ws->fM A H' pb wt rM (dP ds g8.new 0).2 f'->Q (.ref pt) H'):AM A tB tC vs H Q E'
theorem pz:aS ["book","deeds","told","number","deed"] ["book","deeds"] (ay (top 34)):={}
theorem eT.get {H:Hp}{i:Nat}: ∀{ds:List br} {ms:List V},eT H ds ms-> ∀{d:br},ds[i]? =some d-> ∃v,ms[i]? =some v/\Rp H d.dt v:=fun{ds ms} h {d} e=>hV.get h (by rw[aB,e]; rfl)
theorem AN (T:Txt K mg){A:dY}{tB tC:Addr}(G:jB K mg A)(DB:qr K mg "bills_in_order" (top 17) tB)(DC:qr K mg "credits_in_order" (top 18) tC)(je:tB≠tC)(hnd:A.iZ≠A.tooMuch)(KB:K.In base)(BM:BMain mg base):eM P w K mg base "answers_in" 11 ["book","deeds"] (AM A tB tC):=by
 have C1:eM P w K mg base "answer_of" 10 ["book","number","deed"] (wx A tB tC):=C0 T G DB DC je hnd KB BM
 refine T.zE.fe (k:=10) pz (fun f cU A' outer s H vs Q E hr h=>?_)
 ·obtain⟨pb,pk,pw,ps,g,ds,ms,rfl,hB,lA,CF,Kx,hl,cu,kj,jK,k⟩:=h
  have nd:=pz.nd
  refine⟨_,(ah (sv 2 nd (bP av))
(ah (dZ bw rfl (qG rfl T.jh (aa (pv 1) av)) (iU rfl (bY (gn 3 nd) (bY (gn 4 nd) gE)))
(au (bK (oW (pv 2) (fc C1 hr (aa (pv 0) (aa (pv 3) (aa (pv 4) av))))))))
(au (a0 (pv 2))))),?_⟩
  refine⟨bh _,fun pt nt=>?_⟩
  have s1:=aD.new (o:= .lst []) nt
  have hlen:=eT.length Kx
  obtain⟨bc,hk,_⟩:=hB.kept
  have npk:ps∉pk :: g.fp:=fun z=>by
   rcases aw.mp z with z|z
   ·rw[z,hk] at lA
    cases lA
   ·exact CF z
  have ntk:pt∉pk :: g.fp:=fun z=>by
   rcases aw.mp z with z|z
   ·rw[z,hk] at nt
    cases nt
   ·exact hB.wk.new nt z
  refine⟨_,rfl,ps,rfl,⟨_,bA.of (s1 _ _ lA)⟩,?_⟩
  refine m8 (K:=K) (a:=ps) (xs:=ms) (fun i σ H2=> ∃(x3 x4:Option V) (wt rM:Addr) (f':eN) (ws:List V),σ=[some (.ref pb),some (.ref ps),some (.ref pt),x3,x4]/\Frame (tB :: tC :: pb :: pk :: g.fp) H H2/\H2 pt=some (.lst ws)/\fM A H2 pb wt rM (dP (ds.take i) g8.new 0).2 f'/\Good (dP (ds.take i) g8.new 0).2 i/\(∀x∈wt :: f'.fp,(x∈pk :: g.fp∨H x=none)/\x≠pt)/\lN H2 tB/\mr H2 tC/\Paired (j8 H2 (fun D=>D≠pt/\D∉wt :: f'.fp/\(D∈pk :: g.fp∨H D=none))) (dP (ds.take i) g8.new 0).1 ws)
   ⟨none,none,pk,pw,g,[],rfl,s1.frame,ag,hB.same s1,Good.new,fun x hx=>⟨.inl hx,fun z=>ntk (z▸hx)⟩,bM kj s1,bM jK s1,.nil⟩ (fun i σ H2 _ ⟨_,_,_,_,_,_,_,f2,_⟩=>bA.of (EA hB kj jK f2 lA npk)) ?_ ?_
  ·rintro i x p σ H2 hx hp ⟨x3,x4,wt,rM,f',ws,rfl,F2,wF,Lc,ML,VO,kB,mL,Eo⟩
   have hi:i < ds.length:=by have:=(ak.mp hx).1; lia
   have oP:=af hi
   obtain⟨v',hv,Xy⟩:=eT.get Kx oP
   rw[hx] at hv
   obtain rfl:x=v':=aF hv
   obtain⟨pd,rfl,hd⟩:=AL Xy
   have hd2:=hd.mono (Kw hB kj jK F2)
   have MU:=cu _ (bG hi)
   have VP:=yS hi
   have o6:Good (cY (dP (ds.take i) g8.new 0).2 (i:Int) ds[i]).2 (i + 1):=ML.step ds[i]
   rw[VP]
   generalize ds[i]=d at hd2 MU o6
   have BC:(dP (ds.take i) g8.new 0).1.length<=100:=by rw[kF,bf]; lia
   generalize dP (ds.take i) g8.new 0=R at Lc ML Eo o6 BC
   have s3:=aD.new (o:= .tup [.int i,.ref pd]) hp
   refine⟨p,_,rfl,cg.of ag,rfl,_,_,rfl,_,_,rfl,rfl,?_⟩
   have F3:=F2.cX s3
   have Ky:=s3 _ _ wF
   have Kz:=Lc.same s3
   have rE:lN _ tB:=bM kB s3
   have rF:mr _ tC:=bM mL s3
   have NA:=hd2.mono s3.tk
   have YE:Paired (j8 (upd H2 p (.tup [.int i,.ref pd])) (fun D=>D≠pt/\D∉wt :: f'.fp/\(D∈pk :: g.fp∨H D=none))) R.1 ws:=Paired.gP Eo fun _ _ z=>z.keep (fun D xs o e=>⟨o,s3 _ _ e⟩) s3.tk
   generalize upd H2 p (.tup [.int i,.ref pd])=H3 at F3 Ky Kz rE rF NA YE
   have E2:=aL YE
   refine⟨_,rfl,.inl ⟨rfl,_,bA.of Ky⟩,_,rfl,_,rfl,_,rfl,pb,pd,wt,rM,R.2,f',i,d,rfl,Kz,ML,(by lia),rE,rF,NA,MU,fun v pk2 pw2 f2 H4 F4 sH sI hB4 jU hA4=>?_⟩
   have YF:pt∉wt :: f'.fp:=fun z=>(VO pt z).2 rfl
   have we:=EA Kz rE rF F4 Ky YF
   have kt4:=Kw Kz rE rF F4
   refine⟨pt,ws,v,rfl,rfl,we,a9 (by lia),?_⟩
   have frees: ∀x,H3 x=none->x∈pk :: g.fp∨H x=none:=fun x h1=>by
    by_cases q:x∈pk :: g.fp
    ·exact .inl q
    ·right
     cases e:H x with
     |none=>rfl
     |some o=>
      exfalso
      by_cases q2:x∈tB :: tC :: pb :: pk :: g.fp
      ·rcases aw.mp q2 with q2|q2
       ·obtain⟨_,z⟩:=c9 rE
        rw[← q2,h1] at z
        cases z
       rcases aw.mp q2 with q2|q2
       ·obtain⟨_,z⟩:=c9 rF
        rw[← q2,h1] at z
        cases z
       rcases aw.mp q2 with q2|q2
       ·obtain⟨_,z⟩:=Kz.obj
        rw[← q2,h1] at z
        cases z
       exact q q2
      ·have z:=F3 _ _ q2 e
       rw[h1] at z
       cases z
   have Up: ∀x∈pk2 :: f2.fp,(x∈pk :: g.fp∨H x=none)/\x≠pt:=fun x hx=>by
    rcases jU x hx with h1|h1
    ·exact VO x h1
    ·exact⟨frees x h1,fun z=>by rw[z,Ky] at h1; cases h1⟩
   have YG:pt∉f2.fp:=fun z=>(Up pt (ba _ z)).2 rfl
   have Uq: ∀a∈[pt],∀φ,H4 a≠some (.ext φ):=fun a ha φ e=>by
    rw[ao.mp ha,we] at e
    cases e
   have nB:tB∉[pt]:=fun z=>by
    obtain⟨_,q⟩:=c9 sH
    rw[ao.mp z,we] at q
    cases q
   have nC:tC∉[pt]:=fun z=>by
    obtain⟨_,q⟩:=c9 sI
    rw[ao.mp z,we] at q
    cases q
   have F34:Frame (tB :: tC :: pb :: pk :: g.fp) H (upd H4 pt (.lst (ws ++ [v]))):=(F3.trans F4 fun x hx=>by
    rcases aw.mp hx with hx|hx
    ·exact .inl (by simp[hx])
    rcases aw.mp hx with hx|hx
    ·exact .inl (by simp[hx])
    rcases aw.mp hx with hx|hx
    ·exact .inl (by simp[hx])
    rcases(VO x hx).1 with h1|h1
    ·exact .inl (by simp[List.mem_cons.mp h1])
    ·exact .inr h1).trans (Frame.upd (fp:=[pt]) (by simp)) (fun x hx=> .inr (by rw[List.mem_singleton.mp hx]; exact nt))
   refine⟨_,_,pk2,pw2,f2,ws ++ [v],rfl,F34,ag,HW hB4 we YG,o6,Up,fZ sH (Frame.upd (fp:=[pt]) (by simp)) nB Uq,fZ sI (Frame.upd (fp:=[pt]) (by simp)) nC Uq,?_⟩
   have ktl:=dQ (o:= .lst (ws ++ [v])) we
   refine cz (Paired.gP YE fun _ _ z=>z.keep (fun D xs o e=>?_) (kt4.trans ktl)) (hA4.keep (fun D xs o e=>?_) ktl)
   ·have e4:=EA Kz rE rF F4 e o.2.1
    refine⟨⟨o.1,fun q=>?_,o.2.2⟩,by rw[az o.1]; exact e4⟩
    rcases jU D q with h1|h1
    ·exact o.2.1 h1
    ·rw[e] at h1
     cases h1
   ·have nD:D≠pt:=fun z=>by
     have:=o.1
     rw[z,Ky] at this
     cases this
    exact⟨⟨nD,o.2,frees D o.1⟩,by rw[az nD]; exact e⟩
  ·rintro σ H2 ⟨x3,x4,wt,rM,f',ws,rfl,F2,wF,Lc,ML,VO,kB,mL,Eo⟩
   rw[← hlen,a7] at Eo Lc
   refine⟨_,rfl,k pt ws wt rM f' H2 F2 kB mL nt wF (Paired.gP Eo fun _ _ z=>z.keep (fun D xs o e=>⟨⟨o.1,o.2.2⟩,e⟩) fun _ _ e=>e) Lc⟩
inductive sP (A:dY)(tB tC:Addr)(vs:List V)(H:Hp)(Q:VK)(E':XK):Prop
 |mk (ps:Addr)(ds:List br)(ms:List V)(h1:vs=[.ref ps])(h2:H ps=some (.lst ms))(h3:eT H ds ms)(h4:ds.length<=60)(h5:(∀d∈ds,d.ok))(h6:lN H tB)(h7:mr H tC)(h8: ∀pt ws H',Frame [tB,tC] H H'->lN H' tB->mr H' tC->H pt=none->H' pt=some (.lst ws)->Paired (j8 H' (fun D=>D≠pt/\H D=none)) (dP ds g8.new 0).1 ws->Q (.ref pt) H'):sP A tB tC vs H Q E'
theorem wy:aS ["deeds","book"] ["deeds"] (ay (top 33)):={}
theorem HX (T:Txt K mg){A:dY}{tB tC:Addr}(G:jB K mg A)(DB:qr K mg "bills_in_order" (top 17) tB)(DC:qr K mg "credits_in_order" (top 18) tC)(je:tB≠tC)(hnd:A.iZ≠A.tooMuch)(KB:K.In base)(BM:BMain mg base):eM P w K mg base "answers" 12 ["deeds"] (sP A tB tC):=by
 have AO:eM P w K mg base "answers_in" 11 ["book","deeds"] (AM A tB tC):=AN T G DB DC je hnd KB BM
 have Qf:uc P w K mg base "Book" A.book 3 ["self"] (Aw A):=PJ G
 refine T.G6.fe (k:=11) wy (fun f cU A' outer s H vs Q E hr h=>?_)
 ·obtain⟨ps,ds,ms,rfl,lA,Kx,hl,cu,kj,jK,k⟩:=h
  have nd:=wy.nd
  refine⟨_,(ah (sv 1 nd (JM Qf (hr.mono (by decide)) rfl))
(au (a0 (fc AO hr (aa (pv 1) (aa (pv 0) av)))))),?_⟩
  intro xb dxb YH YI ne
  have s1:=lJ (C:=A.book) (fs:=[]) YH YI ne
  refine⟨xb,dxb,rfl,ag,fun pk pw g H1 F1 hx hk hW nk npw nf npk=>⟨rfl,?_⟩⟩
  have S1:aD H H1:=fun b o e=>F1 b o (by simpa using aJ e YH) (s1 b o e)
  have fr: ∀b∈g.fp,H b=none:=fun b hb=>s1.free (nf b hb)
  have XZ:H pk=none:=s1.free nk
  refine⟨_,rfl,_,rfl,xb,pk,pw,ps,g,ds,ms,rfl,⟨⟨dxb,hx⟩,⟨[],hk,.nil⟩,hW⟩,S1 _ _ lA,(fun z=>by
   have:=fr _ z
   rw[lA] at this
   cases this),Kx.mono S1.tk,hl,cu,bM kj S1,bM jK S1,fun pt ws _ _ _ H2 F2 kB mL nt wF hA _=>?_⟩
  refine k pt ws H2 ((S1.frame (fp:=[tB,tC])).trans F2 fun x hx=>?_) kB mL (S1.free nt) wF (Paired.gP hA fun _ _ z=>z.keep (fun D xs o e=>⟨⟨o.1,o.2.elim (fun q=>(aw.mp q).elim (fun q=>by rw[q]; exact XZ) (fr D)) S1.free⟩,e⟩) fun _ _ e=>e)
  rcases aw.mp hx with hx|hx
  ·exact .inl (by simp[hx])
  rcases aw.mp hx with hx|hx
  ·exact .inl (by simp[hx])
  rcases aw.mp hx with hx|hx
  ·exact .inr (by rw[hx]; exact YH)
  rcases aw.mp hx with hx|hx
  ·exact .inr (by rw[hx]; exact XZ)
  ·exact .inr (fr x hx)
inductive KA (K:Frag)(vs:List V)(H:Hp)(Q:VK)(E':XK):Prop
 |mk (a:Addr)(xs:List V)(m b:Int)(h1:vs=[.ref a,.int m,.int b])(h2:bA K H a xs)(h3:xs.length<=63)(h4:Q (.int m) H):KA K vs H Q E'
inductive AQ (vs:List V)(H:Hp)(Q:VK)(E':XK):Prop
 |mk (d v:_)(h1:vs=[v])(h2:Rp H d v)(h3:Q (.bl (isW d)) H):AQ vs H Q E'
theorem AR:aS ["_law_script","_law_most","_law_bound"] ["_law_script","_law_most","_law_bound"] (ay (top 43)):={}
theorem C2 (T:Txt K mg):eM P w K mg base "_law_room" 1 ["_law_script","_law_most","_law_bound"] (KA K):=by
 refine T.BP.fe (k:=0) AR (fun f cU A outer s H vs Q E hr h=>?_)
 ·obtain⟨a,xs,m,b,rfl,hS,hz,k⟩:=h
  refine⟨_,(ah (bN (aV iO (mh T.dD (pv 0)) ai (aY _))
   (au (a0 (pv 2)))
   bb)
   (au (a0 (pv 1)))),?_⟩
  refine⟨_,rfl,a,xs,rfl,.inl hS,_,_,rfl,rfl,_,rfl,?_⟩
  refine cm (fun c=>?_) (fun c=>?_)
  ·have c':(63:Int) < (xs.length:Int):=aN c
   lia
  ·exact⟨_,rfl,k⟩
theorem xQ:aS ["_law_found"] ["_law_found"] (ay (top 45)):={}
theorem AS (T:Txt K mg):eM P w K mg base "_law_whole" 1 ["_law_found"] AQ:=by
 refine T.zF.fe (k:=0) xQ (fun f cU A outer s H vs Q E hr h=>?_)
 ·obtain⟨d,v,rfl,r,k⟩:=h
  refine⟨_,(au (a0 (rX (cD eQ (by rfl) T.dj eo (aa (pv 0) (aa (gA (v:= .ty "int") (by rfl) T.vC boot_int rfl) av))) (pH (N7 (cD eQ (by rfl) T.dj eo (aa (pv 0) (aa (gA (v:= .ty "bool") (by rfl) T.O8 boot_bool rfl) av)))))))),?_⟩
  refine⟨_,rfl,v,_,_,ZG d,rfl,r.ty,Sl d,_,rfl,?_⟩
  cases d with
  |int i=>exact fG ⟨_,rfl,v,_,_,false,rfl,r.ty,Nj (.int i),_,rfl,k⟩
  |bl i=>exact fG ⟨_,rfl,v,_,_,true,rfl,r.ty,Nj (.bl i),_,rfl,k⟩
  |eu=>exact bT k
  |str x=>exact bT k
  |tup ds=>exact bT k
  |lst ds=>exact bT k
inductive FT (vs:List V)(H:Hp)(Q:VK)(E':XK):Prop
 |mk (d v1 v2:_)(h1:vs=[v1,v2])(h2:Rp H d v1)(h3:Rp H d v2)(h4:d.size<=100000)(h5:d.plain=true)(h6: ∀H',aD H H'->Q (.bl true) H'):FT vs H Q E'
theorem pA:aS ["_law_found","_law_due","_law_todo","_law_pair","_law_k"] ["_law_found","_law_due"] (ay (top 47)):={}
theorem AU (T:Txt K mg):eM P w K mg base "_law_alike" 2 ["_law_found","_law_due"] FT:=by
 have AV:eM P w K mg base "_law_whole" 1 ["_law_found"] AQ:=AS T
 refine T.zG.fe (k:=1) pA (fun f cU A outer s H vs Q E hr h=>?_)
 ·obtain⟨d,v1,v2,rfl,r1,r2,hsz,gQ,k⟩:=h
  have hu:=jM hr
  have nd:=pA.nd
  refine⟨_,(ah (sv 2 nd (bP (aa (cG (aa (pv 0) (aa (pv 1) av))) av)))
(ah (IC bw (aV (Jg hu) (pv 2) (bP av) (aY _))
(ah (sv 3 nd (Oo PySem.F.plainAttrs_list PySem.F.slot_list_pop PySem.F.type_list_pop Ou (pv 2)))
(au (bN (gj (cD DM (by rfl) T.dj eo (aa (xt (pv 3) ai) (aa (cG (aa (gA (v:= .ty "list") (by rfl) T.vE boot_list rfl) (aa (gA (v:= .ty "tuple") (by rfl) T.uu boot_tuple rfl) av))) av))))
(ah (bN (aV oU (cD eQ (by rfl) T.dj eo (aa (xt (pv 3) ai) (aa (gA (v:= .ty "list") (by rfl) T.vE boot_list rfl) av))) (cD eQ (by rfl) T.dj eo (aa (xt (pv 3) ai) (aa (gA (v:= .ty "list") (by rfl) T.vE boot_list rfl) av))) (aY _))
(au (a0 lj))
bb)
(ah (bN (aV oU (cD eQ (by rfl) T.dj eo (aa (xt (pv 3) ai) (aa (gA (v:= .ty "tuple") (by rfl) T.uu boot_tuple rfl) av))) (cD eQ (by rfl) T.dj eo (aa (xt (pv 3) ai) (aa (gA (v:= .ty "tuple") (by rfl) T.uu boot_tuple rfl) av))) (aY _))
(au (a0 lj))
bb)
(ah (bN (aV oU (mh T.dD (xt (pv 3) ai)) (mh T.dD (xt (pv 3) ai)) (aY _))
(au (a0 lj))
bb)
(au (dZ bw rfl (iV rfl T.jA (aa (mh T.dD (xt (pv 3) ai)) av)) (gn 4 nd)
(au (bK (oW (pv 2) (cG (aa (jd Ni (xt (pv 3) ai) (pv 4) (fun _ _=>rfl)) (aa (jd Ni (xt (pv 3) ai) (pv 4) (fun _ _=>rfl)) av)))))))))))
(au (bN (gj (cD eQ (by rfl) T.dj eo (aa (xt (pv 3) ai) (aa (gA (v:= .ty "str") (by rfl) T.Fq boot_str rfl) av))))
(au (bN (PW.pt (pw_or (kO (gj (cD eQ (by rfl) T.dj eo (aa (xt (pv 3) ai) (aa (gA (v:= .ty "str") (by rfl) T.Fq boot_str rfl) av))))) (pw_or1 (aV oU (xt (pv 3) ai) (xt (pv 3) ai) (aY _)))))
(au (a0 lj))
bb))
(au (bN (PW.pt (pw_or (kO (gj (fc AV hr (aa (xt (pv 3) ai) av)))) (pw_or1 (aV oU (xt (pv 3) ai) (xt (pv 3) ai) (aY _)))))
(au (a0 lj))
bb))))))))
(au (a0 lj)))),?_⟩
  refine⟨_,rfl,_,rfl,(by show 2<=sizeLine; decide),fun t0 nt0=>⟨(by show 1<=sizeLine; decide),fun l nl=>?_⟩⟩
  have sA:aD H (upd H t0 (.tup [v1,v2])):=aD.new nt0
  have VQ:H l=none:=sA.free nl
  refine⟨fun m σ H2=> ∃td ds x3 x4,σ=[some v1,some v2,some (.ref l),x3,x4]/\aD H H2/\H2 l=some (.lst td)/\Paired (l6 H H2) ds td/\Dt.fJ ds=m/\m<=100000/\ ∀d∈ds,d.plain=true,
   ⟨d.size,[.ref t0],[d],none,none,rfl,sA.trans (aD.new nl),ag,.cons ⟨t0,v1,v2,rfl,Ji nl _ _ ag,r1,r2⟩ .nil,by simp[Dt.fJ],hsz,by simpa using gQ⟩,?_⟩
  rintro m σ H2 ⟨td,ds,x3,x4,rfl,s1,hl,hp,hm,XQ,Ur⟩
  refine⟨_,rfl,bh _,fun p3 n3=>?_⟩
  have s2:aD H2 (upd H2 p3 (.lst [])):=aD.new n3
  refine⟨l,p3,td,rfl,rfl,bA.of (s2 _ _ hl),bA.of ag,_,rfl,?_⟩
  generalize Mw:upd H2 p3 (.lst [])=H3 at s2 ⊢
  have FK:=s2 _ _ hl
  cases htd:td with
  |nil=>exact bT (k _ (s1.trans s2))
  |cons z zs=>
  refine fG ⟨fun σ' H'=> ∃m',m' < m/\ ∃td ds x3 x4,σ'=[some v1,some v2,some (.ref l),x3,x4]/\aD H H'/\H' l=some (.lst td)/\Paired (l6 H H') ds td/\Dt.fJ ds=m'/\m'<=100000/\ ∀d∈ds,d.plain=true,fun _ _ h=>h,?_⟩
  have je:td.length - 1 < td.length:=by rw[htd]; simp
  obtain⟨y,hy⟩: ∃y,td[td.length - 1]? =some y:=⟨_,af je⟩
  obtain⟨MV,c,YJ,⟨t,u1,u2,ey,ht,q1,q2⟩,Tg⟩:=sW hp hy
  subst ey
  have SY:c.plain=true:=Ur c (by rw[YJ]; simp)
  have Vn: ∀d∈MV,d.plain=true:=fun d hd=>Ur d (by rw[YJ]; simp[hd])
  have hmm:Dt.fJ MV + c.size=m:=by
   have:=hm
   rw[YJ,Dt.ix] at this
   simpa[Dt.fJ] using this
  refine⟨_,rfl,.inl ⟨rfl,_,bA.of FK⟩,l,td,.ref t,rfl,rfl,FK,hy,?_⟩
  have ht3:=s2 _ _ ht
  have s4:aD H (upd H3 l (.lst td.dropLast)):=(s1.trans s2).cI VQ
  have YK:upd H3 l (.lst td.dropLast) t=some (.tup [u1,u2]):=dC FK _ _ ht3
  have VN:Paired (l6 H (upd H3 l (.lst td.dropLast))) MV td.dropLast:=Paired.gP Tg fun d v h=>h.mono fun b xs e=>dC FK _ _ (s2 _ _ e)
  have NJ:upd H3 l (.lst td.dropLast) l=some (.lst td.dropLast):=ag
  generalize upd H3 l (.lst td.dropLast)=H4 at s4 YK VN NJ ⊢
  clear Mw FK ht3 s2 n3 hp hl ht
  refine⟨_,rfl,t,_,_,u2,rfl,rfl,cg.of YK,rfl,(by show 2<=sizeLine; decide),fun p5 n5=>?_⟩
  have s5:aD H4 (upd H4 p5 (.tup [.ty "list",.ty "tuple"])):=aD.new n5
  have q25:=Rp.mono (s4.trans s5) c q2
  have q15:=Rp.mono (s4.trans s5) c q1
  refine⟨u2,p5,["list","tuple"],_,isLT c,rfl,ag,q25.ty,OH c,_,rfl,?_⟩
  have Di:=s5 _ _ YK
  have YL:=s5 _ _ NJ
  have Rb:Paired (l6 H (upd H4 p5 (.tup [.ty "list",.ty "tuple"]))) MV td.dropLast:=Paired.gP VN fun d v h=>h.mono fun b xs e=>s5 _ _ e
  have s6:=s4.trans s5
  generalize upd H4 p5 (.tup [.ty "list",.ty "tuple"])=H5 at s5 q25 q15 Di YL Rb s6 ⊢
  clear s5 n5
  refine cm (fun Us=>?_) (fun Us=>?_)
  ·
   obtain⟨a1,YM,e1,S1,R1⟩:=E6 q1 Us
   obtain⟨a2,Qg,e2,S2,R2⟩:=E6 q2 Us
   refine⟨_,rfl,t,_,_,u1,rfl,rfl,cg.of Di,rfl,u1,_,_,WW c,rfl,q15.ty,E5 c,_,rfl,t,_,_,u2,rfl,rfl,cg.of Di,rfl,u2,_,_,WW c,rfl,q25.ty,E5 c,rfl,_,rfl,Bz rfl ?_⟩
   refine⟨_,rfl,t,_,_,u1,rfl,rfl,cg.of Di,rfl,u1,_,_,WX c,rfl,q15.ty,Jh c,_,rfl,t,_,_,u2,rfl,rfl,cg.of Di,rfl,u2,_,_,WX c,rfl,q25.ty,Jh c,rfl,_,rfl,Bz rfl ?_⟩
   have hlen:YM.length=Qg.length:=by rw[← R1.length,← R2.length]
   refine⟨_,rfl,t,_,_,u1,rfl,rfl,cg.of Di,rfl,a1,YM,by rw[e1],S1 K H5 s6,_,rfl,t,_,_,u2,rfl,rfl,cg.of Di,rfl,a2,Qg,by rw[e2],S2 K H5 s6,rfl,_,rfl,Bz (by rw[hlen]) ?_⟩
   have Ng:Qg.length=(kids c).length:=R2.length.symm
   have Vx:=GN Us
   have Fy:=Dt.qH (kids c)
   refine⟨_,rfl,t,_,_,u2,rfl,rfl,cg.of Di,rfl,a2,Qg,by rw[e2],S2 K H5 s6,(Qg.length:Int),rfl,by lia,by lia,?_⟩
   rw[dN]
   refine iW (lo:=0) (n:=Qg.length) (fun i σ H6=> ∃NK x4,σ=[some v1,some v2,some (.ref l),some (.ref t),x4]/\aD H H6/\H6 l=some (.lst NK)/\H6 t=some (.tup [u1,u2])/\Paired (l6 H H6) (MV ++ (kids c).take i) NK)
    ⟨td.dropLast,x4,rfl,s6,YL,Di,by simpa using Rb⟩ ?_ ?_
   ·rintro i σ H6 hi ⟨NK,x4',rfl,s7,gi,VR,NB⟩
    have WZ:i < (kids c).length:=by lia
    have g0:(kids c)[i]? =some (kids c)[i]:=af WZ
    obtain⟨w1,g1,z1⟩:=R1.get g0
    obtain⟨w2,g2,z2⟩:=R2.get g0
    have Q5:NK.length < sizeLine:=by
     have h1:=NB.length
     have h2:=Dt.qH (MV ++ (kids c).take i)
     have h3:=wV (kids c) i
     rw[Dt.ix] at h2
     exact i9 (by lia)
    refine⟨_,rfl,.inl ⟨rfl,_,bA.of gi⟩,?_⟩
    refine⟨_,rfl,t,_,_,u1,rfl,rfl,cg.of VR,rfl,_,rfl,a1,YM,_,w1,e1,rfl,S1 K H6 s7,by rw[iJ]; exact cy g1,_,rfl,t,_,_,u2,rfl,rfl,cg.of VR,rfl,_,rfl,a2,Qg,_,w2,e2,rfl,S2 K H6 s7,by rw[iJ]; exact cy g2,(by show 2<=sizeLine; decide),fun p7 n7=>?_⟩
    have s8:aD H6 (upd H6 p7 (.tup [w1,w2])):=aD.new n7
    have Q8:=s8 _ _ gi
    refine⟨l,NK,.ref p7,rfl,rfl,Q8,Q5,?_⟩
    refine⟨NK ++ [.ref p7],_,rfl,(s7.trans s8).cI VQ,ag,dC Q8 _ _ (s8 _ _ VR),?_⟩
    rw[tW g0,← eL]
    exact cz (Paired.gP NB fun d v h=>h.mono fun b xs e=>dC Q8 _ _ (s8 _ _ e)) ⟨p7,w1,w2,rfl,dC Q8 _ _ ag,z1,z2⟩
   ·rintro σ H6 ⟨NK,x4',rfl,s7,gi,VR,NB⟩
    rw[Ng,a7] at NB
    refine⟨Dt.fJ (MV ++ kids c),?_,NK,_,_,_,rfl,s7,gi,NB,rfl,?_,?_⟩
    ·rw[Dt.ix]; lia
    ·rw[Dt.ix]; lia
    ·intro d hd
     rcases bq.mp hd with hd|hd
     ·exact Vn d hd
     ·exact DN SY d hd
  ·
   have fin:(fun σ' H'=> ∃m',m' < m/\ ∃td ds x3 x4,σ'=[some v1,some v2,some (.ref l),x3,x4]/\aD H H'/\H' l=some (.lst td)/\Paired (l6 H H') ds td/\Dt.fJ ds=m'/\m'<=100000/\ ∀d∈ds,d.plain=true) [some v1,some v2,some (.ref l),some (.ref t),x4] H5:=by
    have:=c.size_pos
    exact⟨Dt.fJ MV,by lia,_,MV,_,_,rfl,s6,YL,Rb,rfl,by lia,Vn⟩
   refine⟨_,rfl,t,_,_,u2,rfl,rfl,cg.of Di,rfl,u2,_,_,Ve c,rfl,q25.ty,yn c,_,rfl,?_⟩
   refine cm (fun hS=>?_) (fun hS=>?_)
   ·have ec: ∃x,c= .str x:=by cases c <;> first|exact⟨_,rfl⟩|cases hS
    obtain⟨x,rfl⟩:=ec
    obtain rfl:=fL.mp q1
    obtain rfl:=fL.mp q2
    refine⟨_,rfl,t,_,_,_,rfl,rfl,cg.of Di,rfl,_,_,_,true,rfl,mS.str x,yn (.str x),_,rfl,bT ?_⟩
    refine⟨_,rfl,t,_,_,_,rfl,rfl,cg.of Di,rfl,_,rfl,t,_,_,_,rfl,rfl,cg.of Di,rfl,rfl,_,rfl,Bz rfl ?_⟩
    exact fin
   ·have ec: ∃x,c= .int x:=by cases c <;> first|exact⟨_,rfl⟩|exact absurd rfl hS|exact absurd rfl Us|cases SY
    obtain⟨x,rfl⟩:=ec
    obtain rfl:=dm.mp q1
    obtain rfl:=dm.mp q2
    refine⟨_,rfl,t,_,_,_,rfl,rfl,cg.of Di,rfl,.int x,_,rfl,dm.mpr rfl,_,rfl,bT ?_⟩
    refine⟨_,rfl,t,_,_,_,rfl,rfl,cg.of Di,rfl,_,rfl,t,_,_,_,rfl,rfl,cg.of Di,rfl,rfl,_,rfl,Bz rfl ?_⟩
    exact fin
inductive wz (K:Frag)(vs:List V)(H:Hp)(Q:VK)(E':XK):Prop
 |mk (po:Addr)(os:List Str)(aH:Str)(cell i:Int)(h1:vs=[.ref po,.str aH,.int cell,.int i])(h2:bA K H po (os.map V.str))(h3:os.length<=1000)(h4: ∀(n:Int) (H':Hp),aD H H'->Q (.int n) H'):wz K vs H Q E'
theorem nX:aS ["_law_owners","_law_who","_law_cell","_law_k","_law_rest","_law_number","_law_spot","_law_one"] ["_law_owners","_law_who","_law_cell","_law_k"] (ay (top 50)):={}
theorem xR (T:Txt K mg):eM P w K mg base "_law_chosen" 1 ["_law_owners","_law_who","_law_cell","_law_k"] (wz K):=by
 refine T.xj.fe (k:=0) nX (fun f cU A outer s H vs Q E hr h=>?_)
 ·obtain⟨po,os,aH,cell,i,rfl,hS,ho,k⟩:=h
  have nd:=nX.nd
  refine⟨_,(ah (sv 4 nd (aO i8 (pv 2) ai))
(ah (sv 5 nd (aO bW (aO cB (aO i8 (pv 4) ai) (pv 3)) (aO cB (mh T.dD (pv 0)) ai)))
(ah (dZ bw rfl (iV rfl T.jA (aa (mh T.dD (pv 0)) av)) (gn 6 nd)
(ah (sv 7 nd (aO bW (aO cB (pv 5) (pv 6)) (mh T.dD (pv 0))))
(au (bN (PW.pt (pw_and (aV cJ (xl (pv 0) (pv 7)) (pv 1) (aY _)) (pw_and1 (aV iO (aO bW (pv 2) ai) ai (aY _)))))
(au (a0 (pv 7)))
bb))))
(ah (bN (aV cJ (aO bW (pv 2) ai) ai (aY _))
(au (sv 5 nd (xl (bP (aa (oT kP ai) (aa (aO jo ai ai) (aa (aO eP (oT kP ai) (aO bW (pv 4) (aO jo ai ai))) av)))) (aO bW (pv 4) ai))))
bb)
(au (a0 (pv 5))))))),?_⟩
  refine⟨_,rfl,_,_,rfl,rfl,⟨by decide,by decide⟩,?_⟩
  refine⟨_,rfl,_,_,rfl,rfl,⟨by decide,by decide⟩,_,rfl,_,_,rfl,rfl,_,rfl,po,_,rfl,.inl hS,_,_,rfl,rfl,_,_,rfl,rfl,(by show(0:Int) < ((os.map V.str).length:Int) + 1; lia),?_⟩
  generalize YN:(cell / 16 / 2 + i) % (((os.map V.str).length:Int) + 1)=num
  show _
  refine⟨_,rfl,po,_,rfl,.inl hS,((os.map V.str).length:Int),rfl,by lia,by rw[ae]; lia,?_⟩
  rw[dN]
  refine iW (lo:=0) (n:=(os.map V.str).length) (fun j σ H2=> ∃x6 x7,σ=[some (.ref po),some (.str aH),some (.int cell),some (.int i),some (.int (cell / 16)),some (.int num),x6,x7]/\H2=H)
   ⟨none,none,by rw[← YN]; rfl,rfl⟩ ?_ ?_
  ·rintro j σ H2 hj ⟨x6,x7,rfl,rfl⟩
   have hm:0 < ((os.map V.str).length:Int):=by lia
   obtain⟨y,_,hy⟩:=kI (g:=V.str) (xs:=os) (m:=((os.map V.str).length:Int)) (x:=num + (0 + (j:Int))) (by rw[ae]) hm
   refine⟨_,rfl,_,rfl,_,_,rfl,rfl,_,rfl,po,_,rfl,.inl hS,_,_,rfl,rfl,hm,?_⟩
   refine⟨_,rfl,_,rfl,po,_,_,.str y,rfl,rfl,hS,hy,_,rfl,rfl,_,rfl,cm (fun c=>?_) (fun c=>bT ⟨_,_,rfl,rfl⟩)⟩
   refine⟨_,rfl,_,_,rfl,rfl,(by show(0:Int) < 5; decide),_,_,rfl,rfl,_,rfl,cm (fun c=>?_) (fun c=>⟨_,_,rfl,rfl⟩)⟩
   exact⟨_,rfl,k _ _ (aD.refl _)⟩
  ·rintro σ H2 ⟨x6,x7,rfl,rfl⟩
   refine⟨_,rfl,_,_,rfl,rfl,(by show(0:Int) < 47; decide),rfl,_,rfl,cm (fun c=>?_) (fun c=>⟨_,rfl,k _ _ (aD.refl _)⟩)⟩
   refine⟨_,rfl,_,_,rfl,rfl,⟨by decide,by decide,by decide⟩,_,rfl,_,rfl,_,_,rfl,rfl,⟨by decide,by decide,by decide⟩,_,_,rfl,rfl,(by show(0:Int) < _; decide +kernel),_,_,rfl,rfl,(by show 3<=sizeLine; decide),fun p4 n4=>?_⟩
   obtain⟨y,_,hy⟩:=at3 (-1) (10 ^ (9:Int).toNat) (-2 - cell / 16 % 10 ^ (60:Int).toNat) (cell / 16)
   refine⟨_,rfl,_,_,rfl,rfl,(by show(0:Int) < 3; decide),p4,_,_,.int y,rfl,rfl,bA.of ag,hy,?_⟩
   exact⟨_,rfl,k _ _ (aD.new n4)⟩
inductive AW (vs:List V)(H:Hp)(Q:VK)(E':XK):Prop
 |mk (c:Int)(h1:vs=[.int c])(h2: ∀r:Int,(r=0∨r=1)->Q (.int r) H):AW vs H Q E'
theorem xS:aS ["_law_cell"] ["_law_cell"] (ay (top 51)):={}
theorem AX (T:Txt K mg):eM P w K mg base "_law_hasty" 1 ["_law_cell"] AW:=by
 refine T.zH.fe (k:=0) xS (fun f cU A outer s H vs Q E hr h=>?_)
 ·obtain⟨c,rfl,k⟩:=h
  refine⟨_,(au (a0 (gF jD (by rfl) T.vC boot_int (aa (RA (fm cJ (aO bW (pv 0) ai) ai (aY _)) (pH (rX (fm cJ (aO bW (pv 0) ai) ai (aY _)) (pH (fm cJ (aO bW (aO i8 (pv 0) ai) ai) ai (aY _)))))) av)))),?_⟩
  have fin: ∀b:Bool,Q (.int (if b then 1 else 0)) H:=fun b=>k _ (by cases b <;> simp)
  refine⟨_,rfl,_,_,rfl,rfl,(by show(0:Int) < 29; decide),rfl,_,rfl,cm (fun c=> .inr ⟨_,rfl,fin _⟩) (fun c=>?_)⟩
  refine⟨_,rfl,_,_,rfl,rfl,(by show(0:Int) < 41; decide),rfl,_,rfl,cm (fun c=>?_) (fun c=> .inr ⟨_,rfl,fin _⟩)⟩
  exact⟨_,rfl,_,_,rfl,rfl,⟨by decide,by decide⟩,_,_,rfl,rfl,(by show(0:Int) < 2; decide),rfl,.inr ⟨_,rfl,fin _⟩⟩
inductive AY (K:Frag)(vs:List V)(H:Hp)(Q:VK)(E':XK):Prop
 |mk (a:Addr)(cs:List Int)(i:Nat)(h1:vs=[.ref a,.int i])(h2:bA K H a (cs.map V.int))(h3:i < cs.length)(h4: ∀n:Int,Q (.int n) H):AY K vs H Q E'
theorem nY:aS ["_law_cells","_law_k","_law_days"] ["_law_cells","_law_k"] (ay (top 52)):={}
theorem xT (T:Txt K mg):eM P w K mg base "_law_due_in" 2 ["_law_cells","_law_k"] (AY K):=by
 have AZ:eM P w K mg base "_law_hasty" 1 ["_law_cell"] AW:=AX T
 refine T.xk.fe (k:=1) nY (fun f cU A outer s H vs Q E hr h=>?_)
 ·obtain⟨a,cs,i,rfl,hS,hi,k⟩:=h
  have nd:=nY.nd
  refine⟨_,(ah (sv 2 nd (aO bW (aO cB (xl (pv 0) (aO bW (aO cB (pv 1) ai) (mh T.dD (pv 0)))) (pv 1)) ai))
(iw (bN (aV cJ (aO bW (xl (pv 0) (pv 1)) ai) ai (aY _))
(au (sv 2 nd (aO bW (xl (pv 0) (aO bW (aO cB (pv 1) ai) (mh T.dD (pv 0)))) (aO jo ai ai))))
bb)
(au (a0 (aO eP (pv 2) (aO lZ (aO cB (pv 2) ai) (fc AZ hr (aa (xl (pv 0) (pv 1)) av)))))))),?_⟩
  have hm:0 < ((cs.map V.int).length:Int):=by rw[ae]; lia
  obtain⟨y,_,hy⟩:=kI (g:=V.int) (xs:=cs) (m:=((cs.map V.int).length:Int)) (x:=(i:Int) + 1) (by rw[ae]) hm
  refine⟨_,rfl,_,rfl,_,_,rfl,rfl,_,rfl,a,_,rfl,.inl hS,_,_,rfl,rfl,hm,a,_,_,.int y,rfl,rfl,hS,hy,_,rfl,_,_,rfl,rfl,_,_,rfl,rfl,(by show(0:Int) < 9; decide),?_⟩
  refine⟨fun σ' H'=>H'=H/\ ∃d:Int,σ'=[some (.ref a),some (.int i),some (.int d)],?_,?_⟩
  ·refine⟨_,rfl,_,rfl,a,_,_,_,rfl,rfl,hS,nF hi,_,_,rfl,rfl,(by show(0:Int) < 13; decide),rfl,_,rfl,cm (fun c=>?_) (fun c=>⟨rfl,_,rfl⟩)⟩
   refine⟨_,rfl,_,rfl,_,_,rfl,rfl,_,rfl,a,_,rfl,.inl hS,_,_,rfl,rfl,hm,a,_,_,.int y,rfl,rfl,hS,hy,_,_,rfl,rfl,⟨by decide,by decide,by decide⟩,_,_,rfl,rfl,(by show(0:Int) < _; decide +kernel),?_⟩
   exact⟨rfl,_,rfl⟩
  rintro σ' H' ⟨rfl,d,rfl⟩
  refine⟨_,rfl,_,rfl,_,_,rfl,rfl,_,rfl,_,rfl,a,_,_,_,rfl,rfl,hS,nF hi,_,rfl,fun r YO=>?_⟩
  exact⟨_,_,rfl,rfl,.inr (by rcases YO with rfl|rfl <;> exact⟨by decide,by decide⟩),_,_,rfl,rfl,k _⟩
def ui (H:Hp)(a pm lP:Addr)(i:Nat)(σ:L2.St)(H2:Hp):Prop:=
 ∃(pb ph:Addr) (bs hs:List Str) (sp:List Int) (ds:List br) (ms:List V) (x5 x6 x7 x8 x9 xO HN EB HY Dj KC KD:Option V),σ=[some (.ref a),some (.ref pm),some (.ref pb),some (.ref ph),some (.ref lP),x5,x6,x7,x8,x9,xO,HN,EB,HY,Dj,KC,KD]/\aD H H2/\
  H2 pm=some (.lst ms)/\eT H2 ds ms/\ds.length=i/\(∀d∈ds,d.ok)/\H2 pb=some (.lst (bs.map V.str))/\bs.length<=i/\H2 ph=some (.lst (hs.map V.str))/\hs.length<=i/\H2 lP=some (.lst (sp.map V.int))/\sp.length<=i/\pb≠pm/\pb≠lP/\ph≠pm/\ph≠lP
theorem ui.mk' {H:Hp}{a pm lP pb ph:Addr}{i:Nat}{H4 H6:Hp}{bs hs:List Str}{sp:List Int}{ds:List br}{d:br}{ms:List V}{p8:Addr}{x5 x6 x7 x8 x9 xO HN EB HY Dj KC KD:Option V}
  (hR:eT H4 ds ms) (hl:ds.length=i) (cu: ∀d∈ds,d.ok) (kp:cH H4 H6) (s6:aD H H6) (hM:H6 pm=some (.lst (ms ++ [.ref p8]))) (hd:Rp H6 d.dt (.ref p8)) (VS:d.ok)
  (hb:H6 pb=some (.lst (bs.map V.str))) (Mx:bs.length<=i + 1) (hh:H6 ph=some (.lst (hs.map V.str))) (hhl:hs.length<=i + 1) (LN:H6 lP=some (.lst (sp.map V.int))) (Q5:sp.length<=i + 1)
  (n1:pb≠pm) (n2:pb≠lP) (n3:ph≠pm) (n4:ph≠lP):
  ui H a pm lP (i + 1) [some (.ref a),some (.ref pm),some (.ref pb),some (.ref ph),some (.ref lP),x5,x6,x7,x8,x9,xO,HN,EB,HY,Dj,KC,KD] H6:=by
 refine⟨pb,ph,bs,hs,sp,ds ++ [d],ms ++ [.ref p8],x5,x6,x7,x8,x9,xO,HN,EB,HY,Dj,KC,KD,rfl,s6,hM,(hR.mono kp).snoc hd,by rw[aC,hl]; rfl,fun d' Ik=>?_,hb,Mx,hh,hhl,LN,Q5,n1,n2,n3,n4⟩
 rcases bq.mp Ik with h|h
 ·exact cu d' h
 ·rw[ao.mp h]; exact VS
def bO (r:Int)(j:Nat):List Int:=(List.range j).map fun(t:Nat)=>1 + r % 9 + (0 + (t:Int)) * (2 + r % 30)
theorem C3 (r:Int)(j:Nat):(bO r j).length=j:=by unfold bO; rw[List.length_map,List.length_range]
theorem MW {w:Str}{d:Int}(r:Int)(j:Nat)(hj:j<=11):(br.fR w d (bO r j)).ok:=by
 have h9:=kq r (show(9:Int)≠0 by decide)
 have h30:=kq r (show(30:Int)≠0 by decide)
 refine⟨by rw[C3]; exact hj,?_,fun x hx=>?_⟩
 ·unfold bO
  rw[rQ]
  refine List.pairwise_lt_range.imp fun{a b} Il=>?_
  have:(0 + (a:Int)) * (2 + r % 30) < (0 + (b:Int)) * (2 + r % 30):=Int.mul_lt_mul_of_pos_right (by lia) (by lia)
  lia
 ·unfold bO at hx
  obtain⟨t,_,rfl⟩:=bF.mp hx
  have:0<=(0 + (t:Int)) * (2 + r % 30):=Int.mul_nonneg (by lia) (by lia)
  lia
theorem Ut (x y:Int)(b:Bool):True/\se [V.int x,V.int y] (if b=true then 1 else 0)=some (V.int (if b=true then y else x)):=⟨trivial,by cases b <;> rfl⟩
theorem NL {H H4:Hp}{pm p8 lP pb ph:Addr}{ms xs b' h' s':List V}(nm:H pm=none)(s4:aD H H4)(nW:H4 pm=some (.lst ms))(n8:H4 p8=none)(n1:pb≠pm)(n3:ph≠pm)(FU:lP≠pm)
  (AK:H4 pb=some (.lst b')) (Iv:H4 ph=some (.lst h')) (nZ:H4 lP=some (.lst s')):
  cH H4 (upd (upd H4 p8 (.tup xs)) pm (.lst (ms ++ [.ref p8])))/\aD H (upd (upd H4 p8 (.tup xs)) pm (.lst (ms ++ [.ref p8])))/\upd (upd H4 p8 (.tup xs)) pm (.lst (ms ++ [.ref p8])) pm=some (.lst (ms ++ [.ref p8]))/\
  upd (upd H4 p8 (.tup xs)) pm (.lst (ms ++ [.ref p8])) p8=some (.tup xs)/\upd (upd H4 p8 (.tup xs)) pm (.lst (ms ++ [.ref p8])) pb=some (.lst b')/\upd (upd H4 p8 (.tup xs)) pm (.lst (ms ++ [.ref p8])) ph=some (.lst h')/\
  upd (upd H4 p8 (.tup xs)) pm (.lst (ms ++ [.ref p8])) lP=some (.lst s'):=by
 have s8:=aD.new (o:= .tup xs) n8
 refine⟨s8.tk.trans (dQ (s8 _ _ nW)),(s4.trans s8).cI nm,ag,dC (s8 _ _ nW) _ _ ag,?_,?_,?_⟩
 ·rw[az n1]; exact s8 _ _ AK
 ·rw[az n3]; exact s8 _ _ Iv
 ·rw[az FU]; exact s8 _ _ nZ
theorem Uu {H H4:Hp}{pm lP pb ph:Addr}{ms b' h':List V}{sp:List Int}{x:Int}(VT:H lP=none)(s4:aD H H4)(nW:H4 pm=some (.lst ms))(n2:pb≠lP)(n4:ph≠lP)(FU:lP≠pm)
  (AK:H4 pb=some (.lst b')) (Iv:H4 ph=some (.lst h')) (nZ:H4 lP=some (.lst (sp.map V.int))):
  cH H4 (upd H4 lP (.lst (sp.map V.int ++ [.int x])))/\aD H (upd H4 lP (.lst (sp.map V.int ++ [.int x])))/\upd H4 lP (.lst (sp.map V.int ++ [.int x])) pm=some (.lst ms)/\upd H4 lP (.lst (sp.map V.int ++ [.int x])) pb=some (.lst b')/\
  upd H4 lP (.lst (sp.map V.int ++ [.int x])) ph=some (.lst h')/\upd H4 lP (.lst (sp.map V.int ++ [.int x])) lP=some (.lst ((sp ++ [x]).map V.int)):=by
 refine⟨dQ nZ,s4.cI VT,?_,?_,?_,?_⟩
 ·rw[az FU.symm]; exact nW
 ·rw[az n2]; exact AK
 ·rw[az n4]; exact Iv
 ·rw[ag,aK]; rfl
theorem gX {H:Hp}{d:Dt}{v:V}{ds:List Dt}{vs:List V}(h:Rp H d v)(r:hV H ds vs):hV H (d :: ds) (v :: vs):=bC.mpr ⟨_,_,rfl,h,r⟩
theorem rI {H:Hp}(i:Int):Rp H (.int i) (.int i):=dm.mpr rfl
theorem rS {H:Hp}(x:Str):Rp H (.str x) (.str x):=fL.mpr rfl
theorem r0 {H:Hp}:hV H [] []:=cQ.mpr rfl
theorem FV {H9:Hp}{p9 pb:Addr}{bs:List Str}{aH:Str}{b:Bool}{Q:VK}(h9:H9 p9=some (.lst [V.str aH]))(hb:H9 pb=some (.lst (bs.map V.str)))(hl:bs.length<=100)
  (q: ∀(KG:Addr) (NM:Hp) (n:Nat),n<=1->aD H9 NM->H9 KG=none->NM KG=some (.lst ((bs ++ List.replicate n aH).map V.str))->Q (.ref KG) NM):
  RX (.ref p9) (.int (if b=true then 1 else 0)) H9 (fun v H=>RW (.ref pb) v H Q):=by
 have hk:(if b=true then(1:Int) else 0).toNat<=1:=by split <;> decide
 refine⟨p9,_,_,rfl,rfl,h9,(by split <;> decide),(by split <;> decide),(by show 1 * _<=sizeLine; split <;> decide),fun Rc YQ=>?_⟩
 generalize (if b=true then(1:Int) else 0).toNat=n at hk ⊢
 rw[LW]
 have Ak:=aD.new (o:= .lst ((List.replicate n aH).map V.str)) YQ
 refine⟨pb,Rc,_,_,rfl,rfl,Ak _ _ hb,ag,?_,fun KG Iw=>?_⟩
 ·refine dz (a9 ?_)
  rw[ae,ae,dM]
  lia
 ·rw[← aK]
  exact q KG _ n hk (Ak.trans (aD.new Iw)) (Ak.free Iw) ag
inductive FW (K:Frag)(vs:List V)(H:Hp)(Q:VK)(E':XK):Prop
 |mk (a:Addr)(cs:List Int)(h1:vs=[.ref a])(h2:bA K H a (cs.map V.int))(h3:cs.length<=100)(h4: ∀(pd:Addr) (ds:List br) (ms:List V) (H':Hp),aD H H'->H' pd=some (.lst ms)->eT H' ds ms->ds.length=cs.length->(∀d∈ds,d.ok)->Q (.ref pd) H'):FW K vs H Q E'
theorem pB:aS ["_law_cells","_law_made","_law_bills","_law_held","_law_spots","_law_k","_law_rest","_law_pick","_law_who","_law_day","_law_amount","_law_bill","_law_due","_law_part","_law_credit","_law_menu","_law_limits"] ["_law_cells"] (ay (top 53)):={}
theorem A0 (T:Txt K mg):eM P w K mg base "_law_deeds" 3 ["_law_cells"] (FW K):=by
 have xU:eM P w K mg base "_law_penned" 2 ["_law_cells","_law_k"] (vJ K):=xu T
 have pC:eM P w K mg base "_law_chosen" 1 ["_law_owners","_law_who","_law_cell","_law_k"] (wz K):=xR T
 have xV:eM P w K mg base "_law_due_in" 2 ["_law_cells","_law_k"] (AY K):=xT T
 refine T.zI.fe (k:=2) pB (fun f cU A outer s H vs Q E hr h=>?_)
 ·obtain⟨a,cs,rfl,hS,hc,k⟩:=h
  have nd:=pB.nd
  refine⟨_,(ah (sv 1 nd (bP av))
(ah (sv 2 nd (bP av))
(ah (sv 3 nd (bP av))
(ah (sv 4 nd (bP av))
(ah (dZ bw rfl (iV rfl T.jA (aa (mh T.dD (pv 0)) av)) (gn 5 nd)
(ah (sv 6 nd (aO bW (aO i8 (xl (pv 0) (pv 5)) ai) (aO jo ai ai)))
(ah (sv 7 nd (aO bW (aO cB (xl (pv 0) (pv 5)) (aO lZ ai (pv 5))) ai))
(ah (lY (fc xU hr (aa (pv 0) (aa (pv 5) av))) (iU rfl (bY (gn 8 nd) (bY (gn 9 nd) (bY (gn 10 nd) gE)))))
(ah (sv 11 nd (fc pC hr (aa (pv 2) (aa (pv 8) (aa (xl (pv 0) (pv 5)) (aa (pv 5) av))))))
(au (bN (aV ju (pv 7) ai (aY _))
(ah (sv 12 nd (aO cB (pv 9) (fc xV hr (aa (pv 0) (aa (pv 5) av)))))
(ah (bK (oW (pv 1) (cG (aa aQ (aa (pv 8) (aa (pv 9) (aa (pv 12) (aa (pv 10) av))))))))
(au (sv 2 nd (aO mW (pv 2) (aO zj (bP (aa (pv 8) av)) (gF jD (by rfl) T.vC boot_int (aa (rX (fm iO (pv 10) ai (aY _)) (pH (fm IF (pv 12) (pv 9) (aY _)))) av))))))))
(au (bN (aV ju (pv 7) ai (aY _))
(ah (bK (oW (pv 1) (cG (aa aQ (aa (pv 8) (aa (pv 9) (aa (pv 10) av)))))))
(au (sv 3 nd (aO mW (pv 3) (aO zj (bP (aa (pv 8) av)) (gF jD (by rfl) T.vC boot_int (aa (fm iO (pv 10) ai (aY _)) av)))))))
(au (bN (aV cJ (pv 7) ai (aY _))
(ah (bK (oW (pv 1) (cG (aa aQ (aa (pv 11) (aa (pv 9) (aa (pv 10) av)))))))
(au (bN (PW.pt (pw_and (aV sS ai (pv 11) (aY _)) (pw_and (aV ju (pv 11) (mh T.dD (pv 2)) (aY _)) (pw_and1 (aV iO (pv 10) ai (aY _))))))
(au (sv 3 nd (aO mW (pv 3) (bP (aa (xl (pv 2) (pv 11)) av)))))
bb)))
(au (bN (aV ju (pv 7) ai (aY _))
(ah (bK (oW (pv 4) (pv 5)))
(iw (sv 13 nd (xl (bP (aa (pv 10) (aa (aO cB ai (aO bW (pv 6) ai)) av))) (gF jD (by rfl) T.vC boot_int (aa (rX (fm iO (pv 10) ai (aY _)) (pH (fm iO (aO bW (pv 6) ai) ai (aY _)))) av))))
(ah (sv 14 nd (fc pC hr (aa (pv 3) (aa (pv 8) (aa (xl (pv 0) (pv 5)) (aa (aO cB (pv 5) ai) av))))))
(iw (bN (aV cJ (aO bW (xl (pv 0) (pv 5)) ai) ai (aY _))
(au (sv 14 nd (aO bW (aO i8 (pv 6) ai) (aO cB (mh T.dD (pv 3)) ai))))
bb)
(au (bK (oW (pv 1) (cG (aa aQ (aa (pv 14) (aa (pv 11) (aa (pv 13) av))))))))))))
(au (bN (aV ju (pv 7) ai (aY _))
(ah (bK (oW (pv 4) (pv 5)))
(au (bK (oW (pv 1) (cG (aa aQ (aa (pv 8) av)))))))
(au (bN (aV cJ (pv 7) ai (aY _))
(ah (sv 15 nd (aO mW (pv 4) (bP (aa (pv 5) (aa (oT kP ai) (aa (aO jo ai ai) (aa ai (aa (aO eP (pv 5) ai) (aa (aO bW (aO i8 (pv 6) ai) (aO cB (pv 5) ai)) (aa (aO eP (oT kP ai) (pv 6)) av))))))))))
(au (bK (oW (pv 1) (cG (aa aQ (aa (xl (pv 15) (aO bW (pv 6) (mh T.dD (pv 15)))) av)))))))
(au (bN (aV cJ (pv 7) ai (aY _))
(au (bK (oW (pv 1) (cG (aa (xl (bP (aa aQ (aa aQ av))) (aO bW (pv 6) ai)) (aa (pv 8) (aa (pv 9) av)))))))
(ah (jN (i:=16) nd rfl (Or.inl rfl) (tn:=["_law_j"]) (cn:=["_law_rest"]) (cj:=[6]) rfl (gY (zo:=[(".0",.local),("_law_j",.local),("_law_rest",.cell)])) (iV rfl T.jA (aa (aO bW (pv 6) ai) av)) (fun _ _ _ _=>(dU (i:=0) (show(["_law_j","_law_rest"]:List Str).Nodup by decide +kernel) rfl (Or.inl rfl))) (fun _ _ _ _=>kQ) (fun _ _ _ _=>(aO cB (aO cB ai (aO bW (pv 1) ai)) (aO lZ (pv 0) (aO cB ai (aO bW (pv 1) ai))))))
(au (bK (oW (pv 1) (cG (aa aQ (aa (pv 8) (aa (pv 9) (aa (gF wU (by rfl) T.uu boot_tuple (aa (pv 16) av)) av))))))))))))))))))))))))))))
(au (a0 (pv 1)))))))),?_⟩
  refine⟨bh _,fun pm nm=>⟨bh _,fun pb nb=>⟨bh _,fun ph nh=>⟨bh _,fun lP Rf=>?_⟩⟩⟩⟩
  have s1:aD H (upd H pm (.lst [])):=aD.new nm
  have t2:=aD.new (o:= .lst []) nb
  have t3:=aD.new (o:= .lst []) nh
  have t4:=aD.new (o:= .lst []) Rf
  have s4:=((s1.trans t2).trans t3).trans t4
  have VT:H lP=none:=((s1.trans t2).trans t3).free Rf
  have g1:=((t2.trans t3).trans t4) _ _ (ag (H:=H) (a:=pm) (o:= .lst []))
  have g2:=(t3.trans t4) _ _ (ag (H:=upd H pm (.lst [])) (a:=pb) (o:= .lst []))
  have g3:=t4 _ _ (ag (H:=upd (upd H pm (.lst [])) pb (.lst [])) (a:=ph) (o:= .lst []))
  have g4:=ag (H:=upd (upd (upd H pm (.lst [])) pb (.lst [])) ph (.lst [])) (a:=lP) (o:= .lst [])
  have e12:pb≠pm:=(aJ ag nb).symm
  have e13:ph≠pm:=(aJ (t2 _ _ ag) nh).symm
  have FU:lP≠pm:=(aJ ((t2.trans t3) _ _ ag) Rf).symm
  have e24:pb≠lP:=aJ (t3 _ _ ag) Rf
  have e34:ph≠lP:=aJ ag Rf
  generalize upd (upd (upd (upd H pm (.lst [])) pb (.lst [])) ph (.lst [])) lP (.lst [])=H4 at s4 g1 g2 g3 g4 ⊢
  refine⟨_,rfl,a,_,rfl,.inl (s4.seq hS),((cs.map V.int).length:Int),rfl,by lia,by rw[ae]; lia,?_⟩
  rw[dN]
  refine iW (lo:=0) (n:=(cs.map V.int).length) (ui H a pm lP)
   ⟨pb,ph,[],[],[],[],[],none,none,none,none,none,none,none,none,none,none,none,none,rfl,s4,g1,r0,rfl,(fun _ h=>by cases h),g2,aE _,g3,aE _,g4,aE _,e12,e24,e13,e34⟩ ?_ ?_
  ·clear t2 t3 t4 s1 g1 g2 g3 g4 s4 H4 e12 e24 e13 e34 nb nh Rf pb ph
   rintro i σ H2 hi ⟨pb,ph,bs,hs,sp,ds,ms,x5,x6,x7,x8,x9,xO,HN,EB,HY,Dj,KC,KD,rfl,s2,hM,hR,FX,cu,hb,Mx,hh,hhl,y2,adB,n1,n2,n3,n4⟩
   have YR:i < cs.length:=by rwa [ae] at hi
   have Rg:se (cs.map V.int) (0 + (i:Int))=some (.int (cs.getD i 0)):=by rw[iJ]; exact nF YR
   have O4:=s2.seq hS
   generalize mB:cs.getD i 0=cell at Rg
   refine⟨_,rfl,_,rfl,a,_,_,.int cell,rfl,rfl,O4,Rg,_,_,rfl,rfl,⟨by decide,by decide⟩,_,_,rfl,rfl,⟨by decide,by decide,by decide⟩,_,_,rfl,rfl,(by show(0:Int) < _; decide +kernel),?_⟩
   refine⟨_,rfl,_,rfl,a,_,_,.int cell,rfl,rfl,O4,Rg,_,rfl,_,_,rfl,rfl,.inl ⟨by decide,by decide⟩,_,_,rfl,rfl,_,_,rfl,rfl,(by show(0:Int) < 16; decide),?_⟩
   refine⟨_,rfl,_,rfl,a,cs,i,(by rw[iJ]; rfl),O4,YR,fun p aH day dH H3 s3 hp oN=>?_⟩
   refine⟨p,_,rfl,cg.of hp,rfl,_,_,rfl,_,_,rfl,_,_,rfl,rfl,?_⟩
   refine⟨_,rfl,_,rfl,_,rfl,_,rfl,a,_,_,.int cell,rfl,rfl,s3.seq O4,Rg,_,rfl,pb,bs,aH,cell,_,rfl,bA.of (s3 _ _ hb),by lia,fun bl H4 Uv=>?_⟩
   have Kv:=s3.trans Uv
   have s4:=s2.trans Kv
   have nW:=Kv _ _ hM
   have MX:=hR.mono Kv.tk
   have AK:=Kv _ _ hb
   have Iv:=Kv _ _ hh
   have nZ:=Kv _ _ y2
   have VU:=s4.seq hS
   have YS:=hS
   have FC:ms.length<=100:=by have:=hR.length; lia
   clear Kv s3 Uv hp hM hR hb hh y2 s2 O4 H2 H3
   refine⟨_,rfl,_,_,rfl,rfl,_,rfl,cm (fun c1=>?_) (fun c1=>?_)⟩
   ·
    refine⟨_,rfl,_,rfl,_,rfl,a,cs,i,(by rw[iJ]; rfl),VU,YR,fun n=>⟨_,_,rfl,rfl,?_⟩⟩
    refine⟨_,rfl,.inl ⟨rfl,_,bA.of nW⟩,_,rfl,_,rfl,_,rfl,_,rfl,(by show 5<=sizeLine; decide),fun p8 n8=>?_⟩
    refine⟨pm,ms,_,rfl,rfl,aD.new n8 _ _ nW,a9 (by lia),?_⟩
    obtain⟨k5,s5,wb,h8,A7,Dk,mv⟩:=NL (xs:=[V.str "bill",.str aH,.int day,.int (day + n),.int dH]) nm s4 nW n8 n1 n3 FU AK Iv nZ
    refine⟨_,rfl,_,rfl,(by show 1<=sizeLine; decide),fun p9 n9=>?_⟩
    have t9:=aD.new (o:= .lst [V.str aH]) n9
    refine⟨_,rfl,_,_,rfl,rfl,_,rfl,cm (fun c=>⟨_,rfl,_,rfl,_,_,rfl,rfl,.inr ⟨_,rfl,?_⟩⟩) (fun c=> .inr ⟨_,rfl,?_⟩)⟩
    all_goals
     refine FV ag (t9 _ _ A7) (by lia) fun KG NM n hn Lf Iw YT=>?_
     have tI:=t9.trans Lf
     exact ui.mk' (d:= .dW aH day _ dH) (pb:=KG) MX FX cu (k5.trans tI.tk) (s5.trans tI) (tI _ _ wb) (eF (tI _ _ h8) (gX (rS _) (gX (rS _) (gX (rI _) (gX (rI _) (gX (rI _) r0)))))) oN YT (by rw[aC,dM]; lia) (tI _ _ Dk) (by lia) (tI _ _ mv) (by lia) (aJ (t9 _ _ wb) Iw).symm (aJ (t9 _ _ mv) Iw).symm n3 n4
   refine⟨_,rfl,_,_,rfl,rfl,_,rfl,cm (fun c2=>?_) (fun c2=>?_)⟩
   ·
    refine⟨_,rfl,.inl ⟨rfl,_,bA.of nW⟩,_,rfl,_,rfl,_,rfl,(by show 4<=sizeLine; decide),fun p8 n8=>?_⟩
    refine⟨pm,ms,_,rfl,rfl,aD.new n8 _ _ nW,a9 (by lia),?_⟩
    obtain⟨k5,s5,wb,h8,A7,Dk,mv⟩:=NL (xs:=[V.str "pay",.str aH,.int day,.int dH]) nm s4 nW n8 n1 n3 FU AK Iv nZ
    refine⟨_,rfl,_,rfl,(by show 1<=sizeLine; decide),fun p9 n9=>?_⟩
    have t9:=aD.new (o:= .lst [V.str aH]) n9
    refine⟨_,rfl,_,_,rfl,rfl,.inr ⟨_,rfl,?_⟩⟩
    refine FV ag (t9 _ _ Dk) (by lia) fun KG NM n hn Lf Iw YT=>?_
    have tI:=t9.trans Lf
    exact ui.mk' (d:= .rL aH day dH) (ph:=KG) MX FX cu (k5.trans tI.tk) (s5.trans tI) (tI _ _ wb) (eF (tI _ _ h8) (gX (rS _) (gX (rS _) (gX (rI _) (gX (rI _) r0))))) oN (tI _ _ A7) (by lia) YT (by rw[aC,dM]; lia) (tI _ _ mv) (by lia) n1 n2 (aJ (t9 _ _ wb) Iw).symm (aJ (t9 _ _ mv) Iw).symm
   refine⟨_,rfl,rfl,_,rfl,cm (fun c3=>?_) (fun c3=>?_)⟩
   ·
    refine⟨_,rfl,.inl ⟨rfl,_,bA.of nW⟩,_,rfl,_,rfl,_,rfl,(by show 4<=sizeLine; decide),fun p8 n8=>?_⟩
    refine⟨pm,ms,_,rfl,rfl,aD.new n8 _ _ nW,a9 (by lia),?_⟩
    obtain⟨k5,s5,wb,h8,A7,Dk,mv⟩:=NL (xs:=[V.str "note",.int bl,.int day,.int dH]) nm s4 nW n8 n1 n3 FU AK Iv nZ
    have no:=fun(EB HY Dj KC KD x5 x6 x7 x8 x9 xO HN:Option V)=>ui.mk' (a:=a) (x5:=x5) (x6:=x6) (x7:=x7) (x8:=x8) (x9:=x9) (xO:=xO) (HN:=HN) (EB:=EB) (HY:=HY) (Dj:=Dj) (KC:=KC) (KD:=KD) (d:= .note bl day dH) MX FX cu k5 s5 wb (eF h8 (gX (rS _) (gX (rI _) (gX (rI _) (gX (rI _) r0))))) oN A7 (by lia) Dk (by lia) mv (by lia) n1 n2 n3 n4
    refine⟨_,rfl,_,_,rfl,rfl,_,rfl,cm (fun d1=>?_) (fun d1=>bT (no ..))⟩
    refine⟨_,rfl,_,rfl,pb,_,rfl,.inl (bA.of A7),_,_,rfl,rfl,_,rfl,cm (fun d2=>?_) (fun d2=>bT (no ..))⟩
    refine⟨_,rfl,_,_,rfl,rfl,_,rfl,cm (fun d3=>?_) (fun d3=>no ..)⟩
    have Ti:0<=bl:=aN d1
    have XS:bl < ((bs.map V.str).length:Int):=aN d2
    obtain⟨bn,rfl⟩:=cw Ti
    have hbn:bn < bs.length:=by rw[ae] at XS; lia
    refine⟨_,rfl,_,rfl,_,rfl,pb,_,_,.str bs[bn],rfl,rfl,bA.of A7,cy (by rw[aB,af hbn]; rfl),(by show 1<=sizeLine; decide),fun p9 n9=>?_⟩
    have t9:=aD.new (o:= .lst [V.str bs[bn]]) n9
    refine⟨ph,p9,_,_,rfl,rfl,t9 _ _ Dk,ag,dz (a9 (by rw[ae]; show hs.length + 1<=1000; lia)),fun KG Iw=>?_⟩
    have tI:=t9.trans (aD.new (o:= .lst (hs.map V.str ++ [V.str bs[bn]])) Iw)
    exact ui.mk' (d:= .note (bn:Int) day dH) (ph:=KG) (hs:=hs ++ [bs[bn]]) MX FX cu (k5.trans tI.tk) (s5.trans tI) (tI _ _ wb) (eF (tI _ _ h8) (gX (rS _) (gX (rI _) (gX (rI _) (gX (rI _) r0))))) oN (tI _ _ A7) (by lia) (by rw[aK]; exact ag) (by rw[aC]; show hs.length + 1<=_; lia) (tI _ _ mv) (by lia) n1 n2 (aJ (t9 _ _ wb) Iw).symm (aJ (t9 _ _ mv) Iw).symm
   refine⟨_,rfl,_,_,rfl,rfl,_,rfl,cm (fun c4=>?_) (fun c4=>?_)⟩
   ·
    refine⟨_,rfl,.inl ⟨rfl,_,bA.of nZ⟩,_,rfl,lP,_,_,rfl,rfl,nZ,a9 (by rw[ae]; lia),?_⟩
    obtain⟨k0,s0,Rh,Uw,Ri,MY⟩:=Uu (x:=0 + (i:Int)) VT s4 nW n2 n4 FU AK Iv nZ
    have hR0:=MX.mono k0
    have YU:=s0.seq YS
    generalize upd H4 lP (.lst (sp.map V.int ++ [.int (0 + (i:Int))]))=H5 at s0 Rh Uw Ri MY hR0 YU ⊢
    refine⟨fun σ' H'=>aD H5 H'/\ ∃part:Int,σ'=[some (.ref a),some (.ref pm),some (.ref pb),some (.ref ph),some (.ref lP),some (.int (0 + (i:Int))),some (.int (cell / 16 % 10 ^ (60:Int).toNat)),some (.int ((cell + 5 * (0 + (i:Int))) % 16)),some (.str aH),some (.int day),some (.int dH),some (.int bl),EB,some (.int part),Dj,KC,KD],?_,?_⟩
    ·refine⟨_,rfl,_,rfl,_,_,rfl,rfl,(by show(0:Int) < 3; decide),_,_,rfl,rfl,(by show 2<=sizeLine; decide),fun p9 n9=>?_⟩
     refine⟨_,rfl,_,_,rfl,rfl,_,rfl,cm (fun d=>⟨_,rfl,_,_,rfl,rfl,(by show(0:Int) < 4; decide),_,_,rfl,rfl,.inr ⟨_,rfl,p9,_,_,_,rfl,rfl,bA.of ag,(Ut _ _ _).2,?_⟩⟩) (fun d=> .inr ⟨_,rfl,p9,_,_,_,rfl,rfl,bA.of ag,(Ut _ _ _).2,?_⟩)⟩
     ·exact⟨aD.new n9,_,rfl⟩
     ·exact⟨aD.new n9,_,rfl⟩
    rintro σ' H6 ⟨YV,part,rfl⟩
    refine⟨_,rfl,_,rfl,_,rfl,_,rfl,a,_,_,.int cell,rfl,rfl,YV.seq YU,Rg,_,rfl,_,_,rfl,rfl,ph,hs,aH,cell,_,rfl,bA.of (YV _ _ Ri),by lia,fun cr0 H7 s67=>?_⟩
    have xN:=YV.trans s67
    refine⟨fun σ' H'=>H'=H7/\ ∃cr:Int,σ'=[some (.ref a),some (.ref pm),some (.ref pb),some (.ref ph),some (.ref lP),some (.int (0 + (i:Int))),some (.int (cell / 16 % 10 ^ (60:Int).toNat)),some (.int ((cell + 5 * (0 + (i:Int))) % 16)),some (.str aH),some (.int day),some (.int dH),some (.int bl),EB,some (.int part),some (.int cr),KC,KD],?_,?_⟩
    ·refine⟨_,rfl,_,rfl,a,_,_,.int cell,rfl,rfl,xN.seq YU,Rg,_,_,rfl,rfl,(by show(0:Int) < 41; decide),rfl,_,rfl,cm (fun d=>?_) (fun d=>⟨rfl,_,rfl⟩)⟩
     refine⟨_,rfl,_,_,rfl,rfl,⟨by decide,by decide⟩,_,rfl,ph,_,rfl,.inl (bA.of (xN _ _ Ri)),_,_,rfl,rfl,_,_,rfl,rfl,(by show(0:Int) < ((hs.map V.str).length:Int) + 1; lia),?_⟩
     exact⟨rfl,_,rfl⟩
    rintro σ' H' ⟨rfl,cr,rfl⟩
    have HJ:=xN _ _ Rh
    refine⟨_,rfl,.inl ⟨rfl,_,bA.of HJ⟩,_,rfl,_,rfl,_,rfl,(by show 4<=sizeLine; decide),fun p8 n8=>?_⟩
    refine⟨pm,ms,_,rfl,rfl,aD.new n8 _ _ HJ,a9 (by lia),?_⟩
    obtain⟨k5,s5,wb,h8,A7,Dk,mv⟩:=NL (xs:=[V.str "set",.int cr,.int bl,.int part]) nm (s0.trans xN) HJ n8 n1 n3 FU (xN _ _ Uw) (xN _ _ Ri) (xN _ _ MY)
    exact ui.mk' (d:= .set cr bl part) (hR0.mono xN.tk) FX cu k5 s5 wb (eF h8 (gX (rS _) (gX (rI _) (gX (rI _) (gX (rI _) r0))))) trivial A7 (by lia) Dk (by lia) mv (by rw[aC]; show sp.length + 1<=_; lia) n1 n2 n3 n4
   refine⟨_,rfl,_,_,rfl,rfl,_,rfl,cm (fun c5=>?_) (fun c5=>?_)⟩
   ·
    refine⟨_,rfl,.inl ⟨rfl,_,bA.of nZ⟩,_,rfl,lP,_,_,rfl,rfl,nZ,a9 (by rw[ae]; lia),?_⟩
    obtain⟨k0,s0,Rh,Uw,Ri,MY⟩:=Uu (x:=0 + (i:Int)) VT s4 nW n2 n4 FU AK Iv nZ
    refine⟨_,rfl,.inl ⟨rfl,_,bA.of Rh⟩,_,rfl,(by show 2<=sizeLine; decide),fun p8 n8=>?_⟩
    refine⟨pm,ms,_,rfl,rfl,aD.new n8 _ _ Rh,a9 (by lia),?_⟩
    obtain⟨k5,s5,wb,h8,A7,Dk,mv⟩:=NL (xs:=[V.str "sweep",.str aH]) nm s0 Rh n8 n1 n3 FU Uw Ri MY
    exact ui.mk' (d:= .fY aH) (MX.mono k0) FX cu k5 s5 wb (eF h8 (gX (rS _) (gX (rS _) r0))) trivial A7 (by lia) Dk (by lia) mv (by rw[aC]; show sp.length + 1<=_; lia) n1 n2 n3 n4
   refine⟨_,rfl,rfl,_,rfl,cm (fun c6=>?_) (fun c6=>?_)⟩
   ·
    refine⟨_,rfl,_,rfl,_,rfl,_,_,rfl,rfl,⟨by decide,by decide,by decide⟩,_,rfl,_,_,rfl,rfl,_,rfl,_,_,rfl,rfl,⟨by decide,by decide⟩,_,rfl,_,_,rfl,rfl,_,_,rfl,rfl,(by show(0:Int) < 0 + (i:Int) + 1; lia),_,rfl,_,rfl,_,_,rfl,rfl,(by show 7<=sizeLine; decide),fun p9 n9=>?_⟩
    refine⟨lP,p9,_,_,rfl,rfl,aD.new n9 _ _ nZ,ag,dz (a9 (by rw[ae]; show sp.length + 7<=1000; lia)),fun Rc YQ=>?_⟩
    have Ak:=(aD.new (o:= .lst [V.int (0 + (i:Int)),.int (-1),.int (10 ^ (9:Int).toNat),.int 0,.int (0 + (i:Int) - 1),.int ((cell / 16 % 10 ^ (60:Int).toNat) / 3 % (0 + (i:Int) + 1)),.int (-2 - (cell / 16 % 10 ^ (60:Int).toNat))]) n9).trans (aD.new (o:= .lst (sp.map V.int ++ [V.int (0 + (i:Int)),.int (-1),.int (10 ^ (9:Int).toNat),.int 0,.int (0 + (i:Int) - 1),.int ((cell / 16 % 10 ^ (60:Int).toNat) / 3 % (0 + (i:Int) + 1)),.int (-2 - (cell / 16 % 10 ^ (60:Int).toNat))])) YQ)
    have Ux:=ag (H:=upd H4 p9 (.lst [V.int (0 + (i:Int)),.int (-1),.int (10 ^ (9:Int).toNat),.int 0,.int (0 + (i:Int) - 1),.int ((cell / 16 % 10 ^ (60:Int).toNat) / 3 % (0 + (i:Int) + 1)),.int (-2 - (cell / 16 % 10 ^ (60:Int).toNat))])) (a:=Rc) (o:= .lst (sp.map V.int ++ [V.int (0 + (i:Int)),.int (-1),.int (10 ^ (9:Int).toNat),.int 0,.int (0 + (i:Int) - 1),.int ((cell / 16 % 10 ^ (60:Int).toNat) / 3 % (0 + (i:Int) + 1)),.int (-2 - (cell / 16 % 10 ^ (60:Int).toNat))]))
    generalize upd (upd H4 p9 (.lst [V.int (0 + (i:Int)),.int (-1),.int (10 ^ (9:Int).toNat),.int 0,.int (0 + (i:Int) - 1),.int ((cell / 16 % 10 ^ (60:Int).toNat) / 3 % (0 + (i:Int) + 1)),.int (-2 - (cell / 16 % 10 ^ (60:Int).toNat))])) Rc (.lst (sp.map V.int ++ [V.int (0 + (i:Int)),.int (-1),.int (10 ^ (9:Int).toNat),.int 0,.int (0 + (i:Int) - 1),.int ((cell / 16 % 10 ^ (60:Int).toNat) / 3 % (0 + (i:Int) + 1)),.int (-2 - (cell / 16 % 10 ^ (60:Int).toNat))]))=H5 at Ak Ux ⊢
    have Uy:sp.map V.int ++ [V.int (0 + (i:Int)),.int (-1),.int (10 ^ (9:Int).toNat),.int 0,.int (0 + (i:Int) - 1),.int ((cell / 16 % 10 ^ (60:Int).toNat) / 3 % (0 + (i:Int) + 1)),.int (-2 - (cell / 16 % 10 ^ (60:Int).toNat))]=(sp ++ [0 + (i:Int),-1,10 ^ (9:Int).toNat,0,0 + (i:Int) - 1,(cell / 16 % 10 ^ (60:Int).toNat) / 3 % (0 + (i:Int) + 1),-2 - (cell / 16 % 10 ^ (60:Int).toNat)]).map V.int:=by rw[aK]; rfl
    rw[Uy] at Ux
    generalize Sn:sp ++ [0 + (i:Int),-1,10 ^ (9:Int).toNat,0,0 + (i:Int) - 1,(cell / 16 % 10 ^ (60:Int).toNat) / 3 % (0 + (i:Int) + 1),-2 - (cell / 16 % 10 ^ (60:Int).toNat)]=mn at Ux
    have adE:0 < mn.length:=by rw[← Sn,aC]; show 0 < sp.length + 7; lia
    have hmp:0 < ((mn.map V.int).length:Int):=by rw[ae]; lia
    obtain⟨y,_,hy⟩:=kI (g:=V.int) (xs:=mn) (m:=((mn.map V.int).length:Int)) (x:=(cell / 16 % 10 ^ (60:Int).toNat)) (by rw[ae]) hmp
    have Qh:=Ak _ _ nW
    refine⟨_,rfl,.inl ⟨rfl,_,bA.of Qh⟩,_,rfl,_,rfl,_,rfl,Rc,_,rfl,.inl (bA.of Ux),_,_,rfl,rfl,hmp,Rc,_,_,.int y,rfl,rfl,bA.of Ux,hy,(by show 2<=sizeLine; decide),fun p8 n8=>?_⟩
    refine⟨pm,ms,_,rfl,rfl,aD.new n8 _ _ Qh,a9 (by lia),?_⟩
    obtain⟨k5,s5,wb,h8,A7,Dk,mv⟩:=NL (xs:=[V.str "undo",.int y]) nm (s4.trans Ak) Qh n8 n1 n3 FU (Ak _ _ AK) (Ak _ _ Iv) (Ak _ _ nZ)
    exact ui.mk' (d:= .jf y) (MX.mono Ak.tk) FX cu k5 s5 wb (eF h8 (gX (rS _) (gX (rI _) r0))) trivial A7 (by lia) Dk (by lia) mv (by lia) n1 n2 n3 n4
   refine⟨_,rfl,rfl,_,rfl,cm (fun c7=>?_) (fun c7=>?_)⟩
   ·
    refine⟨_,rfl,.inl ⟨rfl,_,bA.of nW⟩,(by show 2<=sizeLine; decide),fun p9 n9=>?_⟩
    have t9:=aD.new (o:= .lst [V.str "owed",.str "free"]) n9
    obtain⟨y,XO,hy⟩:=kI (g:=fun o:Bool=>V.str (if o then "owed" else "free")) (xs:=[true,false]) (m:=2) (x:=(cell / 16 % 10 ^ (60:Int).toNat)) rfl (by decide)
    refine⟨_,rfl,_,_,rfl,rfl,(by show(0:Int) < 2; decide),p9,_,_,_,rfl,rfl,bA.of ag,hy,_,rfl,_,rfl,(by show 3<=sizeLine; decide),fun p8 n8=>?_⟩
    have hM9:=t9 _ _ nW
    refine⟨pm,ms,_,rfl,rfl,aD.new n8 _ _ hM9,a9 (by lia),?_⟩
    obtain⟨k5,s5,wb,h8,A7,Dk,mv⟩:=NL (xs:=[V.str (if y then "owed" else "free"),.str aH,.int day]) nm (s4.trans t9) hM9 n8 n1 n3 FU (t9 _ _ AK) (t9 _ _ Iv) (t9 _ _ nZ)
    exact ui.mk' (d:= .ask y aH day) (MX.mono t9.tk) FX cu k5 s5 wb (eF h8 (gX (rS _) (gX (rS _) (gX (rI _) r0)))) trivial A7 (by lia) Dk (by lia) mv (by lia) n1 n2 n3 n4
   ·
    obtain⟨Rj,YW,adF⟩:=zZ (cell / 16 % 10 ^ (60:Int).toNat) 12 (by decide)
    refine⟨_,rfl,_,_,rfl,rfl,(by show(0:Int) < 12; decide),_,rfl,lV (by decide) (kq _ (by decide)),Int.lt_trans (qp _ (by decide)) (by decide),?_⟩
    show yl (Ls 0 ((cell / 16 % 10 ^ (60:Int).toNat) % 12).toNat) _ _ _ _ _ _
    rw[YW,dN]
    refine DI (lo:=0) (n:=Rj) (fun D j σ H6=>H4 D=none/\ ∃v,σ=[v,some (.int (cell / 16 % 10 ^ (60:Int).toNat))]/\aD H4 H6/\H6 D=some (.lst ((bO (cell / 16 % 10 ^ (60:Int).toNat) j).map V.int))) (fun D hD=>⟨hD,none,rfl,aD.new hD,ag⟩) ?_ ?_
    ·rintro D j σ H6 hj ⟨hD,v,rfl,t3,hl⟩
     refine⟨_,rfl,_,_,rfl,rfl,(by show(0:Int) < 9; decide),_,_,rfl,rfl,_,rfl,_,rfl,_,_,rfl,rfl,(by show(0:Int) < 30; decide),_,_,rfl,rfl,_,_,rfl,rfl,.inl ⟨by lia,by lia⟩,_,_,rfl,rfl,?_⟩
     refine⟨_,hl,a9 (by rw[ae,C3]; lia),hD,_,rfl,t3.cI hD,?_⟩
     rw[ag]
     unfold bO
     rw[oC,aK,aK]; rfl
    ·rintro D σ H6 _ ⟨hD,v,rfl,t3,hl⟩
     have Ke:=t3 _ _ nW
     refine⟨_,rfl,.inl ⟨rfl,_,bA.of Ke⟩,_,rfl,_,rfl,_,rfl,D,_,rfl,.inl ⟨bA.of hl,fun pt npt=>?_⟩⟩
     have t7:=t3.trans (aD.new (o:= .tup ((bO (cell / 16 % 10 ^ (60:Int).toNat) Rj).map V.int)) npt)
     have g7:=ag (H:=H6) (a:=pt) (o:= .tup ((bO (cell / 16 % 10 ^ (60:Int).toNat) Rj).map V.int))
     generalize upd H6 pt (.tup ((bO (cell / 16 % 10 ^ (60:Int).toNat) Rj).map V.int))=H7 at t7 g7 ⊢
     refine⟨(by show 4<=sizeLine; decide),fun p8 n8=>?_⟩
     have HJ:=t7 _ _ nW
     refine⟨pm,ms,_,rfl,rfl,aD.new n8 _ _ HJ,a9 (by lia),?_⟩
     obtain⟨k5,s5,wb,h8,A7,Dk,mv⟩:=NL (xs:=[V.str "ages",.str aH,.int day,.ref pt]) nm (s4.trans t7) HJ n8 n1 n3 FU (t7 _ _ AK) (t7 _ _ Iv) (t7 _ _ nZ)
     exact ui.mk' (d:= .fR aH day (bO (cell / 16 % 10 ^ (60:Int).toNat) Rj)) (MX.mono t7.tk) FX cu k5 s5 wb (eF h8 (gX (rS _) (gX (rS _) (gX (rI _) (gX (eF (k5 _ _ g7) (hV.ints _)) r0))))) (MW (cell / 16 % 10 ^ (60:Int).toNat) Rj (by lia)) A7 (by lia) Dk (by lia) mv (by lia) n1 n2 n3 n4
  ·rintro σ H2 ⟨pb,ph,bs,hs,sp,ds,ms,x5,x6,x7,x8,x9,xO,HN,EB,HY,Dj,KC,KD,rfl,s2,hM,hR,FX,cu,_⟩
   rw[ae] at FX
   refine⟨_,rfl,?_⟩
   exact k pm ds ms H2 s2 hM hR FX cu
theorem j8.rp {H:Hp}{ok:Addr->Prop}{a:BJ}{v:V}(h:j8 H ok a v):Rp H a.dt v:=by
 cases a with
 |int i=>exact dm.mpr h
 |txt s=>exact fL.mpr h
 |sets l=>
  obtain⟨D,ms,rfl,_,z,t⟩:=h
  exact jz z (ie.QU t)
 |pairs l=>
  obtain⟨D,ms,rfl,_,z,t⟩:=h
  exact jz z (iF.QU t)
 |«ints» l=>
  obtain⟨D,rfl,_,z⟩:=h
  exact jz z (vY l)
theorem ox {α:Type}(f:α->Dt)(n:Nat): ∀l:List α,(∀x∈l,(f x).size<=n)->Dt.fJ (l.map f)<=l.length * n
 |[],_=>bh _
 |x :: l,h=>by
  have h1:=ox f n l fun y hy=>h y (ba _ hy)
  have h2:=h x bJ
  rw[de,bS,wI]
  show(f x).size + Dt.fJ (l.map f)<=_
  lia
theorem qh {α:Type}(f:α->Dt)(l:List α)(h: ∀x∈l,(f x).plain=true):Dt.pM (l.map f)=true:=by
 rw[Dt.pN]
 intro d hd
 obtain⟨x,hx,rfl⟩:=bF.mp hd
 exact h x hx
theorem KH (S:Bk)(aH:Str)(day:Int)(bO:List Int):(S.tY aH day bO).length=bO.length + 2:=by
 unfold Bk.tY
 have: ∀(ts:List (Nat×Int)) (l:List Int),(ts.foldl (fun l t=>iP l (L2.placeOf (day - (S.bl t.1).b) bO) t.2) l).length=l.length:=fun ts=>by
  induction ts with
  |nil=>intro l; rfl
  |cons t ts ih=>intro l; rw[fP,ih]; exact eh
 rw[this,dM]
theorem HZ {H:Hp}{pd:Addr}{d:br}(h:sO H pd d): ∃r,H pd=some (.tup (.str (br.word d) :: r)):=by
 cases d with
 |fR w dy l=>
  obtain⟨pl,h1,_⟩:=h
  exact⟨_,h1⟩
 |_=>exact⟨_,h⟩
theorem yT (d:br):wR (.str (br.word d)) [.str "bill",.str "pay",.str "note",.str "set",.str "sweep"]=d.tells:=by
 cases d with
 |dW _ _ _ _=>show wR (.str "bill") _ =true; decide +kernel
 |rL _ _ _=>show wR (.str "pay") _ =true; decide +kernel
 |note _ _ _=>show wR (.str "note") _ =true; decide +kernel
 |set _ _ _=>show wR (.str "set") _ =true; decide +kernel
 |fY _=>show wR (.str "sweep") _ =true; decide +kernel
 |jf _=>show wR (.str "undo") _ =false; decide +kernel
 |ask o _ _=>
  cases o
  ·show wR (.str "free") _ =false; decide +kernel
  ·show wR (.str "owed") _ =false; decide +kernel
 |fR _ _ _=>show wR (.str "ages") _ =false; decide +kernel
theorem MZ (xs:List V)(a b:Nat)(h:a<=b):(qC xs (some (a:Int)) (some (b:Int))).length<=b - a:=by
 unfold qC
 rw[HT.y3,HT.y3,bf]
 lia
theorem M0 (ns:List Int)(lo hi:Option Int): ∃cs:List Int,qC (ns.map V.int) lo hi=cs.map V.int:=by
 unfold qC
 rw[← List.map_drop,← List.map_take]
 exact⟨_,rfl⟩
theorem M3 {H:Hp}{ok:Addr->Prop}: ∀{as:List BJ} {ws:List V},Paired (j8 H ok) as ws->hV H (as.map BJ.dt) ws
 |_,_,.nil=>cQ.mpr rfl
 |_,_,.cons h t=>bC.mpr ⟨_,_,rfl,h.rp,M3 t⟩
theorem KI {H:Hp}{tb:Addr}{pos:Pos}{qual:Str}(h:H tb=some (.mO #[])):Tb H tb pos qual:=⟨#[],h,True.intro,.inl rfl⟩
def KJ (K:Frag)(cps:List (Addr×Addr)):Sp:=fun vs H Q _=> ∃(a:Addr) (ns:List Int),vs=[.ref a]/\bA K H a (ns.map V.int)/\ns.length<=63/\(∀cp∈cps,H cp.2=some (.mO #[]))/\ ∀H',Q (.bl true) H'
theorem M4 {H:Hp}{sd p:Addr}{S:Bk}{f:fB}{ws:List V}{o:HO}(h:di H sd S f)(e:H p=some (.lst ws))(n:p∉f.fp):di (upd H p o) sd S f:=
 h.keep (fun b u hb z=>by
  have nb:b≠p:=by
   rcases hb with hb|hb
   ·rw[hb]
    exact mz h.dict e (by intro q; cases q)
   ·exact fun q=>n (q▸hb)
  rw[az nb]
  exact z) (dQ e)
inductive KL (vs:List V)(H:Hp)(Q:VK)(E':XK):Prop
 |mk (pa:Addr)(ds:List br)(ms:List V)(h1:vs=[.ref pa])(h2:H pa=some (.lst ms))(h3:eT H ds ms)(h4:ds.length<=59)(h5:(∀d∈ds,d.ok))(h6: ∀(t:Addr) (v:V) (ps sd:Addr) (us:List V) (f:fB) (H':Hp),aD H H'->H' t=some (.tup [v,.ref ps,.ref sd])->H' ps=some (.lst us)->gN H' (dP ds g8.new 0).2.steps us->di H' sd (dP ds g8.new 0).2.bk f->(∀x∈f.fp,H x=none)->ps∉f.fp->Good (dP ds g8.new 0).2 ds.length->Q (.ref t) H'):KL vs H Q E'
theorem jj:aS ["_law_asked","_law_steps","_law_state","_law_due","_law_number","_law_deed","_law_answer"] ["_law_asked"] (ay (top 67)):={}
theorem oQ (T:Txt K mg):eM P w K mg base "_law_gone_through" 6 ["_law_asked"] KL:=by
 have mm:=rh (P:=P) (w:=w) (base:=base) T
 have A1:=Am (P:=P) (w:=w) (base:=base) T
 have C4:=Cz (P:=P) (w:=w) (base:=base) T
 refine T.oJ.fe (k:=5) jj (fun f cU A outer s H vs Q E hr h=>?_)
 ·obtain⟨pa,ds,ms,rfl,MP,Kx,FX,cu,k⟩:=h
  have nd:=jj.nd
  have FC:=eT.length Kx
  refine⟨_,(ah (sv 1 nd (bP av))
(ah (sv 2 nd (Jf mm (hr.mono (by decide)) rfl))
(ah (sv 3 nd (bP av))
(ah (dZ bw rfl (iV rfl T.jA (aa (mh T.dD (pv 0)) av)) (gn 4 nd)
(ah (sv 5 nd (xl (pv 0) (pv 4)))
(ah (sv 6 nd aQ)
(iw (bN (PW.pt (pw_or (gj (fc A1 hr (aa (pv 5) av))) (pw_or1 (aV cJ (xt (pv 5) ai) aQ (aY _)))))
(au (lY (fc C4 hr (aa (pv 1) (aa (pv 2) (aa (pv 4) (aa (pv 5) av))))) (iU rfl (bY (gn 6 nd) (bY (gn 1 nd) (bY (gn 2 nd) gE))))))
bb)
(au (bK (oW (pv 3) (pv 6))))))))
(au (a0 (cG (aa (pv 3) (aa (pv 1) (aa (pv 2) av)))))))))),?_⟩
  refine⟨bh _,fun ps CF=>?_⟩
  have s6:=aD.new (o:= .lst []) CF
  have Qi:upd H ps (.lst []) ps=some (.lst []):=ag
  generalize upd H ps (.lst [])=H6 at s6 Qi
  refine⟨rfl,fun sd g H7 s7 Uz Mf nf=>?_⟩
  have UA:=s7 _ _ Qi
  have xN:=s6.trans s7
  have YX:ps∉g.fp:=fun z=>by
   have:=nf _ z
   rw[Qi] at this
   cases this
  have nf5: ∀b∈g.fp,H b=none:=fun b hb=>s6.free (nf b hb)
  refine⟨bh _,fun pu Qj=>?_⟩
  have s8:=aD.new (o:= .lst []) Qj
  have UB:upd H7 pu (.lst []) pu=some (.lst []):=ag
  have UC:=s8 _ _ UA
  have UD:=Uz.same s8
  have YY:pu∉g.fp:=Uz.off Qj
  have YZ:pu≠ps:=(aJ UA Qj).symm
  have Y0:=xN.trans s8
  have Y1:H pu=none:=xN.free Qj
  generalize upd H7 pu (.lst [])=H8 at s8 UB UC UD Y0
  refine⟨_,rfl,pa,_,rfl,.inl (bA.of (Y0 _ _ MP)),(ms.length:Int),rfl,by lia,by lia,?_⟩
  rw[dN]
  refine iW (lo:=0) (n:=ms.length) (fun i σ H2=> ∃(ps sd:Addr) (us ws:List V) (f:fB) (x4 x5 x6:Option V),σ=[some (.ref pa),some (.ref ps),some (.ref sd),some (.ref pu),x4,x5,x6]/\aD H H2/\H2 ps=some (.lst us)/\gN H2 (dP (ds.take i) g8.new 0).2.steps us/\di H2 sd (dP (ds.take i) g8.new 0).2.bk f/\(∀x∈f.fp,H x=none)/\ps∉f.fp/\Good (dP (ds.take i) g8.new 0).2 i/\H2 pu=some (.lst ws)/\ws.length=i/\pu∉f.fp/\pu≠ps)
   ⟨ps,sd,[],[],g,none,none,none,rfl,Y0,UC,.nil,UD,nf5,YX,Good.new,UB,rfl,YY,YZ⟩ ?_ ?_
  ·rintro i σ H2 hi ⟨ps,sd,us,ws,f,x4,x5,x6,rfl,s2,lA,Rk,hB,Qk,CF,hG,hpu,E2,MN,Y2⟩
   rw[iJ]
   have wW:i < ds.length:=by lia
   have oP:=af wW
   obtain⟨v0,QN,PU⟩:=eT.get Kx oP
   obtain⟨pd,rfl,hd5⟩:=AL PU
   have hd:=hd5.mono s2.tk
   have MU:=cu _ (bG wW)
   have VP:=yS wW
   have o6:Good (cY (dP (ds.take i) g8.new 0).2 (i:Int) ds[i]).2 (i + 1):=hG.step ds[i]
   rw[VP]
   generalize ds[i]=d at hd MU o6
   generalize (dP (ds.take i) g8.new 0).2=TT at Rk hB hG o6
   clear VP PU hd5 oP
   refine⟨_,rfl,_,rfl,pa,_,_,.ref pd,rfl,rfl,bA.of (s2 _ _ MP),cy QN,?_⟩
   refine⟨fun σ' H'=> ∃(v:V) (vT Dg:Addr) (An:List V) (f':fB),σ'=[some (.ref pa),some (.ref vT),some (.ref Dg),some (.ref pu),some (.int (i:Int)),some (.ref pd),some v]/\aD H H'/\H' vT=some (.lst An)/\gN H' (cY TT i d).2.steps An/\di H' Dg (cY TT i d).2.bk f'/\(∀x∈f'.fp,H x=none)/\vT∉f'.fp/\H' pu=some (.lst ws)/\pu∉f'.fp/\pu≠vT,?_,?_⟩
   ·obtain⟨r,hdw⟩:=HZ hd
    refine⟨_,rfl,pd,br.word d,r,rfl,hdw,fun H3 s3=>⟨_,rfl,?_⟩⟩
    have NA:=hd.mono s3.tk
    have Y3:=s3 _ _ hdw
    have Hy:=s3 _ _ lA
    have M5:gN H3 TT.steps us:=Rk.mono s3.tk
    have Kz:=hB.same s3
    have VW:=s2.trans s3
    have KN:=s3 _ _ hpu
    have NN: ∀(R:VK),(∀t v vT Dg An f' H',H' t=some (.tup [v,.ref vT,.ref Dg])->aD H H'->H' vT=some (.lst An)->gN H' (cY TT i d).2.steps An->di H' Dg (cY TT i d).2.bk f'->(∀x∈f'.fp,H x=none)->vT∉f'.fp->H' pu=some (.lst ws)->pu∉f'.fp->pu≠vT->R (.ref t) H')->Nz R H3 ps f (cY TT i d):=fun R h t v vT Dg f' An H' ht hv hp hS hb fr fi np nq=>
     h t v vT Dg An f' H' ht (fr.same VW Qk) hp hS hb (fun x hx=>(fi x hx).elim (Qk x) fun z=>VW.free z) np (fr _ _ MN KN) (fun z=>(fi pu z).elim MN fun q=>by rw[KN] at q; cases q) (fun z=>Y2 (z.trans (nq pu _ MN KN z.symm)))
    by_cases ht:d.tells=true
    ·rw[yT,ht]
     have Ik:H3 pd=some (.tup (br.vs d)):=by cases d <;> first|exact NA|cases ht
     refine fG (fG ⟨_,rfl,_,rfl,_,rfl,_,rfl,ps,sd,pd,i,TT,us,f,d,rfl,Hy,M5,Kz,CF,Ik,.inl ht,hG,(by lia),NN _ fun t v vT Dg An f' H' ht LN hp hS hb hn Y4 u1 u2 u3=>?_⟩)
     refine⟨t,_,rfl,cg.of ht,rfl,_,_,rfl,_,_,rfl,_,_,rfl,rfl,?_⟩
     exact⟨v,vT,Dg,An,f',rfl,LN,hp,hS,hb,hn,Y4,u1,u2,u3⟩
    ·rw[yT,Bool.eq_false_iff.mpr ht]
     refine bT ⟨_,rfl,pd,_,_,.str (br.word d),rfl,rfl,cg.of Y3,Kq _ _,rfl,?_⟩
     cases d with
     |dW _ _ _ _=>exact absurd rfl ht
     |rL _ _ _=>exact absurd rfl ht
     |note _ _ _=>exact absurd rfl ht
     |set _ _ _=>exact absurd rfl ht
     |fY _=>exact absurd rfl ht
     |jf m=>
      refine⟨true,yF _,fG ⟨_,rfl,_,rfl,_,rfl,_,rfl,ps,sd,pd,i,TT,us,f,.jf m,rfl,Hy,M5,Kz,CF,NA,.inr ⟨m,rfl⟩,hG,(by lia),NN _ fun t v vT Dg An f' H' ht LN hp hS hb hn Y4 u1 u2 u3=>?_⟩⟩
      refine⟨t,_,rfl,cg.of ht,rfl,_,_,rfl,_,_,rfl,_,_,rfl,rfl,?_⟩
      exact⟨v,vT,Dg,An,f',rfl,LN,hp,hS,hb,hn,Y4,u1,u2,u3⟩
     |ask o wh dy=>
      refine⟨false,jr (by cases o; exact(show("free":Str)≠"undo" by decide +kernel); exact(show("owed":Str)≠"undo" by decide +kernel)),bT ?_⟩
      exact⟨_,ps,sd,us,f,rfl,VW,Hy,M5,Kz,Qk,CF,KN,MN,Y2⟩
     |fR wh dy bO=>
      refine⟨false,jr (show("ages":Str)≠"undo" by decide +kernel),bT ?_⟩
      exact⟨_,ps,sd,us,f,rfl,VW,Hy,M5,Kz,Qk,CF,KN,MN,Y2⟩
   ·rintro σ' H' ⟨v,vT,Dg,An,f',rfl,s',Tg,YS,hB',Y5,Y6,u1,u2,u3⟩
    refine⟨_,rfl,.inl ⟨rfl,_,bA.of u1⟩,_,rfl,pu,ws,v,rfl,rfl,u1,a9 (by lia),?_⟩
    exact⟨vT,Dg,An,ws ++ [v],f',_,_,_,rfl,s'.cI Y1,by rw[az u3.symm]; exact Tg,YS.mono (dQ u1),M4 hB' u1 u2,Y5,Y6,o6,ag,by rw[aC,E2]; rfl,u2,u3⟩
  ·rintro σ H2 ⟨ps,sd,us,ws,f,x4,x5,x6,rfl,s2,lA,Rk,hB,Qk,CF,hG,hpu,_⟩
   rw[← FC,a7] at Rk hB hG
   refine⟨_,rfl,_,rfl,_,rfl,(by show 3<=sizeLine; decide),fun t nt=>?_⟩
   have s9:=aD.new (o:= .tup [V.ref pu,.ref ps,.ref sd]) nt
   exact k t _ ps sd us f _ (s2.trans s9) ag (s9 _ _ lA) (Rk.mono s9.tk) (hB.same s9) Qk CF hG
end
end eG
namespace L2
open PySem
theorem yU: ∀(l:List Int) (i:Nat) (x:Int),i < l.length->(iP l i x).sum=l.sum + x
 |[],_,_,h=>absurd h (iI _)
 |y :: l,0,x,_=>by
  show((y + x) :: l).sum=_
  rw[tS,tS]
  lia
 |y :: l,i + 1,x,h=>by
  have ih:=yU l i x (Nat.lt_of_succ_lt_succ h)
  show(y :: iP l i x).sum=_
  rw[tS,tS,ih]
  lia
theorem EC (fS:Int)(bO:List Int):placeOf fS bO < bO.length + 2:=by
 unfold placeOf
 split
 ·lia
 ·have:=aX (fun l=>decide (l < fS)) bO
  lia
theorem wA (S:Bk)(aH:Str)(day:Int)(bO:List Int):(S.tY aH day bO).sum=((S.fu true aH day).map (·.2)).sum:=by
 unfold Bk.tY
 have gen: ∀(ts:List (Nat×Int)) (l:List Int),l.length=bO.length + 2->(ts.foldl (fun l t=>iP l (placeOf (day - (S.bl t.1).b) bO) t.2) l).sum=l.sum + (ts.map (·.2)).sum:=fun ts=>by
  induction ts with
  |nil=>intro l _; rw[List.foldl_nil,qk,List.sum_nil]; lia
  |cons t ts ih=>
   intro l hl
   rw[List.foldl_cons,ih _ (by unfold iP; rw[List.length_set]; exact hl),yU _ _ _ (by rw[hl]; exact EC _ _),List.map_cons,List.sum_cons]
   lia
 rw[gen _ _ dM]
 have z: ∀n,(List.replicate n (0:Int)).sum=0:=fun n=>by
  induction n with
  |zero=>rfl
  |succ n ih=>rw[cM,tS,ih]; rfl
 rw[z]
 lia
open PySem.Spec PyProof.Rows
def KO (n:Nat):It:=⟨fun i _=>i < n,fun i H x H'=>H'=H/\x= .int (4 * i),fun i _=>n<=i⟩
theorem C5 {P:Program}{w:World}{K:Frag}{tg:Expr}(it:Addr)(n:Nat):Turn P w K tg (KO n) [it] it (fun i h=>IsRangeIter h it (0 + (i:Nat) * 4) ((n:Int) - (i:Nat)) 4) where
 mem:=by simp
 obj:=fun i h st b hb=>by
  have e:b=it:=by simpa using hb
  subst e
  exact⟨_,st,fun v z=>by
   have z':Data.fields _ =Data.cell v:=z
   cases z'⟩
 keep:=fun i h h' st k=>k it (by simp) _ st
 item:=by
  intro X hP hw hK hc i pins s σ H E I hf st hg
  subst hP hw hK
  obtain⟨f0,f1,f2,f3,f4,f5⟩:=hf it (by simp)
  have W:=Walks.range (prog:=X.prog) (w:=X.w) (I.ok.hd hc) it 0 4 n
  refine W.item i s _ _ hg st fun v h' tk hv wN kk=>?_
  obtain⟨t,rfl⟩:=hv
  have I1:Inv X pins σ H {s with heap:=h',toks:=tk}:=I.turned (fun b o hb e=>kk b o (by simpa using hb) e) f0 f1 f3 f4 f5
  refine⟨_,rfl,Bn (s:={s with heap:=h',toks:=tk}) (n:="range_iterator") wN rfl rfl (by decide) ⟨.int (4 * i),H,I1,⟨t,?_⟩,⟨rfl,rfl⟩,wN,fun b hb=>(hf b hb).1⟩⟩
  rw[iJ,Int.mul_comm]
 done:=by
  intro X hP hw hK hc i pins s σ H E I hf st hg
  subst hP hw hK
  obtain⟨f0,f1,f2,f3,f4,f5⟩:=hf it (by simp)
  exact wpAny_pyNext_range_end (I.ok.hd hc) st (by have:n<=i:=hg; lia) fun h' eb=>⟨rfl,I.turned (t':=s.toks) (fun b o hb e=>eb b o hb e) f0 f1 f3 f4 f5⟩
 self:=fun _ _ _ _ _ st h=>wpAny_pyIter_rangeiter st h
section
variable {X:Cx}{tg:Expr}
theorem NO (n:Nat):Builtin.Range.rangeSize 0 (4 * (n:Int)) 4=n:=by
 unfold Builtin.Range.rangeSize
 simp only[show(4:Int) > 0 by decide,if_true]
 split <;> lia
theorem Ql {n:Nat}(h:n<=1000):Builtin.Range.small 0 (4 * (n:Int)) 4=true:=by
 have fl: ∀i:Int,-1000000<=i->i<=1000000->Builtin.Range.rangeFitsLong i=true:=fun i h1 h2=>by
  unfold Builtin.Range.rangeFitsLong
  rw[uk,decide_eq_true_eq,decide_eq_true_eq]
  lia
 unfold Builtin.Range.small
 rw[NO,fl 0 (by lia) (by lia),fl (4 * (n:Int)) (by lia) (by lia),fl 4 (by lia) (by lia),fl n (by lia) (by lia),a8 (by decide),fl (4 * (n:Int) + (4 - 1)) (by lia) (by lia),Bool.or_true]
 rfl
def UE (ta:TA):TI:=fun σ H R=>ta σ H fun vs H1=> ∃n:Nat,vs=[.int 0,.int (4 * (n:Int)),.int 4]/\n<=1000/\R (KO n) H1
theorem Ia {a b c:Expr}{ta:TA}{p pos:Pos}(hg:Gl X "range")(hm:X.mg "range"=none)(ha:PA X [a,b,c] ta)(hs:starEach [a,b,c] X.env=(false,eval a X.env) :: starEach [b,c] X.env:=by rfl)(gQ:(backTo pos (starEach [b,c] X.env)).any (·.1)=false:=by rfl):
  PI X tg (.Call (.Name "range" p) [a,b,c] [] pos) (UE ta):=by
 intro pins s σ H R I h
 refine Call_ (lX I hg hm boot_range (fN (dR (ha pos pins s σ H _ I h) fun us s1 ⟨vs,H1,I1,r1,q1⟩=>?_) hs gQ))
 obtain⟨n,e,hn,q⟩:=q1
 subst e
 cases r1 with
 |cons r rr=>
  cases rr with
  |cons r' rr=>
   cases rr with
   |cons r2 rr=>
    cases rr
    obtain⟨t,rfl⟩:=r
    obtain⟨t',rfl⟩:=r'
    obtain⟨t2,rfl⟩:=r2
    refine call_range_3 (by decide) ?_ (Or.inl (PyProof.noPylong_small (by lia)))
    refine wpAny_pyIter_range (IsRange.new ..) (Ql hn) ?_
    have I2:Inv X pins σ H1 {s1 with heap:=s1.heap.push {cls:= .type "range",data:= .fields #[.int 0 t,.int (4 * (n:Int)) t',.int 4 t2]},toks:=s1.toks}:=I1.kept fun b o e=>ax _ e
    refine⟨(s1.heap.push {cls:= .type "range",data:= .fields #[.int 0 t,.int (4 * (n:Int)) t',.int 4 t2]}).objs.size,[(s1.heap.push {cls:= .type "range",data:= .fields #[.int 0 t,.int (4 * (n:Int)) t',.int 4 t2]}).objs.size],_,_,H1,rfl,
     I2.kept (t':=s1.toks) fun b o e=>ax _ e,C5 _ n,?_,fun b hb=>?_,q⟩
    ·have e1:(0:Int) + ((0:Nat):Int) * 4=0:=by simp
     have e2:(n:Int) - ((0:Nat):Int)=Builtin.Range.rangeSize 0 (4 * (n:Int)) 4:=by rw[NO]; lia
     show IsRangeIter _ _ ((0:Int) + ((0:Nat):Int) * 4) ((n:Int) - ((0:Nat):Int)) 4
     rw[e1,e2]
     exact bL _ rfl
    ·have e:b=(s1.heap.push {cls:= .type "range",data:= .fields #[.int 0 t,.int (4 * (n:Int)) t',.int 4 t2]}).objs.size:=by simpa using hb
     subst e
     exact I2.Dr (aE _) (I2.cu.fresh (aE _))
end
theorem ED {n:Nat}{g:TG}{tb:TS}{D:Ends}{σ:St}{H:Hp}(Pv:Nat->St->Hp->Prop)(h0:Pv 0 σ H)
  (hs: ∀i σ H,i < n->Pv i σ H->g (.int (4 * i)) σ H fun σ2 H2=>tb {D with nx:=Pv (i + 1),ct:=Pv (i + 1),bk:=D.nx} σ2 H2) (hd: ∀σ H,Pv n σ H->D.nx σ H):
  ∃W:Nat->Nat->St->Hp->Prop,(∃m,W 0 m σ H)/\ ∀i m σ H,W i m σ H->
   ((KO n).stop i H/\D.nx σ H)∨((KO n).go i H/\ ∃N:St->Hp->Prop,(∀σ' H',N σ' H'-> ∃m',m' < m/\W (i + 1) m' σ' H')/\ ∀x H',(KO n).Ob i H x H'->g x σ H' fun σ2 H2=>tb {D with nx:=N,ct:=N,bk:=D.nx} σ2 H2):=by
 refine⟨fun i m σ H=>m=n - i/\i<=n/\Pv i σ H,⟨n,by simp,Nat.zero_le _,h0⟩,?_⟩
 rintro i m σ H ⟨rfl,hi,p⟩
 by_cases iu:i < n
 ·refine .inr ⟨iu,Pv (i + 1),fun σ' H' p'=>⟨n - (i + 1),by lia,rfl,iu,p'⟩,fun x H' y=>?_⟩
  obtain⟨e,y⟩:=y
  subst e y
  exact hs i σ _ iu p
 ·have e:i=n:=by lia
  subst e
  exact .inl ⟨aE _,hd σ H p⟩
end L2
namespace eG
open PySem L2 PyProof.Rows K4
seal L2.oS L2.PS L2.PE L2.PT L2.PW L2.PA L2.PC L2.PG L2.KY L2.PI L2.LH L2.K0 L2.PO L2.oF L2.Nc L2.iN L2.IU L2.Oh
section
variable {P:Program}{w:World}{K:Frag}{mg:Str->Option Value}{base:Heap}
def Y7 (K:Frag):Sp:=fun vs H Q _=> ∃(a:Addr) (ns:List Int) (k:Nat),vs=[.ref a,.int k]/\bA K H a (ns.map V.int)/\ ∀i:Int,Q (.int i) H
theorem EE:aS ["_law_script","_law_k"] ["_law_script","_law_k"] (ay (top 46)):={}
theorem Ib (T:Txt K mg):eM P w K mg base "_law_at" 1 ["_law_script","_law_k"] (Y7 K):=by
 refine T.Hb.fe (k:=0) EE (fun f cU A outer s H vs Q E hr h=>?_)
 ·obtain⟨a,ns,k,rfl,hS,q⟩:=h
  refine⟨_,(ah (bN (aV ju (pv 1) (mh T.dD (pv 0)) (aY _))
(au (a0 (xl (pv 0) (pv 1))))
bb)
(au (a0 ai))),?_⟩
  refine⟨_,rfl,_,rfl,a,_,rfl,.inl hS,_,_,rfl,rfl,_,rfl,cm (fun z=>?_) (fun _=>q 0)⟩
  have z':(k:Int) < ((ns.map V.int).length:Int):=aN z
  have hk:k < ns.length:=by rw[ae] at z'; lia
  exact⟨_,rfl,_,rfl,a,_,_,.int (ns.getD k 0),rfl,rfl,hS,nF hk,q _⟩
theorem tN: ∀(l m:List br) (T:g8) (n:Nat),dP (l ++ m) T n=((dP l T n).1 ++ (dP m (dP l T n).2 (n + l.length)).1,(dP m (dP l T n).2 (n + l.length)).2)
 |[],m,T,n=>rfl
 |d :: l,m,T,n=>by
  show((cY T n d).1 :: (dP (l ++ m) (cY T n d).2 (n + 1)).1,(dP (l ++ m) (cY T n d).2 (n + 1)).2)=_
  rw[tN l m,show n + 1 + l.length=n + (d :: l).length by rw[bS]; lia]
  rfl
theorem yV: ∀(m:List br) (T:g8) (n:Nat),(∀d∈m,(∃o w y,d= .ask o w y)∨ ∃w y l,d= .fR w y l)->(dP m T n).2=T/\ ∀(i:Nat) (d:br),m[i]? =some d->(dP m T n).1[i]? =some (cY T 0 d).1
 |[],T,n,_=>⟨rfl,fun i d h=>by simp at h⟩
 |e :: m,T,n,h=>by
  have he:(cY T n e).2=T/\(cY T n e).1=(cY T 0 e).1:=by
   rcases h e bJ with⟨o,w,y,rfl⟩|⟨w,y,l,rfl⟩
   ·exact⟨rfl,rfl⟩
   ·exact⟨rfl,rfl⟩
  obtain⟨h1,h2⟩:=yV m T (n + 1) fun d hd=>h d (ba _ hd)
  have eq:dP (e :: m) T n=((cY T n e).1 :: (dP m T (n + 1)).1,(dP m T (n + 1)).2):=by
   show((cY T n e).1 :: (dP m (cY T n e).2 (n + 1)).1,(dP m (cY T n e).2 (n + 1)).2)=_
   rw[he.1]
  rw[eq]
  refine⟨h1,fun i d hd=>?_⟩
  cases i with
  |zero=>
   have e2:e=d:=by simpa using hd
   subst e2
   show some (cY T n e).1=_
   rw[he.2]
  |succ i=>exact h2 i d (by simpa using hd)
theorem yW {H:Hp}{rs:List Rw}{ps:List Addr}(h:eU H rs ps){a:Addr}(ha:a∈ps): ∃xs,H a=some (.lst xs):=by
 induction h with
 |nil=>cases ha
 | @cons r p rs ps hr t ih=>
  rcases aw.mp ha with ha|ha
  ·rw[ha]
   exact⟨_,hr⟩
  ·exact ih ha
theorem M6 {H:Hp}{sd a:Addr}{S:Bk}{f:fB}(h:di H sd S f)(hb:a∈f.fp): ∃xs,H a=some (.lst xs):=by
 obtain⟨ms,m1,_⟩:=h.hm
 unfold fB.fp at hb
 rcases aw.mp hb with z|z
 ·rw[z]; exact⟨_,h.hb⟩
 rcases aw.mp z with z|z
 ·rw[z]; exact⟨_,h.hc⟩
 rcases aw.mp z with z|z
 ·rw[z]; exact⟨_,m1⟩
 rcases bq.mp z with z|z
 ·exact yW h.rb z
 ·exact yW h.rc z
theorem Qm {H H':Hp}{sd:Addr}{S:Bk}{f:fB}(h:di H sd S f)(k: ∀a o,H a=some o->(∀ps,o≠ .mO ps)->H' a=some o):di H' sd S f:=by
 refine h.keep (fun b o hb e=>?_) (fun a xs e=>k _ _ e (fun _ z=>by cases z))
 refine k _ _ e (fun ps z=>?_)
 rcases hb with hb|hb
 ·rw[hb,h.dict,z] at e
  cases e
 ·obtain⟨xs,q⟩:=M6 h hb
  rw[q,z] at e
  cases e
def wB (l1 l2:List Int)(x:Str×Int):List br:=[.ask true x.1 x.2,.fR x.1 x.2 l1,.fR x.1 x.2 l2,.fR x.1 x.2 []]
def eZ (l1 l2:List Int)(pr:List (Str×Int)):List br:=pr.flatMap (wB l1 l2)
theorem EF (l1 l2:List Int)(pr:List (Str×Int))(x:Str×Int):eZ l1 l2 (pr ++ [x])=eZ l1 l2 pr ++ wB l1 l2 x:=by
 unfold eZ
 rw[List.flatMap_append]
 simp
theorem il (l1 l2:List Int)(pr:List (Str×Int)):(eZ l1 l2 pr).length=4 * pr.length:=by
 induction pr with
 |nil=>rfl
 |cons x pr ih=>
  have e:eZ l1 l2 (x :: pr)=wB l1 l2 x ++ eZ l1 l2 pr:=rfl
  rw[e,aC,ih,bS]
  show 4 + 4 * pr.length=_
  lia
theorem yX {l1 l2:List Int}: ∀{pr:List (Str×Int)} {k:Nat} {x:Str×Int},pr[k]? =some x-> ∀(j:Nat) (d:br),(wB l1 l2 x)[j]? =some d->(eZ l1 l2 pr)[4 * k + j]? =some d
 |[],_,_,h,_,_,_=>by simp at h
 |y :: pr,0,x,h,j,d,hj=>by
  have e:y=x:=by simpa using h
  subst e
  have hl:j < 4:=(ak.mp hj).1
  show(wB l1 l2 y ++ eZ l1 l2 pr)[4 * 0 + j]? =_
  rw[show 4 * 0 + j=j by lia,qu (show j < (wB l1 l2 y).length from hl)]
  exact hj
 |y :: pr,k + 1,x,h,j,d,hj=>by
  show(wB l1 l2 y ++ eZ l1 l2 pr)[4 * (k + 1) + j]? =_
  rw[i7 (show(wB l1 l2 y).length<=4 * (k + 1) + j by show 4<=_; lia),show 4 * (k + 1) + j - (wB l1 l2 y).length=4 * k + j by show 4 * (k + 1) + j - 4=_; lia]
  exact yX (by simpa using h) j d hj
theorem Ic {l1 l2:List Int}{pr:List (Str×Int)}{d:br}(h:d∈eZ l1 l2 pr): ∃w y,d= .ask true w y∨d= .fR w y l1∨d= .fR w y l2∨d= .fR w y []:=by
 unfold eZ at h
 obtain⟨y,_,hy⟩:=List.mem_flatMap.mp h
 unfold wB at hy
 simp only[List.mem_cons,List.not_mem_nil,or_false] at hy
 exact⟨_,_,hy⟩
theorem C6 {T:g8}{n:Nat}{d:br}(wf:WF T.bk n)(hn:n<=60)(h:(∃o w y,d= .ask o w y)∨ ∃w y l,d= .fR w y l)(cu:d.ok):(cY T 0 d).1.dt.size<=200/\(cY T 0 d).1.dt.plain=true:=by
 rcases h with⟨o,w,y,rfl⟩|⟨w,y,l,rfl⟩
 ·have h1:=ox (fun t:Nat×Int=>Dt.tup [.int t.1,.int t.2]) 3 (T.bk.fu o w y) (fun x _=>aE _)
  have h2:(T.bk.fu o w y).length<=(T.bk.rows o).length:=yH
  have h3:(T.bk.rows o).length<=60:=by
   have:=wf.lb
   have:=wf.lc
   cases o
   ·show T.bk.credits.length<=60; lia
   ·show T.bk.aI.length<=60; lia
  refine⟨?_,qh _ _ fun x _=>rfl⟩
  show 1 + Dt.fJ ((T.bk.fu o w y).map fun t=>Dt.tup [.int t.1,.int t.2])<=200
  lia
 ·have h1:=ox Dt.int 1 (T.bk.tY w y l) (fun x _=>aE _)
  have h2:=KH T.bk w y l
  have h3:l.length<=11:=cu.1
  refine⟨?_,qh _ _ fun x _=>rfl⟩
  show 1 + Dt.fJ ((T.bk.tY w y l).map Dt.int)<=200
  lia
theorem KP:aS ["_law_script","_law_cells","_law_asked","_law_state","_law_first","_law_limits","_law_more","_law_due","_law_who","_law_day","_law_one","_law_found","_law_k","_law_total","_law_j"] ["_law_script"] (ay (top 68)):={}
theorem Qn {cps:List (Addr×Addr)}{f:Addr}{fd:FuncData}(F:gp K "law" "law" (top 68) f fd)(T:Txt K mg){A:dY}{tB tC:Addr}(G:jB K mg A)(DB:qr K mg "bills_in_order" (top 17) tB)(DC:qr K mg "credits_in_order" (top 18) tC)(je:tB≠tC)(hnd:A.iZ≠A.tooMuch)(KB:K.In base)(BM:BMain mg base)(Xm: ∃c,(c,tB)∈cps)(hcC: ∃c,(c,tC)∈cps):l0 P w K mg base sf 13 f fd ["_law_script"] (KJ K cps):=by
 have Ie:eM P w K mg base "answers" 12 ["deeds"] (sP A tB tC):=HX T G DB DC je hnd KB BM
 have C7:=C2 (P:=P) (w:=w) (base:=base) T
 have A2:=A0 (P:=P) (w:=w) (base:=base) T
 have A3:=AU (P:=P) (w:=w) (base:=base) T
 have sQ:=Ib (P:=P) (w:=w) (base:=base) T
 have kZ:=oY (P:=P) (w:=w) (base:=base) T
 have uj:=ug (P:=P) (w:=w) (base:=base) T
 have oR:=oQ (P:=P) (w:=w) (base:=base) T
 refine F.ok (k:=12) KP (fun vs H Q E h=>?_) (fun cU A' outer s H vs Q E hr h=>?_)
 ·obtain⟨a,ns,rfl,_⟩:=h
  rfl
 ·obtain⟨a,ns,rfl,hS,hz,hO,k⟩:=h
  have kj:lN H tB:=let⟨c,hc⟩:=Xm; KI (hO _ hc)
  have jK:mr H tC:=let⟨c,hc⟩:=hcC; KI (hO _ hc)
  have nd:=KP.nd
  refine⟨_,(ah (sv 1 nd (mU qD (pv 0) (oj ai) (oj (aO cB ai (fc C7 hr (aa (pv 0) (aa ai (aa ai av))))))))
(ah (sv 2 nd (fc A2 hr (aa (pv 1) av)))
(ah (sv 3 nd (xt (fc oR hr (aa (pv 2) av)) ai))
(ah (sv 4 nd (aO cB ai (aO bW (fc sQ hr (aa (pv 0) (aa ai av))) ai)))
(ah (sv 5 nd (bP (aa (cG (aa (pv 4) av)) (aa (cG (aa (pv 4) (aa (aO cB (aO cB (pv 4) ai) (aO bW (aO i8 (fc sQ hr (aa (pv 0) (aa ai av))) ai) ai)) av))) (aa (cG av) av)))))
(ah (sv 6 nd (bP av))
(ah (sv 7 nd (bP av))
(ah (dZ bw rfl (cO (fc kZ hr (aa (pv 1) av))) (gn 8 nd)
(ah (sv 9 nd (aO eP (aO bW (fc sQ hr (aa (pv 0) (aa ai av))) ai) ai))
(ah (bK (oW (pv 6) (cG (aa aQ (aa (pv 8) (aa (pv 9) av))))))
(au (dZ bw rfl (cO (pv 5)) (gn 10 nd)
(au (bK (oW (pv 6) (cG (aa aQ (aa (pv 8) (aa (pv 9) (aa (pv 10) av)))))))))))))
(ah (sv 11 nd (fc Ie hr (aa (aO mW (pv 2) (pv 6)) av)))
(ah (bN (PW.pt (pw_or (kO (gj (cD eQ (by rfl) T.dj eo (aa (pv 11) (aa (gA (v:= .ty "list") (by rfl) T.vE boot_list rfl) av))))) (pw_or1 (aV oU (mh T.dD (pv 11)) (aO cB (mh T.dD (pv 2)) (mh T.dD (pv 6))) (aY _)))))
(au (a0 lj))
bb)
(ah (jN (i:=7) nd rfl (Or.inl rfl) (tn:=["_law_deed"]) (cn:=["_law_state"]) (cj:=[3]) rfl (gY (by rfl) (by decide +kernel) rfl (by decide +kernel) (by rfl) [(".0",.local),("_law_deed",.local),("_law_reported",.globalImplicit),("_law_state",.cell)] (by rfl) (by decide +kernel) rfl (Or.inl rfl) (Or.inl rfl)) (cO (pv 6)) (fun _ _ _ _=>(dU (i:=0) (show(["_law_deed","_law_state"]:List Str).Nodup by decide +kernel) rfl (Or.inl rfl))) (fun _ _ _ _=>kQ) (fun _ _ _ _=>(fc uj hr (aa (pv 1) (aa (pv 0) av)))))
(ah (sv 11 nd (mU qD (pv 11) (oj (mh T.dD (pv 2))) uq))
(ah (bN (kO (gj (fc A3 hr (aa (pv 11) (aa (pv 7) av)))))
(au (a0 lj))
bb)
(ah (dZ bw rfl (Ia rfl T.jA (aa ai (aa (mh T.dD (pv 6)) (aa ai av)))) (gn 12 nd)
(ah (sv 13 nd (cD (lB rfl) (by rfl) T.BV boot_sum (aa (gq (tn:=["_law_one"]) (cn:=[]) (cj:=[]) rfl (zl (by decide +kernel) (by decide +kernel) rfl (by decide +kernel)) (cO (xl (pv 11) (pv 12))) (fun _ _ _ _=>(dU (i:=0) (show(["_law_one"]:List Str).Nodup by decide +kernel) rfl (Or.inl rfl))) (fun _ _ _ _=>kQ) (fun _ _ _ _=>(jd (l5 (K:=K) rfl) (pv 0) ai (fun _ _=>rfl)))) av)))
(au (dZ bw rfl (Gq rfl T.jA (aa ai (aa ai av))) (gn 14 nd)
(au (bN (aV oU (cD (lB rfl) (by rfl) T.BV boot_sum (aa (xl (pv 11) (aO cB (pv 12) (pv 14))) av)) (pv 13) (aY _))
(au (a0 lj))
bb))))))
(au (a0 lj)))))))))))))))),?_⟩
  refine⟨_,rfl,_,rfl,_,rfl,a,_,28,140,rfl,hS,(by rw[ae]; exact hz),_,_,rfl,rfl,_,rfl,a,_,rfl,hS,fun pc nc=>?_⟩
  obtain⟨cs,ecs⟩:=M0 ns (some 2) (some (2 + 28))
  have qQ:cs.length<=28:=by
   have h:=MZ (ns.map V.int) 2 30 (by decide)
   have e:qC (ns.map V.int) (some ((2:Nat):Int)) (some ((30:Nat):Int))=cs.map V.int:=ecs
   rw[e,ae] at h
   exact h
  rw[ecs]
  have s1:=aD.new (o:= .lst (cs.map V.int)) nc
  have VX:upd H pc (.lst (cs.map V.int)) pc=some (.lst (cs.map V.int)):=ag
  generalize upd H pc (.lst (cs.map V.int))=H1 at s1 VX
  refine⟨_,rfl,pc,cs,rfl,bA.of VX,(by lia),fun pa ds ms H2 s2 MP Kx FX cu=>?_⟩
  have S2:=s1.trans s2
  have UG:=s2 _ _ VX
  refine⟨_,rfl,pa,ds,ms,rfl,MP,Kx,(by lia),cu,fun t v ps sd us g H3 s3 ht lA Rk Uz Qk CF hG=>?_⟩
  refine⟨t,_,_,.ref sd,rfl,rfl,cg.of ht,rfl,?_⟩
  have UH:=s3 _ _ MP
  have Qo:=Kx.mono s3.tk
  have UI:=s3 _ _ UG
  have S3:=S2.trans s3
  have rE:lN H3 tB:=bM kj S3
  have rF:mr H3 tC:=bM jK S3
  have VY:=S3.seq hS
  clear s1 s2 s3 S2 S3 kj jK MP Kx VX UG hS
  have FC:=eT.length Qo
  refine⟨_,rfl,a,ns,1,rfl,VY,fun i1=>⟨_,_,rfl,rfl,(by show(0:Int) < 9; decide),_,_,rfl,rfl,?_⟩⟩
  dsimp only
  have VZ:1<=1 + i1 % 9:=by lia
  generalize 1 + i1 % 9=f0 at VZ
  refine⟨_,rfl,(by show 1<=sizeLine; decide),fun q1 n1=>?_⟩
  have u1:=aD.new (o:= .tup [V.int f0]) n1
  have Le:upd H3 q1 (.tup [V.int f0]) q1=some (.tup [V.int f0]):=ag
  refine⟨_,rfl,_,rfl,_,_,rfl,rfl,_,rfl,a,ns,1,rfl,u1.seq VY,fun i2=>⟨_,_,rfl,rfl,⟨by decide,by decide⟩,_,_,rfl,rfl,(by show(0:Int) < 9; decide),_,_,rfl,rfl,(by show 2<=sizeLine; decide),fun q2 n2=>?_⟩⟩
  dsimp only at n2 ⊢
  have Y8:f0 < f0 + 1 + i2 / 9 % 9:=by lia
  generalize f0 + 1 + i2 / 9 % 9=f2 at Y8
  have u2:=aD.new (o:= .tup [V.int f0,.int f2]) n2
  refine⟨bh _,fun q3 n3=>?_⟩
  have u3:=aD.new (o:= .tup []) n3
  refine⟨(by show 3<=sizeLine; decide),fun pl Yp=>?_⟩
  have u4:=aD.new (o:= .lst [V.ref q1,.ref q2,.ref q3]) Yp
  have NJ: ∀x,x∈[(q1,[f0]),(q2,[f0,f2]),(q3,[])]->(upd (upd (upd (upd H3 q1 (.tup [V.int f0])) q2 (.tup [V.int f0,.int f2])) q3 (.tup [])) pl (.lst [V.ref q1,.ref q2,.ref q3])) x.1=some (.tup (x.2.map V.int)):=fun x hx=>by
   simp only[List.mem_cons,List.not_mem_nil,or_false] at hx
   rcases hx with rfl|rfl|rfl
   ·exact u4 _ _ (u3 _ _ (u2 _ _ Le))
   ·exact u4 _ _ (u3 _ _ ag)
   ·exact u4 _ _ ag
  have M7:(upd (upd (upd (upd H3 q1 (.tup [V.int f0])) q2 (.tup [V.int f0,.int f2])) q3 (.tup [])) pl (.lst [V.ref q1,.ref q2,.ref q3])) pl=some (.lst [V.ref q1,.ref q2,.ref q3]):=ag
  have s4:=((u1.trans u2).trans u3).trans u4
  generalize (upd (upd (upd (upd H3 q1 (.tup [V.int f0])) q2 (.tup [V.int f0,.int f2])) q3 (.tup [])) pl (.lst [V.ref q1,.ref q2,.ref q3]))=H4 at NJ M7 s4
  have UJ:=s4 _ _ UH
  have UK:=Qo.mono s4.tk
  have UL:=s4 _ _ UI
  have sH:lN H4 tB:=bM rE s4
  have sI:mr H4 tC:=bM rF s4
  have UM:=Uz.same s4
  have VU:=s4.seq VY
  clear u1 u2 u3 u4 Le s4 n1 n2 n3 Yp UH Qo UI rE rF Uz VY
  have UN:(br.fR "" 0 [f0]).ok:=⟨by show 1<=11; decide,ko _ _,fun x hx=>by rw[ao.mp hx]; exact VZ⟩
  have UO:(br.fR "" 0 [f0,f2]).ok:=⟨by show 2<=11; decide,en.mpr ⟨fun x hx=>by rw[ao.mp hx]; exact Y8,ko _ _⟩,fun x hx=>by
   simp only[List.mem_cons,List.not_mem_nil,or_false] at hx
   rcases hx with rfl|rfl
   ·exact VZ
   ·lia⟩
  have Y9:(br.fR "" 0 []).ok:=⟨bh _,List.Pairwise.nil,fun x hx=>by cases hx⟩
  generalize e1:[f0]=l1 at NJ UN
  generalize e2:[f0,f2]=l2 at NJ UO
  clear e1 e2 VZ Y8
  refine⟨bh _,fun pm UP=>?_⟩
  have s5:=aD.new (o:= .lst []) UP
  have Qp:upd H4 pm (.lst []) pm=some (.lst []):=ag
  generalize upd H4 pm (.lst [])=H5 at s5 Qp
  refine⟨bh _,fun pu Qj=>?_⟩
  have s6:=aD.new (o:= .lst []) Qj
  have Qq:=s6 _ _ Qp
  have Qr:=s6 _ _ (s5 _ _ UL)
  have Qs:=s5.trans s6
  generalize upd H5 pu (.lst [])=H6 at s6 Qq Qr Qs
  refine⟨_,rfl,pc,cs,rfl,bA.of Qr,fun pn names H7 s7 Hr Za Tc=>?_⟩
  have Qt:=s7 _ _ Qq
  have V0:=Qs.trans s7
  have P7:pn≠pm:=fun z=>by
   rw[z,Qt] at Hr
   cases names with
   |nil=>exact Za rfl
   |cons x l=>cases Hr
  refine⟨pn,rfl,⟨_,bA.of Hr⟩,?_⟩
  refine fH (K:=K) (a:=pn) (xs:=names.map V.str) (fun i σ H'=> ∃(x8 x9 xO:Option V) (ws:List V) (pr:List (Str×Int)),σ=[some (.ref a),some (.ref pc),some (.ref pa),some (.ref sd),some (.int f0),some (.ref pl),some (.ref pm),some (.ref pu),x8,x9,xO,none,none,none,none]/\Frame [pm] H7 H'/\H' pm=some (.lst ws)/\eT H' (eZ l1 l2 pr) ws/\pr.length=i)
   ⟨none,none,none,[],[],rfl,Frame.refl,Qt,cQ.mpr rfl,rfl⟩ (fun i σ H' _ ⟨_,_,_,_,_,_,f2,_⟩=>bA.of (f2 _ _ (by simpa using P7) Hr)) ?_ ?_
  ·rintro i x σ H' hx ⟨x8,x9,xO,ws,pr,rfl,f2,HM,hM,gQ⟩
   rw[aB] at hx
   obtain⟨aH,hw,rfl⟩:=bo.mp hx
   have hi:i < names.length:=(ak.mp hw).1
   have Uv:aD H4 H':=fun b o e=>f2 _ _ (by simpa using aJ e UP) (V0 _ _ e)
   have E2:=eT.length hM
   rw[il] at E2
   refine⟨_,rfl,a,ns,0,rfl,Uv.seq VU,fun i0=>⟨_,_,rfl,rfl,(by show(0:Int) < 35; decide),_,_,rfl,rfl,?_⟩⟩
   dsimp only
   generalize i0 % 35 - 5=day
   refine⟨_,rfl,.inl ⟨rfl,_,bA.of HM⟩,_,rfl,_,rfl,(by show 3<=sizeLine; decide),fun p8 n8=>?_⟩
   have u8:=aD.new (o:= .tup [V.str "owed",.str aH,.int day]) n8
   refine⟨pm,ws,_,rfl,rfl,u8 _ _ HM,a9 (by lia),?_⟩
   have tk:=u8.tk.trans (dQ (o:= .lst (ws ++ [V.ref p8])) (u8 _ _ HM))
   have h8:(upd (upd H' p8 (.tup [V.str "owed",.str aH,.int day])) pm (.lst (ws ++ [V.ref p8]))) p8=some (.tup [V.str "owed",.str aH,.int day]):=dQ (u8 _ _ HM) _ _ ag
   have f3:Frame [pm] H7 (upd (upd H' p8 (.tup [V.str "owed",.str aH,.int day])) pm (.lst (ws ++ [V.ref p8]))):=(f2.cX u8).tr (Frame.upd (by simp))
   have UQ:(upd (upd H' p8 (.tup [V.str "owed",.str aH,.int day])) pm (.lst (ws ++ [V.ref p8]))) pm=some (.lst (ws ++ [V.ref p8])):=ag
   have MI:eT (upd (upd H' p8 (.tup [V.str "owed",.str aH,.int day])) pm (.lst (ws ++ [V.ref p8]))) (eZ l1 l2 pr ++ [.ask true aH day]) (ws ++ [V.ref p8]):=by
    have e1:Rp (upd (upd H' p8 (.tup [V.str "owed",.str aH,.int day])) pm (.lst (ws ++ [V.ref p8]))) (br.dt (.ask true aH day)) (.ref p8):=eF h8 (bC.mpr ⟨_,_,rfl,fL.mpr rfl,bC.mpr ⟨_,_,rfl,fL.mpr rfl,bC.mpr ⟨_,_,rfl,dm.mpr rfl,cQ.mpr rfl⟩⟩⟩)
    exact(hM.mono tk).snoc e1
   generalize (upd (upd H' p8 (.tup [V.str "owed",.str aH,.int day])) pm (.lst (ws ++ [V.ref p8])))=H8 at f3 UQ MI
   clear u8 tk h8 n8 Uv HM hM f2
   have Q9: ∀{b:Addr} {o:HO},H4 b=some o-> ∀{sh:Hp},Frame [pm] H7 sh->sh b=some o:=fun{b o} e {sh} f4=>f4 _ _ (by simpa using aJ e UP) (V0 _ _ e)
   refine⟨_,rfl,pl,rfl,⟨_,bA.of (Q9 M7 f3)⟩,?_⟩
   refine fH (K:=K) (a:=pl) (xs:=[(q1,l1),(q2,l2),(q3,[])].map fun x=>V.ref x.1) (fun j σ sh=> ∃(xO:Option V) (ws:List V),σ=[some (.ref a),some (.ref pc),some (.ref pa),some (.ref sd),some (.int f0),some (.ref pl),some (.ref pm),some (.ref pu),some (.str aH),some (.int day),xO,none,none,none,none]/\Frame [pm] H7 sh/\sh pm=some (.lst ws)/\eT sh (eZ l1 l2 pr ++ [.ask true aH day] ++ (([(q1,l1),(q2,l2),(q3,[])]:List (Addr×List Int)).take j).map fun x=>br.fR aH day x.2) ws)
    ⟨_,_,rfl,f3,UQ,by simpa using MI⟩ (fun j σ sh _ ⟨_,_,_,f4,_⟩=>bA.of (Q9 M7 f4)) ?_ ?_
   ·rintro j x σ sh hx2 ⟨Zb,Qu,rfl,f4,Ig,nW⟩
    rw[aB] at hx2
    obtain⟨⟨ql,lq⟩,OR,rfl⟩:=bo.mp hx2
    have hj:j < 3:=(ak.mp OR).1
    have X2:=Q9 (NJ _ (fA OR)) f4
    have Zc:([(q1,l1),(q2,l2),(q3,[])]:List (Addr×List Int)).take (j + 1)=([(q1,l1),(q2,l2),(q3,[])]:List (Addr×List Int)).take j ++ [(ql,lq)]:=by rw[jt (show j < ([(q1,l1),(q2,l2),(q3,[])]:List (Addr×List Int)).length from hj),(ak.mp OR).2]
    have adJ:Qu.length<=100:=by
     have h5:=eT.length nW
     rw[aC,aC,il,ae,bf] at h5
     have e2:[br.ask true aH day].length=1:=rfl
     lia
    refine⟨_,rfl,.inl ⟨rfl,_,bA.of Ig⟩,_,rfl,_,rfl,_,rfl,(by show 4<=sizeLine; decide),fun p9 n9=>?_⟩
    have u9:=aD.new (o:= .tup [V.str "ages",.str aH,.int day,.ref ql]) n9
    refine⟨pm,Qu,_,rfl,rfl,u9 _ _ Ig,a9 (by lia),?_⟩
    have tk:=u9.tk.trans (dQ (o:= .lst (Qu ++ [V.ref p9])) (u9 _ _ Ig))
    refine⟨_,Qu ++ [.ref p9],rfl,(f4.cX u9).tr (Frame.upd (by simp)),ag,?_⟩
    rw[Zc,aK,← eL]
    have e1:Rp _ (br.dt (.fR aH day lq)) (.ref p9):=eF (dQ (o:= .lst (Qu ++ [V.ref p9])) (u9 _ _ Ig) _ _ ag) (bC.mpr ⟨_,_,rfl,fL.mpr rfl,bC.mpr ⟨_,_,rfl,fL.mpr rfl,bC.mpr ⟨_,_,rfl,dm.mpr rfl,bC.mpr ⟨_,_,rfl,eF (tk _ _ X2) (vY lq),cQ.mpr rfl⟩⟩⟩⟩)
    exact(nW.mono tk).snoc e1
   ·rintro σ sh ⟨Zb,Qu,rfl,f4,Ig,nW⟩
    refine⟨_,_,_,Qu,pr ++ [(aH,day)],rfl,f4,Ig,?_,by rw[aC,gQ]; rfl⟩
    rw[EF]
    rw[eL] at nW
    exact nW
  rintro σ H8 ⟨x8,x9,xO,mw,pr,rfl,f8,HM,hM,gQ⟩
  rw[ae] at gQ
  have Rl:aD H4 H8:=fun b o e=>f8 _ _ (by simpa using aJ e UP) (V0 _ _ e)
  have Qv:=Rl _ _ UJ
  have UR:=UK.mono Rl.tk
  have Qw:lN H8 tB:=bM sH Rl
  have Qx:mr H8 tC:=bM sI Rl
  have US:=UM.same Rl
  have Zd:=eT.length hM
  rw[il] at Zd
  clear s5 Qp s6 Qq Qr Qs s7 Qt V0 f8 Rl Hr UL M7 NJ UJ UK sH sI UM VU UP Qj
  refine⟨_,rfl,_,rfl,pa,pm,ms,mw,rfl,rfl,Qv,HM,?_,fun ph nh=>?_⟩
  ·refine dz (a9 ?_)
   lia
  have u9:=aD.new (o:= .lst (ms ++ mw)) nh
  have hda:eT (upd H8 ph (.lst (ms ++ mw))) (ds ++ eZ l1 l2 pr) (ms ++ mw):=by
   unfold eT
   rw[aK]
   exact hV.append (UR.mono u9.tk) (hM.mono u9.tk)
  have wC: ∀d∈eZ l1 l2 pr,((∃o w y,d= .ask o w y)∨ ∃w y l,d= .fR w y l)/\d.ok:=fun d hd=>by
   obtain⟨w',y',z⟩:=Ic hd
   rcases z with rfl|rfl|rfl|rfl
   ·exact⟨.inl ⟨_,_,_,rfl⟩,trivial⟩
   ·exact⟨.inr ⟨_,_,_,rfl⟩,UN⟩
   ·exact⟨.inr ⟨_,_,_,rfl⟩,UO⟩
   ·exact⟨.inr ⟨_,_,_,rfl⟩,Y9⟩
  refine⟨ph,ds ++ eZ l1 l2 pr,ms ++ mw,rfl,ag,hda,?_,?_,bM Qw u9,bM Qx u9,fun pt vs Pp F10 UT UU nt wF hA=>?_⟩
  ·rw[aC,il]
   lia
  ·intro d hd
   rcases bq.mp hd with hd|hd
   ·exact cu d hd
   ·exact(wC d hd).2
  have NI: ∀t∈[tB,tC],∃ps,(upd H8 ph (.lst (ms ++ mw))) t=some (.mO ps):=fun t z=>by
   simp only[List.mem_cons,List.not_mem_nil,or_false] at z
   rcases z with rfl|rfl
   ·exact c9 (bM Qw u9)
   ·exact c9 (bM Qx u9)
  have kk: ∀a o,H8 a=some o->(∀ps,o≠ .mO ps)->Pp a=some o:=fun a o e n=>yQ F10 NI (u9 _ _ e) n
  have KQ:=kk _ _ Qv (fun _ z=>by cases z)
  have C8:=kk _ _ HM (fun _ z=>by cases z)
  have UW:=hM.mono (fun b xs e=>kk _ _ e (fun _ z=>by cases z))
  have FY:=Qm US kk
  rw[tN] at hA
  obtain⟨_,xI⟩:=yV (eZ l1 l2 pr) (dP ds g8.new 0).2 (0 + ds.length) (fun d hd=>(wC d hd).1)
  have Nw:=kF ds g8.new 0
  have Va:=kF (eZ l1 l2 pr) (dP ds g8.new 0).2 (0 + ds.length)
  have hvl:=aL hA
  dsimp only at hvl
  rw[aC,Nw,Va,il] at hvl
  have wf:=hG.wf (by lia:ds.length<=60)
  have hrp:Rp Pp (.lst (((dP ds g8.new 0).1 ++ (dP (eZ l1 l2 pr) (dP ds g8.new 0).2 (0 + ds.length)).1).map BJ.dt)) (.ref pt):=jz wF (M3 hA)
  refine⟨_,rfl,_,_,_,true,rfl,hrp.ty,E5 (.lst _),_,rfl,bT ?_⟩
  refine⟨_,rfl,pt,_,rfl,.inl (bA.of wF),_,rfl,pa,_,rfl,.inl (bA.of KQ),_,rfl,pm,_,rfl,.inl (bA.of C8),_,_,rfl,rfl,rfl,_,rfl,cm (fun z=>?_) (fun _=>?_)⟩
  ·exfalso
   have e:(vs.length:Int)=(ms.length:Int) + (mw.length:Int):=by lia
   simp[e] at z
  have Eo:=nL ds.length hA
  rw[List.drop_append_of_le_length (by lia),List.drop_of_length_le (by lia),List.nil_append] at Eo
  have UX:(dP (eZ l1 l2 pr) (dP ds g8.new 0).2 (0 + ds.length)).1=(eZ l1 l2 pr).map fun d=>(cY (dP ds g8.new 0).2 0 d).1:=by
   apply Gd
   intro i
   rw[aB]
   cases c:(eZ l1 l2 pr)[i]? with
   |none=>
    rw[Option.map_none]
    exact lU (by rw[Va]; exact jm.mp c)
   |some d=>exact xI i d c
  rw[UX] at Eo
  generalize hTT:(dP ds g8.new 0).2=TT at Eo FY wf
  clear hA hrp xI UX kk NI u9 hda F10 UT UU Qw Qx Qv HM US UR hM nt nh Nw Va
  refine⟨_,rfl,pm,rfl,⟨_,bA.of C8⟩,?_⟩
  refine dO (K:=K) (a:=pm) (xs:=mw) (fun D i σ H'=>Pp D=none/\ ∃(v:Option V) (us:List V),σ=[v,some (.ref sd)]/\aD Pp H'/\H' D=some (.lst us)/\Paired (j8 H' (fun b=>b≠D)) (((eZ l1 l2 pr).take i).map fun d=>(cY TT 0 d).1) us) (fun D hD=>⟨hD,none,[],rfl,aD.new hD,ag,.nil⟩) (fun D i σ H' _ ⟨_,_,_,_,t3,_⟩=>bA.of (t3 _ _ C8)) ?_ ?_
  ·rintro D i x σ H' hx ⟨hD,v,An,rfl,t3,FK,hU⟩
   have hi:i < (eZ l1 l2 pr).length:=by rw[il]; have:=(ak.mp hx).1; lia
   obtain⟨v0,QN,PU⟩:=eT.get UW (af hi)
   rw[hx] at QN
   obtain rfl:x=v0:=aF QN
   obtain⟨pd,rfl,QY⟩:=AL PU
   have hd:=QY.mono t3.tk
   obtain⟨hdk,VS⟩:=wC _ (bG hi)
   have lT:=jt hi
   have hil:i < mw.length:=(ak.mp hx).1
   have hul:=aL hU
   rw[ae,bf] at hul
   generalize (eZ l1 l2 pr)[i]=d at hd hdk VS lT
   have fin: ∀(v:V) (H4:Hp),aD H' H4->j8 H4 (fun b=>H' b=none) (cY TT 0 d).1 v-> ∃ys,H4 D=some (.lst ys)/\ys.length < sizeLine/\Pp D=none/\ ∃(w:Option V) (us:List V),[some (V.ref pd),some (.ref sd)]=[w,some (.ref sd)]/\aD Pp (upd H4 D (.lst (ys ++ [v])))/\(upd H4 D (.lst (ys ++ [v]))) D=some (.lst us)/\Paired (j8 (upd H4 D (.lst (ys ++ [v]))) (fun b=>b≠D)) (((eZ l1 l2 pr).take (i + 1)).map fun d=>(cY TT 0 d).1) us:=fun v H4 t4 hv=>by
    have Ze:=t4 _ _ FK
    refine⟨An,Ze,a9 (by lia),hD,_,An ++ [v],rfl,(t3.trans t4).cI hD,ag,?_⟩
    rw[lT,aK]
    refine cz (Paired.gP hU fun _ _ q=>q.keep (fun b xs ok e=>⟨ok,by rw[az ok]; exact t4 _ _ e⟩) (t4.tk.trans (dQ Ze))) (hv.keep (fun b xs ok e=>?_) (dQ Ze))
    have nb:b≠D:=fun z=>by rw[z,FK] at ok; cases ok
    exact⟨nb,by rw[az nb]; exact e⟩
   rcases hdk with⟨o,w',y',rfl⟩|⟨w',y',l',rfl⟩
   ·exact⟨_,rfl,_,rfl,sd,pd,TT.bk,g,_,rfl,FY.same t3,wf,(by lia),.inl ⟨o,w',y',hd,fun v H4 t4 hv=>fin v H4 t4 hv⟩⟩
   ·obtain⟨pq,h6,h7⟩:=hd
    exact⟨_,rfl,_,rfl,sd,pd,TT.bk,g,_,rfl,FY.same t3,wf,(by lia),.inr ⟨w',y',l',pq,h6,h7,VS.1,fun v H4 t4 hv=>fin v H4 t4 hv⟩⟩
  rintro pD σ NM npD ⟨_,v11,adM,rfl,Lf,Ld,hU⟩
  rw[List.take_of_length_le (by rw[il]; lia)] at hU
  have NP:=Lf _ _ wF
  have UY:=Paired.gP Eo fun _ _ q=>j8.keep (Q1:=fun _=>True) q (fun b xs ok e=>⟨trivial,Lf _ _ e⟩) Lf.tk
  refine⟨_,rfl,_,rfl,pa,_,rfl,.inl (bA.of (Lf _ _ KQ)),_,rfl,pt,_,rfl,bA.of NP,fun pf MN=>?_⟩
  rw[show((ms.length:Nat):Int)=((ds.length:Nat):Int) by lia,yE vs ds.length (by lia)] at *
  have NQ:=aD.new (o:= .lst (vs.drop ds.length)) MN
  have FG:upd NM pf (.lst (vs.drop ds.length)) pf=some (.lst (vs.drop ds.length)):=ag
  have KR:=Paired.gP UY fun _ _ q=>j8.keep (Q1:=fun _=>True) q (fun b xs ok e=>⟨trivial,NQ _ _ e⟩) NQ.tk
  have Qy:=Paired.gP hU fun _ _ q=>j8.keep (Q1:=fun _=>True) q (fun b xs ok e=>⟨trivial,NQ _ _ e⟩) NQ.tk
  have KS:=NQ _ _ Ld
  have KU:=NQ _ _ (Lf _ _ C8)
  generalize upd NM pf (.lst (vs.drop ds.length))=H12 at NQ FG KR Qy KS KU
  generalize vs.drop ds.length=fw at FG KR
  clear Eo UY hU Ld NP wF KQ C8 FY UW Lf NQ MN npD
  have hsz:(Dt.lst (((eZ l1 l2 pr).map fun d=>(cY TT 0 d).1).map BJ.dt)).size<=100000/\(Dt.lst (((eZ l1 l2 pr).map fun d=>(cY TT 0 d).1).map BJ.dt)).plain=true:=by
   rw[eD]
   have h1:=ox (BJ.dt ∘ fun d=>(cY TT 0 d).1) 200 (eZ l1 l2 pr) fun d hd=>(C6 wf (by lia) (wC d hd).1 (wC d hd).2).1
   rw[il] at h1
   refine⟨?_,qh _ _ fun d hd=>(C6 wf (by lia) (wC d hd).1 (wC d hd).2).2⟩
   show 1 + Dt.fJ _<=100000
   lia
  refine⟨_,rfl,_,rfl,_,.ref pf,.ref pD,rfl,jz FG (M3 KR),jz KS (M3 Qy),hsz.1,hsz.2,fun UZ U0=>⟨_,rfl,bT ?_⟩⟩
  have NR:=U0 _ _ FG
  have Zf:=Paired.gP KR fun _ _ q=>j8.keep (Q1:=fun _=>True) q (fun b xs ok e=>⟨trivial,U0 _ _ e⟩) U0.tk
  have U1:=U0 _ _ KU
  clear FG KR Qy KS KU U0 hsz
  refine⟨_,rfl,pm,_,rfl,.inl (bA.of U1),pr.length,?_,(by lia),?_⟩
  ·rw[show((mw.length:Nat):Int)=4 * ((pr.length:Nat):Int) by lia]
  refine ED (fun i σ H'=> ∃(EB HY Dj:Option V),σ=[some (.ref a),some (.ref pc),some (.ref pa),some (.ref sd),some (.int f0),some (.ref pl),some (.ref pm),some (.ref pD),x8,x9,xO,some (.ref pf),EB,HY,Dj]/\aD UZ H') ⟨_,_,_,rfl,aD.refl _⟩ ?_ ?_
  ·rintro i σ H' hi ⟨EB,HY,Dj,rfl,t1⟩
   have hgk:=af hi
   have got: ∀(j:Nat) (d:br),(wB l1 l2 pr[i])[j]? =some d-> ∃v,fw[4 * i + j]? =some v/\j8 UZ (fun _=>True) (cY TT 0 d).1 v:=fun j d hj=>by
    have h1:=yX hgk j d hj
    exact bI Zf (by rw[aB,h1]; rfl)
   generalize pr[i]=y at got
   obtain⟨aH,day⟩:=y
   obtain⟨v0,g0,D0,m0,rfl,_,z0,p0⟩:=got 0 _ rfl
   have p0:iF UZ (TT.bk.fu true aH day) m0:=p0
   have VQ:=aL p0
   have Uw:(TT.bk.fu true aH day).length<=TT.bk.aI.length:=yH (S:=TT.bk) (aR:=true)
   have hlb:=wf.lb
   have z0':=t1 _ _ z0
   refine⟨_,rfl,_,rfl,pf,_,_,.ref D0,rfl,rfl,bA.of (t1 _ _ NR),(by rw[show 4 * ((i:Nat):Int)=((4 * i + 0:Nat):Int) by lia]; exact cy g0),D0,rfl,⟨_,bA.of z0'⟩,?_⟩
   refine dO (K:=K) (a:=D0) (xs:=m0) (fun D j σ V3=>H' D=none/\ ∃v,σ=[v]/\aD H' V3/\V3 D=some (.lst ((((TT.bk.fu true aH day).take j).map (·.2)).map V.int))) (fun D hD=>⟨hD,none,rfl,aD.new hD,ag⟩) (fun D j σ V3 _ ⟨_,_,_,t3,_⟩=>bA.of (t3 _ _ z0')) ?_ ?_
   ·rintro D j x σ V3 hx ⟨hD,v,rfl,t3,gi⟩
    have hj:j < (TT.bk.fu true aH day).length:=by have:=(ak.mp hx).1; lia
    obtain⟨v2,Vs,q,rfl,hq⟩:=bI p0 (af hj)
    rw[hx] at Vs
    obtain rfl:x= .ref q:=aF Vs
    have lT:=jt hj
    generalize (TT.bk.fu true aH day)[j]=y at hq lT
    refine⟨_,rfl,q,_,_,.int y.2,rfl,rfl,cg.of (t3 _ _ (t1 _ _ hq)),rfl,_,gi,a9 (by rw[ae,ae,bf]; lia),hD,_,rfl,t3.cI hD,?_⟩
    rw[ag,lT,aK,aK]
    rfl
   rintro Ds σ HD nDs ⟨_,vD,rfl,tD,U2⟩
   rw[← VQ,a7] at U2
   refine⟨Ds,_,rfl,bA.of U2,?_⟩
   have t2:=t1.trans tD
   have QZ: ∀j:Nat,j < 3-> ∃(D:Addr) (ls:List Int),fw[4 * i + (1 + j)]? =some (.ref D)/\UZ D=some (.lst (ls.map V.int))/\ls.sum=((TT.bk.fu true aH day).map (·.2)).sum:=fun j hj=>by
    obtain rfl|rfl|rfl:j=0∨j=1∨j=2:=by lia
    ·obtain⟨v,g1,D,rfl,_,zD⟩:=got 1 _ rfl
     exact⟨D,_,g1,zD,wA _ _ _ _⟩
    ·obtain⟨v,g1,D,rfl,_,zD⟩:=got 2 _ rfl
     exact⟨D,_,g1,zD,wA _ _ _ _⟩
    ·obtain⟨v,g1,D,rfl,_,zD⟩:=got 3 _ rfl
     exact⟨D,_,g1,zD,wA _ _ _ _⟩
   generalize ((TT.bk.fu true aH day).map (·.2)).sum=total at QZ
   refine⟨1,4,rfl,⟨by decide,by decide,by decide,by decide⟩,?_⟩
   refine iW (lo:=1) (n:=3) (fun j σ sh=> ∃(Dj:Option V),σ=[some (.ref a),some (.ref pc),some (.ref pa),some (.ref sd),some (.int f0),some (.ref pl),some (.ref pm),some (.ref pD),x8,x9,xO,some (.ref pf),some (.int (4 * (i:Int))),some (.int total),Dj]/\aD UZ sh) ⟨_,rfl,t2⟩ ?_ ?_
   ·rintro j σ sh hj ⟨Zg,rfl,t4⟩
    obtain⟨D,ls,g1,zD,Zh⟩:=QZ j hj
    refine⟨_,rfl,_,rfl,_,rfl,_,_,rfl,rfl,pf,_,_,.ref D,rfl,rfl,bA.of (t4 _ _ NR),(by rw[show 4 * ((i:Nat):Int) + (1 + (j:Int))=((4 * i + (1 + j):Nat):Int) by lia]; exact cy g1),D,ls,rfl,bA.of (t4 _ _ zD),_,rfl,rfl,_,rfl,cm (fun z=>?_) (fun _=>⟨_,rfl,t4⟩)⟩
    exfalso
    rw[Bool.not_eq_true',decide_eq_false_iff_not] at z
    exact z (cL V.int Zh)
   ·rintro σ sh ⟨Zg,rfl,t4⟩
    exact⟨_,_,_,rfl,t4⟩
  ·rintro σ H' ⟨EB,HY,Dj,rfl,_⟩
   exact k H'
section
variable {h:Heap}{x q:Str}{st:Stmt}{f C R:Addr}{oc kV dc pm cd ct:Value}{od an:Option Addr}{sl:Array (Option Value)}
abbrev NS (K:Frag)(f:Addr)(x q:Str)(st:Stmt)(oc:Value)(od an:Option Addr)(kV dc pm cd ct:Value)(sl:Array (Option Value)):Prop:=K.lookup f=some ⟨oc,od,.func (fnOf x q (gH st) (dB st) (ay st) .none kV dc pm an cd ct),sl⟩
theorem cK (X:K.In h)(G:h.Ns mainGlobals mg)(a:nsIn K mainGlobals x=some (some (.ref f)))(l:NS K f x x st oc od an kV dc pm cd ct sl)(c:codeIn K cd x=true)(k:keepIn K (.ref f)=true):Df K mg x st:=⟨_,_,pL l c k,df X G a⟩
theorem lQ (a:findIn K (.ref C) x=some (some (.ref f)))(i:PySem.W.isFn K (.ref f)=true)(l:NS K f x q st oc od an kV dc pm cd ct sl)(c:codeIn K cd q=true)(k:keepIn K (.ref f)=true): ∃f fd,gp K x q st f fd/\Meth K C x f:=⟨_,_,pL l c k,a,i,k⟩
theorem FZ (a:findIn K (.ref C) "__init__"=some (some (.ref f)))(i:PySem.W.isFn K (.ref f)=true)(l:NS K f "__init__" q st oc od an kV dc pm cd ct sl)(c:codeIn K cd q=true)(k:keepIn K (.ref f)=true)(m:makesIn K C=true)(kc:keepIn K (.ref C)=true): ∃f fd,gp K "__init__" q st f fd/\Mk K C f:=⟨_,_,pL l c k,m,a,i,kc⟩
theorem tO (a:findIn K (.ref C) "__init__"=some (some (.ref f)))(t:typeIn K (.ref f)=some (.type "function"))(l:NS K f "__init__" q st oc od an kV dc pm cd ct sl)(c:codeIn K cd q=true)(k:keepIn K (.ref f)=true): ∃f fd,gp K "__init__" q st f fd/\findIn K (.ref C) "__init__"=some (some (.ref f))/\typeIn K (.ref f)=some (.type "function"):=⟨_,_,pL l c k,a,t⟩
theorem Qz (r:readsIn K C (.type "type")=true)(s:specialIn K (.ref C) "__getattribute__"=some (some (.builtin "type.__getattribute__")))(a:findCls K (.ref C) (.type "type") "__init__"=some (.val (.ref f)))(l:NS K f "__init__" q st oc od an kV dc pm cd ct sl)(c:codeIn K cd q=true)(k:keepIn K (.ref f)=true): ∃f fd,gp K "__init__" q st f fd/\Fl K C f:=⟨_,_,pL l c k,r,s,a,k⟩
theorem tP {nm:Str}{N:Addr}{bs:List Value}{sn:List Str}{sub:List Value}{ab:Bool}{col:Option Bool}{dd:Option Addr}{k0 k1 k2 k3 k5:Option Value}(o:K.lookup C=some (excClassObj nm q C N bs [.ref R,.type "Exception",.type "BaseException",.type "object"] true sn sub ab col dd k0 k1 k2 k3 k5 "Exception.__new__"))
  (a:findIn K (.ref C) "__setattr__"=some (some (.builtin "object.__setattr__"))) (b:findIn K (.ref C) "__getattribute__"=some (some (.builtin "BaseException.__getattribute__"))) (c:findIn K (.ref C) "__getattr__"=some none) (d:findIn K (.ref C) "text"=some none):gU K C R:=⟨⟨_,_,_,_,_,_,_,_,_,_,_,_,_,_,_,o,.inr rfl⟩,a,b,c,d⟩
theorem QA {nm:Str}{N:Addr}{bs:List Value}{sn:List Str}{sub:List Value}{ab:Bool}{col:Option Bool}{dd:Option Addr}{k0 k1 k2 k3 k5:Option Value}(o:K.lookup C=some (excClassObj nm q C N bs [.type "Exception",.type "BaseException",.type "object"] true sn sub ab col dd k0 k1 k2 k3 k5 "Exception.__new__"))
  (a:findIn K (.ref C) "__setattr__"=some (some (.builtin "object.__setattr__"))) (b:findIn K (.ref C) "__getattribute__"=some (some (.builtin "BaseException.__getattribute__"))) (c:findIn K (.ref C) "__getattr__"=some none) (d:findIn K (.ref C) "text"=some none):gU K C C:=⟨⟨_,_,_,_,_,_,_,_,_,_,_,_,_,_,_,o,.inl ⟨rfl,rfl⟩⟩,a,b,c,d⟩
theorem NT {c tb:Addr}(X:K.In h)(G:h.Ns mainGlobals mg)(a:nsIn K mainGlobals x=some (some (.ref f)))(l:NS K f x x st oc od an kV dc pm (.ref c) ct sl)(cd:codeIn K (.ref c) x=true)(k:keepIn K (.ref f)=true)(hd:codeHdIn K c tb=true)(n:K.lookup tb=none):qr K mg x st tb/\ ∃c,codeHdIn K c tb=true/\K.lookup tb=none:=⟨⟨f,c,oc,od,kV,dc,pm,an,ct,sl,l,cd,k,df X G a,hd⟩,c,hd,n⟩
end
end
theorem QB {K:Frag}{mg:Str->Option Value}{mx iG fV my eB ke oa jk kg kh lR jl og:Addr}(h1:mg "Refusal"=some (.ref eB))(h2:gU K eB eB)(h3:keepIn K (.ref eB)=true)(h4: ∃f fd,gp K "__init__" "Refusal.__init__" (mem 3 0) f fd/\Fl K eB f)(h5:mg "NoCredit"=some (.ref ke))(h6:gU K ke eB)(h7:keepIn K (.ref ke)=true)(h8: ∃f fd,gp K "__init__" "NoCredit.__init__" (mem 4 0) f fd/\findIn K (.ref ke) "__init__"=some (some (.ref f))/\typeIn K (.ref f)=some (.type "function"))(h9:mg "NoBill"=some (.ref oa))(K3:gU K oa eB)(Xb:keepIn K (.ref oa)=true)(QK: ∃f fd,gp K "__init__" "NoBill.__init__" (mem 5 0) f fd/\findIn K (.ref oa) "__init__"=some (some (.ref f))/\typeIn K (.ref f)=some (.type "function"))(h13:mg "NotTheirs"=some (.ref jk))(h14:gU K jk eB)(WN:keepIn K (.ref jk)=true)(h16: ∃f fd,gp K "__init__" "NotTheirs.__init__" (mem 6 0) f fd/\findIn K (.ref jk) "__init__"=some (some (.ref f))/\typeIn K (.ref f)=some (.type "function"))(h17:mg "NoAmount"=some (.ref kg))(h18:gU K kg eB)(h19:keepIn K (.ref kg)=true)(h20: ∃f fd,gp K "__init__" "NoAmount.__init__" (mem 7 0) f fd/\findIn K (.ref kg) "__init__"=some (some (.ref f))/\typeIn K (.ref f)=some (.type "function"))(h21:mg "TooEarly"=some (.ref kh))(h22:gU K kh eB)(h23:keepIn K (.ref kh)=true)(XG: ∃f fd,gp K "__init__" "TooEarly.__init__" (mem 8 0) f fd/\findIn K (.ref kh) "__init__"=some (some (.ref f))/\typeIn K (.ref f)=some (.type "function"))(h25:mg "TooMuch"=some (.ref lR))(h26:gU K lR eB)(h27:keepIn K (.ref lR)=true)(h28: ∃f fd,gp K "__init__" "TooMuch.__init__" (mem 9 0) f fd/\findIn K (.ref lR) "__init__"=some (some (.ref f))/\typeIn K (.ref f)=some (.type "function"))(h29:mg "NoSetting"=some (.ref jl))(h30:gU K jl eB)(h31:keepIn K (.ref jl)=true)(h32: ∃f fd,gp K "__init__" "NoSetting.__init__" (mem 10 0) f fd/\findIn K (.ref jl) "__init__"=some (some (.ref f))/\typeIn K (.ref f)=some (.type "function"))(h33:mg "Needed"=some (.ref og))(XH:gU K og eB)(h35:keepIn K (.ref og)=true)(h36: ∃f fd,gp K "__init__" "Needed.__init__" (mem 11 0) f fd/\findIn K (.ref og) "__init__"=some (some (.ref f))/\typeIn K (.ref f)=some (.type "function"))(h37:mg "Bill"=some (.ref mx))(h38:wO K mx)(h39:b0 K mx "number")(h40:b0 K mx "who")(h41:b0 K mx "day")(h42:b0 K mx "due")(h43:b0 K mx "amount")(h44: ∃f fd,gp K "__init__" "Bill.__init__" (mem 13 0) f fd/\Mk K mx f)(h45:mg "Credit"=some (.ref iG))(h46:wO K iG)(h47:b0 K iG "number")(h48:b0 K iG "who")(h49:b0 K iG "day")(h50:b0 K iG "amount")(h51:b0 K iG "only")(h52: ∃f fd,gp K "__init__" "Credit.__init__" (mem 14 0) f fd/\Mk K iG f)(h53:mg "Work"=some (.ref fV))(XI:wO K fV)(h55:b0 K fV "bills")(h56:b0 K fV "all_credits")(h57:b0 K fV "lefts")(h58:b0 K fV "frees")(h59:b0 K fV "made")(h60: ∃f fd,gp K "__init__" "Work.__init__" (mem 25 0) f fd/\Mk K fV f)(h61: ∃f fd,gp K "tell_bill" "Work.tell_bill" (mem 25 1) f fd/\Meth K fV "tell_bill" f)(h62: ∃f fd,gp K "tell_payment" "Work.tell_payment" (mem 25 2) f fd/\Meth K fV "tell_payment" f)(h63: ∃f fd,gp K "tell_note" "Work.tell_note" (mem 25 3) f fd/\Meth K fV "tell_note" f)(Dc: ∃f fd,gp K "tell_credit" "Work.tell_credit" (mem 25 4) f fd/\Meth K fV "tell_credit" f)(h65: ∃f fd,gp K "set_by_hand" "Work.set_by_hand" (mem 25 5) f fd/\Meth K fV "set_by_hand" f)(h66: ∃f fd,gp K "sweep" "Work.sweep" (mem 25 6) f fd/\Meth K fV "sweep" f)(h67: ∃f fd,gp K "one_round" "Work.one_round" (mem 25 7) f fd/\Meth K fV "one_round" f)(h68: ∃f fd,gp K "put" "Work.put" (mem 25 8) f fd/\Meth K fV "put" f)(h69: ∃f fd,gp K "credit_at" "Work.credit_at" (mem 25 9) f fd/\Meth K fV "credit_at" f)(h70: ∃f fd,gp K "bill_at" "Work.bill_at" (mem 25 10) f fd/\Meth K fV "bill_at" f)(h71:mg "Book"=some (.ref my))(h72:wO K my)(h73:b0 K my "kept")(h74:b0 K my "work")(h75: ∃f fd,gp K "__init__" "Book.__init__" (mem 29 0) f fd/\Mk K my f)(h76: ∃f fd,gp K "do" "Book.do" (mem 29 1) f fd/\Meth K my "do" f)(h77: ∃f fd,gp K "undo" "Book.undo" (mem 29 2) f fd/\Meth K my "undo" f)(h78: ∃f fd,gp K "in_force" "Book.in_force" (mem 29 3) f fd/\Meth K my "in_force" f):jB K mg ⟨mx,iG,fV,my,eB,ke,oa,jk,kg,kh,lR,jl,og⟩:=⟨h1,h2,h3,h4,h5,h6,h7,h8,h9,K3,Xb,QK,h13,h14,WN,h16,h17,h18,h19,h20,h21,h22,h23,XG,h25,h26,h27,h28,h29,h30,h31,h32,h33,XH,h35,h36,h37,h38,h39,h40,h41,h42,h43,h44,h45,h46,h47,h48,h49,h50,h51,h52,h53,XI,h55,h56,h57,h58,h59,h60,h61,h62,h63,Dc,h65,h66,h67,h68,h69,h70,h71,h72,h73,h74,h75,h76,h77,h78⟩
theorem all_mk {l:PySem.W.OpenLaw}{w:World}{K:Frag}{h:Heap}{mg:Str->Option Value}{f fa:Addr}{oc kV dc pm cd ct:Value}{od an:Option Addr}{sl:Array (Option Value)}(X:K.In h)(G:h.Ns mainGlobals mg)(hfa:mg "law"=some (.ref fa)){A:dY}(GP:jB K mg A)(hnd:A.iZ≠A.tooMuch)(T:Txt K mg)(DB:qr K mg "bills_in_order" (top 17) 249/\ ∃c,codeHdIn K c 249=true/\K.lookup 249=none)(DC:qr K mg "credits_in_order" (top 18) 254/\ ∃c,codeHdIn K c 254=true/\K.lookup 254=none)(a:nsIn K mainGlobals "law"=some (some (.ref f)))(lk:NS K f "law" "law" (top 68) oc od an kV dc pm cd ct sl)(c:codeIn K cd "law"=true)(k:keepIn K (.ref f)=true):
  ∃(fd:FuncData) (cps:List (Addr×Addr)),(∀cp∈cps,cp.2∈[254,249])/\(∀cp∈cps,codeHdIn K cp.1 cp.2=true/\K.lookup cp.2=none)/\(∀(s:Shared) (u:Value),BindsTo s fd ⟨[u],[]⟩ [("_law_script",u)])/\
   ∀base:Heap,K.In base->base.Ns mainGlobals mg->BMain mg base->l0 l.prog w K mg base sf 13 fa fd ["_law_script"] (KJ K cps):=by
 have e:=hfa.symm.trans (df X G a)
 cases e
 obtain⟨DB,cb,b1,b2⟩:=DB
 obtain⟨DC,cc,c1,c2⟩:=DC
 refine⟨_,[(cb,249),(cc,254)],fun cp hc=>?_,fun cp hc=>?_,fun s v=> .of_eq rfl,fun base KB _ BM=>Qn (pL (st:=top 68) lk c k) T GP DB DC (by decide) hnd KB BM ⟨cb,by simp⟩ ⟨cc,by simp⟩⟩
 ·simp only[List.mem_cons,List.not_mem_nil,or_false] at hc
  rcases hc with rfl|rfl <;> simp
 ·simp only[List.mem_cons,List.not_mem_nil,or_false] at hc
  rcases hc with rfl|rfl
  ·exact⟨b1,b2⟩
  ·exact⟨c1,c2⟩
end eG
open PySem PySem.W PyProof.Rows L2
set_option maxRecDepth 100000 in
set_option maxHeartbeats 0 in
theorem PySem.Challenge.cw_spikebook_k09_ages_holds : PySem.Challenge.rw_spikebook_k09_ages.Holds := by
 w_on; o_law; k_head; (case hw=>w_witness2)
 k_fill
 refine L2.JE (n:=63) (k:=13) (ts:=[254,249]) (x:="_law_script") (sp:=fun K cps=>eG.KJ K cps) rfl (by decide) rfl ⟨rfl,by decide,by decide⟩ (fun w h Y=>⟨PySem.W.km_in_of Y,PySem.W.km_tabs_of Y⟩) ?F (fun _ cps _ a ns hl hO hS=>⟨a,ns,rfl,hS,hl,hO,fun _=>rfl⟩)
 case F=>
  intro w mg fa h KX G R8
  refine' eG.all_mk KX G R8 (eG.QB (df KX G ?q1) (eG.QA ?q2 ?q3 ?q4 ?q5 ?q6) ?q7 (eG.Qz ?q8 ?q9 ?q10 ?q11 ?q12 ?q13) (df KX G ?q14) (eG.tP ?q15 ?q16 ?q17 ?q18 ?q19) ?q20 (eG.tO ?q21 ?q22 ?q23 ?q24 ?q25) (df KX G ?q26) (eG.tP ?q27 ?q28 ?q29 ?q30 ?q31) ?q32 (eG.tO ?q33 ?q34 ?q35 ?q36 ?q37) (df KX G ?q38) (eG.tP ?q39 ?q40 ?q41 ?q42 ?q43) ?q44 (eG.tO ?q45 ?q46 ?q47 ?q48 ?q49) (df KX G ?q50) (eG.tP ?q51 ?q52 ?q53 ?q54 ?q55) ?q56 (eG.tO ?q57 ?q58 ?q59 ?q60 ?q61) (df KX G ?q62) (eG.tP ?q63 ?q64 ?q65 ?q66 ?q67) ?q68 (eG.tO ?q69 ?q70 ?q71 ?q72 ?q73) (df KX G ?q74) (eG.tP ?q75 ?q76 ?q77 ?q78 ?q79) ?q80 (eG.tO ?q81 ?q82 ?q83 ?q84 ?q85) (df KX G ?q86) (eG.tP ?q87 ?q88 ?q89 ?q90 ?q91) ?q92 (eG.tO ?q93 ?q94 ?q95 ?q96 ?q97) (df KX G ?q98) (eG.tP ?q99 ?q100 ?q101 ?q102 ?q103) ?q104 (eG.tO ?q105 ?q106 ?q107 ?q108 ?q109) (df KX G ?q110) ⟨?q111,?q112,?q113,?q114⟩ ?q115 ?q116 ?q117 ?q118 ?q119 (eG.FZ ?q120 ?q121 ?q122 ?q123 ?q124 ?q125 ?q126) (df KX G ?q127) ⟨?q128,?q129,?q130,?q131⟩ ?q132 ?q133 ?q134 ?q135 ?q136 (eG.FZ ?q137 ?q138 ?q139 ?q140 ?q141 ?q142 ?q143) (df KX G ?q144) ⟨?q145,?q146,?q147,?q148⟩ ?q149 ?q150 ?q151 ?q152 ?q153 (eG.FZ ?q154 ?q155 ?q156 ?q157 ?q158 ?q159 ?q160) (eG.lQ ?q161 ?q162 ?q163 ?q164 ?q165) (eG.lQ ?q166 ?q167 ?q168 ?q169 ?q170) (eG.lQ ?q171 ?q172 ?q173 ?q174 ?q175) (eG.lQ ?q176 ?q177 ?q178 ?q179 ?q180) (eG.lQ ?q181 ?q182 ?q183 ?q184 ?q185) (eG.lQ ?q186 ?q187 ?q188 ?q189 ?q190) (eG.lQ ?q191 ?q192 ?q193 ?q194 ?q195) (eG.lQ ?q196 ?q197 ?q198 ?q199 ?q200) (eG.lQ ?q201 ?q202 ?q203 ?q204 ?q205) (eG.lQ ?q206 ?q207 ?q208 ?q209 ?q210) (df KX G ?q211) ⟨?q212,?q213,?q214,?q215⟩ ?q216 ?q217 (eG.FZ ?q218 ?q219 ?q220 ?q221 ?q222 ?q223 ?q224) (eG.lQ ?q225 ?q226 ?q227 ?q228 ?q229) (eG.lQ ?q230 ?q231 ?q232 ?q233 ?q234) (eG.lQ ?q235 ?q236 ?q237 ?q238 ?q239)) ?hnd ⟨eG.cK KX G ?q240 ?q241 ?q242 ?q243,eG.cK KX G ?q244 ?q245 ?q246 ?q247,eG.cK KX G ?q248 ?q249 ?q250 ?q251,eG.cK KX G ?q252 ?q253 ?q254 ?q255,eG.cK KX G ?q256 ?q257 ?q258 ?q259,eG.cK KX G ?q260 ?q261 ?q262 ?q263,eG.cK KX G ?q264 ?q265 ?q266 ?q267,eG.cK KX G ?q268 ?q269 ?q270 ?q271,eG.cK KX G ?q272 ?q273 ?q274 ?q275,eG.cK KX G ?q276 ?q277 ?q278 ?q279,eG.cK KX G ?q280 ?q281 ?q282 ?q283,eG.cK KX G ?q284 ?q285 ?q286 ?q287,eG.cK KX G ?q288 ?q289 ?q290 ?q291,eG.cK KX G ?q292 ?q293 ?q294 ?q295,eG.cK KX G ?q296 ?q297 ?q298 ?q299,eG.cK KX G ?q300 ?q301 ?q302 ?q303,eG.cK KX G ?q304 ?q305 ?q306 ?q307,eG.cK KX G ?q308 ?q309 ?q310 ?q311,eG.cK KX G ?q312 ?q313 ?q314 ?q315,eG.cK KX G ?q316 ?q317 ?q318 ?q319,eG.cK KX G ?q320 ?q321 ?q322 ?q323,eG.cK KX G ?q324 ?q325 ?q326 ?q327,eG.cK KX G ?q328 ?q329 ?q330 ?q331,eG.cK KX G ?q332 ?q333 ?q334 ?q335,eG.cK KX G ?q336 ?q337 ?q338 ?q339,eG.cK KX G ?q340 ?q341 ?q342 ?q343,eG.cK KX G ?q344 ?q345 ?q346 ?q347,eG.cK KX G ?q348 ?q349 ?q350 ?q351,eG.cK KX G ?q352 ?q353 ?q354 ?q355,eG.cK KX G ?q356 ?q357 ?q358 ?q359,eG.cK KX G ?q360 ?q361 ?q362 ?q363,eG.cK KX G ?q364 ?q365 ?q366 ?q367,eG.cK KX G ?q368 ?q369 ?q370 ?q371,eG.cK KX G ?q372 ?q373 ?q374 ?q375,eG.cK KX G ?q376 ?q377 ?q378 ?q379,eG.cK KX G ?q380 ?q381 ?q382 ?q383,eG.cK KX G ?q384 ?q385 ?q386 ?q387,eG.cK KX G ?q388 ?q389 ?q390 ?q391,eG.cK KX G ?q392 ?q393 ?q394 ?q395,eG.cK KX G ?q396 ?q397 ?q398 ?q399,eG.cK KX G ?q400 ?q401 ?q402 ?q403,eG.cK KX G ?q404 ?q405 ?q406 ?q407,eG.cK KX G ?q408 ?q409 ?q410 ?q411,eG.cK KX G ?q412 ?q413 ?q414 ?q415,eG.cK KX G ?q416 ?q417 ?q418 ?q419,eG.cK KX G ?q420 ?q421 ?q422 ?q423,eG.cK KX G ?q424 ?q425 ?q426 ?q427,eG.cK KX G ?q428 ?q429 ?q430 ?q431,bV KX G ?q432,bV KX G ?q433,bV KX G ?q434,bV KX G ?q435,bV KX G ?q436,bV KX G ?q437,bV KX G ?q438,bV KX G ?q439,bV KX G ?q440,bV KX G ?q441,bV KX G ?q442,bV KX G ?q443,bV KX G ?q444,bV KX G ?q445,bV KX G ?q446⟩ (eG.NT KX G ?q447 ?q448 ?q449 ?q450 ?u1 ?u2) (eG.NT KX G ?q451 ?q452 ?q453 ?q454 ?u3 ?u4) ?q455 ?q456 ?q457 ?q458
  case q1|q2|q3|q4|q5|q6|q7|q8|q9|q10|q11|q12|q13|q14|q15|q16|q17|q18|q19|q20|q21|q22|q23|q24|q25|q26|q27|q28|q29|q30|q31|q32|q33|q34|q35|q36|q37|q38|q39|q40|q41|q42|q43|q44|q45|q46|q47|q48|q49|q50|q51|q52|q53|q54|q55|q56|q57|q58|q59|q60|q61|q62|q63|q64|q65|q66|q67|q68|q69|q70|q71|q72|q73|q74|q75|q76|q77|q78|q79|q80|q81|q82|q83|q84|q85|q86|q87|q88|q89|q90|q91|q92|q93|q94|q95|q96|q97|q98|q99|q100|q101|q102|q103|q104|q105|q106|q107|q108|q109|q110|q111|q112|q113|q114|q115|q116|q117|q118|q119|q120|q121|q122|q123|q124|q125|q126|q127|q128|q129|q130|q131|q132|q133|q134|q135|q136|q137|q138|q139|q140|q141|q142|q143|q144|q145|q146|q147|q148|q149|q150|q151|q152|q153|q154|q155|q156|q157|q158|q159|q160|q161|q162|q163|q164|q165|q166|q167|q168|q169|q170|q171|q172|q173|q174|q175|q176|q177|q178|q179|q180|q181|q182|q183|q184|q185|q186|q187|q188|q189|q190|q191|q192|q193|q194|q195|q196|q197|q198|q199|q200|q201|q202|q203|q204|q205|q206|q207|q208|q209|q210|q211|q212|q213|q214|q215|q216|q217|q218|q219|q220|q221|q222|q223|q224|q225|q226|q227|q228|q229|q230|q231|q232|q233|q234|q235|q236|q237|q238|q239|q240|q241|q242|q243|q244|q245|q246|q247|q248|q249|q250|q251|q252|q253|q254|q255|q256|q257|q258|q259|q260|q261|q262|q263|q264|q265|q266|q267|q268|q269|q270|q271|q272|q273|q274|q275|q276|q277|q278|q279|q280|q281|q282|q283|q284|q285|q286|q287|q288|q289|q290|q291|q292|q293|q294|q295|q296|q297|q298|q299|q300|q301|q302|q303|q304|q305|q306|q307|q308|q309|q310|q311|q312|q313|q314|q315|q316|q317|q318|q319|q320|q321|q322|q323|q324|q325|q326|q327|q328|q329|q330|q331|q332|q333|q334|q335|q336|q337|q338|q339|q340|q341|q342|q343|q344|q345|q346|q347|q348|q349|q350|q351|q352|q353|q354|q355|q356|q357|q358|q359|q360|q361|q362|q363|q364|q365|q366|q367|q368|q369|q370|q371|q372|q373|q374|q375|q376|q377|q378|q379|q380|q381|q382|q383|q384|q385|q386|q387|q388|q389|q390|q391|q392|q393|q394|q395|q396|q397|q398|q399|q400|q401|q402|q403|q404|q405|q406|q407|q408|q409|q410|q411|q412|q413|q414|q415|q416|q417|q418|q419|q420|q421|q422|q423|q424|q425|q426|q427|q428|q429|q430|q431|q432|q433|q434|q435|q436|q437|q438|q439|q440|q441|q442|q443|q444|q445|q446|q447|q448|q449|q450|q451|q452|q453|q454|q455|q456|q457|q458=>((try unfold eG.NS); (try unfold L2.b0); k_is)
  (case hnd=>decide)
  (case u1=>kernel_rfl)
  (case u2=>kernel_rfl)
  (case u3=>kernel_rfl)
  (case u4=>kernel_rfl)
