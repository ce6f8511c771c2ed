import PyProof.Rows.All
import Wide.All
import OpenK.AllK
import Wide.FinOn
import Lean
import PyProof.EqAt
import PyProof.EqKinds
import PyProof.TupleCall
import PySem.Str
import PyProof.StationsW
import PyProof.PassesOwn
import PyProof.RulesAs
import PyProof.ExcClass2
import PyProof.InstStore
import PyProof.ExcArgs
import PyProof.ExcClass
import PyProof.InstStoreFacts
import PyProof.ExcBaseAll.Exception
import PyProof.ExcAttrAll.Exception
import PyProof.DictValues
import PyProof.DictWalks
import PyProof.MinMaxWalk
import PyProof.SeqI3
import PyProof.WalkInts
import PyProof.Walks
import PySem.Challenge.RW_spikebook_k06_whole_never_twice
set_option Elab.async false
set_option linter.all false
set_option maxRecDepth 100000
set_option maxHeartbeats 4000000
def ae:=@List.length_map
def af:=@List.getElem?_eq_getElem
def ai:=@List.getD_eq_getElem?_getD
def ao:=@List.mem_singleton
def au:=@List.getElem?_eq_some_iff
def aw:=@List.mem_cons
def ax:=@PySem.Heap.get?_push_of_some
def aA:=@PySem.wpAny_bind
def aB:=@Nat.le_refl
def aD:=@List.getElem?_map
def aE:=@Option.some.inj
def aF:=@List.length_append
def aH:=@PySem.F.slot_list_append
def aI:=@PySem.F.type_list_append
def aJ:=@PySem.F.plainAttrs_list
def aK:=@PySem.Heap.lt_size
def aM:=@decide_eq_true
def aO:=@if_neg
def aQ:=@List.map_append
def aU:=@List.mem_cons_of_mem
def aW:=@PySem.Paired.length
def aX:=@Nat.ne_of_lt
def aY:=@Bool.false_ne_true
def aZ:=@of_decide_eq_true
def a0:=@Nat.le_trans
def a6:=@List.length_filter_le
def a7:=@if_pos
def bb:=@List.take_length
def bf:=@Nat.lt_of_lt_of_le
def bg:=@List.mem_append
def br:=@List.size_toArray
def bu:=@PySem.boot_len
def bw:=@List.mem_cons_self
def bz:=@List.length_take
def bA:=@List.mem_append_right
def bB:=@Nat.zero_le
def bC:=@PySem.wpAny_loadPart_at
def bG:=@PySem.wpAny_pure
def bH:=@Option.map_eq_some_iff
def bI:=@decide_eq_false
def bJ:=@List.getElem_mem
def bK:=@List.mem_map
def bN:=@PySem.Heap.get?_push_size
def bT:=@PySem.PassesOwn.never
def b0:=@PySem.W.mg_none_of
def cf:=@List.length_cons
def cu:=@List.append_nil
def cv:=@PySem.mem_of_lookup
def cw:=@PySem.wpAny_mono
def cA:=@Int.eq_ofNat_of_zero_le
def cL:=@PySem.Paired.snoc
def cM:=@List.filter_cons_of_pos
def cV:=@List.mem_range
def cW:=@PySem.wpAny_isSubtype_exc
def cY:=@List.mem_append_left
def cZ:=@Nat.le_succ
def c8:=@congrArg
def c9:=@List.map_cons
def de:=@PySem.W.mg_of
def dk:=@Nat.le_of_lt
def dm:=@List.replicate_succ
def dv:=@List.length_range
def dI:=@List.length_set
def dJ:=@List.foldl_cons
def dS:=@PySem.wpAny_passesOwn
def ee:=@PySem.W.kia_one
def eh:=@List.nodup_cons
def ej:=@PySem.W.kia_tup
def eF:=@PySem.wpAny_Call_Name_kw
def eI:=@Int.toNat_natCast
def eJ:=@Int.le_refl
def eK:=@List.map_congr_left
def eR:=@PyProof.Rows.boot_isinstance
def eU:=@PySem.sizeLine_eq
def fb:=@List.pairwise_cons
def fh:=@Nat.lt_succ_self
def fF:=@List.map_map
def fO:=@List.mem_filter
def fP:=@Nat.not_lt_zero
def fV:=@PySem.wpAny_truthy_bool
def gf:=@List.filter_append
def gA:=@List.mem_of_getElem?
def gE:=@List.append_assoc
def gF:=@Nat.lt_succ_of_lt
def gQ:=@beq_eq_false_iff_ne
def iq:=@PySem.wpAny_holding
def ir:=@PySem.wpAny_standAt
def iK:=@Nat.le_of_eq
def iL:=@List.length_replicate
def iP:=@Nat.lt_irrefl
def iQ:=@PySem.Calls.callWith_builtin
def iR:=@List.flatten_cons
def jm:=@PySem.wpAny_execs_nil
def kg:=@PySem.Heap.size_push
def kh:=@PySem.W.callWith_K
def kj:=@List.filter_cons_of_neg
def km:=@Int.emod_nonneg
def kX:=@List.getElem?_set_self
def kY:=@PySem.W.cellsFrom_some
def lJ:=@Int.le_trans
def lK:=@Int.zero_add
def l9:=@PyProof.Rows.take_snoc
def mm:=@List.length_drop
def mq:=@decide_eq_decide
def mw:=@List.getElem?_set_ne
def mx:=@PySem.Heap.get?_update_other
def my:=@PySem.Heap.get?_push_ne
def og:=@PyProof.Rows.callWith_type1
def oh:=@Bool.eq_iff_iff
def oj:=@List.of_mem_zip
def om:=@Option.map_some
def oo:=@Array.length_toList
def o4:=@List.getElem?_append_right
def o5:=@PySem.Heap.size_update
def pV:=@Nat.ne_of_gt
def pW:=@Nat.lt_of_le_of_lt
def pX:=@Int.emod_lt_of_pos
def qd:=@List.getElem?_eq_none_iff
def qe:=@Nat.mul_le_mul
def rg:=@List.any_eq_false
def rh:=@PySem.W.kitx_list
def rj:=@PySem.W.kitx_dict
def rm:=@List.pairwise_map
def rn:=@List.foldl_append
def rq:=@Nat.le_succ_of_le
def rz:=@PySem.Heap.SameBut.update
def rA:=@Array.size_setIfInBounds
def sT:=@PySem.wpAny_newFunctionEnv_cells
def sU:=@List.any_cons
def tE:=@PySem.tupleKind_room_in1
def tF:=@List.nodup_range
def vy:=@PyProof.Rows.listUpdate_at
def vz:=@Ne.symm
def vA:=@PySem.W.methodCall_KW
def vB:=@List.map_nil
def vC:=@Nat.succ_mul
def vD:=@List.length_nil
def vE:=@List.getElem?_eq_none
def vF:=@List.map_set
def vG:=@List.range_succ
def wV:=@Nat.not_lt
def xY:=@List.getElem?_of_mem
def zO:=@List.take_succ
def zV:=@PySem.W.plainGet_of
def zW:=@PySem.W.callWith_K0
def zX:=@List.toList_toArray
def Cd:=@PySem.codeAny_mono
def Ce:=@PySem.Heap.get?_update_self
def Cf:=@List.filter_filter
def Dz:=@PySem.wpAny_call
def EY:=@beq_iff_eq
def EZ:=@PySem.Calls.evalArgs_plain
def E1:=@Option.isSome_map
def E2:=@List.take_add_one
def E3:=@List.filter_congr
def E4:=@Classical.not_not
def E5:=@PySem.codeAny_call_builtin
def G7:=@Bool.and_eq_true
def G8:=@PySem.Heap.get?_update_ne
def G9:=@List.getElem_map
def Hb:=@PySem.wpAny_field
def J2:=@Array.getD_eq_getD_getElem?
def Ka:=@Array.Perm.refl
def Kb:=@PySem.wpAny_newList
def Kc:=@List.sum_append
def Kd:=@List.map_id
def Md:=@PyProof.Rows.get?_update_seq
def MU:=@Bool.false_and
def MV:=@PySem.wpAny_pyIter_list
def MW:=@PySem.plainObj_wpAny_Assign_Attribute
def MX:=@List.Perm.refl
def MY:=@List.mem_of_find?_eq_some
def MZ:=@List.getElem?_append_left
def M0:=@PySem.F.excBase_Exception
def M3:=@List.drop_eq_getElem_cons
def Pq:=@Option.isSome_iff_exists
def Pr:=@PySem.F.slot_dict_values
def PySem.W.Fast.tw14022299551594847706:=0
def PySem.W.Fast.tw13526198826891588169:=0
def PySem.W.Fast.tw4912031221451985621:=0
def PySem.W.Fast.tw4623946641587711138:=0
def PySem.W.Fast.tw16062588948585678331:=0
def PySem.W.Fast.tw6572256780918612580:=0
def PySem.W.Fast.tw17089873693262644167:=0
def PySem.W.Fast.tw11228977500097295471:=0
def PySem.W.Fast.tw3900433670688817468:=0
def PySem.W.Fast.tw213138828710993448:=0
def PySem.W.Fast.tw4330188353166818328:=0
def PySem.W.Fast.tw12063611194520655998:=0
def PySem.W.Fast.tw1080514255679656164:=0
def PySem.W.Fast.tw16253736511227037985:=0
def PySem.W.Fast.tw15628117625980976085:=0
def PySem.W.Fast.tw17395881676441019162:=0
def PySem.W.Fast.tw2397355953893640308:=0
def PySem.W.Fast.tw14635716856656099251:=0
def PySem.W.Fast.tw4114679242595707076:=0
def PySem.W.Fast.tw5370142945126779638:=0
def PySem.W.Fast.tw5051353824925386903:=0
def PySem.W.Fast.tw15597031534550946518:=0
def PySem.W.Fast.tw14551266158909479931:=0
def PySem.W.Fast.tw10383744284898921506:=0
def PySem.W.Fast.tw4957563955094549771:=0
def PySem.W.Fast.tw58964029712384315:=0
def PySem.W.Fast.tw3899648389700144313:=0
def PySem.W.Fast.tw18429945364523116284:=0
def PySem.W.Fast.tw11990771118460647842:=0
def PySem.W.Fast.tw3176775368749508667:=0
def PySem.W.Fast.tw12964137895620979075:=0
def PySem.W.Fast.tw3772913626439916267:=0
def PySem.W.Fast.tw6080779229583761446:=0
def PySem.W.Fast.tw5093814649780539161:=0
def PySem.W.Fast.tw14740550325877277760:=0
def PySem.W.Fast.tw9327676142865557528:=0
def PySem.W.Fast.tw10963088036708320954:=0
def PySem.W.Fast.tw530232142699999703:=0
def PySem.W.Fast.tw17470211785459359991:=0
def PySem.W.Fast.tw17180460444310765980:=0
def PySem.W.Fast.tw15624213547420937433:=0
def PySem.W.Fast.tw1164902392523242172:=0
def PySem.W.Fast.tw1625239327652559668:=0
def PySem.W.Fast.tw18241593786127951608:=0
def PySem.W.Fast.tw4180727499276533774:=0
def PySem.W.Fast.tw12061520423381617851:=0
def PySem.W.Fast.tw8947734936241091088:=0
def PySem.W.Fast.tw4942875931580521305:=0
def PySem.W.Fast.tw2159092700924229936:=0
def PySem.W.Fast.tw3806606381401095530:=0
def PySem.W.Fast.tw8255753064531430807:=0
def PySem.W.Fast.tw14587658928049202508:=0
def PySem.W.Fast.tw18359404277727230374:=0
def PySem.W.Fast.tw12042861229953849623:=0
def PySem.W.Fast.tw16080468168373537307:=0
def PySem.W.Fast.tw16580129473721561738:=0
def PySem.W.Fast.tw3442150933056267937:=0
def PySem.W.Fast.tw17037484536597719203:=0
def PySem.W.Fast.tw8049150779251538742:=0
def PySem.W.Fast.tw3965666026804550444:=0
def PySem.W.Fast.tw3504367925111945117:=0
def PySem.W.Fast.tw562142411522927622:=0
def PySem.W.Fast.tw13216821320684646571:=0
def PySem.W.Fast.tw12746755237541236523:=0
def PySem.W.Fast.tw4316131025938902606:=0
def PySem.W.Fast.tw7380419991382587951:=0
def PySem.W.Fast.tw7877809359300109669:=0
def PySem.W.Fast.tw6273986925917825731:=0
def PySem.W.Fast.tw17448666526593350624:=0
def PySem.W.Fast.tw1042737853096420425:=0
def PySem.W.Fast.tw7256965990786609148:=0
def PySem.W.Fast.tw9208478869363231091:=0
def PySem.W.Fast.tw1386312664144678524:=0
def PySem.W.Fast.tw3270201003815460191:=0
def PySem.W.Fast.tw8585657837461493655:=0
def PySem.W.Fast.tw14186730041126974482:=0
def PySem.W.Fast.tw12882683636445634039:=0
def PySem.W.Fast.tw17744029395400621735:=0
def PySem.W.Fast.tw15911337137939577919:=0
def PySem.W.Fast.tw17980551955842576331:=0
def PySem.W.Fast.tw15912256544308095381:=0
def PySem.W.Fast.tw15575875530672919749:=0
def PySem.W.Fast.tw5312275755393446752:=0
def PySem.W.Fast.tw350304087288924357:=0
def PySem.W.Fast.tw13223312883686859808:=0
def PySem.W.Fast.tw14930350033287922222:=0
def PySem.W.Fast.tw9604178359201924372:=0
def PySem.W.Fast.tw17403242621697026970:=0
def PySem.W.Fast.tw9149836188242420259:=0
def PySem.W.Fast.tw460119872775914121:=0
def PySem.W.Fast.tw14466837909230864584:=0
def PySem.W.Fast.tw7140228719544721580:=0
def PySem.W.Fast.tw2573249965294809915:=0
def PySem.W.Fast.tw5664947002924544367:=0
def PySem.W.Fast.tw2787066778574756558:=0
def PySem.W.Fast.tw949266960358259449:=0
def PySem.W.Fast.tw14677674387452936661:=0
def PySem.W.Fast.tw11100134961394480221:=0
def PySem.W.Fast.tw2053255401583273048:=0
def PySem.W.Fast.tw6142528130627338244:=0
def PySem.W.Fast.tw12653586956198871060:=0
def PySem.W.Fast.tw17556125523699456305:=0
def PySem.W.Fast.tw10441739798326663627:=0
def PySem.W.Fast.tw16199513169618367497:=0
def PySem.W.Fast.tw5579939405806017863:=0
def PySem.W.Fast.tw11810912249037907698:=0
def PySem.W.Fast.tw15072203842609481119:=0
def PySem.W.Fast.tw4481521627299555338:=0
def PySem.W.Fast.tw8489061925221159097:=0
def PySem.W.Fast.tw15082832694589358755:=0
def PySem.W.Fast.tw7575071280053058712:=0
def PySem.W.Fast.tw9263015737049644611:=0
def PySem.W.Fast.tw3395487409642116419:=0
def PySem.W.Fast.tw11265378075669955032:=0
def PySem.W.Fast.tw16276117062066737167:=0
def PySem.W.Fast.tw9406548516514970168:=0
def PySem.W.Fast.tw8840964173882196088:=0
def PySem.W.Fast.tw18146894079029790758:=0
def PySem.W.Fast.tw12997000942469095237:=0
def PySem.W.Fast.tw13719732004425588681:=0
def PySem.W.Fast.tw2451097591943367484:=0
def PySem.W.Fast.tw1541727375974594724:=0
def PySem.W.Fast.tw18301442463017682102:=0
def PySem.W.Fast.tw5248550479318512966:=0
def PySem.W.Fast.tw390365333655180350:=0
def PySem.W.Fast.tw81102872590649012:=0
def PySem.W.Fast.tw14561602910730247855:=0
def PySem.W.Fast.tw12285847693006835321:=0
def PySem.W.Fast.tw7353631925589711849:=0
def PySem.W.Fast.tw11643706962567908204:=0
def PySem.W.Fast.tw7944163416203648783:=0
def PySem.W.Fast.tw1876206932051985287:=0
def PySem.W.Fast.tw10209979037377098323:=0
def PySem.W.Fast.tw1326207246783621216:=0
def PySem.W.Fast.tw10198538047318363245:=0
def PySem.W.Fast.tw2717672439803108069:=0
def PySem.W.Fast.tw12563490922930285790:=0
def PySem.W.Fast.tw15193914097439142426:=0
def PySem.W.Fast.tw6018501585638934203:=0
def PySem.W.Fast.tw5341392997683059135:=0
def PySem.W.Fast.tw16434210699608508994:=0
def PySem.W.Fast.tw14524768183075652813:=0
def PySem.W.Fast.tw9013377710980678173:=0
def PySem.W.Fast.tw5293810388046257652:=0
def PySem.W.Fast.tw6579522453197436635:=0
def PySem.W.Fast.tw16888494952636728751:=0
def PySem.W.Fast.tw4905415955061166204:=0
def PySem.W.Fast.tw13184731736090240778:=0
def PySem.W.Fast.tw5112042477930374812:=0
def PySem.W.Fast.tw6363604315344296473:=0
def PySem.W.Fast.tw8467612599875209159:=0
namespace L2
open PySem PySem.Spec PyProof.Rows
abbrev Key:=Sum Int Str
def wW:Key->Value->Bool
 | .inl k,v=>Value.isInt k v
 | .inr x,v=>Value.isStrOf x v
def UH (w:World):Key->Int
 | .inl k=>hashInt k
 | .inr x=>hashStr w x
theorem fj: ∀{k:Key} {v:Value},wW k v=true->(∃i t,k=Sum.inl i/\v=Value.int i t)∨(∃x t,k=Sum.inr x/\v=Value.str x t)
 | .inl i,v,h=>by
  obtain⟨t,e⟩:=Value.isInt_shape (k:=i) (v:=v) h
  exact .inl ⟨i,t,rfl,e⟩
 | .inr x,v,h=>by
  obtain⟨t,e⟩:=Value.isStrOf_shape (x:=x) (v:=v) h
  exact .inr ⟨x,t,rfl,e⟩
theorem E6 (i:Int)(t:Tok):wW (.inl i) (.int i t)=true:=by simp[wW,Value.isInt]
theorem E7 (x:Str)(t:Tok):wW (.inr x) (.str x t)=true:=by simp[wW,Value.isStrOf]
theorem M4 (a b:Int):decide ((Sum.inl a:Key)=Sum.inl b)=(a == b):=by
 by_cases e:a=b
 ·subst e; simp
 ·have h: ¬ (Sum.inl a:Key)=Sum.inl b:=fun q=>e (Sum.inl.inj q)
  rw[bI h]
  exact(gQ.mpr e).symm
theorem M5 (a b:Str):decide ((Sum.inr a:Key)=Sum.inr b)=decide (a=b):=by
 by_cases e:a=b
 ·subst e; simp
 ·have h: ¬ (Sum.inr a:Key)=Sum.inr b:=fun q=>e (Sum.inr.inj q)
  rw[bI h,bI e]
theorem M6 (a:Int)(b:Str):decide ((Sum.inl a:Key)=Sum.inr b)=false:=bI (fun q=>nomatch q)
theorem M7 (a:Str)(b:Int):decide ((Sum.inr a:Key)=Sum.inl b)=false:=bI (fun q=>nomatch q)
def dU (prog:Program)(w:World):PySem.KeyKind prog w Key where
 is:=wW
 hash:=UH w
 inj:=fun v a b ha hb=>by
  rcases fj ha with⟨i,t,rfl,rfl⟩|⟨x,t,rfl,rfl⟩
  ·rcases fj hb with⟨j,u,rfl,e⟩|⟨y,u,rfl,e⟩
   ·injection e with e1 _; rw[e1]
   ·exact nomatch e
  ·rcases fj hb with⟨j,u,rfl,e⟩|⟨y,u,rfl,e⟩
   ·exact nomatch e
   ·injection e with e1 _; rw[e1]
 byValue:=fun k v h=>by
  rcases fj h with⟨i,t,rfl,rfl⟩|⟨x,t,rfl,rfl⟩ <;> rfl
 pyHash:=fun hv h=>by
  rcases fj hv with⟨i,t,rfl,rfl⟩|⟨x,t,rfl,rfl⟩
  ·exact wpAny_pyHash_int h
  ·exact wpAny_pyHash_str h
 eqBool:=fun hu hv h=>by
  rcases fj hu with⟨i,t,rfl,rfl⟩|⟨x,t,rfl,rfl⟩
  ·rcases fj hv with⟨j,u,rfl,rfl⟩|⟨y,u,rfl,rfl⟩
   ·rw[M4] at h; exact wpAny_eqBool_int h
   ·rw[M6] at h; exact SeqAt.EqAt.int_str i t y u _ _ _ _ h
  ·rcases fj hv with⟨j,u,rfl,rfl⟩|⟨y,u,rfl,rfl⟩
   ·rw[M7] at h; exact SeqAt.EqAt.str_int x t j u _ _ _ _ h
   ·rw[M5] at h; exact wpAny_eqBool_str h
 «strs»:=fun k x t v h=>by
  rcases fj h with⟨i,u,rfl,e⟩|⟨y,u,rfl,e⟩
  ·exact nomatch e
  ·injection e with e1 _
   subst e1
   cases v <;> rfl
theorem zY (prog:Program)(w:World)(i:Int)(t:Tok):(dU prog w).is (.inl i) (.int i t)=true:=E6 i t
theorem zZ (prog:Program)(w:World)(x:Str)(t:Tok):(dU prog w).is (.inr x) (.str x t)=true:=E7 x t
inductive V where
 |en|bl (b:Bool)|int (i:Int)|str (x:Str)|E8 (b:Array UInt8)|Ke (b:UInt64)|ref (a:Addr)|ty (n:String)
 deriving DecidableEq
def RelV:V->Value->Prop
 | .en,u=>u=Value.none
 | .bl b,u=>u=Value.bool b
 | .int i,u=> ∃t,u=Value.int i t
 | .str x,u=> ∃t,u=Value.str x t
 | .E8 b,u=> ∃t,u=Value.bytes b t
 | .Ke b,u=> ∃t,u=Value.float b t
 | .ref a,u=>u=Value.ref a
 | .ty n,u=>u=Value.type n
abbrev Vals:List V->List Value->Prop:=Paired RelV
theorem Vals.length {xs:List V}{us:List Value}(r:Vals xs us):xs.length=us.length:=aW r
theorem Vals.get: ∀{xs:List V} {us:List Value} {i:Nat} {x:V},Vals xs us->xs[i]? =some x-> ∃u,us[i]? =some u/\RelV x u
 |_,_,_,_,.nil,e=>by simp at e
 |_,_,0,_,.cons r _,e=>by simp at e; subst e; exact⟨_,rfl,r⟩
 |_,_,i + 1,x,.cons _ t,e=>by
  obtain⟨u,h1,h2⟩:=Vals.get (i:=i) (x:=x) t (by simpa using e)
  exact⟨u,by simpa using h1,h2⟩
theorem Vals.set {x:V}{u:Value}(r:RelV x u): ∀{xs:List V} {us:List Value} (i:Nat),Vals xs us->Vals (xs.set i x) (us.set i u)
 |_,_,_,.nil=> .nil
 |_,_,0,.cons _ t=> .cons r t
 |_,_,i + 1,.cons q t=> .cons q (Vals.set r i t)
theorem Vals.append: ∀{xs ys:List V} {us ws:List Value},Vals xs us->Vals ys ws->Vals (xs ++ ys) (us ++ ws)
 |_,_,_,_,.nil,s=>s
 |_,_,_,_,.cons r t,s=> .cons r (Vals.append t s)
theorem Vals.take: ∀{xs:List V} {us:List Value} (n:Nat),Vals xs us->Vals (xs.take n) (us.take n)
 |_,_,0,_=> .nil
 |_,_,_ + 1,.nil=> .nil
 |_,_,n + 1,.cons r t=> .cons r (Vals.take n t)
theorem Vals.drop: ∀{xs:List V} {us:List Value} (n:Nat),Vals xs us->Vals (xs.drop n) (us.drop n)
 |_,_,0,r=>r
 |_,_,_ + 1,.nil=> .nil
 |_,_,n + 1,.cons _ t=>Vals.drop n t
theorem Vals.none_of: ∀{xs:List V} {us:List Value} {i:Nat},Vals xs us->xs[i]? =none->us[i]? =none:=fun{xs us i} r e=>by
 have h1:=r.length
 have h2:xs.length<=i:=qd.mp e
 exact qd.mpr (by lia)
def kZ:Option V->Option Value->Prop
 |some v,some u=>RelV v u
 |none,none=>True
 |_,_=>False
def KV {κ:Type}:List (κ×V)->List (κ×Value)->Prop:=Paired fun(p:κ×V) (q:κ×Value)=>p.1=q.1/\RelV p.2 q.2
def kV:Key->V
 | .inl i=> .int i
 | .inr x=> .str x
inductive HO where
 |lst (xs:List V)
 |tup (xs:List V)
 |dK (bc:List (Key×V))|dT (bc:List (List Key×V))
 |set (S:Int->Bool) (n:Nat)
 |ins (C dx:Addr) (fs:List (Str×V))
 |own (x:Addr)
 |xd (fs:List (Str×V))
 |met (f x:Addr)
 |UI (lo hi:Int)
 |BX (o:Obj) (u:HO)
 |mz (ps:Array Value)
 |ext (φ:Heap->Prop)
abbrev Hp:=Addr->Option HO
def upd (H:Hp)(a:Addr)(o:HO):Hp:=fun b=>if b=a then some o else H b
theorem ag {H:Hp}{a:Addr}{o:HO}:upd H a o a=some o:=by unfold upd; rw[if_pos rfl]
theorem az {H:Hp}{a b:Addr}{o:HO}(h:b≠a):upd H a o b=H b:=by unfold upd; rw[if_neg h]
theorem ma {H:Hp}{a b:Addr}{o u:HO}(h:H a=some o)(h':H b=some u)(d:o≠u):a≠b:=by
 intro e; subst e; rw[h] at h'; exact d (aE h')
theorem aL {H:Hp}{a b:Addr}{o:HO}(h:H a=some o)(h':H b=none):a≠b:=by
 intro e; subst e; rw[h] at h'; cases h'
section
variable (P:Program)(w:World)
def dC (H:Hp)(h:Heap)(a:Addr):HO->Prop
 | .lst xs=>xs.length<=sizeLine/\ ∃(cm:List Value) (n:Nat),Vals xs cm/\h.get? a=some {cls:= .type "list",data:= .seq cm.toArray n}
 | .tup xs=>xs.length<=sizeLine/\ ∃cm:List Value,Vals xs cm/\IsTup h a cm.toArray
 | .dK bc=>bc.length<=sizeLine/\(a == sysModules)=false/\ ∃vs,KV bc vs/\h.DictOf (dU P w) a vs
 | .dT bc=>bc.length<=sizeLine/\(a == sysModules)=false/\ ∃xs:List (List Key×Addr×Value),
   Paired (fun(p:List Key×V) (q:List Key×Addr×Value)=>p.1=q.1/\H q.2.1=some (.tup (p.1.map kV))/\RelV p.2 q.2.2) bc xs/\
   ∃o es ep,h.get? a=some o/\o.ExactDict/\o.data= .dict es ep/\es.toList=xs.map (entryOfKey (tupleKind (dU P w)))/\(xs.map (·.1)).Nodup
 | .set S n=>h.SetOf (intKind P w) a S n
 | .ins C dx fs=>H dx=some (.own a)/\fs.length<=1000/\dx≠a/\h.get? a=some (PySem.W.instObj C dx)/\
   ∃mA,h.Ns1 dx mA/\(∀f,kZ (fs.lookup f) (mA f))/\PySem.Within mA (fs.map (·.1))
 | .own _=> ∃o,h.get? a=some o
 | .xd fs=> ∃mA,h.Ns1 a mA/\ ∀f,kZ (fs.lookup f) (mA f)
 | .UI lo hi=> ∃t u v,h.get? a=some {cls:= .type "range",data:= .fields #[.int lo t,.int hi u,.int 1 v]}
 | .BX o u=>h.get? a=some o/\dC H h a u
 | .mz ps=>h.get? a=some {cls:= .none,data:= .fields ps}
 | .met f x=>h.get? a=some (PySem.W.methodObj (.ref f) (.ref x))
 | .ext φ=>φ h/\(∃o,h.get? a=some o)/\ ∀h1 h2:Heap,φ h1->(∀o,h1.get? a=some o->h2.get? a=some o)->φ h2
def oq (H:Hp)(h:Heap):Prop:= ∀a o,H a=some o->dC P w H h a o
end
section
variable {P:Program}{w:World}{H H':Hp}{h h':Heap}{a:Addr}{o:HO}
theorem dC.lt (x:dC P w H h a o):a < h.objs.size:=by
 cases o with
 |lst xs=>obtain⟨_,_,_,_,e⟩:=x; exact aK e
 |tup xs=>obtain⟨_,_,_,p⟩:=x; exact p.lt
 |dK bc=>obtain⟨_,_,_,_,o,_,_,e,_⟩:=x; exact aK e
 |dT bc=>obtain⟨_,_,_,_,o,_,_,e,_⟩:=x; exact aK e
 |set S n=>obtain⟨o,_,_,_,e,_⟩:=x; exact aK e
 |ins C dx fs=>obtain⟨_,_,_,e,_⟩:=x; exact aK e
 |own y=>obtain⟨_,e⟩:=x; exact aK e
 |xd fs=>obtain⟨_,⟨_,_,_,e,_⟩,_⟩:=x; exact aK e
 |UI lo hi=>obtain⟨_,_,_,e⟩:=x; exact aK e
 |BX ob u=>obtain⟨e,_⟩:=x; exact aK e
 |mz ps=>exact aK (show h.get? a=some _ from x)
 |met f y=>exact aK (show h.get? a=some _ from x)
 |ext φ=>obtain⟨_,⟨_,e⟩,_⟩:=x; exact aK e
theorem Paired.iS {α β:Type}{F G:α->β->Prop}: ∀{l₁:List α} {l₂:List β},Paired F l₁ l₂->(∀a b,F a b->G a b)->Paired G l₁ l₂
 |_,_,.nil,_=> .nil
 |_,_,.cons r t,f=> .cons (f _ _ r) (Paired.iS t f)
theorem dC.sV (x:dC P w H h a o)(k: ∀b u,(b=a∨H b=some (.own a))->h.get? b=some u->h'.get? b=some u)
  (ho: ∀b,H b=some (.own a)->H' b=some (.own a)) (ht: ∀b xs,H b=some (.tup xs)->H' b=some (.tup xs)):dC P w H' h' a o:=by
 induction o with
 |lst xs=>obtain⟨z,cm,n,r,e⟩:=x; exact⟨z,cm,n,r,k _ _ (.inl rfl) e⟩
 |tup xs=>obtain⟨z,cm,r,ob,e,c⟩:=x; exact⟨z,cm,r,ob,k _ _ (.inl rfl) e,c⟩
 |dK bc=>obtain⟨z,y,vs,r,ob,es,ep,e,c⟩:=x; exact⟨z,y,vs,r,ob,es,ep,k _ _ (.inl rfl) e,c⟩
 |dT bc=>
  obtain⟨z,y,xs,r,ob,es,ep,e,c⟩:=x
  exact⟨z,y,xs,Paired.iS r fun p q z=>⟨z.1,ht _ _ z.2.1,z.2.2⟩,ob,es,ep,k _ _ (.inl rfl) e,c⟩
 |set S n=>obtain⟨ob,es,ep,t,e,c⟩:=x; exact⟨ob,es,ep,t,k _ _ (.inl rfl) e,c⟩
 |ins C dx fs=>
  obtain⟨d,z,ne,e,mA,⟨od,es,ep,e2,c⟩,r⟩:=x
  exact⟨ho _ d,z,ne,k _ _ (.inl rfl) e,mA,⟨od,es,ep,k _ _ (.inr d) e2,c⟩,r⟩
 |own y=>obtain⟨ob,e⟩:=x; exact⟨ob,k _ _ (.inl rfl) e⟩
 |xd fs=>obtain⟨mA,⟨od,es,ep,e,c⟩,r⟩:=x; exact⟨mA,⟨od,es,ep,k _ _ (.inl rfl) e,c⟩,r⟩
 |UI lo hi=>obtain⟨t,u,v,e⟩:=x; exact⟨t,u,v,k _ _ (.inl rfl) e⟩
 |BX ob u ih=>obtain⟨e,q⟩:=x; exact⟨k _ _ (.inl rfl) e,ih q⟩
 |mz ps=>
  have e:h.get? a=some {cls:= .none,data:= .fields ps}:=x
  show h'.get? a=some {cls:= .none,data:= .fields ps}
  exact k a _ (.inl rfl) e
 |met f y=>
  have e:h.get? a=some (PySem.W.methodObj (.ref f) (.ref y)):=x
  show h'.get? a=some (PySem.W.methodObj (.ref f) (.ref y))
  exact k a _ (.inl rfl) e
 |ext φ=>obtain⟨p,⟨o,e⟩,st⟩:=x; exact⟨st _ _ p fun o q=>k _ _ (.inl rfl) q,⟨o,k _ _ (.inl rfl) e⟩,st⟩
theorem oq.lt (x:oq P w H h)(e:H a=some o):a < h.objs.size:=(x a o e).lt
theorem oq.fresh (x:oq P w H h)(e:h.objs.size<=a):H a=none:=by
 cases q:H a with
 |none=>rfl
 |some u=>exact absurd (bf (x.lt q) e) (iP _)
theorem oq.kept (x:oq P w H h)(k: ∀b u,h.get? b=some u->h'.get? b=some u):oq P w H h':=fun a o e=>
 (x a o e).sV (fun b u _ q=>k b u q) (fun _ q=>q) fun _ _ q=>q
theorem oq.laid (x:oq P w H h)(k: ∀b u,h.get? b=some u->h'.get? b=some u)(hp:h.objs.size<=a)(new:dC P w (upd H a o) h' a o):oq P w (upd H a o) h':=fun b u e=>by
 have hn:=x.fresh hp
 by_cases hb:b=a
 ·subst hb; rw[ag] at e; cases e; exact new
 ·rw[az hb] at e
  exact(x b u e).sV (fun c v _ q=>k c v q) (fun c q=>by rw[az (aL q hn)]; exact q) fun c xs q=>by rw[az (aL q hn)]; exact q
end
def Rd (H:Hp)(a:Addr)(u:HO):Prop:=H a=some u∨ ∃o,H a=some (.BX o u)
theorem Rd.ok {P:Program}{w:World}{H:Hp}{h:Heap}{a:Addr}{u:HO}(r:Rd H a u)(x:oq P w H h):dC P w H h a u:=by
 rcases r with r|⟨o,r⟩
 ·exact x a u r
 ·obtain⟨_,q⟩:=x a _ r
  exact q
def Qg:Option HO->Prop
 |some (.lst _)=>True
 |some (.dK _)=>True
 |some (.dT _)=>True
 |some (.set _ _)=>True
 |some (.ins _ _ _)=>True
 |some (.ext _)=>True
 |_=>False
section
variable {P:Program}{w:World}{H:Hp}{h h':Heap}{x e:Addr}{o':HO}
theorem oq.write (ok:oq P w H h)(mu:Qg (H x))(he:e=x∨H e=some (.own x))(k: ∀b u,b≠e->h.get? b=some u->h'.get? b=some u)(Pt: ∃u,h'.get? e=some u)
  (new:dC P w (upd H x o') h' x o'):oq P w (upd H x o') h':=fun b u q=>by
 have Qh: ∀c y,H c=some (.own y)->c≠x:=fun c y r z=>by subst z; rw[r] at mu; exact mu
 have UJ: ∀c xs,H c=some (.tup xs)->c≠x:=fun c xs r z=>by subst z; rw[r] at mu; exact mu
 by_cases hb:b=x
 ·subst hb; rw[ag] at q; cases q; exact new
 ·rw[az hb] at q
  by_cases M8:b=e
  ·have q':H b=some (.own x):=by
    rcases he with z|z
    ·exact absurd (M8.trans z) hb
    ·rw[M8]; exact z
   rw[q] at q'; cases q'
   obtain⟨v,hv⟩:=Pt
   exact⟨v,by rw[M8]; exact hv⟩
  ·refine(ok b u q).sV (fun c v hc r=>k c v ?_ r) (fun c r=>by rw[az (Qh c b r)]; exact r) fun c xs r=>by rw[az (UJ c xs r)]; exact r
   rcases hc with rfl|hc
   ·exact M8
   ·rintro rfl
    rcases he with z|z
    ·exact Qh c b hc z
    ·rw[hc] at z; cases z; exact hb rfl
end
structure Un (fs ex:List Addr)(H H':Hp)(h h':Heap):Prop where
 keep: ∀b o,h.get? b=some o->H b=none->b∉fs->b∉ex->h'.get? b=some o
 slot: ∀b o,h.get? b=some o->H b=none->b∈fs->b∉ex-> ∃sl,h'.get? b=some {o with slots:=sl}
 free: ∀b o,h.get? b=some o->H b=none->b∉ex->H' b=none
 there: ∀b o,h.get? b=some o->b∉ex-> ∃o',h'.get? b=some o'
 qf: ∀b xs,H b=some (.tup xs)->H' b=some (.tup xs)
 o6: ∀b o u,H b=some (.BX o u)->H' b=some (.BX o u)
 o7: ∀b ps,H b=some (.mz ps)-> ∃more,H' b=some (.mz (ps ++ more))
section
variable {fs ZJ ex ex':List Addr}{H H1 H2:Hp}{h h1 h2 h':Heap}{a x e:Addr}{o:HO}
theorem Un.any (u:Un fs ex H H1 h h1){b:Addr}{ob:Obj}(q:h.get? b=some ob)(n:H b=none)(hx:b∉ex): ∃sl,h1.get? b=some {ob with slots:=sl}:=by
 by_cases hb:b∈fs
 ·exact u.slot b ob q n hb hx
 ·exact⟨ob.slots,u.keep b ob q n hb hx⟩
theorem Un.kept (k: ∀b u,h.get? b=some u->h'.get? b=some u):Un fs ex H H h h':=
 ⟨fun b ob q _ _ _=>k b ob q,fun b ob q _ _ _=>⟨ob.slots,k b ob q⟩,fun _ _ _ n _=>n,fun b ob q _=>⟨ob,k b ob q⟩,fun _ _ q=>q,fun _ _ _ q=>q,fun _ ps q=>⟨#[],by rw[q]; simp⟩⟩
theorem Un.refl:Un fs ex H H h h:=Un.kept fun _ _ q=>q
theorem Un.laid (k: ∀b u,h.get? b=some u->h'.get? b=some u)(hp:h.objs.size<=a)(hn:H a=none):Un fs ex H (upd H a o) h h' where
 keep:=fun b u q _ _ _=>k b u q
 slot:=fun b u q _ _ _=>⟨u.slots,k b u q⟩
 free:=fun b u q n _=>by rw[az (aX (bf (aK q) hp))]; exact n
 there:=fun b u q _=>⟨u,k b u q⟩
 qf:=fun b xs q=>by rw[az (aL q hn)]; exact q
 o6:=fun b u xs q=>by rw[az (aL q hn)]; exact q
 o7:=fun b ps q=>⟨#[],by rw[az (aL q hn),q]; simp⟩
theorem Un.write (mu:Qg (H x))(he:e=x∨H e=some (.own x))(k: ∀b u,b≠e->h.get? b=some u->h'.get? b=some u)(Pt: ∃u,h'.get? e=some u):Un fs ex H (upd H x o) h h':=by
 have hx: ∀b,H b=none->b≠x:=fun b n z=>by subst z; rw[n] at mu; exact mu
 have hb: ∀b,H b=none->b≠e:=fun b n z=>by
  subst z
  rcases he with r|r
  ·exact hx b n r
  ·rw[n] at r; cases r
 have hm: ∀b u,H b=some u-> ¬ Qg (some u)->b≠x:=fun b u q nm z=>by subst z; rw[q] at mu; exact nm mu
 refine⟨fun b u q n _ _=>k b u (hb b n) q,fun b u q n _ _=>⟨u.slots,k b u (hb b n) q⟩,fun b u q n _=>by rw[az (hx b n)]; exact n,fun b u q _=>?_,
  fun b xs q=>by rw[az (hm b _ q fun z=>z)]; exact q,fun b u xs q=>by rw[az (hm b _ q fun z=>z)]; exact q,fun b ps q=>⟨#[],by rw[az (hm b _ q fun z=>z),q]; simp⟩⟩
 by_cases M8:b=e
 ·subst M8; exact Pt
 ·exact⟨u,k b u M8 q⟩
end
def Tx (h:Heap)(H:Hp):List Addr:=(List.range h.objs.size).filter fun a=>(H a).isSome
def vH (h:Heap)(H:Hp):Heap:=PySem.W.hideAll h (Tx h H)
theorem E9 (h:Heap)(H:Hp):(vH h H).objs.size=h.objs.size:=PySem.W.hideAll_size _ _
theorem Hc {h:Heap}{H:Hp}{b:Addr}{o:Obj}(e:h.get? b=some o)(n:H b=none):(vH h H).get? b=some o:=
 PySem.W.hideAll_get _ e fun hm=>by
  have q:(H b).isSome=true:=(fO.mp hm).2
  rw[n] at q; simp at q
theorem Kf {h:Heap}{H:Hp}{b:Addr}{o:Obj}(e:(vH h H).get? b=some o):h.get? b=some o/\H b=none:=by
 have e':h.get? b=some o:=PySem.W.of_hideAll (Tx h H) e
 refine⟨e',?_⟩
 cases q:H b with
 |none=>rfl
 |some x=>
  have hm:b∈Tx h H:=List.mem_filter.mpr ⟨List.mem_range.mpr (Heap.lt_size e'),by simp[q]⟩
  have z:(vH h H).get? b=none:=PySem.W.hideAll_none (Tx h H) hm
  rw[z] at e; cases e
structure Mod (K:PySem.W.Frag)(mg:Str->Option Value)(base:Heap):Prop where
 Kg:K.In base
 glob:base.Ns mainGlobals mg
 blt: ∃mb,base.Ns builtinsNs mb/\ ∀x:Str,x≠"__name__"->mb x=bootBuiltins x
 nolimit:base.NoLimit
structure Cx where
 prog:Program
 w:World
 K:PySem.W.Frag
 mg:Str->Option Value
 base:Heap
 A:Around
 N:List Str
 s₀:Shared
 H₀:Hp
 env:Env
 outer:List Env
 stack:List Env
 ex:List Addr
 fn:Str->Bool
 calm:Bool
 pn:List (Addr×Obj)
 xe:Value->Shared->Prop
def Cg (l:List Env):List Addr:=l.filterMap (·.frame)
abbrev Cx.fs (X:Cx):List Addr:=Cg X.outer
def Qi (sc:Scope)(x:Str):Prop:=sc.names.lookup x=some .local∨sc.names.lookup x=some .cell∨sc.names.lookup x=some .free
def Loc (sc:Scope)(x:Str):Prop:=sc.names.lookup x=some .local∨sc.names.lookup x=some .cell
def Look (env:Env)(h:Heap)(m:Str->Option Value)(x:Str)(u:Value):Prop:=
 (env.kindOf x=some .local/\m x=some u)∨((env.kindOf x=some .cell∨env.kindOf x=some .free)/\ ∃c,env.cells.lookup x=some c/\h.IsCell c (some u))
structure Cx.Ok (X:Cx):Prop where
 mod:Mod X.K X.mg X.base
 kind:X.env.scope.kind= .function
 glob:X.env.globals=mainGlobals
 blt:X.env.builtins=builtinsNs
 above:X.s₀.heap.objs.size<=X.env.locals
 inj: ∀x y c,X.env.cells.lookup x=some c->X.env.cells.lookup y=some c->x=y
 has: ∀x,(X.env.kindOf x=some .cell∨X.env.kindOf x=some .free)-> ∃c,X.env.cells.lookup x=some c
 JK: ∀x c,X.fn x=true->X.env.cells.lookup x=some c->X.s₀.heap.objs.size<=c
 hd:X.calm=true->X.A.handled=none
 frames:X.A.frames=some X.stack
 GX:X.stack=X.outer∨(X.stack=X.env :: X.outer/\X.env.frame=some X.env.locals)
 Kh: ∀b∈X.ex,b≠X.env.locals/\ ∀x c,X.env.cells.lookup x=some c->c≠b
 bs: ∀b o,X.base.get? b=some o->X.s₀.heap.get? b=some o/\X.H₀ b=none
 z5:X.base.objs.size<=X.s₀.heap.objs.size
 vI: ∀b o,X.base.get? b=some o->b∉X.ex
 vJ: ∀b∈X.ex,b∉X.fs
 lL:X.s₀.heap.FunFrames X.base X.outer
 DA: ∀b∈X.fs,X.H₀ b=none
structure Inv (X:Cx)(pins:List (Addr×Obj))(σ:List (Option V))(H:Hp)(s:Shared):Prop where
 ok:X.Ok
 os:s.os=X.s₀.os
 bare:AllBare s.gens
 base:Un X.fs X.ex X.H₀ H X.s₀.heap s.heap
 loc: ∃m,s.heap.Ns X.env.locals m/\ ∀(i:Nat) (x:Str) (v:V),X.N[i]? =some x->σ[i]? =some (some v)->Qi X.env.scope x-> ∃u,RelV v u/\Look X.env s.heap m x u
 cell: ∀x c,X.env.cells.lookup x=some c-> ∃v,s.heap.IsCell c v
 free:H X.env.locals=none
 iO: ∀x c,X.env.cells.lookup x=some c->H c=none
 pin: ∀p∈X.pn ++ pins,s.heap.get? p.1=some p.2/\H p.1=none/\p.1≠X.env.locals/\p.1∉X.fs/\ ∀v,p.2.data≠ .cell v
 cB:oq X.prog X.w H s.heap
 len:σ.length=X.N.length
section
variable {X:Cx}{pins:List (Addr×Obj)}{σ:List (Option V)}{H H':Hp}{s:Shared}{h':Heap}
theorem Cx.Ok.UK (ok:X.Ok){b:Addr}{o:Obj}(e:X.base.get? b=some o):b∉X.fs:=fun hb=>by
 have:=(ok.lL.mem hb).1
 rw[e] at this; cases this
theorem Inv.bs (I:Inv X pins σ H s): ∀b o,X.base.get? b=some o->s.heap.get? b=some o/\H b=none:=fun b o e=>
 ⟨I.base.keep b o (I.ok.bs b o e).1 (I.ok.bs b o e).2 (I.ok.UK e) (I.ok.vI b o e),I.base.free b o (I.ok.bs b o e).1 (I.ok.bs b o e).2 (I.ok.vI b o e)⟩
theorem Inv.bk (I:Inv X pins σ H s): ∀b o,X.base.get? b=some o->s.heap.get? b=some o:=fun b o e=>(I.bs b o e).1
theorem Inv.mod (I:Inv X pins σ H s):Mod X.K X.mg X.base:=I.ok.mod
theorem Inv.gN (I:Inv X pins σ H s):X.K.In s.heap:=I.ok.mod.Kg.keeps I.bk
theorem Inv.nolimit (I:Inv X pins σ H s):s.heap.NoLimit:=I.ok.mod.nolimit.keeps I.bk
theorem Inv.fr (I:Inv X pins σ H s): ∃m,Fr X.base X.env.locals s.heap m:=
 let⟨m,hn,_⟩:=I.loc
 ⟨m,hn,I.bk,a0 I.ok.z5 I.ok.above⟩
theorem Inv.lt (I:Inv X pins σ H s):X.env.locals < s.heap.objs.size:=let⟨_,hn,_⟩:=I.loc; hn.lt
theorem Inv.sz (I:Inv X pins σ H s):X.s₀.heap.objs.size<=s.heap.objs.size:=a0 I.ok.above (dk I.lt)
theorem Inv.Fb (I:Inv X pins σ H s){a:Addr}(h:s.heap.objs.size<=a):a∉X.fs:=fun hb=>by
 obtain⟨_,o,ho,_⟩:=I.ok.lL.mem hb
 exact absurd (bf (aK ho) (a0 I.sz h)) (iP _)
theorem Inv.Me (I:Inv X pins σ H s): ∀x c,X.env.cells.lookup x=some c->c≠X.env.locals:=fun x c e z=>by
 obtain⟨v,o,ho,hd⟩:=I.cell x c e
 obtain⟨m,⟨o',es,ep,Ki,Fc,_⟩,_⟩:=I.loc
 rw[z,Ki] at ho; cases ho; rw[Fc] at hd; cases hd
theorem Inv.lL (I:Inv X pins σ H s):s.heap.FunFrames X.base X.outer:=by
 have all: ∀(l:List Env),(∀b∈Cg l,b∈X.fs)->X.s₀.heap.FunFrames X.base l->s.heap.FunFrames X.base l:=by
  intro l
  induction l with
  |nil=>intro _ _; trivial
  |cons env r ih=>
   intro hs hl
   obtain⟨hk,⟨L,o,hf,hn,ho,hd⟩,hr⟩:=hl
   have hL:L∈X.fs:=hs L (by unfold Cg; rw[List.filterMap_cons,hf]; exact List.mem_cons_self)
   obtain⟨sl,e⟩:=I.base.slot L o ho (I.ok.DA L hL) hL fun z=>I.ok.vJ L z hL
   exact⟨hk,⟨L,_,hf,hn,e,hd⟩,ih (fun b hb=>hs b (by unfold Cg; rw[List.filterMap_cons,hf]; exact List.mem_cons_of_mem _ hb)) hr⟩
 exact all X.outer (fun _ hb=>hb) I.ok.lL
theorem Inv.stack (I:Inv X pins σ H s):s.heap.FunFrames X.base X.stack:=by
 rcases I.ok.GX with e|⟨e,hf⟩
 ·rw[e]; exact I.lL
 ·rw[e]
  obtain⟨m,hn,_⟩:=I.loc
  refine .cons (by rw[I.ok.kind]; decide) hf hn ?_ I.lL
  exact Heap.get?_none_of_le (a0 I.ok.z5 I.ok.above)
theorem Inv.tT (I:Inv X pins σ H s): ∀b∈Cg X.stack,b∈X.env.locals :: X.fs:=fun b hb=>by
 rcases I.ok.GX with e|⟨e,hf⟩
 ·rw[e] at hb; exact aU _ hb
 ·rw[e] at hb
  unfold Cg at hb
  rw[List.filterMap_cons,hf] at hb
  exact hb
theorem Inv.qg (I:Inv X pins σ H s): ∀b∈Cg X.stack,H b=none:=fun b hb=>by
 rcases aw.mp (I.tT b hb) with e|hb
 ·rw[e]; exact I.free
 ·obtain⟨_,o,ho,_⟩:=I.ok.lL.mem hb
  exact I.base.free b o ho (I.ok.DA b hb) fun z=>I.ok.vJ b z hb
theorem Inv.step {g':Array GenState}{t':Nat}{d':Drawn}{ch:List Addr}(I:Inv X pins σ H s)
  (z6: ∀b∈ch,(b∈X.ex∨X.s₀.heap.objs.size<=b)/\b≠X.env.locals/\(∀x c,X.env.cells.lookup x=some c->c≠b)/\ ∀p∈X.pn ++ pins,p.1≠b)
  (keep: ∀b o,b≠X.env.locals->b∉X.fs->b∉ch->s.heap.get? b=some o->H b=none->h'.get? b=some o)
  (slot: ∀b o,b≠X.env.locals->b∈X.fs->b∉ch->s.heap.get? b=some o->H b=none-> ∃sl,h'.get? b=some {o with slots:=sl}) (free: ∀b o,b∉ch->s.heap.get? b=some o->H b=none->H' b=none)
  (there: ∀b o,b∉ch->s.heap.get? b=some o-> ∃o',h'.get? b=some o')
  (qf: ∀b xs,H b=some (.tup xs)->H' b=some (.tup xs)) (o6: ∀b o u,H b=some (.BX o u)->H' b=some (.BX o u)) (o7: ∀b ps,H b=some (.mz ps)-> ∃more,H' b=some (.mz (ps ++ more)))
  (ns: ∀m,s.heap.Ns X.env.locals m->h'.Ns X.env.locals m) (cB:oq X.prog X.w H' h') (hg:AllBare g'):
  Inv X pins σ H' {s with heap:=h',gens:=g',drawn:=d',toks:=t'}:=by
 have XU: ∀b o,X.s₀.heap.get? b=some o->b≠X.env.locals:=fun b o e=>aX (bf (aK e) I.ok.above)
 have Tz: ∀b o,X.s₀.heap.get? b=some o->b∉X.ex->b∉ch:=fun b o e hx hb=>by
  rcases(z6 b hb).1 with z|z
  ·exact hx z
  ·exact absurd (bf (aK e) z) (iP _)
 have cellK: ∀x c,X.env.cells.lookup x=some c-> ∀v,s.heap.IsCell c v->h'.IsCell c v:=fun x c e v ⟨o,ho,hd⟩=>by
  have Qj:c∉ch:=fun z=>(z6 c z).2.2.1 x c e rfl
  by_cases hc:c∈X.fs
  ·obtain⟨sl,q⟩:=slot c o (I.Me x c e) hc Qj ho (I.iO x c e)
   exact⟨_,q,hd⟩
  ·exact⟨o,keep c o (I.Me x c e) hc Qj ho (I.iO x c e),hd⟩
 refine⟨I.ok,I.os,hg,⟨fun b o e n hb hx=>?_,fun b o e n hb hx=>?_,fun b o e n hx=>?_,fun b o e hx=>?_,fun b xs e=>qf b xs (I.base.qf b xs e),fun b o xs e=>o6 b o xs (I.base.o6 b o xs e),fun b ps e=>?_⟩,?_,fun x c e=>?_,?_,fun x c e=>?_,fun p hp=>?_,cB,I.len⟩
 ·exact keep b o (XU b o e) hb (Tz b o e hx) (I.base.keep b o e n hb hx) (I.base.free b o e n hx)
 ·obtain⟨sl,e1⟩:=I.base.slot b o e n hb hx
  obtain⟨ZK,e2⟩:=slot b _ (XU b o e) hb (Tz b o e hx) e1 (I.base.free b o e n hx)
  exact⟨ZK,e2⟩
 ·obtain⟨o',e1⟩:=I.base.there b o e hx
  exact free b o' (Tz b o e hx) e1 (I.base.free b o e n hx)
 ·obtain⟨o',e1⟩:=I.base.there b o e hx
  exact there b o' (Tz b o e hx) e1
 ·obtain⟨m1,e1⟩:=I.base.o7 b ps e
  obtain⟨m2,e2⟩:=o7 b _ e1
  exact⟨m1 ++ m2,by rw[e2,Array.append_assoc]⟩
 ·obtain⟨m,hn,hl⟩:=I.loc
  refine⟨m,ns m hn,fun i x v e1 e2 e3=>?_⟩
  obtain⟨u,r,l⟩:=hl i x v e1 e2 e3
  refine⟨u,r,?_⟩
  rcases l with l|⟨k,c,e,z⟩
  ·exact .inl l
  ·exact .inr ⟨k,c,e,cellK x c e _ z⟩
 ·obtain⟨v,z⟩:=I.cell x c e
  exact⟨v,cellK x c e v z⟩
 ·obtain⟨m,⟨o,_,_,ho,_⟩,_⟩:=I.loc
  exact free _ o (fun z=>(z6 _ z).2.1 rfl) ho I.free
 ·obtain⟨v,o,ho,hd⟩:=I.cell x c e
  exact free c o (fun z=>(z6 c z).2.2.1 x c e rfl) ho (I.iO x c e)
 ·obtain⟨e,n,ne,nf,d⟩:=I.pin p hp
  have Qj:p.1∉ch:=fun z=>(z6 p.1 z).2.2.2 p hp rfl
  exact⟨keep p.1 p.2 ne nf Qj e n,free p.1 p.2 Qj e n,ne,nf,d⟩
theorem Inv.un {t':Nat}(I:Inv X pins σ H s)(u:Un X.fs [] H H' s.heap h')(cB:oq X.prog X.w H' h'):Inv X pins σ H' {s with heap:=h',toks:=t'}:=by
 obtain⟨m,⟨o,es,ep,ho,r⟩,_⟩:=id I.loc
 obtain⟨sl,hL⟩:=u.any ho I.free (by simp)
 exact I.step (g':=s.gens) (d':=s.drawn) (ch:=[]) (fun _ z=>nomatch z) (fun b o _ hb _ e n=>u.keep b o e n hb (by simp)) (fun b o _ hb _ e n=>u.slot b o e n hb (by simp)) (fun b o _ e n=>u.free b o e n (by simp)) (fun b o _ e=>u.there b o e (by simp)) u.qf u.o6 u.o7 (fun m' hm=>by
  obtain⟨o',UL,UM,Ki,r'⟩:=hm
  rw[ho] at Ki; cases Ki
  exact⟨_,UL,UM,hL,r'⟩) cB I.bare
theorem Inv.call {g':Array GenState}{t':Nat}{d':Drawn}{ch:List Addr}(I:Inv X pins σ H s)(u:Un (Cg X.stack) ch H H' s.heap h')(cB:oq X.prog X.w H' h')(hg:AllBare g')
  (z6: ∀b∈ch,(b∈X.ex∨X.s₀.heap.objs.size<=b)/\b≠X.env.locals/\(∀x c,X.env.cells.lookup x=some c->c≠b)/\ ∀p∈X.pn ++ pins,p.1≠b):
  Inv X pins σ H' {s with heap:=h',gens:=g',drawn:=d',toks:=t'}:=by
 obtain⟨m,⟨o,es,ep,ho,r⟩,_⟩:=id I.loc
 obtain⟨sl,hL⟩:=u.any ho I.free fun z=>(z6 _ z).2.1 rfl
 exact I.step (ch:=ch) z6 (fun b o hL hb hc e n=>u.keep b o e n (fun z=>(aw.mp (I.tT b z)).elim hL hb) hc) (fun b o _ _ hc e n=>u.any e n hc) (fun b o hc e n=>u.free b o e n hc) (fun b o hc e=>u.there b o e hc) u.qf u.o6 u.o7 (fun m' hm=>by
  obtain⟨o',UL,UM,Ki,r'⟩:=hm
  rw[ho] at Ki; cases Ki
  exact⟨_,UL,UM,hL,r'⟩) cB hg
theorem Inv.turned {t':Nat}{it:Addr}(I:Inv X pins σ H s)(k: ∀b o,b≠it->s.heap.get? b=some o->h'.get? b=some o)(hn:H it=none)(hL:it≠X.env.locals)
  (h1:it∈X.ex∨X.s₀.heap.objs.size<=it) (h2: ∀x c,X.env.cells.lookup x=some c->c≠it) (h3: ∀p∈X.pn ++ pins,p.1≠it):Inv X pins σ H {s with heap:=h',toks:=t'}:=by
 have Qk: ∀b u,H b=some u->b≠it:=fun b u e z=>by rw[z,hn] at e; cases e
 refine I.step (g':=s.gens) (d':=s.drawn) (ch:=[it]) (fun b hb=>?_) (fun b o _ _ hc e _=>k b o (fun z=>hc (by simp[z])) e) (fun b o _ _ hc e _=>⟨o.slots,k b o (fun z=>hc (by simp[z])) e⟩) (fun _ _ _ _ n=>n)
  (fun b o hc e=>⟨o,k b o (fun z=>hc (by simp[z])) e⟩) (fun _ _ e=>e) (fun _ _ _ e=>e) (fun b ps e=>⟨#[],by rw[e]; simp⟩) (fun m hm=>?_) (fun b u e=>?_) I.bare
 ·have e:b=it:=by simpa using hb
  subst e
  exact⟨h1,hL,h2,h3⟩
 ·obtain⟨o,es,ep,ho,r⟩:=hm
  exact⟨o,es,ep,k _ o (vz hL) ho,r⟩
 ·refine(I.cB b u e).sV (fun c v hc q=>k c v ?_ q) (fun _ q=>q) fun _ _ q=>q
  rcases hc with z|z
  ·rw[z]; exact Qk b u e
  ·exact Qk c _ z
theorem Inv.tok (I:Inv X pins σ H s)(t:Nat):Inv X pins σ H {s with toks:=t}:=I.un (h':=s.heap) (t':=t) Un.refl I.cB
theorem Inv.kept {t':Nat}(I:Inv X pins σ H s)(k: ∀b u,s.heap.get? b=some u->h'.get? b=some u):Inv X pins σ H {s with heap:=h',toks:=t'}:=I.un (Un.kept k) (I.cB.kept k)
theorem Inv.laid {a:Addr}{o:HO}{t':Nat}(I:Inv X pins σ H s)(k: ∀b u,s.heap.get? b=some u->h'.get? b=some u)(hp:s.heap.objs.size<=a)(new:dC X.prog X.w (upd H a o) h' a o):
  Inv X pins σ (upd H a o) {s with heap:=h',toks:=t'}:=I.un (Un.laid k hp (I.cB.fresh hp)) (I.cB.laid k hp new)
theorem Inv.write {x e:Addr}{o:HO}{t':Nat}(I:Inv X pins σ H s)(mu:Qg (H x))(he:e=x∨H e=some (.own x))(k: ∀b u,b≠e->s.heap.get? b=some u->h'.get? b=some u)(Pt: ∃u,h'.get? e=some u)
  (new:dC X.prog X.w (upd H x o) h' x o):Inv X pins σ (upd H x o) {s with heap:=h',toks:=t'}:=I.un (Un.write mu he k Pt) (I.cB.write mu he k Pt new)
theorem Inv.tG {z7:List (Addr×Obj)}(I:Inv X pins σ H s)(h: ∀p∈z7,s.heap.get? p.1=some p.2/\H p.1=none/\p.1≠X.env.locals/\p.1∉X.fs/\ ∀v,p.2.data≠ .cell v):Inv X z7 σ H s:=
 ⟨I.ok,I.os,I.bare,I.base,I.loc,I.cell,I.free,I.iO,fun p hp=>(bg.mp hp).elim (fun z=>I.pin p (cY _ z)) (h p),I.cB,I.len⟩
theorem z8 {N:List Str}(hN:N.Nodup){i j:Nat}{x:Str}(a:N[i]? =some x)(b:N[j]? =some x):i=j:=by
 obtain⟨h1,e1⟩:=au.mp a
 obtain⟨h2,e2⟩:=au.mp b
 exact(List.getElem_inj hN).mp (e1.trans e2.symm)
theorem wX {M:Model}{A:Around}{E:Value->Shared->Prop}{i:Nat}{x:Str}{v:V}{u:Value}{Q:Unit->Shared->Prop}(I:Inv X pins σ H s)(hN:X.N.Nodup)(hi:X.N[i]? =some x)(hx:Loc X.env.scope x)(r:RelV v u)
  (h: ∀s',Inv X pins (σ.set i (some v)) H s'->(∃a,Heap.SameBut a s.heap s'.heap/\(a=X.env.locals∨X.env.cells.lookup x=some a))->Q () s') (hf:X.fn x=true∨X.env.scope.names.lookup x=some .local:=by first|exact .inl rfl|exact .inr rfl|assumption):wpAny M A (storeName X.env x u) Q E s:=by
 obtain⟨m,hn,hl⟩:=id I.loc
 have M9:(X.env.scope.kind == .class || (X.env.scope.kind == .module && X.env.locals != X.env.globals))=false:=by rw[I.ok.kind]; rfl
 have XW:i < σ.length:=by rw[I.len]; exact(au.mp hi).1
 have Me:=I.Me
 have tracked: ∀{a:Addr} {h':Heap},(∃o,s.heap.get? a=some o/\H a=none)->Heap.SameBut a s.heap h'->oq X.prog X.w H h':=fun{a h'} ha hs b ob e=>by
  obtain⟨_,_,wY⟩:=ha
  refine(I.cB b ob e).sV (fun c w' hc q=>(hs.2 c ?_).trans q) (fun _ q=>q) fun _ _ q=>q
  rintro rfl
  rcases hc with rfl|hc
  ·rw[wY] at e; cases e
  ·rw[wY] at hc; cases hc
 rcases hx with hk|hk
 ·refine wpAny_storeName_local hk hn (fun h' UN hs=>?_) M9
  obtain⟨oL,_,_,Na,_⟩:=id hn
  refine h _ ⟨I.ok,I.os,I.bare,⟨fun b o e n hb hx=>?_,fun b o e n hb hx=>?_,I.base.free,fun b o e hx=>?_,I.base.qf,I.base.o6,I.base.o7⟩,⟨_,UN,fun j y v' e1 e2 e3=>?_⟩,fun y c e=>?_,I.free,I.iO,fun p hp=>?_,tracked ⟨oL,Na,I.free⟩ hs,by simpa using I.len⟩ ⟨_,hs,.inl rfl⟩
  ·exact(hs.2 b (aX (bf (aK e) I.ok.above))).trans (I.base.keep b o e n hb hx)
  ·obtain⟨sl,e1⟩:=I.base.slot b o e n hb hx
   exact⟨sl,(hs.2 b (aX (bf (aK e) I.ok.above))).trans e1⟩
  ·obtain⟨o',e1⟩:=I.base.there b o e hx
   exact⟨o',(hs.2 b (aX (bf (aK e) I.ok.above))).trans e1⟩
  ·by_cases hj:j=i
   ·subst hj
    rw[hi] at e1; cases e1
    rw[kX XW] at e2
    cases e2
    exact⟨u,r,.inl ⟨hk,by simp⟩⟩
   ·rw[mw (vz hj)] at e2
    obtain⟨u',r',q⟩:=hl j y v' e1 e2 e3
    refine⟨u',r',?_⟩
    rcases q with⟨k,e⟩|⟨k,c,e,z⟩
    ·refine .inl ⟨k,?_⟩
     have:y≠x:=fun e=>hj (z8 hN e1 (e▸hi))
     simp[this,e]
    ·exact .inr ⟨k,c,e,z.sameBut hs (Me y c e)⟩
  ·obtain⟨w',z⟩:=I.cell y c e
   exact⟨w',z.sameBut hs (Me y c e)⟩
  ·obtain⟨e,n,ne,nf,d⟩:=I.pin p hp
   exact⟨(hs.2 p.1 ne).trans e,n,ne,nf,d⟩
 ·have Kj:X.fn x=true:=by
   rcases hf with z|z
   ·exact z
   ·rw[z] at hk; cases hk
  obtain⟨c,hc⟩:=I.ok.has x (.inl hk)
  obtain⟨w',z⟩:=I.cell x c hc
  refine wpAny_storeName_cell I.ok.kind hk hc z (fun h' Kk hs=>?_)
  obtain⟨oc,Pu,UO⟩:=id z
  refine h {s with heap:=h'} ⟨I.ok,I.os,I.bare,⟨fun b o e n hb hx=>?_,fun b o e n hb hx=>?_,I.base.free,fun b o e hx=>?_,I.base.qf,I.base.o6,I.base.o7⟩,⟨m,hn.sameBut hs (Ne.symm (Me x c hc)),fun j y v' e1 e2 e3=>?_⟩,fun y c' e=>?_,I.free,I.iO,fun p hp=>?_,tracked ⟨oc,Pu,I.iO x c hc⟩ hs,by simpa using I.len⟩ ⟨c,hs,.inr hc⟩
  ·exact(hs.2 b (aX (bf (aK e) (I.ok.JK x c Kj hc)))).trans (I.base.keep b o e n hb hx)
  ·obtain⟨sl,e1⟩:=I.base.slot b o e n hb hx
   exact⟨sl,(hs.2 b (aX (bf (aK e) (I.ok.JK x c Kj hc)))).trans e1⟩
  ·obtain⟨o',e1⟩:=I.base.there b o e hx
   exact⟨o',(hs.2 b (aX (bf (aK e) (I.ok.JK x c Kj hc)))).trans e1⟩
  ·by_cases hj:j=i
   ·subst hj
    rw[hi] at e1; cases e1
    rw[kX XW] at e2
    cases e2
    exact⟨u,r,.inr ⟨.inl hk,c,hc,Kk⟩⟩
   ·rw[mw (vz hj)] at e2
    obtain⟨u',r',q⟩:=hl j y v' e1 e2 e3
    refine⟨u',r',?_⟩
    rcases q with q|⟨k,c',e,z'⟩
    ·exact .inl q
    ·refine .inr ⟨k,c',e,z'.sameBut hs ?_⟩
     rintro rfl
     exact hj (z8 hN e1 (I.ok.inj _ _ _ e hc▸hi))
  ·by_cases TB:c'=c
   ·subst TB; exact⟨_,Kk⟩
   ·obtain⟨w2,z2⟩:=I.cell y c' e
    exact⟨w2,z2.sameBut hs TB⟩
  ·obtain⟨e,n,ne,nf,d⟩:=I.pin p hp
   refine⟨(hs.2 p.1 ?_).trans e,n,ne,nf,d⟩
   intro q
   rw[q,Pu] at e
   have q':oc=p.2:=aE e
   exact d w' (by rw[← q']; exact UO)
theorem tU {M:Model}{A:Around}{E:Value->Shared->Prop}{i:Nat}{x:Str}{v:V}{u:Value}{Q:Unit->Shared->Prop}(I:Inv X pins σ H s)(hN:X.N.Nodup)(hi:X.N[i]? =some x)(hx:Loc X.env.scope x)(r:RelV v u)
  (h: ∀s',Inv X pins (σ.set i (some v)) H s'->Q () s') (hf:X.fn x=true∨X.env.scope.names.lookup x=some .local:=by first|exact .inl rfl|exact .inr rfl|assumption):wpAny M A (storeName X.env x u) Q E s:=
 wX I hN hi hx r (fun s' I' _=>h s' I') hf
theorem Inv.DD {s':Shared}{ch:List Addr}(I:Inv X pins σ H s)(ho:s'.os=s.os)(u:Un (Cg X.stack) ch H H' s.heap s'.heap)(cB:oq X.prog X.w H' s'.heap)(hg:AllBare s'.gens)
  (z6: ∀b∈ch,(b∈X.ex∨X.s₀.heap.objs.size<=b)/\b≠X.env.locals/\(∀x c,X.env.cells.lookup x=some c->c≠b)/\ ∀p∈X.pn ++ pins,p.1≠b):Inv X pins σ H' s':=by
 obtain⟨h',g',d',t',o'⟩:=s'
 have e:o'=s.os:=ho
 subst e
 exact I.call (g':=g') (t':=t') (d':=d') u cB hg z6
end
abbrev XK:=Value->Option Addr->Hp->Prop
abbrev St:=List (Option V)
abbrev VK:=V->Hp->Prop
abbrev TE:=St->Hp->VK->Prop
abbrev TT:=St->Hp->(Bool->Hp->Prop)->Prop
abbrev TA:=St->Hp->(List V->Hp->Prop)->Prop
structure Ends where
 nx:St->Hp->Prop
 rt:VK
 bk:St->Hp->Prop:=fun _ _=>False
 ct:St->Hp->Prop:=fun _ _=>False
abbrev TS:=Ends->St->Hp->Prop
def EP (X:Cx)(pins:List (Addr×Obj))(σ:St)(Q:VK)(u:Value)(s':Shared):Prop:= ∃v H',Inv X pins σ H' s'/\RelV v u/\Q v H'
def TP (X:Cx)(pins:List (Addr×Obj))(σ:St)(Q:Bool->Hp->Prop)(b:Bool)(s':Shared):Prop:= ∃H',Inv X pins σ H' s'/\Q b H'
def AP (X:Cx)(pins:List (Addr×Obj))(σ:St)(Q:List V->Hp->Prop)(us:List Value)(s':Shared):Prop:= ∃vs H',Inv X pins σ H' s'/\Vals vs us/\Q vs H'
def SP (X:Cx)(pins:List (Addr×Obj))(D:Ends)(f:Flow)(s':Shared):Prop:=
 match f with
 | .next=> ∃σ' H',Inv X pins σ' H' s'/\D.nx σ' H'
 | .brk=> ∃σ' H',Inv X pins σ' H' s'/\D.bk σ' H'
 | .cont=> ∃σ' H',Inv X pins σ' H' s'/\D.ct σ' H'
 | .ret u=> ∃v σ' H',Inv X pins σ' H' s'/\RelV v u/\D.rt v H'
def PE (X:Cx)(e:Expr)(t:TE):Prop:=
 ∀(pins:List (Addr×Obj)) (s:Shared) (σ:St) (H:Hp) (Q:VK),Inv X pins σ H s->t σ H Q->wpAny (model X.prog X.w) X.A (eval e X.env) (EP X pins σ Q) X.xe s
def PT (X:Cx)(e:Expr)(t:TT):Prop:=
 ∀(pins:List (Addr×Obj)) (s:Shared) (σ:St) (H:Hp) (Q:Bool->Hp->Prop),Inv X pins σ H s->t σ H Q->wpAny (model X.prog X.w) X.A (isTrue e X.env (eval e X.env)) (TP X pins σ Q) X.xe s
def PW (X:Cx)(e:Expr)(t:TT):Prop:=
 ∀(whole:Sem Value) (pins:List (Addr×Obj)) (s:Shared) (σ:St) (H:Hp) (Q:Bool->Hp->Prop),Inv X pins σ H s->t σ H Q->wpAny (model X.prog X.w) X.A (isTrue e X.env whole) (TP X pins σ Q) X.xe s
theorem PW.pt {X:Cx}{e:Expr}{t:TT}(h:PW X e t):PT X e t:=h _
def PA (X:Cx)(es:List Expr)(t:TA):Prop:=
 ∀(pos:Pos) (pins:List (Addr×Obj)) (s:Shared) (σ:St) (H:Hp) (Q:List V->Hp->Prop),Inv X pins σ H s->t σ H Q->wpAny (model X.prog X.w) X.A (spliced (backTo pos (starEach es X.env))) (AP X pins σ Q) X.xe s
def PS (X:Cx)(st:Stmt)(t:TS):Prop:=
 ∀(pins:List (Addr×Obj)) (s:Shared) (σ:St) (H:Hp) (D:Ends),Inv X pins σ H s->t D σ H->wpAny (model X.prog X.w) X.A (exec st X.env) (SP X pins D) X.xe s
def oG (X:Cx)(st:List Stmt)(t:TS):Prop:=
 ∀(pins:List (Addr×Obj)) (s:Shared) (σ:St) (H:Hp) (D:Ends),Inv X pins σ H s->t D σ H->wpAny (model X.prog X.w) X.A (execs st X.env) (SP X pins D) X.xe s
theorem dY {α:Type}{t:Sem α}{Q Q':α->Shared->Prop}{M:Model}{A:Around}{E:Value->Shared->Prop}{s:Shared}(h:wpAny M A t Q E s)(hQ: ∀a s,Q a s->Q' a s):wpAny M A t Q' E s:=cw h hQ fun _ _ x=>x
section
variable {X:Cx}
inductive XX (o:Option (Option V)) (k:V->Prop):Prop
 |mk (v:V) (h:o=some (some v)) (q:k v):XX o k
def Ql (i:Nat):TE:=fun σ H Q=>XX σ[i]? fun v=>Q v H
def tC (v:V):TE:=fun _ H Q=>Q v H
theorem Ci {i:Nat}{x:Str}{pos:Pos}(hN:X.N[i]? =some x)(hv:Qi X.env.scope x)(hd:(x == ("__debug__":Str))=false:=by decide)(ra:(x == ("__classdict__":Str))=false:=by decide):PE X (.Name x pos) (Ql i):=by
 intro pins s σ H Q I h
 obtain⟨v,e,h⟩:=h
 obtain⟨m,hn,hl⟩:=I.loc
 obtain⟨u,r,l⟩:=hl i x v hN e hv
 have fin:EP X pins σ Q u s:=⟨v,H,I,r,h⟩
 rcases l with⟨hk,hm⟩|⟨hk,c,hc,md⟩
 ·exact wpAny_Name (wpAny_loadName_local I.ok.kind hk hn hm fin) hd
 ·rcases hk with hk|hk
  ·exact wpAny_Name (wpAny_loadName_cell I.ok.kind hk hc md fin) hd
  ·exact wpAny_Name (wpAny_loadName_free I.ok.kind hk hc md fin ra) hd
theorem aj {i j pos}:PE X (.Constant (.int i) j pos) (tC (.int i)):=fun _ _ _ H _ I h=>wpAny_Constant_int ⟨.int i,H,I.tok _,⟨_,rfl⟩,h⟩
theorem mB {b j pos}:PE X (.Constant (.bool b) j pos) (tC (.bl b)):=fun _ _ _ H _ I h=>Constant_bool ⟨.bl b,H,I,rfl,h⟩
theorem Cj {j pos}:PE X (.Constant .none j pos) (tC .en):=fun _ _ _ H _ I h=>Constant_none ⟨.en,H,I,rfl,h⟩
theorem aR {x j pos}:PE X (.Constant (.str x) j pos) (tC (.str x)):=fun _ _ _ H _ I h=>Calls.Constant_str ⟨.str x,H,I.tok _,⟨_,rfl⟩,h⟩
def Gl (X:Cx)(x:Str):Prop:=X.env.kindOf x=some .globalImplicit
theorem jw {E:Value->Shared->Prop}{pins:List (Addr×Obj)}{s:Shared}{σ:St}{H:Hp}{x:Str}{u:Value}{pos:Pos}{Q:Value->Shared->Prop}(I:Inv X pins σ H s)(hg:Gl X x)(hm:X.mg x=some u)(h:Q u s)
  (hd:(x == ("__debug__":Str))=false:=by decide):wpAny (model X.prog X.w) X.A (eval (.Name x pos) X.env) Q E s:=
 Calls.Name_function_global I.ok.kind hg (Calls.loadGlobal_global (by rw[I.ok.glob]; exact I.mod.glob.keeps I.bk) hm h) hd
theorem o8 {E:Value->Shared->Prop}{pins:List (Addr×Obj)}{s:Shared}{σ:St}{H:Hp}{x:Str}{u:Value}{pos:Pos}{Q:Value->Shared->Prop}(I:Inv X pins σ H s)(hg:Gl X x)(hm:X.mg x=none)(hv:bootBuiltins x=some u)(h:Q u s)
  (hn:x≠"__name__":=by decide) (hd:(x == ("__debug__":Str))=false:=by decide):wpAny (model X.prog X.w) X.A (eval (.Name x pos) X.env) Q E s:=by
 obtain⟨mb,h1,h2⟩:=I.mod.blt
 exact Calls.Name_function_global I.ok.kind hg (Calls.loadGlobal_builtin (by rw[I.ok.glob]; exact I.mod.glob.keeps I.bk) hm (by rw[I.ok.blt]; exact h1.keeps I.bk) ((h2 x hn).trans hv) h) hd
theorem DE {x:Str}{v:V}{u:Value}{pos:Pos}(hg:Gl X x)(hm:X.mg x=some u)(r:RelV v u)(hd:(x == ("__debug__":Str))=false:=by decide):PE X (.Name x pos) (tC v):=
 fun _ _ _ H _ I h=>jw I hg hm ⟨v,H,I,r,h⟩ hd
theorem gY {x:Str}{v:V}{u:Value}{pos:Pos}(hg:Gl X x)(hm:X.mg x=none)(hv:bootBuiltins x=some u)(r:RelV v u)(hn:x≠"__name__":=by decide)(hd:(x == ("__debug__":Str))=false:=by decide):PE X (.Name x pos) (tC v):=
 fun _ _ _ H _ I h=>o8 I hg hm hv ⟨v,H,I,r,h⟩ hn hd
variable {a b:Expr}{ta tb:TE}{pos:Pos}
def PC (X:Cx)(op:CmpOp)(a b:Expr)(t:TE):Prop:=
 ∀(pins:List (Addr×Obj)) (s:Shared) (σ:St) (H:Hp) (Q:VK),Inv X pins σ H s->t σ H Q->
  wpAny (model X.prog X.w) X.A (eval a X.env) (fun v s₁=>wpAny (model X.prog X.w) X.A (eval b X.env) (fun u s₂=>wpAny (model X.prog X.w) X.A (compareOp op v u) (EP X pins σ Q) X.xe s₂) X.xe s₁) X.xe s
theorem z9 (b:Expr){op:CmpOp}(h:op≠ .In)(h2:op≠ .NotIn):behindInMarks op b=false:=by
 have e1:(op == CmpOp.In)=false:=by cases op <;> first|rfl|exact absurd rfl h
 have e2:(op == CmpOp.NotIn)=false:=by cases op <;> first|rfl|exact absurd rfl h2
 cases b <;> simp[behindInMarks,e1,e2]
def UP (ta:TE):TE:=fun σ H Q=>ta σ H fun x H1=>Q (.bl (decide (x= .en))) H1
def Qm (ta:TE):TE:=fun σ H Q=>ta σ H fun x H1=>Q (.bl (!decide (x= .en))) H1
theorem RelV.Aa {x:V}{v:Value}(r:RelV x v):(v == Value.none)=decide (x= .en):=by
 cases x with
 |en=>cases r; rfl
 |bl _=>cases r; rfl
 |int _=>obtain⟨t,rfl⟩:=r; rfl
 |str _=>obtain⟨t,rfl⟩:=r; rfl
 |E8 _=>obtain⟨t,rfl⟩:=r; rfl
 |Ke _=>obtain⟨t,rfl⟩:=r; rfl
 |ref _=>cases r; rfl
 |ty _=>cases r; rfl
theorem Hd {j pos'}(ha:PE X a ta):PC X .Is a (.Constant .none j pos') (UP ta):=by
 intro pins s σ H Q I h
 refine dY (ha pins s σ H _ I h) fun v s1 ⟨x,H1,I1,r1,q1⟩=>?_
 exact Constant_none (is_none_gen ⟨.bl _,H1,I1,by rw[r1.Aa]; rfl,q1⟩)
theorem Kl {j pos'}(ha:PE X a ta):PC X .IsNot a (.Constant .none j pos') (Qm ta):=by
 intro pins s σ H Q I h
 refine dY (ha pins s σ H _ I h) fun v s1 ⟨x,H1,I1,r1,q1⟩=>?_
 exact Constant_none (isnot_none_gen ⟨.bl _,H1,I1,by rw[r1.Aa]; rfl,q1⟩)
def tB (t:TE):TT:=fun σ H Q=>t σ H fun x H1=> ∃c,x= .bl c/\Q c H1
theorem Nb {op:CmpOp}{t:TE}(h:PC X op a b t)(h1:behindInMarks op b=false:=by first|exact z9 _ (by decide) (by decide)|rfl):PE X (.Compare a [op] [b] pos) t:=fun pins s σ H Q I hw=>wpAny_Compare1 (h pins s σ H Q I hw) h1
theorem xZ {op:CmpOp}{t:TE}(h:PC X op a b t)(h1:behindInMarks op b=false:=by first|exact z9 _ (by decide) (by decide)|rfl):PT X (.Compare a [op] [b] pos) (tB t):=by
 intro pins s σ H Q I hw
 refine wpAny_isTrue_Compare1 (dY (h pins s σ H _ I hw) fun v s1 h1=>dY h1 fun u s2 h2=>dY h2 fun c s3 ⟨x,H1,I1,r1,q1⟩=>?_) h1
 obtain⟨d,rfl,q⟩:=q1
 cases r1
 exact fV ⟨H1,I1,q⟩
theorem gg {e:Expr}{t:TE}(h:PE X e t)(he: ∀whole,isTrue e X.env whole=(do let v ← whole; standAt e.pos; holding [v] (truthy v)):=by intro _; rfl):PT X e (tB t):=by
 intro pins s σ H Q I hw
 refine isTrue_plain (dY (h pins s σ H _ I hw) fun v s1 ⟨x,H1,I1,r1,q1⟩=>?_) (he _)
 obtain⟨d,rfl,q⟩:=q1
 cases r1
 exact fV ⟨H1,I1,q⟩
variable {tA TC:TT}{rest:List Expr}
def UQ (t u:TT):TT:=fun σ H Q=>t σ H fun c H1=>if c=true then u σ H1 Q else Q false H1
def ZL (t u:TT):TT:=fun σ H Q=>t σ H fun c H1=>if c=true then Q true H1 else u σ H1 Q
def UR (t:TT):TT:=fun σ H Q=>t σ H fun c H1=>Q (!c) H1
theorem pw_and1 (ha:PT X a tA):PW X (.BoolOp .And [a] pos) tA:=by
 intro wh pins s σ H Q I h
 refine isTrue_and (dY (ha pins s σ H Q I h) fun c s1 e=>?_)
 cases c with
 |true=>exact isTrue_and_nil e
 |false=>exact e
theorem pw_or1 (ha:PT X a tA):PW X (.BoolOp .Or [a] pos) tA:=by
 intro wh pins s σ H Q I h
 refine isTrue_or (dY (ha pins s σ H Q I h) fun c s1 e=>?_)
 cases c with
 |false=>exact isTrue_or_nil e
 |true=>exact e
theorem pw_and (ha:PT X a tA)(hb:PW X (.BoolOp .And (b :: rest) pos) TC):PW X (.BoolOp .And (a :: b :: rest) pos) (UQ tA TC):=by
 intro wh pins s σ H Q I h
 refine isTrue_and (dY (ha pins s σ H _ I h) fun c s1 ⟨H1,I1,q1⟩=>?_)
 cases c with
 |true=>exact hb wh pins s1 σ H1 Q I1 q1
 |false=>exact⟨H1,I1,q1⟩
theorem pw_or (ha:PT X a tA)(hb:PW X (.BoolOp .Or (b :: rest) pos) TC):PW X (.BoolOp .Or (a :: b :: rest) pos) (ZL tA TC):=by
 intro wh pins s σ H Q I h
 refine isTrue_or (dY (ha pins s σ H _ I h) fun c s1 ⟨H1,I1,q1⟩=>?_)
 cases c with
 |true=>exact⟨H1,I1,q1⟩
 |false=>exact hb wh pins s1 σ H1 Q I1 q1
theorem jL (ha:PT X a tA):PT X (.UnaryOp .Not a pos) (UR tA):=by
 intro pins s σ H Q I h
 exact isTrue_not (ha pins s σ H (fun c H1=>Q (!c) H1) I h)
def Qn (ta tb:TE):TE:=fun σ H Q=>ta σ H fun x H1=> ∃c,x= .bl c/\if c=true then tb σ H1 Q else Q (.bl false) H1
def US (ta tb:TE):TE:=fun σ H Q=>ta σ H fun x H1=> ∃c,x= .bl c/\if c=true then Q (.bl true) H1 else tb σ H1 Q
def Qo (ta:TE):TE:=fun σ H Q=>ta σ H fun x H1=> ∃c,x= .bl c/\Q (.bl (!c)) H1
theorem mC {op}{t:TE}(h:PE X a t):PE X (.BoolOp op [a] pos) t:=fun pins s σ H Q I hw=>BoolOp_one (h pins s σ H Q I hw)
theorem o9 (ha:PE X a ta)(hb:PE X (.BoolOp .And (b :: rest) pos) tb):PE X (.BoolOp .And (a :: b :: rest) pos) (Qn ta tb):=by
 intro pins s σ H Q I h
 refine BoolOp_and (dY (ha pins s σ H _ I h) fun v s1 ⟨x,H1,I1,r1,q1⟩=>?_)
 obtain⟨c,rfl,q1⟩:=q1
 cases r1
 refine fV ?_
 cases c with
 |true=>exact hb pins s1 σ H1 Q I1 q1
 |false=>exact⟨.bl false,H1,I1,rfl,q1⟩
theorem Qp (ha:PE X a ta)(hb:PE X (.BoolOp .Or (b :: rest) pos) tb):PE X (.BoolOp .Or (a :: b :: rest) pos) (US ta tb):=by
 intro pins s σ H Q I h
 refine BoolOp_or (dY (ha pins s σ H _ I h) fun v s1 ⟨x,H1,I1,r1,q1⟩=>?_)
 obtain⟨c,rfl,q1⟩:=q1
 cases r1
 refine fV ?_
 cases c with
 |false=>exact hb pins s1 σ H1 Q I1 q1
 |true=>exact⟨.bl true,H1,I1,rfl,q1⟩
theorem Nc (ha:PE X a ta):PE X (.UnaryOp .Not a pos) (Qo ta):=by
 intro pins s σ H Q I h
 refine UnaryOp_ (dY (ha pins s σ H _ I h) fun v s1 ⟨x,H1,I1,r1,q1⟩=>?_)
 obtain⟨c,rfl,q1⟩:=q1
 cases r1
 exact not_of (fV ⟨.bl (!c),H1,I1,rfl,q1⟩)
end
def bL (K:PySem.W.Frag)(H:Hp)(a:Addr)(xs:List V):Prop:=
 Rd H a (.lst xs)∨
  ∃(o:Obj) (cm:Array Value) (n:Nat),K.lookup a=some o/\o.cls= .type "list"/\o.dict=none/\o.data= .seq cm n/\cm.size<=sizeLine/\Vals xs cm.toList
def cG (K:PySem.W.Frag)(H:Hp)(a:Addr)(xs:List V):Prop:=
 Rd H a (.tup xs)∨
  ∃(o:Obj) (cm:Array Value) (n:Nat),K.lookup a=some o/\o.cls= .type "tuple"/\o.data= .seq cm n/\cm.size<=sizeLine/\Vals xs cm.toList
def UT:Value->Option V
 | .none=>some .en
 | .bool b=>some (.bl b)
 | .int i _=>some (.int i)
 | .str x _=>some (.str x)
 | .bytes b _=>some (.E8 b)
 | .float b _=>some (.Ke b)
 | .ref a=>some (.ref a)
 | .type n=>some (.ty n)
 |_=>none
theorem RelV.abs {x:V}{u:Value}(r:RelV x u):UT u=some x:=by
 cases x with
 |en=>cases r; rfl
 |bl _=>cases r; rfl
 |int _=>obtain⟨t,rfl⟩:=r; rfl
 |str _=>obtain⟨t,rfl⟩:=r; rfl
 |E8 _=>obtain⟨t,rfl⟩:=r; rfl
 |Ke _=>obtain⟨t,rfl⟩:=r; rfl
 |ref _=>cases r; rfl
 |ty _=>cases r; rfl
theorem RelV.inj {x y:V}{u:Value}(r:RelV x u)(q:RelV y u):x=y:=aE (r.abs.symm.trans q.abs)
theorem Vals.inj: ∀{xs ys:List V} {us:List Value},Vals xs us->Vals ys us->xs=ys
 |_,_,_,.nil,.nil=>rfl
 |_,_,_,.cons r t,.cons r' t'=>by rw[r.inj r',Vals.inj t t']
section
variable {X:Cx}{pins:List (Addr×Obj)}{σ:St}{H:Hp}{s:Shared}{a:Addr}{xs ys:List V}
theorem bL.of {K:PySem.W.Frag}(h:H a=some (.lst xs)):bL K H a xs:= .inl (.inl h)
theorem cG.of {K:PySem.W.Frag}(h:H a=some (.tup xs)):cG K H a xs:= .inl (.inl h)
theorem Inv.list (I:Inv X pins σ H s)(h:bL X.K H a xs): ∃cm:List Value,Vals xs cm/\PlainL s.heap a cm.toArray/\xs.length<=sizeLine:=by
 rcases h with h|⟨o,cm,n,hk,hc,hd,hs,hz,r⟩
 ·obtain⟨z,cm,n,r,e⟩:=h.ok I.cB
  exact⟨cm,r,⟨_,n,e,rfl,rfl,rfl⟩,z⟩
 ·refine⟨cm.toList,r,⟨o,n,I.gN a o hk,hc,hd,by simpa using hs⟩,?_⟩
  have e:=r.length
  simp only[Array.length_toList] at e
  lia
theorem Inv.tuple (I:Inv X pins σ H s)(h:cG X.K H a xs): ∃cm:List Value,Vals xs cm/\IsTup s.heap a cm.toArray/\xs.length<=sizeLine:=by
 rcases h with h|⟨o,cm,n,hk,hc,hs,hz,r⟩
 ·obtain⟨z,cm,r,p⟩:=h.ok I.cB
  exact⟨cm,r,p,z⟩
 ·refine⟨cm.toList,r,⟨o,I.gN a o hk,hc,n,by simpa using hs⟩,?_⟩
  have e:=r.length
  simp only[Array.length_toList] at e
  lia
theorem Inv.Ab (I:Inv X pins σ H s)(h:bL X.K H a xs)(h':bL X.K H a ys):xs=ys:=by
 obtain⟨cm,r,⟨o,n,e,_,_,d⟩,_⟩:=I.list h
 obtain⟨qh,r',⟨o',n',e',_,_,d'⟩,_⟩:=I.list h'
 rw[e] at e'; cases e'
 rw[d] at d'
 injection d' with d1 _
 have:cm=qh:=by simpa using congrArg Array.toList d1
 subst this
 exact r.inj r'
theorem Inv.Fd (I:Inv X pins σ H s)(h:cG X.K H a xs)(h':cG X.K H a ys):xs=ys:=by
 obtain⟨cm,r,⟨o,e,_,n,d⟩,_⟩:=I.tuple h
 obtain⟨qh,r',⟨o',e',_,n',d'⟩,_⟩:=I.tuple h'
 rw[e] at e'; cases e'
 rw[d] at d'
 injection d' with d1 _
 have:cm=qh:=by simpa using congrArg Array.toList d1
 subst this
 exact r.inj r'
end
abbrev Cx.tV (X:Cx)(E:Value->Shared->Prop):Cx:={X with xe:=E}
abbrev Cx.DF (X:Cx):Cx:=X.tV fun _ _=>False
theorem Cx.Ok.tV {X:Cx}(ok:X.Ok)(E:Value->Shared->Prop):(X.tV E).Ok:=
 ⟨ok.mod,ok.kind,ok.glob,ok.blt,ok.above,ok.inj,ok.has,ok.JK,ok.hd,ok.frames,ok.GX,ok.Kh,ok.bs,ok.z5,ok.vI,ok.vJ,ok.lL,ok.DA⟩
theorem Cx.Ok.mD {X:Cx}{E:Value->Shared->Prop}(ok:(X.tV E).Ok):X.Ok:=
 ⟨ok.mod,ok.kind,ok.glob,ok.blt,ok.above,ok.inj,ok.has,ok.JK,ok.hd,ok.frames,ok.GX,ok.Kh,ok.bs,ok.z5,ok.vI,ok.vJ,ok.lL,ok.DA⟩
section
variable {X:Cx}{pins:List (Addr×Obj)}{σ:St}{H:Hp}{s:Shared}{E:Value->Shared->Prop}
theorem Inv.tV (I:Inv X pins σ H s)(E:Value->Shared->Prop):Inv (X.tV E) pins σ H s:=⟨I.ok.tV E,I.os,I.bare,I.base,I.loc,I.cell,I.free,I.iO,I.pin,I.cB,I.len⟩
theorem Inv.mD (I:Inv (X.tV E) pins σ H s):Inv X pins σ H s:=⟨I.ok.mD,I.os,I.bare,I.base,I.loc,I.cell,I.free,I.iO,I.pin,I.cB,I.len⟩
theorem SP.mD {D:Ends}{f:Flow}{s':Shared}(h:SP (X.tV E) pins D f s'):SP X pins D f s':=by
 cases f with
 |next=>obtain⟨σ',H',I,q⟩:=h; exact⟨σ',H',I.mD,q⟩
 |brk=>obtain⟨σ',H',I,q⟩:=h; exact⟨σ',H',I.mD,q⟩
 |cont=>obtain⟨σ',H',I,q⟩:=h; exact⟨σ',H',I.mD,q⟩
 |ret u=>obtain⟨v,σ',H',I,r,q⟩:=h; exact⟨v,σ',H',I.mD,r,q⟩
theorem oG.DF {st:List Stmt}{t:TS}(h:oG X.DF st t):oG X st t:=fun pins s σ H D I hw=>
 cw (h pins s σ H D (I.tV _) hw) (fun _ _ q=>q.mD) fun _ _ z=>False.elim z
end
section
variable {X:Cx}{st:Stmt}{rest:List Stmt}{t u:TS}{e:Expr}{te:TE}{pos:Pos}
def Qq:TS:=fun D σ H=>D.nx σ H
def UU (t u:TS):TS:=fun D σ H=>t {D with nx:=u D} σ H
theorem bp:oG X [] Qq:=fun _ _ σ H _ I h=>jm ⟨σ,H,I,h⟩
theorem ah (h1:PS X st t)(h2:oG X rest u):oG X (st :: rest) (UU t u):=by
 intro pins s σ H D I h
 refine wpAny_execs_cons (dY (h1 pins s σ H {D with nx:=u D} I h) fun f s1 q=>?_)
 cases f with
 |next=>
  obtain⟨σ',H',I',q⟩:=q
  exact h2 pins s1 σ' H' D I' q
 |ret v=>exact q
 |brk=>exact q
 |cont=>exact q
theorem av (h1:PS X st t):oG X [st] t:=by
 intro pins s σ H D I h
 refine wpAny_execs_cons (dY (h1 pins s σ H D I h) fun f s1 q=>?_)
 cases f with
 |next=>exact jm q
 |ret v=>exact q
 |brk=>exact q
 |cont=>exact q
theorem Inv.quiet {pins:List (Addr×Obj)}{σ:St}{H:Hp}{s:Shared}(I:Inv X pins σ H s):interactive X.env=false:=by simp[interactive,I.ok.kind]
def Qr (te:TE):TS:=fun D σ H=>te σ H fun _ H1=>D.nx σ H1
theorem bM (he:PE X e te)(hs:swapsWith e none pos.line X.env=pure false:=by rfl):PS X (.Expr e pos) (Qr te):=by
 intro pins s σ H D I h
 exact wpAny_Expr_any (dY (he pins s σ H _ I h) fun v s1 ⟨x,H1,I1,r1,q1⟩=>⟨σ,H1,I1,q1⟩) I.quiet hs
def UW (te:TE):TS:=fun D σ H=>te σ H D.rt
theorem a9 (he:PE X e te):PS X (.Return (some e) pos) (UW te):=by
 intro pins s σ H D I h
 exact wpAny_Return_some (dY (he pins s σ H _ I h) fun v s1 ⟨x,H1,I1,r1,q1⟩=>⟨x,σ,H1,I1,r1,q1⟩)
def UX (c:TT)(t u:TS):TS:=fun D σ H=>c σ H fun b H1=>if b=true then t D σ H1 else u D σ H1
theorem bV {c:Expr}{a b:List Stmt}{tc:TT}(hc:PT X c tc)(ha:oG X a t)(hb:oG X b u):PS X (.If c a b pos) (UX tc t u):=by
 intro pins s σ H D I h
 refine wpAny_If (dY (hc pins s σ H _ I h) fun d s1 ⟨H1,I1,q1⟩=>?_)
 cases d with
 |true=>exact ha pins s1 σ H1 D I1 q1
 |false=>exact hb pins s1 σ H1 D I1 q1
end
abbrev TG:=V->St->Hp->(St->Hp->Prop)->Prop
abbrev Mf:=List V->St->Hp->(St->Hp->Prop)->Prop
def PG (X:Cx)(target:Expr)(t:TG):Prop:=
 ∀(pins:List (Addr×Obj)) (s:Shared) (σ:St) (H:Hp) (v:V) (u:Value) (Q:St->Hp->Prop),Inv X pins σ H s->RelV v u->t v σ H Q->
  wpAny (model X.prog X.w) X.A (assign target X.env u) (fun _ s'=> ∃σ' H',Inv X pins σ' H' s'/\Q σ' H') X.xe s
def JL (X:Cx)(ts:List Expr)(t:Mf):Prop:=
 ∀(pins:List (Addr×Obj)) (s:Shared) (σ:St) (H:Hp) (vs:List V) (us:List Value) (Q:St->Hp->Prop),Inv X pins σ H s->Vals vs us->t vs σ H Q->
  wpAny (model X.prog X.w) X.A (assignInOrder ((assignEach ts X.env).map (·.2)) us) (fun _ s'=> ∃σ' H',Inv X pins σ' H' s'/\Q σ' H') X.xe s
abbrev Nd:=V->V->V->Hp->(Hp->Prop)->Prop
def Qs (X:Cx)(t:Nd):Prop:=
 ∀(pins:List (Addr×Obj)) (s:Shared) (σ:St) (H:Hp) (o i v:V) (ov iv u:Value) (Q:Hp->Prop),Inv X pins σ H s->RelV o ov->RelV i iv->RelV v u->t o i v H Q->
  wpAny (model X.prog X.w) X.A (setItem ov iv u) (fun _ s'=> ∃H',Inv X pins σ H' s'/\Q H') X.xe s
section
variable {X:Cx}{pos:Pos}
def Ac (i:Nat):TG:=fun v σ H Q=>Q (σ.set i (some v)) H
theorem eG {i:Nat}{x:Str}(hN:X.N.Nodup)(hi:X.N[i]? =some x)(hx:Loc X.env.scope x)(hf:X.fn x=true∨X.env.scope.names.lookup x=some .local:=by first|exact .inl rfl|exact .inr rfl|assumption):PG X (.Name x pos) (Ac i):=by
 intro pins s σ H v u Q I r h
 exact wpAny_assign_Name (tU I hN hi hx r (fun s' I'=>⟨_,H,I',h⟩) hf)
def UY:Mf:=fun vs σ H Q=>vs=[]/\Q σ H
def Qt (t:TG)(u:Mf):Mf:=fun vs σ H Q=> ∃v r,vs=v :: r/\t v σ H fun σ' H'=>u r σ' H' Q
theorem gG:JL X [] UY:=by
 intro pins s σ H vs us Q I r h
 obtain⟨e,h⟩:=h
 subst e
 cases r
 exact assignInOrder_nil ⟨σ,H,I,h⟩
theorem ck {e:Expr}{es:List Expr}{t:TG}{u:Mf}(h1:PG X e t)(h2:JL X es u)
  (hs:(assignEach (e :: es) X.env).map (·.2)=assign e X.env :: (assignEach es X.env).map (·.2):=by rfl):JL X (e :: es) (Qt t u):=by
 intro pins s σ H vs us Q I r h
 obtain⟨v,vr,e1,h⟩:=h
 subst e1
 cases r with
 |cons r rr=>
  rw[hs]
  refine assignInOrder_cons (dY (h1 pins s σ H _ _ _ I r h) fun _ s1 ⟨σ1,H1,I1,q1⟩=>?_)
  exact h2 pins s1 σ1 H1 _ _ Q I1 rr q1
def Qu (K:PySem.W.Frag)(n:Nat)(t:Mf):TG:=fun v σ H Q=> ∃a xs,v= .ref a/\cG K H a xs/\xs.length=n/\t xs σ H Q
theorem iT {es:List Expr}{k:Nat}{t:Mf}{n:Nat}(hc:X.calm=true)(h:JL X es t)
  (hn:(assignEach es X.env).length=n:=by rfl) (se:(assignEach es X.env).findIdx? (·.1)=none:=by rfl):PG X (.Tuple es k pos) (Qu X.K n t):=by
 intro pins s σ H v u Q I r hw
 obtain⟨a,xs,e1,hq,hl,hw⟩:=hw
 subst e1
 cases r
 obtain⟨cm,rv,ht,hz⟩:=I.tuple hq
 refine assign_Tuple_tuple (I.ok.hd hc) ht (by simp[hn,← hl,rv.length]) se fun h' hx=>?_
 have I1:Inv X pins σ H {s with heap:=h'}:=I.kept (t':=s.toks) fun b o e=>hx b o (aX (aK e)) e
 exact h pins _ σ H xs _ Q I1 (by simpa using rv) hw
def UZ (to ti:TE)(t:Nd):TG:=fun v σ H Q=>to σ H fun o H1=>ti σ H1 fun i H2=>t o i v H2 fun H3=>Q σ H3
theorem mE {o i:Expr}{to ti:TE}{t:Nd}(ho:PE X o to)(hi:PE X i ti)(hs:Qs X t)
  (ha: ∀v,assign (.Subscript o i pos) X.env v=(do
   let ov ← holding [v] (eval o X.env)
   let iv ← holding [v,ov] (eval i X.env)
   standAt pos
   holding [v,ov,iv] (setItem ov iv v)
   release [v,ov,iv] []):=by intro _; rfl):PG X (.Subscript o i pos) (UZ to ti t):=by
 intro pins s σ H v u Q I r h
 rw[ha]
 refine aA (iq (dY (ho pins s σ H _ I h) fun ov s1 ⟨x,H1,I1,r1,q1⟩=>?_))
 refine aA (iq (dY (hi pins s1 σ H1 _ I1 q1) fun iv s2 ⟨y,H2,I2,r2,q2⟩=>?_))
 refine aA (ir (aA (iq (dY (hs pins s2 σ H2 x y v ov iv u _ I2 r1 r2 r q2) fun _ s3 ⟨H3,I3,q3⟩=>?_))))
 exact wpAny_release ⟨σ,H3,I3,q3⟩
def Km (te:TE)(g:TG):TS:=fun D σ H=>te σ H fun x H1=>g x σ H1 D.nx
theorem kK {tg e:Expr}{te:TE}{g:TG}(he:PE X e te)(hg:PG X tg g)(hs:swapsWithSole [tg] e pos.line X.env=pure false:=by rfl)(hw:swappedStores [tg] e X.env=pure none:=by rfl)
  (h1:(assignEach [tg] X.env).map (·.2)=[assign tg X.env]:=by rfl):PS X (.Assign [tg] e pos) (Km te g):=by
 intro pins s σ H D I h
 refine wpAny_Assign_stores (dY (he pins s σ H _ I h) fun v s1 ⟨x,H1,I1,r1,q1⟩=>?_) hs hw
 rw[h1]
 exact dY (hg pins s1 σ H1 x v _ I1 r1 q1) fun _ s2 q=>q
theorem Nf {i:Nat}{x:Str}{e:Expr}{te:TE}{pos':Pos}(hN:X.N.Nodup)(hi:X.N[i]? =some x)(hx:Loc X.env.scope x)(he:PE X e te)(hs:swapsWith e (some (.Name x pos')) pos.line X.env=pure false:=by rfl)(hf:X.fn x=true∨X.env.scope.names.lookup x=some .local:=by first|exact .inl rfl|exact .inr rfl|assumption):
  PS X (.Assign [.Name x pos'] e pos) (Km te (Ac i)):=by
 intro pins s σ H D I h
 refine wpAny_Assign_Name (dY (he pins s σ H _ I h) fun v s1 ⟨y,H1,I1,r1,q1⟩=>?_) hs
 exact tU I1 hN hi hx r1 (fun s2 I2=>⟨_,H1,I2,q1⟩) hf
def Ng (c:TT)(tb:TS):TS:=fun D σ H=> ∃W:Nat->St->Hp->Prop,(∃m,W m σ H)/\ ∀m σ H,W m σ H->
 c σ H fun b H1=>if b=true then ∃N:St->Hp->Prop,(∀σ' H',N σ' H'-> ∃m',m' < m/\W m' σ' H')/\tb {D with nx:=N,ct:=N,bk:=D.nx} σ H1 else D.nx σ H1
theorem He {c:Expr}{body:List Stmt}{tc:TT}{tb:TS}(hp:PassesOwn (model X.prog X.w) X.A X.env X.xe)(hc:PT X c tc)(hb:oG X body tb):PS X (.While c body [] pos) (Ng tc tb):=by
 intro pins s σ H D I h
 obtain⟨W,⟨m0,w0⟩,turn⟩:=h
 refine wpAny_While (codeAny_whileLoop (fun n s'=> ∃σ' H',Inv X pins σ' H' s'/\W n σ' H') ?_ m0 ⟨σ,H,I,w0⟩)
 rintro n s1 ⟨σ1,H1,I1,w1⟩
 refine dS hp (dY (hc pins s1 σ1 H1 _ I1 (turn n σ1 H1 w1)) fun b s2 ⟨H2,I2,q2⟩=>?_)
 cases b with
 |true=>
  obtain⟨N,hN,q2⟩:=q2
  rw[a7 rfl]
  refine dS hp (dY (hb pins s2 σ1 H2 _ I2 q2) fun f s3 q3=>?_)
  cases f with
  |next=>
   obtain⟨σ3,H3,I3,n3⟩:=q3
   obtain⟨m',hm,w3⟩:=hN σ3 H3 n3
   exact⟨m',hm,σ3,H3,I3,w3⟩
  |cont=>
   obtain⟨σ3,H3,I3,n3⟩:=q3
   obtain⟨m',hm,w3⟩:=hN σ3 H3 n3
   exact⟨m',hm,σ3,H3,I3,w3⟩
  |brk=>exact q3
  |ret v=>exact q3
 |false=>
  rw[aO aY]
  exact jm ⟨σ1,H2,I2,q2⟩
end
structure It where
 go:Nat->Hp->Prop
 Pw:Nat->Hp->V->Hp->Prop
 stop:Nat->Hp->Prop
def tW (X:Cx)(pins:List (Addr×Obj))(H:Hp)(b:Addr):Prop:=
 H b=none/\b≠X.env.locals/\b∉X.fs/\(b∈X.ex∨X.s₀.heap.objs.size<=b)/\(∀x c,X.env.cells.lookup x=some c->c≠b)/\ ∀p∈X.pn ++ pins,p.1≠b
theorem Inv.Fe {X:Cx}{pins:List (Addr×Obj)}{σ:St}{H H':Hp}{s:Shared}{b:Addr}(I:Inv X pins σ H s)(hb:s.heap.objs.size<=b)(hn:H' b=none):tW X pins H' b:=by
 refine⟨hn,pV (bf I.lt hb),I.Fb hb,.inr (a0 I.sz hb),fun x c e z=>?_,fun p hp z=>?_⟩
 ·obtain⟨v,q⟩:=I.cell x c e
  exact absurd (bf q.lt (by rw[z]; exact hb)) (iP _)
 ·exact absurd (bf (aK (I.pin p hp).1) (by rw[z]; exact hb)) (iP _)
structure Turn (P:Program)(w:World)(K:PySem.W.Frag)(tg:Expr)(J:It)(fp:List Addr)(it:Addr)(tn:Nat->Heap->Prop):Prop where
 mem:it∈fp
 obj: ∀i h,tn i h-> ∀b∈fp,∃o,h.get? b=some o/\ ∀v,o.data≠ .cell v
 keep: ∀i h h',tn i h->(∀b∈fp,∀o,h.get? b=some o->h'.get? b=some o)->tn i h'
 item: ∀(X:Cx),X.prog=P->X.w=w->X.K=K->X.calm=true-> ∀(i:Nat) (pins:List (Addr×Obj)) (s:Shared) (σ:St) (H:Hp) (E:Value->Shared->Prop),Inv X pins σ H s->(∀b∈fp,tW X pins H b)->tn i s.heap->J.go i H->
  wpAny (model P w) X.A (pyNext (.ref it)) (fun r s1=> ∃u,r=some u/\
   wpAny (model P w) X.A (letOwnedTupleGo tg (.ref it) u) (fun _ s2=> ∃x H',Inv X pins σ H' s2/\RelV x u/\J.Pw i H x H'/\tn (i + 1) s2.heap/\ ∀b∈fp,H' b=none) E s1) E s
 done: ∀(X:Cx),X.prog=P->X.w=w->X.K=K->X.calm=true-> ∀(i:Nat) (pins:List (Addr×Obj)) (s:Shared) (σ:St) (H:Hp) (E:Value->Shared->Prop),Inv X pins σ H s->(∀b∈fp,tW X pins H b)->tn i s.heap->J.stop i H->
  wpAny (model P w) X.A (pyNext (.ref it)) (fun r s1=>r=none/\Inv X pins σ H s1) E s
 self: ∀(A:Around) (i:Nat) (s:Shared) (Q:Value->Shared->Prop) (E:Value->Shared->Prop),tn i s.heap->Q (.ref it) s->wpAny (model P w) A (pyIter (.ref it)) Q E s
abbrev TI:=St->Hp->(It->Hp->Prop)->Prop
def XY (X:Cx)(pins:List (Addr×Obj))(σ:St)(tg:Expr)(R:It->Hp->Prop)(TF:Value)(s2:Shared):Prop:=
 ∃(it:Addr) (fp:List Addr) (tn:Nat->Heap->Prop) (J:It) (H':Hp),TF= .ref it/\Inv X pins σ H' s2/\Turn X.prog X.w X.K tg J fp it tn/\tn 0 s2.heap/\(∀b∈fp,tW X pins H' b)/\R J H'
def PI (X:Cx)(tg iter:Expr)(wi:TI):Prop:=
 ∀(pins:List (Addr×Obj)) (s:Shared) (σ:St) (H:Hp) (R:It->Hp->Prop),Inv X pins σ H s->wi σ H R->
  wpAny (model X.prog X.w) X.A (eval iter X.env) (fun v s1=>wpAny (model X.prog X.w) X.A (pyIter v) (XY X pins σ tg R) X.xe s1) X.xe s
theorem DG {M:Model}{A:Around}{E:Value->Shared->Prop}{s:Shared}{tg:Expr}{it:Addr}{u:Value}{o:Obj}{n:String}{vs:Array Value}{Q:Unit->Shared->Prop}(ho:s.heap.get? it=some o)(hc:o.cls= .type n)(hd:o.data= .fields vs)
  (hn:["enumerate","zip","dict_itemiterator","dict_reverseitemiterator","odict_iterator","itertools.zip_longest","itertools.pairwise"].contains n=false) (hQ:Q () s):wpAny M A (letOwnedTupleGo tg (.ref it) u) Q E s:=by
 unfold letOwnedTupleGo
 cases tg <;> first
  |exact bG hQ
  |(cases u <;> first
    |exact bG hQ
    |(refine aA (wpAny_load ho ?_)
      rw[hc,hd]
      show wpAny M A (if(["enumerate","zip","dict_itemiterator","dict_reverseitemiterator","odict_iterator","itertools.zip_longest","itertools.pairwise"].contains n && vs[0]? == some (rawInt _))=true then _ else _) Q E s
      rw[aO (by intro h; rw[hn,MU] at h; cases h)]
      exact bG hQ))
def Px (K:PySem.W.Frag)(a:Addr):It:=
 ⟨fun i H=> ∃xs x,bL K H a xs/\xs[i]? =some x,fun i H x H'=>H'=H/\ ∀xs,bL K H a xs->xs[i]? =some x,fun i H=> ∃xs,bL K H a xs/\xs.length<=i⟩
def U0 (K:PySem.W.Frag)(a:Addr):It:=
 ⟨fun i H=> ∃xs x,cG K H a xs/\xs[i]? =some x,fun i H x H'=>H'=H/\ ∀xs,cG K H a xs->xs[i]? =some x,fun i H=> ∃xs,cG K H a xs/\xs.length<=i⟩
def Mg (lo:Int)(n:Nat):It:=⟨fun i _=>i < n,fun i H x H'=>H'=H/\x= .int (lo + i),fun i _=>n<=i⟩
theorem Ff {P:Program}{w:World}{K:PySem.W.Frag}{tg:Expr}(a it:Addr):Turn P w K tg (Px K a) [it] it (fun i h=>h.IsListIter it a i) where
 mem:=by simp
 obj:=fun i h st b hb=>by
  have e:b=it:=by simpa using hb
  subst e
  obtain⟨o,e,c,d⟩:=st
  exact⟨o,e,fun v z=>by rw[d] at z; cases z⟩
 keep:=fun i h h' st k=>st.at fun o e=>k it (by simp) o e
 item:=by
  intro X hP hw hK hc i pins s σ H E I hf st hg
  subst hP hw hK
  obtain⟨xs,x,hq,hx⟩:=hg
  obtain⟨cm,rv,p,hz⟩:=I.list hq
  obtain⟨u,hu,ru⟩:=rv.get hx
  obtain⟨f0,f1,f2,f3,f4,f5⟩:=hf it (by simp)
  refine wpAny_pyNext_list_item st p.isList (x:=u) (by simpa using hu) fun h' zP sb=>?_
  have I1:Inv X pins σ H {s with heap:=h'}:=I.turned (t':=s.toks) (fun b o hb e=>(sb.2 b hb).trans e) f0 f1 f3 f4 f5
  obtain⟨o,e,c,d⟩:=id zP
  exact⟨u,rfl,DG (s:={s with heap:=h'}) e c d (by decide) ⟨x,H,I1,ru,⟨rfl,fun ys hy=>by rw[I.Ab hy hq]; exact hx⟩,zP,fun b hb=>(hf b hb).1⟩⟩
 done:=by
  intro X hP hw hK hc i pins s σ H E I hf st hg
  subst hP hw hK
  obtain⟨xs,hq,hx⟩:=hg
  obtain⟨cm,rv,p,hz⟩:=I.list hq
  obtain⟨f0,f1,f2,f3,f4,f5⟩:=hf it (by simp)
  have hl:=rv.length
  exact wpAny_pyNext_list_end (I.ok.hd hc) st p.isList (by simp; lia) fun h' eb=>⟨rfl,I.turned (t':=s.toks) (fun b o hb e=>eb b o hb e) f0 f1 f3 f4 f5⟩
 self:=fun _ _ _ _ _ st h=>wpAny_pyIter_listiter st h
theorem Ck {P:Program}{w:World}{K:PySem.W.Frag}{tg:Expr}(a it:Addr):Turn P w K tg (U0 K a) [it] it (fun i h=>h.IsTupleIter it a i) where
 mem:=by simp
 obj:=fun i h st b hb=>by
  have e:b=it:=by simpa using hb
  subst e
  obtain⟨o,e,c,d⟩:=st
  exact⟨o,e,fun v z=>by rw[d] at z; cases z⟩
 keep:=fun i h h' st k=>st.at fun o e=>k it (by simp) o e
 item:=by
  intro X hP hw hK hc i pins s σ H E I hf st hg
  subst hP hw hK
  obtain⟨xs,x,hq,hx⟩:=hg
  obtain⟨cm,rv,p,hz⟩:=I.tuple hq
  obtain⟨u,hu,ru⟩:=rv.get hx
  obtain⟨f0,f1,f2,f3,f4,f5⟩:=hf it (by simp)
  refine wpAny_pyNext_tuple_item st (show s.heap.IsTuple a cm.toArray from p) (x:=u) (by simpa using hu) fun h' zP sb=>?_
  have I1:Inv X pins σ H {s with heap:=h'}:=I.turned (t':=s.toks) (fun b o hb e=>(sb.2 b hb).trans e) f0 f1 f3 f4 f5
  obtain⟨o,e,c,d⟩:=id zP
  exact⟨u,rfl,DG (s:={s with heap:=h'}) e c d (by decide) ⟨x,H,I1,ru,⟨rfl,fun ys hy=>by rw[I.Fd hy hq]; exact hx⟩,zP,fun b hb=>(hf b hb).1⟩⟩
 done:=by
  intro X hP hw hK hc i pins s σ H E I hf st hg
  subst hP hw hK
  obtain⟨xs,hq,hx⟩:=hg
  obtain⟨cm,rv,p,hz⟩:=I.tuple hq
  obtain⟨f0,f1,f2,f3,f4,f5⟩:=hf it (by simp)
  have hl:=rv.length
  exact wpAny_pyNext_tuple_end (I.ok.hd hc) st (show s.heap.IsTuple a cm.toArray from p) (by simp; lia) fun h' eb=>⟨rfl,I.turned (t':=s.toks) (fun b o hb e=>eb b o hb e) f0 f1 f3 f4 f5⟩
 self:=fun _ _ _ _ _ st h=>wpAny_pyIter_tupleiter st h
theorem Cm {P:Program}{w:World}{K:PySem.W.Frag}{tg:Expr}(it:Addr)(lo:Int)(n:Nat):Turn P w K tg (Mg lo n) [it] it (fun i h=>IsRangeIter h it (lo + (i:Nat) * 1) ((n:Int) - (i:Nat)) 1) where
 mem:=by simp
 obj:=fun i h st b hb=>by
  have e:b=it:=by simpa using hb
  subst e
  exact⟨_,st,fun v z=>by
   have z':Data.fields _ =Data.cell v:=z
   cases z'⟩
 keep:=fun i h h' st k=>k it (by simp) _ st
 item:=by
  intro X hP hw hK hc i pins s σ H E I hf st hg
  subst hP hw hK
  obtain⟨f0,f1,f2,f3,f4,f5⟩:=hf it (by simp)
  have W:=Walks.range (prog:=X.prog) (w:=X.w) (I.ok.hd hc) it lo 1 n
  refine W.item i s _ _ hg st fun v h' tk hv zP kk=>?_
  obtain⟨t,rfl⟩:=hv
  have I1:Inv X pins σ H {s with heap:=h',toks:=tk}:=I.turned (fun b o hb e=>kk b o (by simpa using hb) e) f0 f1 f3 f4 f5
  refine⟨_,rfl,DG (s:={s with heap:=h',toks:=tk}) (n:="range_iterator") zP rfl rfl (by decide) ⟨.int (lo + i),H,I1,⟨t,?_⟩,⟨rfl,rfl⟩,zP,fun b hb=>(hf b hb).1⟩⟩
  rw[Int.mul_one]
 done:=by
  intro X hP hw hK hc i pins s σ H E I hf st hg
  subst hP hw hK
  obtain⟨f0,f1,f2,f3,f4,f5⟩:=hf it (by simp)
  exact wpAny_pyNext_range_end (I.ok.hd hc) st (by have:n<=i:=hg; lia) fun h' eb=>⟨rfl,I.turned (t':=s.toks) (fun b o hb e=>eb b o hb e) f0 f1 f3 f4 f5⟩
 self:=fun _ _ _ _ _ st h=>wpAny_pyIter_rangeiter st h
section
variable {X:Cx}{tg:Expr}
def Qv (K:PySem.W.Frag)(tl:TE):TI:=fun σ H R=>tl σ H fun x H1=> ∃a,x= .ref a/\(∃xs,bL K H1 a xs)/\R (Px K a) H1
def U1 (K:PySem.W.Frag)(tl:TE):TI:=fun σ H R=>tl σ H fun x H1=> ∃a,x= .ref a/\(∃xs,cG K H1 a xs)/\R (U0 K a) H1
theorem dz {l:Expr}{tl:TE}(hl:PE X l tl):PI X tg l (Qv X.K tl):=by
 intro pins s σ H R I h
 refine dY (hl pins s σ H _ I h) fun v s1 ⟨x,H1,I1,r1,q1⟩=>?_
 obtain⟨a,e,⟨xs,hq⟩,q⟩:=q1
 subst e
 cases r1
 obtain⟨cm,rv,p,hz⟩:=I1.list hq
 refine MV p.isList ?_
 refine⟨s1.heap.objs.size,[s1.heap.objs.size],_,_,H1,rfl,I1.kept (t':=s1.toks) fun b o e=>ax _ e,Ff a _,⟨_,bN _ rfl,rfl,rfl⟩,fun b hb=>?_,q⟩
 have e:b=s1.heap.objs.size:=by simpa using hb
 subst e
 exact I1.Fe (aB _) (I1.cB.fresh (aB _))
theorem Nh {l:Expr}{tl:TE}(hl:PE X l tl):PI X tg l (U1 X.K tl):=by
 intro pins s σ H R I h
 refine dY (hl pins s σ H _ I h) fun v s1 ⟨x,H1,I1,r1,q1⟩=>?_
 obtain⟨a,e,⟨xs,hq⟩,q⟩:=q1
 subst e
 cases r1
 obtain⟨cm,rv,p,hz⟩:=I1.tuple hq
 refine wpAny_pyIter_tuple (show s1.heap.IsTuple a cm.toArray from p) ?_
 refine⟨s1.heap.objs.size,[s1.heap.objs.size],_,_,H1,rfl,I1.kept (t':=s1.toks) fun b o e=>ax _ e,Ck a _,⟨_,bN _ rfl,rfl,rfl⟩,fun b hb=>?_,q⟩
 have e:b=s1.heap.objs.size:=by simpa using hb
 subst e
 exact I1.Fe (aB _) (I1.cB.fresh (aB _))
theorem Hf {pins:List (Addr×Obj)}{σ:St}{H:Hp}{s:Shared}{R:It->Hp->Prop}{E:Value->Shared->Prop}{lo hi:Int}{t u v:Tok}{tk:Nat}(I:Inv X pins σ H s)(h1: -(2 ^ 62)<=lo)(h2:lo < 2 ^ 62)(h3: -(2 ^ 62)<=hi)(h4:hi < 2 ^ 62)
  (q:R (Mg lo (hi - lo).toNat) H):wpAny (model X.prog X.w) X.A (pyIter (.ref s.heap.objs.size)) (XY X pins σ tg R) E {s with heap:=s.heap.push {cls:= .type "range",data:= .fields #[.int lo t,.int hi u,.int 1 v]},toks:=tk}:=by
 refine wpAny_pyIter_range (IsRange.new ..) (small_one h1 h2 h3 h4) ?_
 have I1:Inv X pins σ H {s with heap:=s.heap.push {cls:= .type "range",data:= .fields #[.int lo t,.int hi u,.int 1 v]},toks:=tk}:=I.kept fun b o e=>ax _ e
 refine⟨(s.heap.push {cls:= .type "range",data:= .fields #[.int lo t,.int hi u,.int 1 v]}).objs.size,[(s.heap.push {cls:= .type "range",data:= .fields #[.int lo t,.int hi u,.int 1 v]}).objs.size],_,_,H,rfl,
  I1.kept (t':=tk) fun b o e=>ax _ e,Cm _ lo (hi - lo).toNat,?_,fun b hb=>?_,q⟩
 ·have e1:lo + ((0:Nat):Int) * 1=lo:=by simp
  have e2:(((hi - lo).toNat:Nat):Int) - ((0:Nat):Int)=Builtin.Range.rangeSize lo hi 1:=by rw[rangeSize_one]; split <;> lia
  show IsRangeIter _ _ (lo + ((0:Nat):Int) * 1) ((((hi - lo).toNat:Nat):Int) - ((0:Nat):Int)) 1
  rw[e1,e2]
  exact bN _ rfl
 ·have e:b=(s.heap.push {cls:= .type "range",data:= .fields #[.int lo t,.int hi u,.int 1 v]}).objs.size:=by simpa using hb
  subst e
  exact I1.Fe (aB _) (I1.cB.fresh (aB _))
def Qw (ta:TA):TI:=fun σ H R=>ta σ H fun vs H1=> ∃j:Int,vs=[.int j]/\ -(2 ^ 62)<=j/\j < 2 ^ 62/\R (Mg 0 j.toNat) H1
theorem jD {a:Expr}{ta:TA}{p pos:Pos}(hg:Gl X "range")(hm:X.mg "range"=none)(ha:PA X [a] ta)(hs:starEach [a] X.env=[(false,eval a X.env)]:=by rfl):PI X tg (.Call (.Name "range" p) [a] [] pos) (Qw ta):=by
 intro pins s σ H R I h
 refine Call_ (o8 I hg hm boot_range (og (dY (ha pos pins s σ H _ I h) fun us s1 ⟨vs,H1,I1,r1,q1⟩=>?_) hs rfl))
 obtain⟨j,e,q1,q2,q⟩:=q1
 subst e
 cases r1 with
 |cons r rr=>
  cases rr
  obtain⟨t,rfl⟩:=r
  exact call_range_1 (Hf I1 (by lia) (by lia) q1 q2 (by simpa using q))
def U2 (wi:TI)(g:TG)(tb:TS):TS:=fun D σ H=>wi σ H fun J H1=> ∃W:Nat->Nat->St->Hp->Prop,(∃m,W 0 m σ H1)/\ ∀i m σ H,W i m σ H->
 (J.stop i H/\D.nx σ H)∨(J.go i H/\ ∃N:St->Hp->Prop,(∀σ' H',N σ' H'-> ∃m',m' < m/\W (i + 1) m' σ' H')/\ ∀x H',J.Pw i H x H'->g x σ H' fun σ2 H2=>tb {D with nx:=N,ct:=N,bk:=D.nx} σ2 H2)
def pj (fp:List Addr)(h:Heap):List (Addr×Obj):=fp.filterMap fun b=>(h.get? b).map fun o=>(b,o)
theorem jM {fp:List Addr}{h:Heap}{b:Addr}{o:Obj}(hb:b∈fp)(e:h.get? b=some o):(b,o)∈pj fp h:=List.mem_filterMap.mpr ⟨b,hb,by rw[e]; rfl⟩
theorem Fg {fp:List Addr}{h:Heap}{p:Addr×Obj}(hp:p∈pj fp h):p.1∈fp/\h.get? p.1=some p.2:=by
 obtain⟨b,hb,e⟩:=List.mem_filterMap.mp hp
 cases q:h.get? b with
 |none=>rw[q] at e; cases e
 |some o=>
  rw[q] at e
  have e':(b,o)=p:=aE e
  subst e'
  exact⟨hb,q⟩
theorem Inv.pinned {pins:List (Addr×Obj)}{σ:St}{H:Hp}{s:Shared}{fp:List Addr}(I:Inv X pins σ H s)(hf: ∀b∈fp,tW X pins H b)(ho: ∀b∈fp,∃o,s.heap.get? b=some o/\ ∀v,o.data≠ .cell v):Inv X (pins ++ pj fp s.heap) σ H s:=
 I.tG fun p hp=>(bg.mp hp).elim (fun z=>I.pin p (bA _ z)) fun z=>by
  obtain⟨hb,e⟩:=Fg z
  obtain⟨f0,f1,f2,_⟩:=hf p.1 hb
  obtain⟨o,e',d⟩:=ho p.1 hb
  rw[e] at e'; cases e'
  exact⟨e,f0,f1,f2,d⟩
theorem Inv.i9 {pins pl:List (Addr×Obj)}{σ:St}{H:Hp}{s:Shared}(I:Inv X (pins ++ pl) σ H s):Inv X pins σ H s:=I.tG fun p hp=>I.pin p (bA _ (cY _ hp))
theorem fH {iter:Expr}{body:List Stmt}{wi:TI}{g:TG}{tb:TS}{pos:Pos}(hp:PassesOwn (model X.prog X.w) X.A X.env X.xe)(hc:X.calm=true)(hi:PI X tg iter wi)(hg:PG X tg g)(hb:oG X body tb)
  (hs: ∀x,foldedSetIterable iter X.env x=pure x:=by intro _; rfl):PS X (.For tg iter body [] pos) (U2 wi g tb):=by
 intro pins s σ H D I h
 refine wpAny_For (dY (hi pins s σ H _ I h) fun v s1 h1=>dY h1 fun TF s2 h2=>?_) hs
 obtain⟨it,fp,tn,J,H2,e,I2,T,Mh,f2,W,⟨m0,w0⟩,turn⟩:=h2
 subst e
 have rB: ∀{H':Hp},(∀b∈fp,H' b=none)-> ∀b∈fp,tW X pins H' b:=fun hn b hb=>⟨hn b hb,(f2 b hb).2⟩
 refine codeAny_forLoop_any (fun n s'=> ∃i σ' H',Inv X pins σ' H' s'/\tn i s'.heap/\(∀b∈fp,H' b=none)/\W i n σ' H') ?_ m0 ⟨0,σ,H2,I2,Mh,fun b hb=>(f2 b hb).1,w0⟩
 rintro n s3 ⟨i,σ3,H3,I3,Qx,Kn,w3⟩
 rcases turn i n σ3 H3 w3 with⟨stop,qn⟩|⟨go,N,hN,step⟩
 ·refine dS hp (dY (T.done X rfl rfl rfl hc i pins s3 σ3 H3 X.xe I3 (rB Kn) Qx stop) fun r s4 ⟨hr,I4⟩=>?_)
  subst hr
  exact jm ⟨σ3,H3,I4,qn⟩
 ·refine dS hp (dY (T.item X rfl rfl rfl hc i pins s3 σ3 H3 X.xe I3 (rB Kn) Qx go) fun r s4 ⟨u,hr,h4⟩=>?_)
  subst hr
  refine dS hp (dY h4 fun _ s5 ⟨x,H5,I5,r5,y5,Ni,Py⟩=>?_)
  have ZM:=I5.pinned (rB Py) (T.obj _ _ Ni)
  refine dS hp (dY (hg _ s5 σ3 H5 x u _ ZM r5 (step x H5 y5)) fun _ s6 ⟨σ6,H6,I6,q6⟩=>?_)
  refine dS hp (dY (hb _ s6 σ6 H6 _ I6 q6) fun f s7 q7=>?_)
  have again: ∀{σ7:St} {H7:Hp},Inv X (pins ++ pj fp s5.heap) σ7 H7 s7->N σ7 H7-> ∃m,m < n/\ ∃i σ' H',Inv X pins σ' H' s7/\tn i s7.heap/\(∀b∈fp,H' b=none)/\W i m σ' H':=fun{σ7 H7} I7 n7=>by
   obtain⟨m',hm,w7⟩:=hN σ7 H7 n7
   refine⟨m',hm,i + 1,σ7,H7,I7.i9,T.keep _ _ _ Ni fun b hb o e=>(I7.pin (b,o) (bA _ (bA _ (jM hb e)))).1,fun b hb=>?_,w7⟩
   obtain⟨o,e,d⟩:=T.obj _ _ Ni b hb
   exact(I7.pin (b,o) (bA _ (bA _ (jM hb e)))).2.1
  cases f with
  |next=>obtain⟨σ7,H7,I7,n7⟩:=q7; exact again I7 n7
  |cont=>obtain⟨σ7,H7,I7,n7⟩:=q7; exact again I7 n7
  |brk=>obtain⟨σ7,H7,I7,q7⟩:=q7; exact⟨σ7,H7,I7.i9,q7⟩
  |ret v=>obtain⟨x7,σ7,H7,I7,r7,q7⟩:=q7; exact⟨x7,σ7,H7,I7.i9,r7,q7⟩
end
theorem gR {K:PySem.W.Frag}{a:Addr}{xs:List V}{g:TG}{tb:TS}{D:Ends}{σ:St}{H:Hp}(Pv:Nat->St->Hp->Prop)(h0:Pv 0 σ H)(hl: ∀i σ H,i<=xs.length->Pv i σ H->bL K H a xs)
  (hs: ∀i x σ H,xs[i]? =some x->Pv i σ H->g x σ H fun σ2 H2=>tb {D with nx:=Pv (i + 1),ct:=Pv (i + 1),bk:=D.nx} σ2 H2) (hd: ∀σ H,Pv xs.length σ H->D.nx σ H):
  ∃W:Nat->Nat->St->Hp->Prop,(∃m,W 0 m σ H)/\ ∀i m σ H,W i m σ H->
   ((Px K a).stop i H/\D.nx σ H)∨((Px K a).go i H/\ ∃N:St->Hp->Prop,(∀σ' H',N σ' H'-> ∃m',m' < m/\W (i + 1) m' σ' H')/\ ∀x H',(Px K a).Pw i H x H'->g x σ H' fun σ2 H2=>tb {D with nx:=N,ct:=N,bk:=D.nx} σ2 H2):=by
 refine⟨fun i m σ H=>m=xs.length - i/\i<=xs.length/\Pv i σ H,⟨xs.length,by simp,Nat.zero_le _,h0⟩,?_⟩
 rintro i m σ H ⟨rfl,hi,p⟩
 have q:=hl i σ H hi p
 by_cases iU:i < xs.length
 ·refine .inr ⟨⟨xs,xs[i],q,by simp[iU]⟩,Pv (i + 1),fun σ' H' p'=>⟨xs.length - (i + 1),by lia,rfl,iU,p'⟩,fun x H' y=>?_⟩
  obtain⟨e,y⟩:=y
  subst e
  exact hs i x σ _ (y xs q) p
 ·have e:i=xs.length:=by lia
  subst e
  exact .inl ⟨⟨xs,q,aB _⟩,hd σ H p⟩
theorem k4 {lo:Int}{n:Nat}{g:TG}{tb:TS}{D:Ends}{σ:St}{H:Hp}(Pv:Nat->St->Hp->Prop)(h0:Pv 0 σ H)
  (hs: ∀i σ H,i < n->Pv i σ H->g (.int (lo + i)) σ H fun σ2 H2=>tb {D with nx:=Pv (i + 1),ct:=Pv (i + 1),bk:=D.nx} σ2 H2) (hd: ∀σ H,Pv n σ H->D.nx σ H):
  ∃W:Nat->Nat->St->Hp->Prop,(∃m,W 0 m σ H)/\ ∀i m σ H,W i m σ H->
   ((Mg lo n).stop i H/\D.nx σ H)∨((Mg lo n).go i H/\ ∃N:St->Hp->Prop,(∀σ' H',N σ' H'-> ∃m',m' < m/\W (i + 1) m' σ' H')/\ ∀x H',(Mg lo n).Pw i H x H'->g x σ H' fun σ2 H2=>tb {D with nx:=N,ct:=N,bk:=D.nx} σ2 H2):=by
 refine⟨fun i m σ H=>m=n - i/\i<=n/\Pv i σ H,⟨n,by simp,Nat.zero_le _,h0⟩,?_⟩
 rintro i m σ H ⟨rfl,hi,p⟩
 by_cases iU:i < n
 ·refine .inr ⟨iU,Pv (i + 1),fun σ' H' p'=>⟨n - (i + 1),by lia,rfl,iU,p'⟩,fun x H' y=>?_⟩
  obtain⟨e,y⟩:=y
  subst e y
  exact hs i σ _ iU p
 ·have e:i=n:=by lia
  subst e
  exact .inl ⟨aB _,hd σ H p⟩
abbrev R2:=V->V->Hp->VK->Prop
def ou (X:Cx)(f:Value->Value->Sem Value)(r:R2):Prop:=
 ∀(pins:List (Addr×Obj)) (s:Shared) (σ:St) (H:Hp) (x y:V) (v u:Value) (Q:VK),Inv X pins σ H s->RelV x v->RelV y u->r x y H Q->
  wpAny (model X.prog X.w) X.A (f v u) (EP X pins σ Q) X.xe s
def Mi (X:Cx)(f:Value->Sem Value)(r:V->Hp->VK->Prop):Prop:=
 ∀(pins:List (Addr×Obj)) (s:Shared) (σ:St) (H:Hp) (x:V) (v:Value) (Q:VK),Inv X pins σ H s->RelV x v->r x H Q->
  wpAny (model X.prog X.w) X.A (f v) (EP X pins σ Q) X.xe s
def iu (X:Cx)(f:Value)(r:List V->Hp->VK->Prop):Prop:=
 ∀(pins:List (Addr×Obj)) (s:Shared) (σ:St) (H:Hp) (xs:List V) (us:List Value) (Q:VK),Inv X pins σ H s->Vals xs us->r xs H Q->
  wpAny (model X.prog X.w) X.A (call f us) (EP X pins σ Q) X.xe s
def Pz (r:R2)(ta tb:TE):TE:=fun σ H Q=>ta σ H fun x H1=>tb σ H1 fun y H2=>r x y H2 Q
def ZN (r:V->Hp->VK->Prop)(ta:TE):TE:=fun σ H Q=>ta σ H fun x H1=>r x H1 Q
inductive XZ (x y:V) (C k:Int->Int->Prop):Prop
 |mk (i j:Int) (h1:x= .int i) (h2:y= .int j) (c:C i j) (q:k i j):XZ x y C k
inductive X0 (x y:V) (k:Int->Int->Prop):Prop
 |mk (i j:Int) (h1:x= .int i) (h2:y= .int j) (q:k i j):X0 x y k
def rI (C:Int->Int->Prop)(g:Int->Int->V):R2:=fun x y H Q=>XZ x y C fun i j=>Q (g i j) H
def JM (g:Int->Int->V):R2:=fun x y H Q=>X0 x y fun i j=>Q (g i j) H
def rU (g:Int->V):V->Hp->VK->Prop:=fun x H Q=> ∃i,x= .int i/\Q (g i) H
section
variable {X:Cx}{a b c:Expr}{ta tb tc:TE}{pos:Pos}
theorem Nj (ha:PE X a ta)(hb:PE X b tb){pins:List (Addr×Obj)}{s:Shared}{σ:St}{H:Hp}{R:V->V->Hp->Prop}(I:Inv X pins σ H s)
  (h:ta σ H fun x H1=>tb σ H1 fun y H2=>R x y H2) {Q:Value->Shared->Prop} {f:Value->Value->Sem Value}
  (hf: ∀v u s2 x y H2,Inv X pins σ H2 s2->RelV x v->RelV y u->R x y H2->wpAny (model X.prog X.w) X.A (f v u) Q X.xe s2):
  wpAny (model X.prog X.w) X.A (eval a X.env) (fun v s₁=>wpAny (model X.prog X.w) X.A (eval b X.env) (fun u s₂=>wpAny (model X.prog X.w) X.A (f v u) Q X.xe s₂) X.xe s₁) X.xe s:=by
 refine dY (ha pins s σ H _ I h) fun v s1 ⟨x,H1,I1,r1,q1⟩=>?_
 refine dY (hb pins s1 σ H1 _ I1 q1) fun u s2 ⟨y,H2,I2,r2,q2⟩=>?_
 exact hf v u s2 x y H2 I2 r1 r2 q2
theorem aV {op:Operator}{r:R2}(ho:ou X (binaryOp op) r)(ha:PE X a ta)(hb:PE X b tb):PE X (.BinOp a op b pos) (Pz r ta tb):=by
 intro pins s σ H Q I h
 exact wpAny_BinOp (Nj ha hb I h fun v u s2 x y H2 I2 rx ry q=>ho pins s2 σ H2 x y v u Q I2 rx ry q)
theorem oH {op:UnaryOp}{r:V->Hp->VK->Prop}(ho:Mi X (unaryOp op) r)(ha:PE X a ta):PE X (.UnaryOp op a pos) (ZN r ta):=by
 intro pins s σ H Q I h
 exact UnaryOp_ (dY (ha pins s σ H _ I h) fun v s1 ⟨x,H1,I1,r1,q1⟩=>ho pins s1 σ H1 x v Q I1 r1 q1)
theorem Qy {f:Value->Value->Sem Value}{C:Int->Int->Prop}{g:Int->Int->Int}
  (rule: ∀(i j:Int) (t u:Tok) (s:Shared) (Q:Value->Shared->Prop) (E:Value->Shared->Prop),C i j->Q (.int (g i j) s.toks) {s with toks:=s.toks + 1}->wpAny (model X.prog X.w) X.A (f (.int i t) (.int j u)) Q E s):
  ou X f (rI C fun i j=> .int (g i j)):=by
 intro pins s σ H x y v u Q I rx ry h
 obtain⟨i,j,rfl,rfl,hc,q⟩:=h
 obtain⟨t,rfl⟩:=rx
 obtain⟨t',rfl⟩:=ry
 exact rule i j t t' s _ _ hc ⟨.int (g i j),H,I.tok _,⟨_,rfl⟩,q⟩
theorem Qz {f:Value->Value->Sem Value}{g:Int->Int->Int}
  (rule: ∀(i j:Int) (t u:Tok) (s:Shared) (Q:Value->Shared->Prop) (E:Value->Shared->Prop),Q (.int (g i j) s.toks) {s with toks:=s.toks + 1}->wpAny (model X.prog X.w) X.A (f (.int i t) (.int j u)) Q E s):
  ou X f (JM fun i j=> .int (g i j)):=by
 intro pins s σ H x y v u Q I rx ry h
 obtain⟨i,j,rfl,rfl,q⟩:=h
 obtain⟨t,rfl⟩:=rx
 obtain⟨t',rfl⟩:=ry
 exact rule i j t t' s _ _ ⟨.int (g i j),H,I.tok _,⟨_,rfl⟩,q⟩
theorem Ko {f:Value->Value->Sem Value}{g:Int->Int->Bool}
  (rule: ∀(i j:Int) (t u:Tok) (s:Shared) (Q:Value->Shared->Prop) (E:Value->Shared->Prop),Q (.bool (g i j)) s->wpAny (model X.prog X.w) X.A (f (.int i t) (.int j u)) Q E s):
  ou X f (JM fun i j=> .bl (g i j)):=by
 intro pins s σ H x y v u Q I rx ry h
 obtain⟨i,j,rfl,rfl,q⟩:=h
 obtain⟨t,rfl⟩:=rx
 obtain⟨t',rfl⟩:=ry
 exact rule i j t t' s _ _ ⟨.bl (g i j),H,I,rfl,q⟩
def U3 (i j:Int):Prop:=0 < j/\j < 1073741824
def U4 (i j:Int):Prop:=0<=j/\j<=1000000/\i.natAbs < 2 ^ 64
def Nk (i j:Int):Prop:=(-(2 ^ 64) < i/\i < 2 ^ 64)∨(-(2 ^ 64) < j/\j < 2 ^ 64)
theorem Nk.ok {i j:Int}(h:Nk i j):IntMulOk i j:=by
 rcases h with⟨h1,h2⟩|⟨h1,h2⟩
 ·exact .of_left (intBits_le_64 h1 h2)
 ·exact .of_right (intBits_le_64 h1 h2)
theorem dM:ou X (binaryOp .Add) (JM fun i j=> .int (i + j)):=Qz fun _ _ _ _ _ _ _ q=>add_int q
theorem eV:ou X (binaryOp .Sub) (JM fun i j=> .int (i - j)):=Qz fun _ _ _ _ _ _ _ q=>sub_int q
theorem lM:ou X (binaryOp .Mult) (rI Nk fun i j=> .int (i * j)):=Qy fun _ _ _ _ _ _ _ hc q=>mul_int q hc.ok
theorem jx:ou X (binaryOp .FloorDiv) (rI U3 fun i j=> .int (i / j)):=Qy fun i j _ _ _ _ _ hc q=>by
 have h1:(0:Int) < j:=hc.1
 have h2:j < 1073741824:=hc.2
 exact floordiv_int (by lia) (by rw[Int.fdiv_eq_ediv_of_nonneg i (by lia)]; exact q) (.inl (PyProof.noPylong_small (by lia)))
theorem cy:ou X (binaryOp .Mod) (rI (fun _ j=>0 < j) fun i j=> .int (i % j)):=Qy fun i j _ _ _ _ _ hc q=>by
 have h1:(0:Int) < j:=hc
 exact mod_int' (by lia) (by rw[Int.fmod_eq_emod_of_nonneg i (by lia)]; exact q)
theorem jn:ou X (binaryOp .Pow) (rI U4 fun i j=> .int (i ^ j.toNat)):=Qy fun _ _ _ _ _ _ _ hc q=>pow_int_small hc.1 hc.2.1 hc.2.2 q
theorem ZO {f:Value->Sem Value}{g:Int->Int}
  (rule: ∀(i:Int) (t:Tok) (s:Shared) (Q:Value->Shared->Prop) (E:Value->Shared->Prop),Q (.int (g i) s.toks) {s with toks:=s.toks + 1}->wpAny (model X.prog X.w) X.A (f (.int i t)) Q E s):
  Mi X f (rU fun i=> .int (g i)):=by
 intro pins s σ H x v Q I rx h
 obtain⟨i,rfl,q⟩:=h
 obtain⟨t,rfl⟩:=rx
 exact rule i t s _ _ ⟨.int (g i),H,I.tok _,⟨_,rfl⟩,q⟩
theorem kM:Mi X (unaryOp .USub) (rU fun i=> .int (-i)):=ZO fun _ _ _ _ _ q=>neg_int q
end
def QA:V->V->Bool
 | .en,.en=>true| .en,.int _=>true| .int _,.en=>true| .en,.bl _=>true| .bl _,.en=>true| .en,.str _=>true| .str _,.en=>true
 | .int _,.int _=>true| .bl _,.bl _=>true| .str _,.str _=>true| .E8 _,.E8 _=>true
 | .int _,.str _=>true| .str _,.int _=>true| .bl _,.str _=>true| .str _,.bl _=>true
 |_,_=>false
def ZP:R2:=fun x y H Q=>QA x y=true/\Q (.bl (decide (x=y))) H
def ZQ:R2:=fun x y H Q=>QA x y=true/\Q (.bl (!decide (x=y))) H
theorem DH {i j:Int}:decide (V.int i=V.int j)=(i == j):=by
 rw[oh]
 simp
theorem Hg {i j:Bool}:decide (V.bl i=V.bl j)=(i == j):=by
 rw[oh]
 simp
theorem DI {i j:Str}:decide (V.str i=V.str j)=(i == j):=by
 rw[oh]
 simp
theorem DJ {i j:Array UInt8}:decide (V.E8 i=V.E8 j)=(i.toList == j.toList):=by
 rw[oh]
 cases i
 cases j
 simp
section
variable {X:Cx}{a b c:Expr}{ta tb tc:TE}{pos:Pos}
theorem dA {pins:List (Addr×Obj)}{σ:St}{H:Hp}{s:Shared}{Q:VK}{k k':Bool}(I:Inv X pins σ H s)(q:Q (.bl k) H)(e:k=k'):EP X pins σ Q (.bool k') s:=by
 subst e
 exact⟨.bl k,H,I,rfl,q⟩
theorem dg:ou X (compareOp .Eq) ZP:=by
 intro pins s σ H x y v u Q I rx ry h
 obtain⟨hs,q⟩:=h
 cases x with
 |en=>
  cases rx
  cases y with
  |en=>cases ry; exact PySem.EqNone.eq_none_none (dA I q (by simp))
  |bl j=>cases ry; exact PySem.EqNone.eq_none_bool (dA I q (by simp))
  |int j=>obtain⟨t',rfl⟩:=ry; exact PySem.EqNone.eq_none_int (dA I q (by simp))
  |str j=>obtain⟨t',rfl⟩:=ry; exact PySem.EqNone.eq_none_str (dA I q (by simp))
  |_=>exact absurd (show false=true from hs) aY
 |bl i=>
  cases rx
  cases y with
  |en=>cases ry; exact PySem.EqNone.eq_bool_none (dA I q (by simp))
  |bl j=>cases ry; exact eq_bool (dA I q Hg)
  |str j=>obtain⟨t',rfl⟩:=ry; exact PySem.EqMixed.eq_bool_str (dA I q (by simp))
  |_=>exact absurd (show false=true from hs) aY
 |int i=>
  obtain⟨t,rfl⟩:=rx
  cases y with
  |en=>cases ry; exact PySem.EqNone.eq_int_none (dA I q (by simp))
  |int j=>obtain⟨t',rfl⟩:=ry; exact eq_int (dA I q DH)
  |str j=>obtain⟨t',rfl⟩:=ry; exact PySem.EqMixed.eq_int_str (dA I q (by simp))
  |_=>exact absurd (show false=true from hs) aY
 |str i=>
  obtain⟨t,rfl⟩:=rx
  cases y with
  |en=>cases ry; exact PySem.EqNone.eq_str_none (dA I q (by simp))
  |bl j=>cases ry; exact PySem.EqMixed.eq_str_bool (dA I q (by simp))
  |int j=>obtain⟨t',rfl⟩:=ry; exact PySem.EqMixed.eq_str_int (dA I q (by simp))
  |str j=>obtain⟨t',rfl⟩:=ry; exact eq_str (dA I q DI)
  |_=>exact absurd (show false=true from hs) aY
 |E8 i=>
  obtain⟨t,rfl⟩:=rx
  cases y with
  |E8 j=>obtain⟨t',rfl⟩:=ry; exact PySem.W.eq_bytes (dA I q DJ)
  |_=>exact absurd (show false=true from hs) aY
 |_=>cases y <;> exact absurd (show false=true from hs) aY
theorem sf:ou X (compareOp .NotEq) ZQ:=by
 intro pins s σ H x y v u Q I rx ry h
 obtain⟨hs,q⟩:=h
 cases x with
 |en=>
  cases rx
  cases y with
  |en=>cases ry; exact PySem.EqNone.ne_none_none (dA I q (by simp))
  |bl j=>cases ry; exact PySem.EqNone.ne_none_bool (dA I q (by simp))
  |int j=>obtain⟨t',rfl⟩:=ry; exact PySem.EqNone.ne_none_int (dA I q (by simp))
  |str j=>obtain⟨t',rfl⟩:=ry; exact PySem.EqNone.ne_none_str (dA I q (by simp))
  |_=>exact absurd (show false=true from hs) aY
 |bl i=>
  cases rx
  cases y with
  |en=>cases ry; exact PySem.EqNone.ne_bool_none (dA I q (by simp))
  |bl j=>cases ry; exact ne_bool (dA I q (c8 not Hg))
  |str j=>obtain⟨t',rfl⟩:=ry; exact PySem.EqMixed.ne_bool_str (dA I q (by simp))
  |_=>exact absurd (show false=true from hs) aY
 |int i=>
  obtain⟨t,rfl⟩:=rx
  cases y with
  |en=>cases ry; exact PySem.EqNone.ne_int_none (dA I q (by simp))
  |int j=>obtain⟨t',rfl⟩:=ry; exact ne_int (dA I q (c8 not DH))
  |str j=>obtain⟨t',rfl⟩:=ry; exact PySem.EqMixed.ne_int_str (dA I q (by simp))
  |_=>exact absurd (show false=true from hs) aY
 |str i=>
  obtain⟨t,rfl⟩:=rx
  cases y with
  |en=>cases ry; exact PySem.EqNone.ne_str_none (dA I q (by simp))
  |bl j=>cases ry; exact PySem.EqMixed.ne_str_bool (dA I q (by simp))
  |int j=>obtain⟨t',rfl⟩:=ry; exact PySem.EqMixed.ne_str_int (dA I q (by simp))
  |str j=>obtain⟨t',rfl⟩:=ry; exact ne_str (dA I q (c8 not DI))
  |_=>exact absurd (show false=true from hs) aY
 |E8 i=>
  obtain⟨t,rfl⟩:=rx
  cases y with
  |E8 j=>obtain⟨t',rfl⟩:=ry; exact PySem.W.ne_bytes (dA I q (c8 not DJ))
  |_=>exact absurd (show false=true from hs) aY
 |_=>cases y <;> exact absurd (show false=true from hs) aY
theorem jN:ou X (compareOp .Lt) (JM fun i j=> .bl (decide (i < j))):=Ko fun _ _ _ _ _ _ _ q=>lt_int q
theorem wZ:ou X (compareOp .LtE) (JM fun i j=> .bl (decide (i<=j))):=Ko fun _ _ _ _ _ _ _ q=>le_int q
theorem jr:ou X (compareOp .Gt) (JM fun i j=> .bl (decide (j < i))):=Ko fun _ _ _ _ _ _ _ q=>gt_int q
theorem Ad:ou X (compareOp .GtE) (JM fun i j=> .bl (decide (j<=i))):=Ko fun _ _ _ _ _ _ _ q=>ge_int q
theorem ba (b:Expr){op:CmpOp}(h:op≠ .In:=by decide)(h2:op≠ .NotIn:=by decide):behindInMarks op b=false:=by
 have e1:(op == CmpOp.In)=false:=by cases op <;> first|rfl|exact absurd rfl h
 have e2:(op == CmpOp.NotIn)=false:=by cases op <;> first|rfl|exact absurd rfl h2
 cases b <;> simp[behindInMarks,e1,e2]
theorem eQ {op:CmpOp}{r:R2}(ho:ou X (compareOp op) r)(ha:PE X a ta)(hb:PE X b tb)(hm:behindInMarks op b=false):PE X (.Compare a [op] [b] pos) (Pz r ta tb):=by
 intro pins s σ H Q I h
 exact wpAny_Compare1 (Nj ha hb I h fun v u s2 x y H2 I2 rx ry q=>ho pins s2 σ H2 x y v u Q I2 rx ry q) hm
def Hh (t:TE):TT:=fun σ H Q=>t σ H fun x H'=> ∃k,x= .bl k/\Q k H'
theorem a8 {op:CmpOp}{r:R2}(ho:ou X (compareOp op) r)(ha:PE X a ta)(hb:PE X b tb)(hm:behindInMarks op b=false):PT X (.Compare a [op] [b] pos) (Hh (Pz r ta tb)):=by
 intro pins s σ H Q I h
 refine wpAny_isTrue_Compare1 (dY (ha pins s σ H _ I h) fun v s1 ⟨x,H1,I1,r1,q1⟩=>dY (hb pins s1 σ H1 _ I1 q1) fun u s2 ⟨y,H2,I2,r2,q2⟩=>
  dY (ho pins s2 σ H2 x y v u _ I2 r1 r2 q2) fun c s3 ⟨z,H3,I3,r3,k,e,q3⟩=>?_) hm
 subst e
 cases r3
 exact fV ⟨H3,I3,q3⟩
def Hj (r r':R2)(ta tb tc:TE):TE:=fun σ H Q=>ta σ H fun x H1=>tb σ H1 fun y H2=>r x y H2 fun z H3=> ∃k,z= .bl k/\
 (if k=true then tc σ H3 fun w' H4=>r' y w' H4 Q else Q (.bl false) H3)
theorem Ae {op U5:CmpOp}{r r':R2}(ho:ou X (compareOp op) r)(Ki:ou X (compareOp U5) r')(ha:PE X a ta)(hb:PE X b tb)(hc:PE X c tc)
  (hm:lastMarks [op,U5] [b,c]=false:=by with_unfolding_all rfl):PT X (.Compare a [op,U5] [b,c] pos) (Hh (Hj r r' ta tb tc)):=by
 intro pins s σ H Q I h
 refine isTrue_chain (dY (ha pins s σ H _ I h) fun v s1 ⟨x,H1,I1,r1,q1⟩=>test_link (dY (hb pins s1 σ H1 _ I1 q1) fun u s2 ⟨y,H2,I2,r2,q2⟩=>
  dY (ho pins s2 σ H2 x y v u _ I2 r1 r2 q2) fun d s3 ⟨z,H3,I3,r3,k,e,q3⟩=>?_)) hm
 subst e
 cases r3
 refine fV ?_
 cases k with
 |false=>
  obtain⟨k',e',q'⟩:=q3
  cases e'
  exact ite_ff ⟨H3,I3,q'⟩
 |true=>
  refine ite_tt (test_last (dY (hc pins s3 σ H3 _ I3 q3) fun w' s4 ⟨z',H4,I4,r4,q4⟩=>dY (Ki pins s4 σ H4 y z' u w' _ I4 r2 r4 q4) fun d' s5 ⟨z2,H5,I5,r5,k2,e2,q5⟩=>?_))
  subst e2
  cases r5
  exact fV ⟨H5,I5,q5⟩
theorem ya:(sizeLine:Nat) < 2 ^ 63:=by rw[eU]; decide
theorem tX:ou X (binaryOp .Add) (fun x y H Q=> ∃i j,x= .str i/\y= .str j/\i.length + j.length<=sizeLine/\Q (.str (i ++ j)) H):=by
 intro pins s σ H x y v u Q I rx ry h
 obtain⟨i,j,rfl,rfl,hz,q⟩:=h
 obtain⟨t,rfl⟩:=rx
 obtain⟨t',rfl⟩:=ry
 exact add_str (fun t' tk=>⟨.str (i ++ j),H,I.tok _,⟨_,rfl⟩,q⟩) hz
theorem vals1 {x:V}{us:List Value}(r:Vals [x] us): ∃u,us=[u]/\RelV x u:=by
 cases r with
 |cons r1 r2=>cases r2; exact⟨_,rfl,r1⟩
theorem vals2 {x y:V}{us:List Value}(r:Vals [x,y] us): ∃u w',us=[u,w']/\RelV x u/\RelV y w':=by
 cases r with
 |cons r1 r2=>
  cases r2 with
  |cons r3 r4=>cases r4; exact⟨_,_,rfl,r1,r3⟩
theorem Fh (hc:X.calm=true):iu X (.builtin "max") (fun xs H Q=> ∃i j,xs=[.int i,.int j]/\Q (.int (if j > i then j else i)) H):=by
 intro pins s σ H xs us Q I r h
 obtain⟨i,j,rfl,q⟩:=h
 obtain⟨u,w',rfl,⟨t,rfl⟩,⟨t',rfl⟩⟩:=vals2 r
 refine max_two_ints (I.ok.hd hc) fun h' tk k=>⟨_,H,I.kept k,?_,q⟩
 by_cases hj:j > i
 ·rw[a7 hj,a7 hj]; exact⟨_,rfl⟩
 ·rw[aO hj,aO hj]; exact⟨_,rfl⟩
theorem rC (hc:X.calm=true):iu X (.builtin "min") (fun xs H Q=> ∃i j,xs=[.int i,.int j]/\Q (.int (if j < i then j else i)) H):=by
 intro pins s σ H xs us Q I r h
 obtain⟨i,j,rfl,q⟩:=h
 obtain⟨u,w',rfl,⟨t,rfl⟩,⟨t',rfl⟩⟩:=vals2 r
 refine min_two_ints (I.ok.hd hc) fun h' tk k=>⟨_,H,I.kept k,?_,q⟩
 by_cases hj:j < i
 ·rw[a7 hj,a7 hj]; exact⟨_,rfl⟩
 ·rw[aO hj,aO hj]; exact⟨_,rfl⟩
theorem k6:iu X (.type "int") (fun xs H Q=>(∃i,xs=[.int i]/\Q (.int i) H)∨ ∃k,xs=[.bl k]/\Q (.int (if k then 1 else 0)) H):=by
 intro pins s σ H xs us Q I r h
 rcases h with⟨i,rfl,q⟩|⟨k,rfl,q⟩
 ·obtain⟨u,rfl,t,rfl⟩:=vals1 r
  exact call_int_int ⟨.int i,H,I,⟨_,rfl⟩,q⟩
 ·obtain⟨u,rfl,r1⟩:=vals1 r
  cases r1
  exact call_int_bool ⟨.int (if k then 1 else 0),H,I.tok _,⟨_,rfl⟩,q⟩
end
structure Cn (h:Heap)(x dx C:Addr)(mA:Str->Option Value):Prop where
 obj:h.get? x=some (PySem.W.instObj C dx)
 ns:h.Ns1 dx mA
 ne:dx≠x
theorem Fj {h:Heap}{dx:Addr}{mA:Str->Option Value}(n:h.Ns1 dx mA): ∃od,h.get? dx=some od/\ ∀name,PySem.W.lookIn name od=some (mA name):=by
 obtain⟨o,es,ep,ho,hd,hk,_,hm⟩:=n
 refine⟨o,ho,fun name=>?_⟩
 have e:=hm name
 unfold nsFind findBy at e
 rw[← Array.find?_toList] at e
 unfold PySem.W.lookIn
 rw[hd]
 dsimp only
 split
 ·rename_i y q
  rw[q] at e
  exact c8 some e
 ·rename_i q
  rw[q] at e
  have a:es.toList.any (·.refKey)=false:=by
   rw[rg]
   intro y hy
   obtain⟨z,t,Hl⟩:=hk y (Array.mem_toList_iff.mp hy)
   simp[DictEntry.refKey,Hl]
  have a': ¬ es.toList.any (·.refKey)=true:=by rw[a]; exact aY
  rw[aO a']
  exact c8 some e
theorem Cn.look {h:Heap}{x dx C:Addr}{mA:Str->Option Value}(I:Cn h x dx C mA): ∃od,PySem.W.InstAt h x (PySem.W.instObj C dx) C (some od)/\ ∀name,PySem.W.lookIn name od=some (mA name):=
 let⟨od,ho,hl⟩:=Fj I.ns
 ⟨od,⟨I.obj,rfl,rfl,ho⟩,hl⟩
section
variable {prog:Program}{w:World}{A:Around}{E:Value->Shared->Prop}{s:Shared}{K:PySem.W.Frag}{x dx C f:Addr}{mA:Str->Option Value}{name:Str}{v:Value}
theorem get_map {expr:Bool}{Q:Value->Shared->Prop}(X:K.In s.heap)(I:Cn s.heap x dx C mA)(hg:PySem.W.plainGet K C name=true)(hh:PySem.W.hasDictIn K C=true)
  (ha:PySem.W.findIn K (.ref C) name=some none) (hv:mA name=some v) (ZR:PySem.W.handedIn v=true) (h:Q v {s with toks:=s.toks + 1}):
  wpAny (model prog w) A (getAttr (.ref x) name expr) Q E s:=by
 obtain⟨od,J,hl⟩:=I.look
 exact PySem.W.get_value X J (zV hg).1 (PySem.W.findObj_own hh ha rfl (by rw[hl,hv])) ZR h
theorem Hm {pl:Sem Bool}{Q:Value×List Value->Shared->Prop}(X:K.In s.heap)(I:Cn s.heap x dx C mA)(hg:PySem.W.plainGet K C name=true)
  (hf:PySem.W.findIn K (.ref C) name=some (some (.ref f))) (ht:PySem.W.isFn K (.ref f)=true) (hv:mA name=none) (h:Q (.ref f,[.ref x]) s):
  wpAny (model prog w) A (getMethod (.ref x) name pl) Q E s:=by
 obtain⟨od,J,hl⟩:=I.look
 exact PySem.W.method_fn X J (zV hg).1 (zV hg).2 hf (EY.mp ht) (by show(PySem.W.lookIn name od).map (·.isSome)=some false; rw[hl,hv]; rfl) h
theorem Kp {ns:List Str}{Q:Unit->Shared->Prop}(X:K.In s.heap)(I:Cn s.heap x dx C mA)
  (hs:PySem.W.findIn K (.ref C) "__setattr__"=some (some (.builtin "object.__setattr__"))) (hp:PySem.W.plainOver K C=true) (ht:PySem.W.takerIn K C name=some none) (hh:PySem.W.hasDictIn K C=true)
  (hw:PySem.Within mA ns) (hsz:ns.length<=sizeLine)
  (h: ∀h',Cn h' x dx C (fun y=>if y=name then some v else mA y)->Heap.SameBut dx s.heap h'->Q () {s with heap:=h',toks:=s.toks + 2}):
  wpAny (model prog w) A (setAttr (.ref x) name v) Q E s:=by
 obtain⟨od,J,hl⟩:=I.look
 refine PySem.W.set_plain X J hs (PySem.W.osa_open (s:={s with toks:=s.toks + 1}) (r:=none) X J hp ht fun b=>?_)
 obtain⟨cd,hc,Fc⟩:=PySem.W.any_some hh
 have hx:s.heap.get? x=some ⟨.ref C,some dx,.plain,#[]⟩:=I.obj
 refine aA (bG (aA (aA (wpAny_loadPart hx (aA (PySem.W.Looks.here (s:={s with toks:=s.toks + 1}) (PySem.W.looks_clsIn X hc) ?_))))))
 rw[Fc]
 refine bG (a:=some dx) (aA (bG (aA ?_)))
 refine wpAny_nsSet1 (s:={s with toks:=s.toks + 1}) I.ns fun h' TH PB=>?_
 obtain⟨oD,ZS,ZT,U6,U7,U8⟩:=TH.count (PySem.Within.cons name v hw)
 refine aA (wpAny_lookBehind U6 (by rw[U7]; exact pastItsLine_dict (a0 U8 (by rw[cf]; lia))) ?_)
 exact bG (h _ ⟨(PB.2 _ (vz I.ne)).trans I.obj,TH,I.ne⟩ PB)
theorem Hn {R:Result->Shared->Prop}{vs:List Value}{kw:List (Str×Value)}(X:K.In s.heap)(hm:PySem.W.makesIn K C=true)
  (hi:PySem.W.findIn K (.ref C) "__init__"=some (some (.ref f))) (hf:PySem.W.typeIn K (.ref f)=some (.type "function"))
  (h:codeAny (model prog w) (A.under (.builtin "type.__call__" ⟨.ref C :: vs,kw⟩)) (.call (.ref f) ⟨.ref (s.heap.objs.size + 1) :: vs,kw⟩) (PySem.W.InitBack (s.heap.objs.size + 1) R)
   {s with heap:=(s.heap.push PySem.W.emptyDict).push (PySem.W.instObj C s.heap.objs.size)}):
  codeAny (model prog w) A (.call (.ref C) ⟨vs,kw⟩) R s:=by
 obtain⟨hh,g,d,t,os⟩:=s
 exact PySem.W.make_core (PySem.W.makes_of X hm) (PySem.W.looks_findIn X hi) (fun self=>PySem.W.bind_fn X self hf) (.inl rfl) h
end
def eD (f:Str)(v:V):List (Str×V)->List (Str×V)
 |[]=>[(f,v)]
 |(g,x) :: r=>if g=f then(g,v) :: r else(g,x) :: eD f v r
theorem sh (f g:Str)(v:V): ∀fs:List (Str×V),(eD f v fs).lookup g=if g=f then some v else fs.lookup g
 |[]=>by
  show List.lookup g [(f,v)]=_
  by_cases h:g=f
  ·have hb:(g == f)=true:=EY.mpr h
   simp only[List.lookup,hb,if_pos h]
  ·have hb:(g == f)=false:=gQ.mpr h
   simp only[List.lookup,hb,if_neg h]
 |(k,x) :: r=>by
  have ih:=sh f g v r
  rw[show eD f v ((k,x) :: r)=(if k=f then(k,v) :: r else(k,x) :: eD f v r) from rfl]
  by_cases hk:k=f
  ·rw[a7 hk]
   by_cases h:g=k
   ·have hb:(g == k)=true:=EY.mpr h
    simp only[List.lookup,hb,if_pos (h.trans hk)]
   ·have hb:(g == k)=false:=gQ.mpr h
    simp only[List.lookup,hb,if_neg (fun e:g=f=>h (e.trans hk.symm))]
  ·rw[aO hk]
   by_cases h:g=k
   ·have hb:(g == k)=true:=EY.mpr h
    simp only[List.lookup,hb,if_neg (fun e:g=f=>hk (h.symm.trans e))]
   ·have hb:(g == k)=false:=gQ.mpr h
    simp only[List.lookup,hb]
    exact ih
theorem rD (f:Str)(v:V): ∀fs:List (Str×V),f∈(eD f v fs).map (·.1)/\ ∀g,g∈fs.map (·.1)->g∈(eD f v fs).map (·.1)
 |[]=>⟨by simp[eD],fun g h=>by simp at h⟩
 |(k,x) :: r=>by
  obtain⟨i1,i2⟩:=rD f v r
  rw[show eD f v ((k,x) :: r)=(if k=f then(k,v) :: r else(k,x) :: eD f v r) from rfl]
  by_cases hk:k=f
  ·rw[a7 hk]
   subst hk
   exact⟨by simp,fun g h=>by simpa using h⟩
  ·rw[aO hk]
   refine⟨?_,fun g h=>?_⟩
   ·rw[c9]
    exact aU _ i1
   ·rw[c9] at h ⊢
    rcases aw.mp h with e|e
    ·exact aw.mpr (.inl e)
    ·exact aU _ (i2 g e)
theorem mF (f:Str)(v:V): ∀fs:List (Str×V),(eD f v fs).length<=fs.length + 1
 |[]=>by simp[eD]
 |(k,x) :: r=>by
  have ih:=mF f v r
  rw[show eD f v ((k,x) :: r)=(if k=f then(k,v) :: r else(k,x) :: eD f v r) from rfl]
  by_cases hk:k=f
  ·rw[a7 hk,cf,cf]; lia
  ·rw[aO hk,cf,cf]; lia
theorem kZ.some_of {v:V}{o:Option Value}(r:kZ (some v) o): ∃u,o=some u/\RelV v u:=by
 cases o with
 |none=>exact(show False from r).elim
 |some u=>exact⟨u,rfl,r⟩
theorem kZ.none_of {o:Option Value}(r:kZ none o):o=none:=by
 cases o with
 |none=>rfl
 |some u=>exact(show False from r).elim
theorem Fl {v:V}{u:Value}(r:RelV v u):PySem.W.handedIn u=true:=by
 cases v with
 |en=>cases(show u=Value.none from r); rfl
 |bl b=>cases(show u=Value.bool b from r); rfl
 |int i=>obtain⟨t,e⟩:=(show ∃t,u=Value.int i t from r); cases e; rfl
 |str x=>obtain⟨t,e⟩:=(show ∃t,u=Value.str x t from r); cases e; rfl
 |E8 b=>obtain⟨t,e⟩:=(show ∃t,u=Value.bytes b t from r); cases e; rfl
 |Ke b=>obtain⟨t,e⟩:=(show ∃t,u=Value.float b t from r); cases e; rfl
 |ref a=>cases(show u=Value.ref a from r); rfl
 |ty n=>cases(show u=Value.type n from r); rfl
section
variable {P:Program}{w:World}{H H':Hp}{h h':Heap}{a C dx:Addr}{fs ZJ:List (Str×V)}
theorem qj (cB:oq P w H h)(e:H a=some (.ins C dx fs)): ∃mA,Cn h a dx C mA/\(∀f,kZ (fs.lookup f) (mA f))/\PySem.Within mA (fs.map (·.1))/\fs.length<=1000/\H dx=some (.own a):=by
 obtain⟨d,z,ne,ob,mA,n,r,q⟩:=(show dC P w H h a (.ins C dx fs) from cB a _ e)
 exact⟨mA,⟨ob,n,ne⟩,r,q,z,d⟩
end
structure vK (K:PySem.W.Frag)(C:Addr):Prop where
 pg:PySem.W.plainGet K C Str.empty=true
 hd:PySem.W.hasDictIn K C=true
 po:PySem.W.plainOver K C=true
 sa:PySem.W.findIn K (.ref C) "__setattr__"=some (some (.builtin "object.__setattr__"))
theorem vK.get {K:PySem.W.Frag}{C:Addr}(c:vK K C)(f:Str):PySem.W.plainGet K C f=true:=c.pg
def cq (K:PySem.W.Frag)(C:Addr)(f:Str):Prop:=PySem.W.findIn K (.ref C) f=some none
theorem cq.QB {K:PySem.W.Frag}{C:Addr}{f:Str}(n:cq K C f):PySem.W.takerIn K C f=some none:=by
 unfold PySem.W.takerIn
 rw[show PySem.W.findIn K (.ref C) f=some none from n]
 rfl
structure Con (K:PySem.W.Frag)(C:Addr)(f:Str)(v:V)(u:Value):Prop where
 at_:PySem.W.findIn K (.ref C) f=some (some u)
 rel:RelV v u
 get:PySem.W.specialIn K u "__get__"=some none
 cp:PySem.W.copiedNames.contains f=false
structure Meth (K:PySem.W.Frag)(C:Addr)(m:Str)(f:Addr):Prop where
 at_:PySem.W.findIn K (.ref C) m=some (some (.ref f))
 fn:PySem.W.isFn K (.ref f)=true
 kp:PySem.W.keepIn K (.ref f)=true
section
variable {X:Cx}{pins:List (Addr×Obj)}{σ:St}{H:Hp}{s:Shared}{a C dx:Addr}{fs:List (Str×V)}{f:Str}{v:V}{A:Around}{E:Value->Shared->Prop}
theorem Co {b:Bool}{Q:Value->Shared->Prop}(I:Inv X pins σ H s)(e:H a=some (.ins C dx fs))(c:vK X.K C)(n:cq X.K C f)(l:fs.lookup f=some v)
  (h: ∀u s',Inv X pins σ H s'->RelV v u->Q u s'):wpAny (model X.prog X.w) A (getAttr (.ref a) f b) Q E s:=by
 obtain⟨mA,O,r,_,_,_⟩:=qj I.cB e
 obtain⟨u,hu,ru⟩:=kZ.some_of (v:=v) (o:=mA f) (by rw[← l]; exact r f)
 exact get_map I.gN O (c.get f) c.hd n hu (Fl ru) (h u _ (I.tok _) ru)
theorem Cp {m:Str}{g:Addr}{pl:Sem Bool}{Q:Value×List Value->Shared->Prop}(I:Inv X pins σ H s)(e:H a=some (.ins C dx fs))(c:vK X.K C)(k:Meth X.K C m g)(l:fs.lookup m=none)
  (h:Q (.ref g,[.ref a]) s):wpAny (model X.prog X.w) A (getMethod (.ref a) m pl) Q E s:=by
 obtain⟨mA,O,r,_,_,_⟩:=qj I.cB e
 have hn:mA m=none:=kZ.none_of (by rw[← l]; exact r m)
 exact Hm I.gN O (c.get m) k.at_ k.fn hn h
theorem Cq {y:V}{u:Value}{Q:Unit->Shared->Prop}(I:Inv X pins σ H s)(e:H a=some (.ins C dx fs))(c:vK X.K C)(n:cq X.K C f)(hl:fs.length < 1000)(ry:RelV y u)
  (h: ∀s',Inv X pins σ (upd H a (.ins C dx (eD f y fs))) s'->Q () s'):wpAny (model X.prog X.w) A (setAttr (.ref a) f u) Q E s:=by
 obtain⟨mA,O,r,wi,_,ho⟩:=qj I.cB e
 have hz:(fs.map (·.1)).length<=sizeLine:=by rw[ae,eU]; lia
 refine Kp I.gN O c.sa c.po n.QB c.hd wi hz fun h' O' sb=>h _ ?_
 have hd: ∃o,h'.get? dx=some o:=let⟨o,_,_,e',_⟩:=O'.ns; ⟨o,e'⟩
 refine I.write (x:=a) (e:=dx) (by rw[e]; exact True.intro) (.inr ho) (fun b q hb z=>(sb.2 b hb).trans z) hd ?_
 refine⟨by rw[az O.ne]; exact ho,?_,O.ne,O'.obj,_,O'.ns,fun g=>?_,fun g hg=>?_⟩
 ·have:=mF f y fs; lia
 ·show kZ ((eD f y fs).lookup g) (if g=f then some u else mA g)
  rw[sh]
  by_cases q:g=f
  ·rw[a7 q,a7 q]; exact ry
  ·rw[aO q,aO q]; exact r g
 ·by_cases q:g=f
  ·rw[q]; exact(rD f y fs).1
  ·refine(rD f y fs).2 g (wi g fun z=>hg ?_)
   show(if g=f then some u else mA g)=none
   rw[aO q]; exact z
theorem Inv.made (I:Inv X pins σ H s):Inv X pins σ (upd (upd H s.heap.objs.size (.own (s.heap.objs.size + 1))) (s.heap.objs.size + 1) (.ins C s.heap.objs.size []))
  {s with heap:=(s.heap.push PySem.W.emptyDict).push (PySem.W.instObj C s.heap.objs.size)}:=by
 have e1:(s.heap.push PySem.W.emptyDict).get? s.heap.objs.size=some PySem.W.emptyDict:=bN s.heap rfl
 have e2:((s.heap.push PySem.W.emptyDict).push (PySem.W.instObj C s.heap.objs.size)).get? (s.heap.objs.size + 1)=some (PySem.W.instObj C s.heap.objs.size):=by
  have:=bN (s.heap.push PySem.W.emptyDict) (o:=PySem.W.instObj C s.heap.objs.size) rfl
  rwa [kg] at this
 have e3:(s.heap.push PySem.W.emptyDict).Ns s.heap.objs.size (fun _=>none):=⟨PySem.W.emptyDict,#[],_,e1,rfl,(fun e he=>absurd he (by simp)),fun _=>rfl⟩
 have I1:=I.laid (a:=s.heap.objs.size) (o:= .own (s.heap.objs.size + 1)) (h':=s.heap.push PySem.W.emptyDict) (t':=s.toks) (fun b u q=>ax _ q) (aB _) ⟨_,e1⟩
 refine I1.laid (a:=s.heap.objs.size + 1) (o:= .ins C s.heap.objs.size []) (t':=s.toks) (fun b u q=>ax _ q) (iK (kg _ _)) ?_
 have ne:s.heap.objs.size≠s.heap.objs.size + 1:=aX (fh _)
 refine⟨by rw[az ne,ag],bB _,ne,e2,fun _=>none,(Heap.Ns1.of_empty e3).at fun o q=>ax _ q,fun _=>True.intro,fun y hy=>absurd rfl hy⟩
theorem DK {prog:Program}{w:World}{env:Env}{e:Expr}{f:Str}{pos:Pos}{s:Shared}{Q:Value->Shared->Prop}(hb:attributeBase e f env (eval e env)=eval e env)
  (h:wpAny (model prog w) A (eval e env) (fun o s₁=>wpAny (model prog w) A (getAttr o f true) Q E s₁) E s):wpAny (model prog w) A (eval (.Attribute e f pos) env) Q E s:=
 Attribute_any_ h (by rw[arm_eval_Attribute,hb])
end
def QC (K:PySem.W.Frag)(ta:TE)(f:Str):TE:=fun σ H Q=>ta σ H fun x H1=> ∃a C dx fs v,x= .ref a/\H1 a=some (.ins C dx fs)/\vK K C/\cq K C f/\fs.lookup f=some v/\Q v H1
def U9 (K:PySem.W.Frag)(ta tv:TE)(f:Str):TS:=fun D σ H=>tv σ H fun y H1=>ta σ H1 fun x H2=> ∃a C dx fs,x= .ref a/\H2 a=some (.ins C dx fs)/\vK K C/\cq K C f/\fs.length < 1000/\
 D.nx σ (upd H2 a (.ins C dx (eD f y fs)))
section
variable {X:Cx}{o e value:Expr}{f:Str}{pos pos' Nl:Pos}{ta tv:TE}
theorem b9 (he:PE X e ta)(hb:attributeBase e f X.env (eval e X.env)=eval e X.env):PE X (.Attribute e f pos) (QC X.K ta f):=by
 intro pins s σ H Q I h
 refine DK hb (dY (he pins s σ H _ I h) fun u s1 ⟨x,H1,I1,rx,a,C,dx,fs,v,ex,ea,c,n,l,q⟩=>?_)
 subst ex
 obtain rfl:u=Value.ref a:=rx
 exact Co I1 ea c n l fun u' s2 I2 ru=>⟨v,H1,I2,ru,q⟩
theorem fQ (ha:PE X o ta)(hv:PE X value tv)(hs:swapsWith value (some (.Attribute o f pos')) pos.line X.env=pure false):PS X (.Assign [.Attribute o f pos'] value pos) (U9 X.K ta tv f):=by
 intro pins s σ H D I h
 refine MW (dY (hv pins s σ H _ I h) fun u s1 ⟨y,H1,I1,ry,q⟩=>dY (ha pins s1 σ H1 _ I1 q) fun ov s2 ⟨x,H2,I2,rx,a,C,dx,fs,ex,ea,c,n,l,q2⟩=>?_) hs
 subst ex
 obtain rfl:ov=Value.ref a:=rx
 exact Cq I2 ea c n l ry fun s3 I3=>⟨σ,_,I3,q2⟩
end
section
variable {X:Cx}{pins:List (Addr×Obj)}{σ:St}{H:Hp}{s:Shared}{A:Around}{E:Value->Shared->Prop}{Q:Value->Shared->Prop}{c:Value}{b:Bool}
inductive mG (K:PySem.W.Frag) (H:Hp):V->Value->Prop where
 |en:mG K H .en (.type "NoneType")
 |bl (x:Bool):mG K H (.bl x) (.type "bool")
 |int (i:Int):mG K H (.int i) (.type "int")
 |str (x:Str):mG K H (.str x) (.type "str")
 |Ke (x:UInt64):mG K H (.Ke x) (.type "float")
 |lst {a:Addr} {xs:List V} (e:H a=some (.lst xs)):mG K H (.ref a) (.type "list")
 |BX {a:Addr} {o:Obj} {xs:List V} (e:H a=some (.BX o (.lst xs))):mG K H (.ref a) (.type "list")
 |tup {a:Addr} {xs:List V} (e:H a=some (.tup xs)):mG K H (.ref a) (.type "tuple")
 |dK {a:Addr} {bc:List (Key×V)} (e:H a=some (.dK bc)):mG K H (.ref a) (.type "dict")
 |dT {a:Addr} {bc:List (List Key×V)} (e:H a=some (.dT bc)):mG K H (.ref a) (.type "dict")
 |ins {a C dx:Addr} {fs:List (Str×V)} (e:H a=some (.ins C dx fs)) (cl:vK K C) (ha:PySem.W.findIn K (.ref C) "__class__"=some (some (.builtin "object.__class__")))
   (hn:PySem.W.specialIn K (.builtin "object.__class__") "__get__"=some (some (.builtin "getset_descriptor.__get__"))) (mH:PySem.W.takesIn K (.builtin "object.__class__")=some true)
   (hm:PySem.W.mroIn K C (.type "object")=some true):mG K H (.ref a) (.ref C)
theorem Fm {x:V}{u t:Value}(I:Inv X pins σ H s)(rx:RelV x u)(ty:mG X.K H x t)(e:PySem.W.kitOne X.K t c=some b)(h: ∀tk,Q (.bool b) {s with toks:=tk}):
  wpAny (model X.prog X.w) A (call (.builtin "isinstance") [u,c]) Q E s:=by
 cases ty with
 |en=>cases(show u=Value.none from rx); exact ee PySem.W.kitx_none I.gN True.intro e (fun z=>nomatch z) h
 |bl y=>cases(show u=Value.bool y from rx); exact ee PySem.W.kitx_bool I.gN True.intro e (fun z=>nomatch z) h
 |int i=>obtain⟨t,q⟩:=(show ∃t,u=Value.int i t from rx); cases q; exact ee PySem.W.kitx_int I.gN True.intro e (fun z=>nomatch z) h
 |str y=>obtain⟨t,q⟩:=(show ∃t,u=Value.str y t from rx); cases q; exact ee PySem.W.kitx_str I.gN True.intro e (fun z=>nomatch z) h
 |Ke y=>obtain⟨t,q⟩:=(show ∃t,u=Value.float y t from rx); cases q; exact ee PySem.W.kitx_float I.gN True.intro e (fun z=>nomatch z) h
 | @lst a xs ea=>
  cases(show u=Value.ref a from rx)
  obtain⟨_,_,n,_,h1⟩:=(show dC X.prog X.w H s.heap a (.lst xs) from I.cB a _ ea)
  exact ee rh I.gN ⟨_,h1,rfl⟩ e (fun z=>nomatch z) h
 | @BX a ob xs ea=>
  cases(show u=Value.ref a from rx)
  obtain⟨_,_,_,n,_,h1⟩:=(show dC X.prog X.w H s.heap a (.BX ob (.lst xs)) from I.cB a _ ea)
  exact ee rh I.gN ⟨_,h1,rfl⟩ e (fun z=>nomatch z) h
 | @tup a xs ea=>
  cases(show u=Value.ref a from rx)
  obtain⟨_,_,_,p⟩:=(show dC X.prog X.w H s.heap a (.tup xs) from I.cB a _ ea)
  obtain⟨o,h1,h2,_⟩:=p
  exact ee PySem.W.kitx_tuple I.gN ⟨o,h1,h2⟩ e (fun z=>nomatch z) h
 | @dK a bc ea=>
  cases(show u=Value.ref a from rx)
  obtain⟨_,_,vs,_,p⟩:=(show dC X.prog X.w H s.heap a (.dK bc) from I.cB a _ ea)
  obtain⟨o,es,ep,h1,h2,_⟩:=p
  exact ee rj I.gN ⟨o,h1,h2.1⟩ e (fun z=>nomatch z) h
 | @dT a bc ea=>
  cases(show u=Value.ref a from rx)
  obtain⟨_,_,xs,_,o,es,ep,h1,h2,_⟩:=(show dC X.prog X.w H s.heap a (.dT bc) from I.cB a _ ea)
  exact ee rj I.gN ⟨o,h1,h2.1⟩ e (fun z=>nomatch z) h
 | @ins a C dx fs ea cl ha hn mH hm=>
  cases(show u=Value.ref a from rx)
  obtain⟨mA,O,_⟩:=qj I.cB ea
  obtain⟨od,J,_⟩:=O.look
  exact ee (PySem.W.kitx_own (cl.get _) cl.hd ha hn mH hm) I.gN J e (fun z=>nomatch z) h
end
structure eW (k:Nat)(A:Around):Prop where
 hd:A.handled=none
 dp:A.depth + 3 * k + 5 < recursionLimit
 un:A.units + 16 * k + 200 < cLine
theorem eW.mono {j k:Nat}{A:Around}(r:eW k A)(h:j<=k):eW j A:=⟨r.hd,by have:=r.dp; lia,by have:=r.un; lia⟩
theorem eW.deeper {k:Nat}{A:Around}(r:eW (k + 1) A)(env:Env):eW k (A.deeper env):=
 ⟨r.hd,by have:=r.dp; show A.depth + 1 + 3 * k + 5 < _; lia,by have:=r.un; show A.units + 3 + 16 * k + 200 < _; lia⟩
theorem tY {A:Around}{C:Addr}{us:List Value}{kw:List (Str×Value)}:(A.under (.builtin "type.__call__" ⟨.ref C :: us,kw⟩)).depth=A.depth + 1:=by
 first|rfl|simp[Around.under,Code.weight,Code.isCreation,Code.isGuard,Code.isCaller,Code.frames,Code.isFrame,guardIds]
theorem tZ {A:Around}{C:Addr}{us:List Value}{kw:List (Str×Value)}:(A.under (.builtin "type.__call__" ⟨.ref C :: us,kw⟩)).units=A.units + 1:=by
 first|rfl|simp[Around.under,Code.cUnits,Code.frames,Code.isFrame]
theorem eW.make {k:Nat}{A:Around}(r:eW (k + 1) A)(C:Addr)(us:List Value)(kw:List (Str×Value)):eW k (A.under (.builtin "type.__call__" ⟨.ref C :: us,kw⟩)):=
 ⟨r.hd,by have:=r.dp; rw[tY]; lia,by have:=r.un; rw[tZ]; lia⟩
theorem eW.depth {k:Nat}{A:Around}(r:eW k A):A.depth < recursionLimit:=by have:=r.dp; lia
theorem eW.units {k:Nat}{A:Around}(r:eW k A):A.units + 64 < cLine:=by have:=r.un; lia
def Ho:TA:=fun _ H Q=>Q [] H
def QD (ta:TE)(tr:TA):TA:=fun σ H Q=>ta σ H fun x H1=>tr σ H1 fun xs H2=>Q (x :: xs) H2
section
variable {X:Cx}{e:Expr}{es:List Expr}{te:TE}{t:TA}{pos:Pos}
theorem ak:PA X [] Ho:=fun _ _ _ _ H Q I h=>Calls.spliced_nil ⟨[],H,I,.nil,h⟩
theorem aa (ha:PE X e te)(hr:PA X es t)(hs:starEach (e :: es) X.env=(false,eval e X.env) :: starEach es X.env:=by rfl):PA X (e :: es) (QD te t):=by
 intro pos pins s σ H Q I h
 rw[hs]
 show wpAny _ _ (spliced ((false,eval e X.env) :: backTo pos (starEach es X.env))) _ _ s
 refine Calls.spliced_cons (dY (ha pins s σ H _ I h) fun u s1 ⟨x,H1,I1,r1,q1⟩=>?_)
 exact dY (hr pos pins s1 σ H1 _ I1 q1) fun us s2 ⟨xs,H2,I2,r2,q2⟩=>⟨x :: xs,H2,I2,.cons r1 r2,q2⟩
def Va (t:TA):TE:=fun σ H Q=>t σ H fun xs H1=>xs.length<=sizeLine/\ ∀p,H1 p=none->Q (.ref p) (upd H1 p (.tup xs))
def Vb (t:TA):TE:=fun σ H Q=>t σ H fun xs H1=>xs.length<=sizeLine/\ ∀p,H1 p=none->Q (.ref p) (upd H1 p (.lst xs))
theorem dB {x1}(h:PA X es t):PE X (.Tuple es x1 pos) (Va t):=by
 intro pins s σ H Q I hq
 refine wpAny_Tuple_spliced (dY (h pos pins s σ H _ I hq) fun us s1 ⟨xs,H1,I1,r,z,q⟩=>⟨by rw[← r.length]; exact z,?_⟩)
 have hf:H1 s1.heap.objs.size=none:=I1.cB.fresh (aB _)
 refine⟨.ref s1.heap.objs.size,upd H1 s1.heap.objs.size (.tup xs),I1.laid (t':=s1.toks) (fun b u e=>ax _ e) (aB _) ?_,rfl,q _ hf⟩
 exact⟨z,us,r,⟨_,bN _ rfl,rfl,_,rfl⟩⟩
theorem bW (h:PA X es t):PE X (.List es pos) (Vb t):=by
 intro pins s σ H Q I hq
 refine wpAny_List_spliced (dY (h pos pins s σ H _ I hq) fun us s1 ⟨xs,H1,I1,r,z,q⟩=>⟨by rw[← r.length]; exact z,?_⟩)
 have hf:H1 s1.heap.objs.size=none:=I1.cB.fresh (aB _)
 refine⟨.ref s1.heap.objs.size,upd H1 s1.heap.objs.size (.lst xs),I1.laid (t':=s1.toks) (fun b u e=>ax _ e) (aB _) ?_,rfl,q _ hf⟩
 exact⟨z,us,0,r,bN _ rfl⟩
end
abbrev Sp:=List V->Hp->VK->XK->Prop
abbrev Fn:=List Env->Hp->Shared->XK->Value->Shared->Prop
structure qk (P:Program)(w:World)(K:PySem.W.Frag)(mg:Str->Option Value)(base:Heap)(A:Around)(outer:List Env)(s:Shared)(H:Hp):Prop where
 frames:A.frames=some outer
 mod:Mod K mg base
 bs: ∀b o,base.get? b=some o->s.heap.get? b=some o/\H b=none
 z5:base.objs.size<=s.heap.objs.size
 lL:s.heap.FunFrames base outer
 DA: ∀b∈Cg outer,H b=none
 cB:oq P w H s.heap
 bare:AllBare s.gens
def CE (outer:List Env)(P:Program)(w:World)(H:Hp)(s:Shared)(Q:VK)(u:Value)(s':Shared):Prop:=
 ∃v H',s'.os=s.os/\AllBare s'.gens/\Un (Cg outer) [] H H' s.heap s'.heap/\oq P w H' s'.heap/\RelV v u/\Q v H'
def CR (CX:Fn)(outer:List Env)(P:Program)(w:World)(H:Hp)(s:Shared)(Q:VK)(E:XK)(r:Result)(s':Shared):Prop:=
 match r with
 | .ok (.ret u)=>CE outer P w H s Q u s'
 | .ok _=>False
 | .error e=>CX outer H s E e s'
structure lN (P:Program)(w:World)(K:PySem.W.Frag)(mg:Str->Option Value)(base:Heap)(CX:Fn)(k:Nat)(f:Addr)(fd:FuncData)(ps:List Str)(sp:Sp):Prop where
 len: ∀vs H Q E,sp vs H Q E->vs.length=ps.length
 run: ∀(A:Around) (outer:List Env) (s:Shared) (H:Hp) (args:Args) (us:List Value) (vs:List V) (Q:VK) (E:XK),eW k A->qk P w K mg base A outer s H->BindsTo s fd args (ps.zip us)->Vals vs us->sp vs H Q E->
  codeAny (model P w) A (.call (.ref f) args) (CR CX outer P w H s Q E) s
theorem qk.make {P:Program}{w:World}{K:PySem.W.Frag}{mg:Str->Option Value}{base:Heap}{A:Around}{outer:List Env}{s:Shared}{H:Hp}(e:qk P w K mg base A outer s H)(C:Addr)(us:List Value)(kw:List (Str×Value)):
  qk P w K mg base (A.under (.builtin "type.__call__" ⟨.ref C :: us,kw⟩)) outer s H:=⟨by first|exact e.frames|(simpa[Around.under,Code.envs,Code.isFrame,pushEnvs] using e.frames),e.mod,e.bs,e.z5,e.lL,e.DA,e.cB,e.bare⟩
theorem qk.in1 {P:Program}{w:World}{K:PySem.W.Frag}{mg:Str->Option Value}{base:Heap}{A:Around}{outer:List Env}{s:Shared}{H:Hp}(e:qk P w K mg base A outer s H):
  qk P w K mg base A.in1 outer s H:=⟨e.frames,e.mod,e.bs,e.z5,e.lL,e.DA,e.cB,e.bare⟩
section
variable {X:Cx}{pins:List (Addr×Obj)}{σ:St}{H:Hp}{s s':Shared}
theorem Inv.Hq (I:Inv X pins σ H s):qk X.prog X.w X.K X.mg X.base X.A X.stack s H:=
 ⟨I.ok.frames,I.ok.mod,I.bs,a0 I.ok.z5 I.sz,I.stack,I.qg,I.cB,I.bare⟩
theorem Inv.after {Q:VK}{u:Value}(I:Inv X pins σ H s)(h:CE X.stack X.prog X.w H s Q u s'):EP X pins σ Q u s':=by
 obtain⟨v,H',os,bare,un,cB,r,q⟩:=h
 obtain⟨hh,g,d,t,ZU⟩:=s'
 obtain rfl:ZU=s.os:=os
 exact⟨v,H',I.call (h':=hh) (g':=g) (d':=d) (t':=t) (ch:=[]) un cB bare (fun b z=>absurd z (by simp)),r,q⟩
end
def ua (sp:Sp)(ub:List V)(E:XK)(t:TA):TE:=fun σ H Q=>t σ H fun vs H1=>sp (vs ++ ub) H1 Q E
def Mj (C:Addr)(m:Str)(sp:Sp)(ub:List V)(E:XK)(ta:TE)(t:TA):TE:=fun σ H Q=>ta σ H fun x H1=> ∃a dx fs,x= .ref a/\H1 a=some (.ins C dx fs)/\fs.lookup m=none/\
 t σ H1 fun vs H2=>sp (x :: (vs ++ ub)) H2 Q E
def DM (C:Addr)(sp:Sp)(ub:List V)(E:XK)(t:TA):TE:=fun σ H Q=>t σ H fun vs H1=> ∀x dx,H1 x=none->H1 dx=none->dx≠x->
 sp (.ref x :: (vs ++ ub)) (upd (upd H1 dx (.own x)) x (.ins C dx [])) (fun v H2=>v= .en/\Q (.ref x) H2) E
def Binds (K:PySem.W.Frag)(fd:FuncData)(ps:List Str)(ds:List Value):Prop:=
 ∀(s:Shared) (us:List Value),K.In s.heap->(us ++ ds).length=ps.length->BindsTo s fd ⟨us,[]⟩ (ps.zip (us ++ ds))
theorem Binds.all {K:PySem.W.Frag}{fd:FuncData}{ps:List Str}(h: ∀us:List Value,us.length=ps.length->bindArgs fd ⟨us,[]⟩=pure (ps.zip us)):Binds K fd ps []:=fun s us _ hl=>by
 rw[cu] at hl ⊢
 exact .of_eq (h us hl)
def Passes (CX:Fn)(X:Cx)(E:XK):Prop:= ∀(pins:List (Addr×Obj)) (σ:St) (H:Hp) (s:Shared) (e:Value) (s':Shared),Inv X pins σ H s->CX X.stack H s E e s'->X.xe e s'
section
variable {X:Cx}{CX:Fn}{k:Nat}{f C:Addr}{fd:FuncData}{ps:List Str}{sp:Sp}{ub:List V}{ds:List Value}{E:XK}{x m:Str}{p pos apos:Pos}{e o:Expr}{es:List Expr}{ta:TE}{t:TA}
theorem yb {pins:List (Addr×Obj)}{σ:St}{H:Hp}{s:Shared}{Q:VK}{us:List Value}{vs:List V}(F:lN X.prog X.w X.K X.mg X.base CX k f fd ps sp)(hr:eW k X.A)(hb:Binds X.K fd ps ds)(hd:Vals ub ds)(hx:Passes CX X E)
  (I:Inv X pins σ H s) (r:Vals vs us) (h:sp (vs ++ ub) H Q E):wpAny (model X.prog X.w) X.A (call (.ref f) us) (EP X pins σ Q) X.xe s:=by
 have r2:Vals (vs ++ ub) (us ++ ds):=r.append hd
 have hl:(us ++ ds).length=ps.length:=by rw[← r2.length]; exact F.len _ _ _ _ h
 refine Dz (Cd (F.run X.A X.stack s H ⟨us,[]⟩ (us ++ ds) (vs ++ ub) Q E hr I.Hq (hb s us I.gN hl) r2 h) fun r s' hq=>?_)
 cases r with
 |error e=>exact hx pins σ H s e s' I hq
 |ok fl=>
  cases fl with
  |ret u=>exact I.after hq
  |next=>exact False.elim hq
  |brk=>exact False.elim hq
  |cont=>exact False.elim hq
theorem DN (F:lN X.prog X.w X.K X.mg X.base CX k f fd ps sp)(hr:eW k X.A)(hg:Gl X x)(hm:X.mg x=some (.ref f))(hk:PySem.W.keepIn X.K (.ref f)=true)(hb:Binds X.K fd ps ds)(hd:Vals ub ds)(hx:Passes CX X E)
  (ha:PA X (e :: es) t) (ql:(x == ("__debug__":Str))=false:=by decide) (he:starEach (e :: es) X.env=(false,eval e X.env) :: starEach es X.env:=by rfl) (iw:(backTo pos (starEach es X.env)).any (·.1)=false:=by rfl):
  PE X (.Call (.Name x p) (e :: es) [] pos) (ua sp ub E t):=by
 intro pins s σ H Q I h
 refine eF (jw I hg hm ?_ ql)
 refine kh (h₀:=X.base) I.ok.mod.Kg hk (dY (ha pos pins s σ H _ I h) fun us s1 ⟨vs,H1,I1,r,q⟩=>⟨I1.gN,?_⟩) he iw
 exact yb F hr hb hd hx I1 r q
theorem Hr (F:lN X.prog X.w X.K X.mg X.base CX k f fd ps sp)(hr:eW k X.A)(hg:Gl X x)(hm:X.mg x=some (.ref f))(hk:PySem.W.keepIn X.K (.ref f)=true)(hb:Binds X.K fd ps ds)(hd:Vals ub ds)(hx:Passes CX X E)
  (ql:(x == ("__debug__":Str))=false:=by decide):PE X (.Call (.Name x p) [] [] pos) (ua sp ub E Ho):=by
 intro pins s σ H Q I h
 refine eF (jw I hg hm ?_ ql)
 exact zW I.gN hk (yb (us:=[]) F hr hb hd hx I .nil h)
theorem Kq {pl:Sem Bool}(he:PE X o ta)(c:vK X.K C)(hm:Meth X.K C m f)(F:lN X.prog X.w X.K X.mg X.base CX k f fd ps sp)(hr:eW k X.A)(hb:Binds X.K fd ps ds)(hd:Vals ub ds)(hx:Passes CX X E)(ha:PA X (e :: es) t)
  (se:starEach (e :: es) X.env=(false,eval e X.env) :: starEach es X.env:=by rfl) (iw:(backTo pos (starEach es X.env)).any (·.1)=false:=by rfl)
  (ht:eval (.Call (.Attribute o m apos) (e :: es) [] pos) X.env=(do
   let ov ← eval o X.env
   standAt apos.atName
   let(f,first) ← holding [ov] (getMethod ov m pl)
   callWith pos f first (backTo pos (starEach (e :: es) X.env)) (backToKw pos (keywordEach [] X.env))):=by rfl):
  PE X (.Call (.Attribute o m apos) (e :: es) [] pos) (Mj C m sp ub E ta t):=by
 intro pins s σ H Q I h
 refine vA (pl:=pl) (dY (he pins s σ H _ I h) fun u s1 ⟨x,H1,I1,rx,a,dx,fs,ex,ea,l,q⟩=>?_) ht
 subst ex
 obtain rfl:u=Value.ref a:=rx
 refine Cp I1 ea c hm l ?_
 refine kh (first:=[.ref a]) (h₀:=X.base) I.ok.mod.Kg hm.kp (dY (ha pos pins s1 σ H1 _ I1 q) fun us s2 ⟨vs,H2,I2,r,q2⟩=>⟨I2.gN,?_⟩) se iw
 exact yb (us:= .ref a :: us) (vs:= .ref a :: vs) F hr hb hd hx I2 (.cons rfl r) q2
structure Mk (K:PySem.W.Frag)(C f:Addr):Prop where
 makes:PySem.W.makesIn K C=true
 init:PySem.W.findIn K (.ref C) "__init__"=some (some (.ref f))
 fn:PySem.W.isFn K (.ref f)=true
 kp:PySem.W.keepIn K (.ref C)=true
theorem Af {pins:List (Addr×Obj)}{σ:St}{H:Hp}{s:Shared}{Q:VK}{us:List Value}{vs:List V}(M:Mk X.K C f)(F:lN X.prog X.w X.K X.mg X.base CX k f fd ps sp)(hr:eW (k + 1) X.A)(hb:Binds X.K fd ps ds)(hd:Vals ub ds)
  (hx:Passes CX X E) (I:Inv X pins σ H s) (r:Vals vs us)
  (h: ∀x dx,H x=none->H dx=none->dx≠x->sp (.ref x :: (vs ++ ub)) (upd (upd H dx (.own x)) x (.ins C dx [])) (fun v H2=>v= .en/\Q (.ref x) H2) E):
  wpAny (model X.prog X.w) X.A (call (.ref C) us) (EP X pins σ Q) X.xe s:=by
 have hq:=h (s.heap.objs.size + 1) s.heap.objs.size (I.cB.fresh (cZ _)) (I.cB.fresh (aB _)) (aX (fh _))
 have I2:=Inv.made (C:=C) I
 have r2:Vals (V.ref (s.heap.objs.size + 1) :: (vs ++ ub)) (Value.ref (s.heap.objs.size + 1) :: (us ++ ds)):= .cons rfl (r.append hd)
 have hl:(Value.ref (s.heap.objs.size + 1) :: us ++ ds).length=ps.length:=by
  have e:=r2.length
  rw[F.len _ _ _ _ hq] at e
  exact e.symm
 refine Dz (Hn (f:=f) I.gN M.makes M.init (EY.mp M.fn) (Cd (F.run _ X.stack _ _ ⟨Value.ref (s.heap.objs.size + 1) :: us,[]⟩ (Value.ref (s.heap.objs.size + 1) :: (us ++ ds)) _ _ E (hr.make C us [])
  (I2.Hq.make C us []) (hb _ (Value.ref (s.heap.objs.size + 1) :: us) I2.gN hl) r2 hq) fun r s' sj=>?_))
 cases r with
 |error e=>exact hx pins σ _ _ e s' I2 sj
 |ok fl=>
  cases fl with
  |ret u=>
   obtain⟨v,H',I3,rv,ev,q3⟩:=I2.after sj
   subst ev
   exact⟨rv,⟨V.ref (s.heap.objs.size + 1),H',I3,rfl,q3⟩⟩
  |next=>exact False.elim sj
  |brk=>exact False.elim sj
  |cont=>exact False.elim sj
theorem Kr (M:Mk X.K C f)(F:lN X.prog X.w X.K X.mg X.base CX k f fd ps sp)(hr:eW (k + 1) X.A)(hg:Gl X x)(hm:X.mg x=some (.ref C))(hb:Binds X.K fd ps ds)(hd:Vals ub ds)(hx:Passes CX X E)
  (ha:PA X (e :: es) t) (ql:(x == ("__debug__":Str))=false:=by decide) (he:starEach (e :: es) X.env=(false,eval e X.env) :: starEach es X.env:=by rfl) (iw:(backTo pos (starEach es X.env)).any (·.1)=false:=by rfl):
  PE X (.Call (.Name x p) (e :: es) [] pos) (DM C sp ub E t):=by
 intro pins s σ H Q I h
 refine eF (jw I hg hm ?_ ql)
 refine kh (h₀:=X.base) I.ok.mod.Kg M.kp (dY (ha pos pins s σ H _ I h) fun us s1 ⟨vs,H1,I1,r,q⟩=>⟨I1.gN,?_⟩) he iw
 exact Af M F hr hb hd hx I1 r q
theorem Hs (M:Mk X.K C f)(F:lN X.prog X.w X.K X.mg X.base CX k f fd ps sp)(hr:eW (k + 1) X.A)(hg:Gl X x)(hm:X.mg x=some (.ref C))(hb:Binds X.K fd ps ds)(hd:Vals ub ds)(hx:Passes CX X E)
  (ql:(x == ("__debug__":Str))=false:=by decide):PE X (.Call (.Name x p) [] [] pos) (DM C sp ub E Ho):=by
 intro pins s σ H Q I h
 refine eF (jw I hg hm ?_ ql)
 exact zW I.gN M.kp (Af (us:=[]) M F hr hb hd hx I .nil h)
end
section
variable {X:Cx}{CX:Fn}{k:Nat}{f C:Addr}{fd:FuncData}{ps ks:List Str}{sp:Sp}{E:XK}{x m:Str}{p pos apos QE:Pos}{e o:Expr}{es:List Expr}{kws:List Keyword}{te ta:TE}{t tk:TA}{nm:Option Str}
structure Vc (K:PySem.W.Frag)(fd:FuncData)(ps ks:List Str)(g:List Value->List Value->List Value)(gV:List V->List V->List V):Prop where
 to: ∀(s:Shared) (us ws:List Value),K.In s.heap->(g us ws).length=ps.length->BindsTo s fd ⟨us,ks.zip ws⟩ (ps.zip (g us ws))
 rel: ∀{vs:List V} {us:List Value} {zs:List V} {ws:List Value},Vals vs us->Vals zs ws->Vals (gV vs zs) (g us ws)
variable {g:List Value->List Value->List Value}{gV:List V->List V->List V}
end
structure aS (N P:List Str)(sc:Scope):Prop where
 kind:sc.kind= .function:=by rfl
 co:sc.isCoroutine=false:=by rfl
 gen:sc.isGenerator=false:=by rfl
 nd:N.Nodup:=by decide +kernel
 pre:N.take P.length=P:=by rfl
 par: ∀x∈P,sc.names.lookup x=some .local∨sc.names.lookup x=some .cell:=by decide +kernel
 Nm: ∀y∈sc.names,y.2≠ .free:=by decide +kernel
theorem w6 {kindOf:Str->Option NameKind}{x:Str}: ∀{binds:List (Str×Value)} {m:Str->Option Value},(∀v,(x,v)∉binds)->bindL kindOf binds m x=m x
 |[],_,_=>rfl
 |(n,v) :: r,m,h=>by
  unfold bindL
  rw[w6 fun w hw=>h w (aU _ hw)]
  split
  ·have:x≠n:=by rintro rfl; exact h v bw
   simp[this]
  ·rfl
theorem w9 {kindOf:Str->Option NameKind}{x:Str}: ∀{binds:List (Str×Value)} {m:Str->Option Value},(∀v,(x,v)∉binds)->bindC kindOf binds m x=m x
 |[],_,_=>rfl
 |(n,v) :: r,m,h=>by
  unfold bindC
  rw[w9 fun w hw=>h w (aU _ hw)]
  split
  ·rfl
  ·have:x≠n:=by rintro rfl; exact h v bw
   simp[this]
theorem xa {kindOf:Str->Option NameKind}{x:Str}{v:Value}: ∀{P:List Str} {vs:List Value} {i:Nat} {m:Str->Option Value},P.Nodup->P[i]? =some x->vs[i]? =some v->kindOf x=some .local->
  bindL kindOf (P.zip vs) m x=some v
 |[],_,_,_,_,h,_,_=>by simp at h
 |_ :: _,[],_,_,_,_,h,_=>by simp at h
 |p :: P,w :: vs,0,m,nd,h1,h2,hk=>by
  simp at h1 h2; subst h1; subst h2
  show bindL kindOf ((p,w) :: P.zip vs) m p=_
  unfold bindL
  rw[w6 fun v hv=>(eh.mp nd).1 (oj hv).1,a7 hk]
  simp
 |p :: P,w :: vs,i + 1,m,nd,h1,h2,hk=>by
  show bindL kindOf ((p,w) :: P.zip vs) m x=_
  unfold bindL
  exact xa (i:=i) (List.nodup_cons.mp nd).2 (by simpa using h1) (by simpa using h2) hk
theorem xc {kindOf:Str->Option NameKind}{x:Str}{v:Value}: ∀{P:List Str} {vs:List Value} {i:Nat} {m:Str->Option Value},P.Nodup->P[i]? =some x->vs[i]? =some v->kindOf x≠some .local->
  bindC kindOf (P.zip vs) m x=some v
 |[],_,_,_,_,h,_,_=>by simp at h
 |_ :: _,[],_,_,_,_,h,_=>by simp at h
 |p :: P,w :: vs,0,m,nd,h1,h2,hk=>by
  simp at h1 h2; subst h1; subst h2
  show bindC kindOf ((p,w) :: P.zip vs) m p=_
  unfold bindC
  rw[w9 fun v hv=>(eh.mp nd).1 (oj hv).1,aO hk]
  simp
 |p :: P,w :: vs,i + 1,m,nd,h1,h2,hk=>by
  show bindC kindOf ((p,w) :: P.zip vs) m x=_
  unfold bindC
  exact xc (i:=i) (List.nodup_cons.mp nd).2 (by simpa using h1) (by simpa using h2) hk
def start (N:List Str)(vs:List V):St:=vs.map some ++ List.replicate (N.length - vs.length) none
def k7 (CX:Fn)(P:Program)(w:World)(K:PySem.W.Frag)(mg:Str->Option Value)(base:Heap)(N:List Str)(qual:Str)(scope:Scope)(f:Addr)(cd:Value)(A:Around)(outer:List Env)(s:Shared)(H:Hp)(E:XK):Cx where
 prog:=P
 w:=w
 K:=K
 mg:=mg
 base:=base
 A:=A.deeper (envOfC qual scope s.heap.objs.size f cd)
 N:=N
 s₀:=s
 H₀:=H
 env:=envOfC qual scope s.heap.objs.size f cd
 outer:=outer
 stack:=envOfC qual scope s.heap.objs.size f cd :: outer
 ex:=[]
 calm:=true
 fn:=fun _=>true
 pn:=[]
 xe:=fun e s'=>wpAny (model P w) (A.deeper (envOfC qual scope s.heap.objs.size f cd)) (leaving (envOfC qual scope s.heap.objs.size f cd) e) (fun _ DO=>CX outer H s E e DO) (fun e' DO=>CX outer H s E e' DO) s'
theorem Ag {sc:Scope}{n:Nat}{x:Str}(h:sc.names.lookup x=some .cell): ∃c,(cellsFrom n sc.names []).lookup x=some c:=by
 have q:=kY sc.names n [] (.inl h)
 exact Pq.mp q
theorem xg {CX:Fn}{P:Program}{w:World}{K:PySem.W.Frag}{mg:Str->Option Value}{base:Heap}{N ps:List Str}{qual:Str}{scope:Scope}{f:Addr}{cd:Value}{A:Around}{outer:List Env}{s s1:Shared}{H:Hp}{E:XK}{us:List Value}{vs:List V}
  (S:aS N ps scope) (hd:A.handled=none) (e0:qk P w K mg base A outer s H) (hl:vs.length=ps.length) (r:Vals vs us)
  (x:InCallC s s.heap.objs.size (bindL (envOfC qual scope s.heap.objs.size f cd).kindOf (ps.zip us) fun _=>none) (cellsFrom (s.heap.objs.size + 1) scope.names []) (bindC (envOfC qual scope s.heap.objs.size f cd).kindOf (ps.zip us) fun _=>none) s1):
  Inv (k7 CX P w K mg base N qual scope f cd A outer s H E) [] (start N vs) H s1:=by
 have iw:ps.length<=N.length:=by have:=c8 List.length S.pre; rw[bz] at this; lia
 obtain⟨h1,tk,rfl,hk⟩:=x.done
 have Vd: ∀b:Addr,b∉(k7 CX P w K mg base N qual scope f cd A outer s H E).ex:=fun b z=>absurd (show b∈([]:List Addr) from z) (by simp)
 refine⟨⟨e0.mod,S.kind,rfl,rfl,aB _,fun y z c h1 h2=>?_,fun y hy=>?_,fun y c _ h=>?_,fun _=>hd,Around.frames_deeper e0.frames,.inr ⟨rfl,rfl⟩,fun b z=>absurd z (Vd b),e0.bs,e0.z5,fun b _ _=>Vd b,fun b z=>absurd z (Vd b),e0.lL,e0.DA⟩,
  rfl,e0.bare,Un.kept hk,⟨_,x.toInCall.ns,fun i y v h1 h2 h3=>?_⟩,fun y c h=>⟨_,x.cell y c h⟩,e0.cB.fresh (Nat.le_refl _),fun y c h=>?_,fun p hp=>absurd (show p∈([]:List (Addr×Obj)) from hp) (by simp),e0.cB.kept hk,?_⟩
 ·exact name_of_addr x.apart (cv h1) (cv h2)
 ·have hy:scope.names.lookup y=some .cell∨scope.names.lookup y=some .free:=hy
  rcases hy with hy|hy
  ·exact Ag hy
  ·exact absurd rfl (S.Nm _ (cv hy))
 ·exact dk (x.above y c (cv h))
 ·have hi:i < vs.length:=by
   unfold start at h2
   by_cases hi:i < vs.length
   ·exact hi
   ·rw[List.getElem?_append_right (by simpa using hi)] at h2
    rw[List.getElem?_replicate] at h2
    split at h2 <;> cases h2
  have ha:vs[i]? =some v:=by
   unfold start at h2
   rw[List.getElem?_append_left (by simpa using hi),List.getElem?_map] at h2
   cases e:vs[i]? with
   |none=>rw[e] at h2; cases h2
   |some a=>rw[e] at h2; cases h2; rfl
  obtain⟨u,hu,rv⟩:=r.get ha
  have hp:ps[i]? =some y:=by
   rw[← S.pre,List.getElem?_take_of_lt (by lia)]; exact h1
  have X1:ps.Nodup:=by rw[← S.pre]; exact S.nd.sublist (List.take_sublist _ _)
  refine⟨u,rv,?_⟩
  rcases S.par y (gA hp) with k|k
  ·exact .inl ⟨k,xa X1 hp hu k⟩
  ·obtain⟨c,e⟩:=Ag (n:=s.heap.objs.size + 1) k
   refine .inr ⟨.inl k,c,e,?_⟩
   have q:=x.cell y c e
   rw[xc X1 hp hu (by show scope.names.lookup y≠_; rw[k]; decide)] at q
   exact q
 ·exact e0.cB.fresh (dk (x.above y c (cv h)))
 ·unfold start
  show _ =N.length
  rw[aF,ae,iL]
  lia
theorem Ht {CX:Fn}{P:Program}{w:World}{K:PySem.W.Frag}{mg:Str->Option Value}{base:Heap}{k:Nat}{f:Addr}{name qual:Str}{params:Arguments}{body:List Stmt}{scope:Scope}{dV kV doc pm cX ct oc:Value}{an od:Option Addr}
  {Fo:Array (Option Value)} {N ps:List Str} {sp:Sp} (lk:K.lookup f=some ⟨oc,od,.func (PySem.W.fnOf name qual params body scope dV kV doc pm an cX ct),Fo⟩) (ra:PySem.W.codeIn K cX qual=true) (S:aS N ps scope)
  (len: ∀vs H Q E,sp vs H Q E->vs.length=ps.length)
  (fW: ∀(A:Around) (outer:List Env) (s:Shared) (H:Hp) (vs:List V) (Q:VK) (E:XK),eW k (A.deeper (envOfC qual scope s.heap.objs.size f cX))->sp vs H Q E->
   ∃t,oG (k7 CX P w K mg base N qual scope f cX A outer s H E) body t/\t {nx:=fun _ H'=>Q .en H',rt:=Q} (start N vs) H):
  lN P w K mg base CX (k + 1) f (PySem.W.fnOf name qual params body scope dV kV doc pm an cX ct) ps sp:=by
 refine⟨len,fun A outer s H args us vs Q E hr e0 hb r yc=>?_⟩
 have hl:=len _ _ _ _ yc
 have KX:K.In s.heap:=e0.mod.Kg.keeps fun b o e=>(e0.bs b o e).1
 have lim:s.heap.NoLimit:=e0.mod.nolimit.keeps fun b o e=>(e0.bs b o e).1
 have mI: ∀y∈ps.zip us,scope.names.lookup y.1=some .local∨(scope.names.lookup y.1=some .cell/\((cellsFrom (s.heap.objs.size + 1) scope.names []).lookup y.1).isSome=true):=fun⟨n,v⟩ hy=>by
  rcases S.par n (oj hy).1 with q|q
  ·exact .inl q
  ·exact .inr ⟨q,kY _ _ _ (.inl q)⟩
 refine codeAny_call_function hr.depth (KX _ _ lk) rfl S.co S.gen rfl (PySem.W.codeRec_of KX ra) (hb _ _ _ _ ?_)
 refine sT S.kind mI fun env he s1 x=>?_
 subst he
 refine⟨lim.keeps x.toInCall.keep,codeAny_func ?_⟩
 obtain⟨t,ht,hq⟩:=fW A outer s H vs Q E (hr.deeper _) yc
 have I:Inv (k7 CX P w K mg base N qual scope f cX A outer s H E) [] (start N vs) H s1:=xg S hr.hd e0 hl r x
 refine cw (ht [] s1 (start N vs) H _ I hq) (fun fl s' hs=>?_) fun e s' hs=>hs
 have fin: ∀{σ':St} {H':Hp} {v:V} {u:Value},Inv (k7 CX P w K mg base N qual scope f cX A outer s H E) [] σ' H' s'->RelV v u->Q v H'->CE outer P w H s Q u s':=
  fun{σ' H' v u} J rv q=>⟨v,H',J.os,J.bare,J.base,J.cB,rv,q⟩
 cases fl with
 |ret u=>
  obtain⟨v,σ',H',J,rv,q⟩:=hs
  exact fin J rv q
 |next=>
  obtain⟨σ',H',J,q⟩:=hs
  exact fin (v:=V.en) (u:=Value.none) J rfl q
 |brk=>
  obtain⟨_,_,_,q⟩:=hs
  exact False.elim q
 |cont=>
  obtain⟨_,_,_,q⟩:=hs
  exact False.elim q
section
variable {X:Cx}{x:Str}{p pos:Pos}{e:Expr}{es:List Expr}{t:TA}{id T:String}{r:List V->Hp->VK->Prop}
def X2 (r:List V->Hp->VK->Prop)(t:TA):TE:=fun σ H Q=>t σ H fun vs H1=>r vs H1 Q
theorem bo (hc:iu X (.builtin id) r)(hg:Gl X x)(hm:X.mg x=none)(hv:bootBuiltins x=some (.builtin id))(ha:PA X (e :: es) t)(hn:x≠"__name__":=by decide)(ql:(x == ("__debug__":Str))=false:=by decide)
  (he:starEach (e :: es) X.env=(false,eval e X.env) :: starEach es X.env:=by rfl) (iw:(backTo pos (starEach es X.env)).any (·.1)=false:=by rfl):PE X (.Call (.Name x p) (e :: es) [] pos) (X2 r t):=by
 intro pins s σ H Q I h
 refine eF (o8 I hg hm hv ?_ hn ql)
 exact PyProof.Rows.callWith_builtin1 (dY (ha pos pins s σ H _ I h) fun us s1 ⟨vs,H1,I1,r1,q1⟩=>hc pins s1 σ H1 vs us Q I1 r1 q1) he iw
theorem fZ (hc:iu X (.type T) r)(hg:Gl X x)(hm:X.mg x=none)(hv:bootBuiltins x=some (.type T))(ha:PA X (e :: es) t)(hn:x≠"__name__":=by decide)(ql:(x == ("__debug__":Str))=false:=by decide)
  (he:starEach (e :: es) X.env=(false,eval e X.env) :: starEach es X.env:=by rfl) (iw:(backTo pos (starEach es X.env)).any (·.1)=false:=by rfl):PE X (.Call (.Name x p) (e :: es) [] pos) (X2 r t):=by
 intro pins s σ H Q I h
 refine eF (o8 I hg hm hv ?_ hn ql)
 exact og (dY (ha pos pins s σ H _ I h) fun us s1 ⟨vs,H1,I1,r1,q1⟩=>hc pins s1 σ H1 vs us Q I1 r1 q1) he iw
end
end L2
namespace HT
open PySem PyProof.Rows
def lexLt:List Int->List Int->Bool
 |[],[]=>false
 |[],_ :: _=>true
 |_ :: _,[]=>false
 |x :: xs,y :: ys=>if x=y then lexLt xs ys else decide (x < y)
theorem pq (x y:Int)(xs ys:List Int):lexLt (x :: xs) (y :: ys)=if x=y then lexLt xs ys else decide (x < y):=rfl
section
open PySem.SeqAt
open PySem.AutoSeq1 (wpAny_loadPart')
open PySem.MeetsSeq PySem.MeetsSeq2 PySem.MeetsSeq3
end
section
variable {prog:Program}{w:World}{A:Around}{E:Value->Shared->Prop}{s:Shared}
def Ah (n d:Nat):Option Int->Nat
 |none=>d
 |some v=>if v < 0 then(v + (n:Int)).toNat else min v.toNat n
theorem Hu (n d:Nat):Ah n d none=d:=rfl
theorem yd (n d k:Nat):Ah n d (some (k:Int))=min k n:=by
 show(if(k:Int) < 0 then((k:Int) + (n:Int)).toNat else min (k:Int).toNat n)=min k n
 rw[aO (by lia),eI]
end
end HT
namespace L2
open PySem PySem.Spec PyProof.Rows
abbrev TO:=St->Hp->(Option Int->Hp->Prop)->Prop
def PO (X:Cx)(e:Option Expr)(t:TO):Prop:=
 ∀(pins:List (Addr×Obj)) (s:Shared) (σ:St) (H:Hp) (Q:Option Int->Hp->Prop),Inv X pins σ H s->t σ H Q->
  wpAny (model X.prog X.w) X.A (evalPart e X.env) (fun u s'=> ∃o H',Inv X pins σ H' s'/\IsPart u o/\Q o H') X.xe s
def Ks:TO:=fun _ H Q=>Q none H
def QF (t:TE):TO:=fun σ H Q=>t σ H fun x H1=> ∃i,x= .int i/\Q (some i) H1
theorem intsAre_of {ns:List Int}: ∀{us:List Value},Vals (ns.map V.int) us->IntsAre us ns:=by
 induction ns with
 |nil=>intro us r; rw[vB] at r; cases r; exact .nil
 |cons n ns ih=>
  intro us r
  rw[c9] at r
  cases r with
  |cons r1 r2=>
   obtain⟨t,e⟩:=r1
   subst e
   exact .cons n t (ih r2)
section
variable {X:Cx}{e:Expr}{te:TE}{lo hi:Option Expr}{tl th:TO}{pos p2:Pos}
theorem ye:PO X none Ks:=by
 intro pins s σ H Q I h
 rw[evalPart_none]
 exact bG ⟨none,H,I,.none,h⟩
theorem qm (h:PE X e te):PO X (some e) (QF te):=by
 intro pins s σ H Q I hw
 rw[evalPart_some]
 refine dY (h pins s σ H _ I hw) fun u s1 ⟨x,H1,I1,r1,q1⟩=>?_
 obtain⟨i,rfl,q⟩:=q1
 obtain⟨t,rfl⟩:=r1
 exact⟨some i,H1,I1,.int i t,q⟩
def Nn (X:Cx)(r:V->Option Int->Option Int->Hp->VK->Prop):Prop:=
 ∀(pins:List (Addr×Obj)) (s:Shared) (σ:St) (H:Hp) (x:V) (v vl vu:Value) (lo hi:Option Int) (sl:Addr) (Q:VK),Inv X pins σ H s->RelV x v->s.heap.IsSliceOf sl vl vu .none->IsPart vl lo->IsPart vu hi->r x lo hi H Q->
  ∃T id,typeLookup (.type T) "__getitem__"=pure (some (.builtin id))/\s.TypeIs v T/\wpAny (model X.prog X.w) X.A (getItem v (.ref sl)) (EP X pins σ Q) X.xe s
def ZV (r:V->Option Int->Option Int->Hp->VK->Prop)(te:TE)(tl th:TO):TE:=fun σ H Q=>te σ H fun x H1=>tl σ H1 fun l H2=>th σ H2 fun u H3=>r x l u H3 Q
theorem qo {r:V->Option Int->Option Int->Hp->VK->Prop}(hr:Nn X r)(he:PE X e te)(hl:PO X lo tl)(hu:PO X hi th):PE X (.Subscript e (.Slice lo hi none p2) pos) (ZV r te tl th):=by
 intro pins s σ H Q I h
 refine Subscript_ (dY (he pins s σ H _ I h) fun v s1 ⟨x,H1,I1,r1,q1⟩=>?_)
 refine wpAny_Slice (dY (hl pins s1 σ H1 _ I1 q1) fun vl s2 ⟨l,H2,I2,pl,q2⟩=>dY (hu pins s2 σ H2 _ I2 q2) fun vu s3 ⟨u,H3,I3,pu,q3⟩=>?_)
 rw[evalPart_none]
 refine bG ?_
 have I4:Inv X pins σ H3 {s3 with heap:=s3.heap.push {cls:= .type "slice",data:= .fields #[vl,vu,.none]}}:=I3.kept (t':=s3.toks) fun b ob q=>ax _ q
 obtain⟨T,id,hT,ht,hg⟩:=hr pins {s3 with heap:=s3.heap.push {cls:= .type "slice",data:= .fields #[vl,vu,.none]}} σ H3 x v vl vu l u s3.heap.objs.size Q I4 r1 (Heap.IsSliceOf.new ..) pl pu q3
 show wpAny (model X.prog X.w) X.A (subscriptTail e (.Slice lo hi none p2) v (.ref s3.heap.objs.size)) (EP X pins σ Q) X.xe {s3 with heap:=s3.heap.push {cls:= .type "slice",data:= .fields #[vl,vu,.none]}}
 exact tail_any (ops:=[.ref s3.heap.objs.size,v]) ht hT hg (by with_unfolding_all rfl)
def qp (xs:List V)(lo hi:Option Int):List V:=(xs.drop (HT.Ah xs.length 0 lo)).take (HT.Ah xs.length xs.length hi - HT.Ah xs.length 0 lo)
theorem Ai (xs:List V)(lo hi:Option Int):(qp xs lo hi).length<=xs.length:=by
 unfold qp
 rw[bz,mm]
 lia
end
def Kt (n:Nat)(i:Int):Option Nat:=if 0<=i then(if i < n then some i.toNat else none) else if -(n:Int)<=i then some (i + n).toNat else none
def tH {α:Type}(xs:List α)(i:Int):Option α:=(Kt xs.length i).bind fun j=>xs[j]?
theorem DP {n:Nat}{i:Int}{j:Nat}(h:Kt n i=some j):seqIndex? i n=some j/\j < n/\ -(n:Int)<=i/\i < n:=by
 unfold Kt at h
 by_cases h0:0<=i
 ·rw[a7 h0] at h
  by_cases h1:i < n
  ·rw[a7 h1] at h
   have e:i.toNat=j:=aE h
   exact⟨by rw[seqIndex_of h0 h1,e],by lia,by lia,h1⟩
  ·rw[aO h1] at h; cases h
 ·rw[aO h0] at h
  by_cases h1: -(n:Int)<=i
  ·rw[a7 h1] at h
   have e:(i + n).toNat=j:=aE h
   exact⟨by rw[seqIndex_neg (by lia) h1,e],by lia,h1,by lia⟩
  ·rw[aO h1] at h; cases h
theorem DQ {α:Type}{xs:List α}{i:Int}{v:α}(h:tH xs i=some v): ∃j,seqIndex? i xs.length=some j/\xs[j]? =some v/\j < xs.length/\ -(xs.length:Int)<=i/\i < xs.length:=by
 unfold tH at h
 cases e:Kt xs.length i with
 |none=>rw[e] at h; cases h
 |some j=>
  rw[e] at h
  obtain⟨h1,h2,h3,h4⟩:=DP e
  exact⟨j,h1,h,h2,h3,h4⟩
theorem cJ {α:Type}{xs:List α}{j:Nat}{v:α}(h:xs[j]? =some v):tH xs (j:Int)=some v:=by
 have hj:j < xs.length:=(au.mp h).1
 have e:Kt xs.length (j:Int)=some j:=by
  unfold Kt
  rw[if_pos (by lia),if_pos (by lia)]; simp
 unfold tH; rw[e]; exact h
def yf (b:Expr):Prop:= ∀o i,subscripted b false o i=operate [o,i] (getItem o i)
def Hv (X:Cx)(r:R2):Prop:=
 ∀(value slice:Expr) (pins:List (Addr×Obj)) (s:Shared) (σ:St) (H:Hp) (x y:V) (v u:Value) (Q:VK),Inv X pins σ H s->RelV x v->RelV y u->r x y H Q->
  subscripted slice false v u=operate [v,u] (getItem v u)->wpAny (model X.prog X.w) X.A (subscriptTail value slice v u) (EP X pins σ Q) X.xe s
def X3 (X:Cx)(id:String)(r:V->List V->Hp->VK->Prop):Prop:=
 ∀(pins:List (Addr×Obj)) (s:Shared) (σ:St) (H:Hp) (x:V) (xs:List V) (v:Value) (us:List Value) (Q:VK),Inv X pins σ H s->RelV x v->Vals xs us->r x xs H Q->
  wpAny (model X.prog X.w) X.A (call (.builtin id) (v :: us)) (EP X pins σ Q) X.xe s
section
variable {X:Cx}{a b:Expr}{ta tb:TE}{pos:Pos}
theorem js {r:R2}(hr:Hv X r)(ha:PE X a ta)(hb:PE X b tb)(hs:yf b):PE X (.Subscript a b pos) (Pz r ta tb):=by
 intro pins s σ H Q I h
 exact Subscript_ (Nj ha hb I h fun v u s2 x y H2 I2 rx ry q=>hr a b pins s2 σ H2 x y v u Q I2 rx ry q (hs _ _))
inductive Ve (x y:V) (S:Addr->List V->Prop) (k:V->Prop):Prop
 |mk (p:Addr) (xs:List V) (i:Int) (v:V) (h1:x= .ref p) (h2:y= .int i) (s:S p xs) (a:tH xs i=some v) (q:k v):Ve x y S k
def Np (K:PySem.W.Frag):R2:=fun x y H Q=>Ve x y (bL K H) fun v=>Q v H
def Nq (K:PySem.W.Frag):R2:=fun x y H Q=>Ve x y (cG K H) fun v=>Q v H
theorem yg:Hv X (Np X.K):=by
 intro value slice pins s σ H x y v u Q I rx ry h hs
 obtain⟨p,xs,i,z,rfl,rfl,hq,he,q⟩:=h
 cases rx
 obtain⟨t,rfl⟩:=ry
 obtain⟨cm,r,pl,hz⟩:=I.list hq
 obtain⟨j,h1,h2,h3,h4,h5⟩:=DQ he
 obtain⟨w,ew,Fp⟩:=r.get h2
 have hl:=r.length
 have hn:=ya
 have fin:EP X pins σ Q w s:=⟨z,H,I,Fp,q⟩
 by_cases h0:0<=i
 ·have hj:i.toNat=j:=by
   rw[seqIndex_of h0 h5] at h1
   exact aE h1
  exact item_listR pl.isList h0 (by lia) (by rw[hj]; simpa using ew) fin hs
 ·have hj:(i + (cm.toArray.size:Int)).toNat=j:=by
   rw[seqIndex_neg (by lia) h4] at h1
   rw[br,← hl]
   exact aE h1
  exact subscriptTail_builtinR (x:=w) pl.isList.typeIs slot_list_getitem.lookup
   (wpAny_getItem_list_neg (Q:=fun r s'=>r=w/\EP X pins σ Q r s') pl.isList (by lia) (by rw[List.size_toArray] <;> lia) (by lia) (by rw[hj]; simpa using ew) ⟨rfl,fin⟩) hs
theorem Cr:Hv X (Nq X.K):=by
 intro value slice pins s σ H x y v u Q I rx ry h hs
 obtain⟨p,xs,i,z,rfl,rfl,hq,he,q⟩:=h
 cases rx
 obtain⟨t,rfl⟩:=ry
 obtain⟨cm,r,pl,hz⟩:=I.tuple hq
 obtain⟨j,h1,h2,h3,h4,h5⟩:=DQ he
 obtain⟨w,ew,Fp⟩:=r.get h2
 have hl:=r.length
 have hn:=ya
 have fin:EP X pins σ Q w s:=⟨z,H,I,Fp,q⟩
 exact subscriptTail_builtinR (x:=w) pl.typeIs slot_tuple_getitem.lookup
  (getItem_tuple (j:=j) (Q:=fun r s'=>r=w/\EP X pins σ Q r s') pl (by lia) (by lia) (by rw[List.size_toArray,← hl]; exact h1) (by simpa using ew) ⟨rfl,fin⟩) hs
theorem Cs (cm:List Value)(n j:Nat)(u:Value):Obj.mapSeq (·.setIfInBounds j u) {cls:= .type "list",data:= .seq cm.toArray n}={cls:= .type "list",data:= .seq (cm.set j u).toArray n}:=by
 simp[Obj.mapSeq]
theorem Inv.lst {pins:List (Addr×Obj)}{σ:St}{H:Hp}{s:Shared}{p:Addr}{xs:List V}(I:Inv X pins σ H s)(h:H p=some (.lst xs)):
  ∃(cm:List Value) (n:Nat),Vals xs cm/\s.heap.get? p=some {cls:= .type "list",data:= .seq cm.toArray n}/\xs.length<=sizeLine:=by
 obtain⟨z,cm,n,r,e⟩:=I.cB p _ h
 exact⟨cm,n,r,e,z⟩
theorem Inv.Nr {pins:List (Addr×Obj)}{σ:St}{H:Hp}{s:Shared}{p:Addr}{xs ys:List V}{cm qh:List Value}{n n':Nat}{f:Obj->Obj}(I:Inv X pins σ H s)(h:H p=some (.lst xs))
  (ho:s.heap.get? p=some {cls:= .type "list",data:= .seq cm.toArray n}) (hf:f {cls:= .type "list",data:= .seq cm.toArray n}={cls:= .type "list",data:= .seq qh.toArray n'}) (r:Vals ys qh) (hz:ys.length<=sizeLine) (t:Nat):
  Inv X pins σ (upd H p (.lst ys)) {s with heap:=s.heap.update p f,toks:=t}:=by
 have e:(s.heap.update p f).get? p=some {cls:= .type "list",data:= .seq qh.toArray n'}:=by
  rw[Ce f ho (by rw[hf] <;> rfl),hf]
 refine I.write (x:=p) (e:=p) (by rw[h]; trivial) (.inl rfl) (fun b u hb q=>(mx _ _ (vz hb)).trans q) ⟨_,e⟩ ?_
 exact⟨hz,qh,n',r,e⟩
def QG:V->V->V->Hp->(Hp->Prop)->Prop:=fun o i v H Q=> ∃p xs k j,o= .ref p/\i= .int k/\H p=some (.lst xs)/\Kt xs.length k=some j/\Q (upd H p (.lst (xs.set j v)))
theorem set_list:Qs X QG:=by
 intro pins s σ H o i v ov iv u Q I ro ri rv h
 obtain⟨p,xs,k,j,rfl,rfl,hp,hj,q⟩:=h
 cases ro
 obtain⟨t,rfl⟩:=ri
 obtain⟨cm,n,r,ho,hz⟩:=I.lst hp
 obtain⟨h1,h2,h3,h4⟩:=DP hj
 have hl:=r.length
 have hn:=ya
 have I':Inv X pins σ (upd H p (.lst (xs.set j v))) {s with heap:=s.heap.update p (Obj.mapSeq (·.setIfInBounds j u))}:=
  I.Nr hp ho (Cs cm n j u) (r.set rv j) (by rw[dI]; exact hz) s.toks
 by_cases h0:0<=k
 ·have hk:k.toNat=j:=by
   rw[seqIndex_of h0 h4] at h1
   exact aE h1
  exact PySem.W.ki_setAt ho h0 (by lia) (by rw[br,← hl]; exact h4) (by rw[hk]; exact⟨_,I',q⟩)
 ·have hk:(k + (cm.toArray.size:Int)).toNat=j:=by
   rw[seqIndex_neg (by lia) h3] at h1
   rw[br,← hl]
   exact aE h1
  exact PySem.W.ki_setBack ho (by lia) (by rw[br,← hl]; exact h3) (by lia) (by rw[hk]; exact⟨_,I',q⟩)
theorem yh (lo hi:Option Int)(n:Nat):(sliceBounds lo hi none n).1=((HT.Ah n 0 lo:Nat):Int)/\(sliceBounds lo hi none n).2.1=((HT.Ah n n hi:Nat):Int)/\(sliceBounds lo hi none n).2.2=1:=by
 refine⟨?_,?_,rfl⟩
 ·cases lo with
  |none=>simp[sliceBounds,HT.Ah]
  |some i=>
   simp only[sliceBounds,HT.Ah,Option.getD_none,show(1:Int) > 0 by decide,if_true]
   by_cases h:i < 0
   ·simp only[h,if_true] <;> lia
   ·simp only[h,if_false] <;> lia
 ·cases hi with
  |none=>simp[sliceBounds,HT.Ah]
  |some i=>
   simp only[sliceBounds,HT.Ah,Option.getD_none,show(1:Int) > 0 by decide,if_true]
   by_cases h:i < 0
   ·simp only[h,if_true] <;> lia
   ·simp only[h,if_false] <;> lia
theorem vL (cm:List Value)(lo hi:Option Int):slicePick cm.toArray lo hi none=((cm.drop (HT.Ah cm.length 0 lo)).take (HT.Ah cm.length cm.length hi - HT.Ah cm.length 0 lo)).toArray:=by
 obtain⟨h1,h2,h3⟩:=yh lo hi cm.toArray.size
 unfold slicePick
 rw[h1,h2,h3]
 simp only[sliceRange_one,pick_run,List.size_toArray] <;> rfl
def Vf (K:PySem.W.Frag):V->Option Int->Option Int->Hp->VK->Prop:=fun x lo hi H Q=> ∃a xs,x= .ref a/\bL K H a xs/\ ∀p,H p=none->Q (.ref p) (upd H p (.lst (qp xs lo hi)))
theorem tI:Nn X (Vf X.K):=by
 intro pins s σ H x v vl vu lo hi sl Q I rx hs pl pu h
 obtain⟨a,xs,rfl,hx,q⟩:=h
 cases rx
 obtain⟨cm,r,ht,hz⟩:=I.list hx
 have hlen:=r.length
 refine⟨"list",_,slot_list_getitem.lookup,ht.isList.typeIs,?_⟩
 refine wpAny_getItem_list_slice ht.isList hs pl pu .none (by simp) ?_ (by rw[List.size_toArray] <;> lia)
 rw[vL,← hlen]
 refine⟨.ref s.heap.objs.size,_,I.laid (t':=s.toks) (o:= .lst (qp xs lo hi)) (fun b ob q=>ax _ q) (aB _) ?_,rfl,q _ (I.cB.fresh (aB _))⟩
 exact⟨a0 (Ai xs lo hi) hz,_,0,(r.drop (HT.Ah xs.length 0 lo)).take (HT.Ah xs.length xs.length hi - HT.Ah xs.length 0 lo),bN _ rfl⟩
def sk:V->Bool
 | .en=>true
 | .bl _=>true
 | .int _=>true
 | .str _=>true
 |_=>false
def Ku:V->V->Bool
 | .en,.en=>true
 | .bl a,.bl b=>a == b
 | .bl a,.int b=>(if a then 1 else 0) == b
 | .int a,.bl b=>a == (if b then 1 else 0)
 | .int a,.int b=>a == b
 | .str a,.str b=>a == b
 |_,_=>false
theorem Nt {A:Around}{s:Shared}{y x:V}{u v:Value}(ry:RelV y u)(rx:RelV x v)(fy:sk y=true)(fx:sk x=true):SeqAt.EqAt A s u v (Ku y x):=by
 cases y with
 |en=>
  cases ry
  cases x with
  |en=>cases rx; exact SeqAt.EqAt.same _
  |bl b=>cases rx; exact SeqAt.EqAt.none_bool b
  |int b=>obtain⟨t,rfl⟩:=rx; exact SeqAt.EqAt.none_int b t
  |str b=>obtain⟨t,rfl⟩:=rx; exact SeqAt.EqAt.none_str b t
  |_=>exact absurd (show false=true from fx) aY
 |bl a=>
  cases ry
  cases x with
  |en=>cases rx; exact SeqAt.EqAt.bool_none a
  |bl b=>cases rx; exact SeqAt.EqAt.bool_bool a b
  |int b=>obtain⟨t,rfl⟩:=rx; exact SeqAt.EqAt.bool_int a b t
  |str b=>obtain⟨t,rfl⟩:=rx; exact SeqAt.EqAt.bool_str a b t
  |_=>exact absurd (show false=true from fx) aY
 |int a=>
  obtain⟨t',rfl⟩:=ry
  cases x with
  |en=>cases rx; exact SeqAt.EqAt.int_none a t'
  |bl b=>cases rx; exact SeqAt.EqAt.int_bool a t' b
  |int b=>obtain⟨t,rfl⟩:=rx; exact SeqAt.EqAt.int_int a t' b t
  |str b=>obtain⟨t,rfl⟩:=rx; exact SeqAt.EqAt.int_str a t' b t
  |_=>exact absurd (show false=true from fx) aY
 |str a=>
  obtain⟨t',rfl⟩:=ry
  cases x with
  |en=>cases rx; exact SeqAt.EqAt.str_none a t'
  |bl b=>cases rx; exact SeqAt.EqAt.str_bool a t' b
  |int b=>obtain⟨t,rfl⟩:=rx; exact SeqAt.EqAt.str_int a t' b t
  |str b=>obtain⟨t,rfl⟩:=rx; exact SeqAt.EqAt.str_str a t' b t
  |_=>exact absurd (show false=true from fx) aY
 |_=>exact absurd (show false=true from fy) aY
def Ct (x:V)(u:Value):Bool:=match u with
 | .none=>Ku .en x
 | .bool b=>Ku (.bl b) x
 | .int i _=>Ku (.int i) x
 | .str z _=>Ku (.str z) x
 |_=>false
theorem Hw {x y:V}{u:Value}(r:RelV y u)(f:sk y=true):Ct x u=Ku y x:=by
 cases y with
 |en=>cases r; rfl
 |bl b=>cases r; rfl
 |int i=>obtain⟨t,rfl⟩:=r; rfl
 |str z=>obtain⟨t,rfl⟩:=r; rfl
 |_=>exact absurd (show false=true from f) aY
theorem qq {x:V}: ∀{xs:List V} {us:List Value},Vals xs us->xs.all sk=true->us.any (Ct x)=xs.any fun y=>Ku y x
 |_,_,.nil,_=>rfl
 |y :: xs,u :: us,.cons r t,f=>by
  rw[List.all_cons,G7] at f
  rw[sU,sU,Hw r f.1,qq t f.2]
theorem mJ {A:Around}{s:Shared}{x:V}{v:Value}(rx:RelV x v)(fx:sk x=true): ∀{xs:List V} {us:List Value},Vals xs us->xs.all sk=true-> ∀u∈us,SeqAt.EqAt A s u v (Ct x u)
 |_,_,.nil,_=>fun u hu=>by cases hu
 |y :: xs,u :: us,.cons r t,f=>fun u' hu=>by
  rw[List.all_cons,G7] at f
  rcases aw.mp hu with rfl|hu
  ·rw[Hw r f.1]; exact Nt r rx f.1 fx
  ·exact mJ rx fx t f.2 u' hu
def vM (x:V)(xs:List V):Bool:=xs.any fun y=>Ku y x
def X4 (K:PySem.W.Frag)(neg:Bool):R2:=fun x y H Q=> ∃p xs,y= .ref p/\(bL K H p xs∨cG K H p xs)/\sk x=true/\xs.all sk=true/\Q (.bl (if neg then !vM x xs else vM x xs)) H
theorem nP:ou X (compareOp .In) (X4 X.K false):=by
 intro pins s σ H x y v u Q I rx ry h
 obtain⟨p,xs,rfl,hq,fx,fs,q⟩:=h
 cases ry
 rcases hq with hq|hq
 ·obtain⟨cm,r,pl,hz⟩:=I.list hq
  refine SeqAt.in_listAt (Ct x) pl.isList (fun w hw=>mJ rx fx r fs w (by simpa using hw)) ⟨.bl _,H,I,rfl,?_⟩
  rw[show cm.toArray.any (Ct x)=cm.any (Ct x) by simp,qq r fs]
  exact q
 ·obtain⟨cm,r,pl,hz⟩:=I.tuple hq
  refine SeqAt.in_tupleAt (Ct x) pl (fun w hw=>mJ rx fx r fs w (by simpa using hw)) ⟨.bl _,H,I,rfl,?_⟩
  rw[show cm.toArray.any (Ct x)=cm.any (Ct x) by simp,qq r fs]
  exact q
theorem yi:ou X (compareOp .NotIn) (X4 X.K true):=by
 intro pins s σ H x y v u Q I rx ry h
 obtain⟨p,xs,rfl,hq,fx,fs,q⟩:=h
 cases ry
 rcases hq with hq|hq
 ·obtain⟨cm,r,pl,hz⟩:=I.list hq
  refine SeqAt.notIn_listAt (Ct x) pl.isList (fun w hw=>mJ rx fx r fs w (by simpa using hw)) ⟨.bl _,H,I,rfl,?_⟩
  rw[show cm.toArray.any (Ct x)=cm.any (Ct x) by simp,qq r fs]
  exact q
 ·obtain⟨cm,r,pl,hz⟩:=I.tuple hq
  refine SeqAt.notIn_tupleAt (Ct x) pl (fun w hw=>mJ rx fx r fs w (by simpa using hw)) ⟨.bl _,H,I,rfl,?_⟩
  rw[show cm.toArray.any (Ct x)=cm.any (Ct x) by simp,qq r fs]
  exact q
theorem bq:iu X (.builtin "len") (fun xs H Q=> ∃p ys,xs=[.ref p]/\(bL X.K H p ys∨cG X.K H p ys)/\Q (.int ys.length) H):=by
 intro pins s σ H xs us Q I r h
 obtain⟨p,ys,rfl,hq,q⟩:=h
 obtain⟨u,rfl,rx⟩:=vals1 r
 cases rx
 have hn:=ya
 rcases hq with hq|hq
 ·obtain⟨cm,r',pl,hz⟩:=I.list hq
  have hlen:=r'.length
  exact Calls.call_len_list pl.isList (by simp only[List.size_toArray] <;> lia) ⟨.int ys.length,H,I.tok _,⟨s.toks + 1,by rw[List.size_toArray,hlen]⟩,q⟩
 ·obtain⟨cm,r',pl,hz⟩:=I.tuple hq
  have hlen:=r'.length
  exact len_tuple pl (by simp only[List.size_toArray] <;> lia) ⟨.int ys.length,H,I.tok _,⟨s.toks + 1,by rw[List.size_toArray,hlen]⟩,q⟩
theorem lO:iu X (.type "list") (fun xs H Q=> ∃p ys,xs=[.ref p]/\(bL X.K H p ys∨cG X.K H p ys)/\ ∀l,H l=none->Q (.ref l) (upd H l (.lst ys))):=by
 intro pins s σ H xs us Q I r h
 obtain⟨p,ys,rfl,hq,q⟩:=h
 obtain⟨u,rfl,rx⟩:=vals1 r
 cases rx
 have fin: ∀(cm:List Value),Vals ys cm->ys.length<=sizeLine-> ∀(h':Heap) (c':Nat),(∀b o',s.heap.get? b=some o'->h'.get? b=some o')->
   h'.get? s.heap.objs.size=some {cls:= .type "list",dict:=none,data:= .seq cm.toArray c',slots:= #[]}->EP X pins σ Q (.ref s.heap.objs.size) {s with heap:=h'}:=fun cm r' hz h' c' kp e=>
  ⟨.ref s.heap.objs.size,_,I.laid (t':=s.toks) kp (aB _) (show dC X.prog X.w _ h' _ (.lst ys) from⟨hz,cm,c',r',e⟩),rfl,q _ (I.cB.fresh (aB _))⟩
 rcases hq with hq|hq
 ·obtain⟨cm,r',pl,hz⟩:=I.list hq
  have hlen:=r'.length
  obtain⟨o,ho,hc,n,hd⟩:=pl.isList
  exact call_list_seq p (.inl rfl) ho hc hd (fun h' c' kp e=>fin cm r' hz h' c' kp e) (by simp only[List.size_toArray] <;> lia)
 ·obtain⟨cm,r',pl,hz⟩:=I.tuple hq
  have hlen:=r'.length
  obtain⟨o,ho,hc,n,hd⟩:=pl
  exact call_list_seq p (.inr rfl) ho hc hd (fun h' c' kp e=>fin cm r' hz h' c' kp e) (by simp only[List.size_toArray] <;> lia)
theorem vN:iu X (.type "tuple") (fun xs H Q=> ∃p ys,xs=[.ref p]/\((bL X.K H p ys/\ ∀l,H l=none->Q (.ref l) (upd H l (.tup ys)))∨(cG X.K H p ys/\Q (.ref p) H))):=by
 intro pins s σ H xs us Q I r h
 obtain⟨p,ys,rfl,h⟩:=h
 obtain⟨u,rfl,rx⟩:=vals1 r
 cases rx
 rcases h with⟨hq,q⟩|⟨hq,q⟩
 ·obtain⟨cm,r',pl,hz⟩:=I.list hq
  have hlen:=r'.length
  refine call_tuple_list pl.isList (fun h' kp=>?_) (by simp only[List.size_toArray] <;> lia)
  have I1:Inv X pins σ H {s with heap:=h'}:=I.kept (t':=s.toks) kp
  have I2:Inv X pins σ (upd H h'.objs.size (.tup ys)) {s with heap:=h'.push {cls:= .type "tuple",data:= .seq cm.toArray}}:=
   I1.laid (t':=s.toks) (fun b o e=>ax _ e) (aB _) (show dC X.prog X.w _ _ _ (.tup ys) from⟨hz,cm,r',IsTup.new _ _⟩)
  exact⟨.ref h'.objs.size,_,I2,rfl,q _ (I1.cB.fresh (aB _))⟩
 ·obtain⟨cm,r',pl,hz⟩:=I.tuple hq
  exact call_tuple_same pl ⟨.ref p,H,I,rfl,q⟩
def Vg (K:PySem.W.Frag)(T:String)(x:V)(H:Hp):Prop:=match x with
 | .str _=>T="str"
 | .int _=>T="int"
 | .ref p=>(T="list"/\ ∃xs,bL K H p xs)∨(T="tuple"/\ ∃o,K.lookup p=some o/\o.cls= .type "tuple"/\o.dict=none)∨
   (T="dict"/\((∃bc,H p=some (.dK bc))∨ ∃bc,H p=some (.dT bc)))∨(T="set"/\ ∃S n,H p=some (.set S n))
 |_=>False
theorem Hx {pins:List (Addr×Obj)}{σ:St}{H:Hp}{s:Shared}{T:String}{x:V}{v:Value}(I:Inv X pins σ H s)(r:RelV x v)(ty:Vg X.K T x H):
  s.TypeIs v T/\ ∀a,v= .ref a-> ∃ob,s.heap.get? a=some ob/\ob.dict=none:=by
 cases x with
 |str z=>
  obtain⟨t,rfl⟩:=r
  cases(show T="str" from ty)
  exact⟨typeIs_str s z t,fun _ e=>nomatch e⟩
 |int i=>
  obtain⟨t,rfl⟩:=r
  cases(show T="int" from ty)
  exact⟨typeIs_int s i t,fun _ e=>nomatch e⟩
 |ref p=>
  cases r
  rcases ty with⟨rfl,xs,hq⟩|⟨rfl,o,hk,hc,hd⟩|⟨rfl,hk⟩|⟨rfl,S,n,hk⟩
  ·obtain⟨cm,_,pl,_⟩:=I.list hq
   refine⟨pl.isList.typeIs,fun a e=>?_⟩
   cases e
   obtain⟨o,n,e,c,hd,_⟩:=pl
   exact⟨o,e,hd⟩
  ·refine⟨⟨o,I.gN p o hk,hc⟩,fun a e=>?_⟩
   cases e
   exact⟨o,I.gN _ o hk,hd⟩
  ·have z: ∃o,s.heap.get? p=some o/\o.ExactDict:=by
    rcases hk with⟨bc,hk⟩|⟨bc,hk⟩
    ·obtain⟨_,_,_,_,o,_,_,e,ex,_⟩:=I.cB p _ hk
     exact⟨o,e,ex⟩
    ·obtain⟨_,_,_,_,o,_,_,e,ex,_⟩:=I.cB p _ hk
     exact⟨o,e,ex⟩
   obtain⟨o,e,ex⟩:=z
   refine⟨⟨o,e,ex.1⟩,fun a e2=>?_⟩
   cases e2
   exact⟨o,e,ex.2.1⟩
  ·obtain⟨o,_,_,_,e,ex,_⟩:=I.cB p _ hk
   refine⟨⟨o,e,ex.1⟩,fun a e2=>?_⟩
   cases e2
   exact⟨o,e,ex.2.1⟩
 |_=>exact False.elim ty
def Vh (K:PySem.W.Frag)(T:String)(r:V->List V->Hp->VK->Prop)(to:TE):TE:=fun σ H Q=>to σ H fun x H1=>Vg K T x H1/\r x [] H1 Q
def ZW (K:PySem.W.Frag)(T:String)(r:V->List V->Hp->VK->Prop)(to:TE)(t:TA):TE:=fun σ H Q=>to σ H fun x H1=>Vg K T x H1/\t σ H1 fun xs H2=>r x xs H2 Q
variable {o e:Expr}{es:List Expr}{to:TE}{t:TA}{name:Str}{apos gP:Pos}{T id:String}{r:V->List V->Hp->VK->Prop}
theorem Nu (pa:PlainAttrs T)(slot:Slot T name id)(TJ:typeOf (.builtin id)=pure (.type "method_descriptor"))(hm:X3 X id r)(ho:PE X o to)
  (uc:attributeBase o name X.env (eval o X.env)=eval o X.env:=by rfl) (Aj:(apos.endLine == gP.line)=true:=by rfl):PE X (.Call (.Attribute o name apos) [] [] gP) (Vh X.K T r to):=by
 intro pins s σ H Q I h
 refine wpAny_Call_method0_late uc Aj (dY (ho pins s σ H _ I h) fun v s1 ⟨x,H1,I1,r1,ty,q1⟩=>?_)
 obtain⟨h1,h2⟩:=Hx I1 r1 ty
 exact⟨T,id,pa,slot,TJ,h1,h2,iQ rfl (PySem.evalArgs_none (hm pins s1 σ H1 x [] v [] Q I1 r1 .nil q1))⟩
theorem fk (pa:PlainAttrs T)(slot:Slot T name id)(TJ:typeOf (.builtin id)=pure (.type "method_descriptor"))(hm:X3 X id r)(ho:PE X o to)(ha:PA X (e :: es) t)
  (uc:attributeBase o name X.env (eval o X.env)=eval o X.env:=by rfl)
  (Vi:((backTo gP (starEach (e :: es) X.env)).all (fun x=> !x.1) && (backToKw gP (keywordEach [] X.env)).all (fun x=>x.1.isSome)
   && decide ((e :: es).length + ([]:List Keyword).length + (if([]:List Keyword).isEmpty then 0 else 1) < 30))=true:=by rfl)
  (Aj:(apos.endLine == gP.line)=true:=by rfl) (hs:starEach (e :: es) X.env=(false,eval e X.env) :: starEach es X.env:=by rfl) (Cu:(backTo gP (starEach es X.env)).any (·.1)=false:=by rfl):
  PE X (.Call (.Attribute o name apos) (e :: es) [] gP) (ZW X.K T r to t):=by
 intro pins s σ H Q I h
 refine wpAny_Call_method_late uc Vi Aj rfl (dY (ho pins s σ H _ I h) fun v s1 ⟨x,H1,I1,r1,ty,q1⟩=>?_)
 obtain⟨h1,h2⟩:=Hx I1 r1 ty
 refine⟨T,id,pa,slot,TJ,h1,h2,?_⟩
 have hA:=ha gP pins s1 σ H1 _ I1 q1
 rw[hs] at hA ⊢
 refine iQ (by show(false || (backTo gP (starEach es X.env)).any (·.1))=false; rw[Cu] <;> rfl) (EZ ?_)
 exact dY hA fun us s2 ⟨vs,H2,I2,r2,q2⟩=>hm pins s2 σ H2 x vs v us Q I2 r1 r2 q2
end
def X5 (X:Cx)(id:String)(r:V->List V->Hp->VK->Prop):Prop:=
 ∀(pins:List (Addr×Obj)) (s:Shared) (σ:St) (H:Hp) (x:V) (xs:List V) (v:Value) (us:List Value) (Q:VK),Inv X pins σ H s->RelV x v->Vals xs us->r x xs H Q->
  wpAny (model X.prog X.w) X.A (call (.builtin id) (v :: us)) (EP X pins σ Q) X.xe s
theorem Vals.one: ∀{x:V} {us:List Value},Vals [x] us-> ∃u,us=[u]/\RelV x u
 |_,_,.cons r .nil=>⟨_,rfl,r⟩
theorem Vals.zero: ∀{us:List Value},Vals [] us->us=[]
 |_,.nil=>rfl
theorem Vals.dropLast {xs:List V}{us:List Value}(h:Vals xs us):Vals xs.dropLast us.dropLast:=by
 induction h with
 |nil=>exact .nil
 |cons r t ih=>
  cases t with
  |nil=>exact .nil
  |cons q t'=>exact .cons r ih
theorem Vals.rep {xs:List V}{us:List Value}(h:Vals xs us): ∀k:Nat,Vals (List.replicate k xs).flatten (List.replicate k us).flatten
 |0=> .nil
 |k + 1=>by
  rw[dm,dm,iR,iR]
  exact Vals.append h (Vals.rep h k)
theorem Cv {α:Type}(l:List α):l.eraseIdx (l.length - 1)=l.dropLast:=by
 induction l with
 |nil=>rfl
 |cons a r ih=>
  cases r with
  |nil=>rfl
  |cons b r=>
   have e:(a :: b :: r).length - 1=((b :: r).length - 1) + 1:=by
    have h1:(a :: b :: r).length=r.length + 2:=rfl
    have h2:(b :: r).length=r.length + 1:=rfl
    lia
   rw[e,List.eraseIdx_cons_succ,ih]
   all_goals rfl
theorem foldl_rep (cm:List Value): ∀(k:Nat) (acc:List Value),
  List.foldl (fun x1 x2=>x1 ++ x2) acc.toArray (List.replicate k cm.toArray)=(acc ++ (List.replicate k cm).flatten).toArray
 |0,acc=>by simp
 |k + 1,acc=>by
  have e:acc.toArray ++ cm.toArray=(acc ++ cm).toArray:=by simp
  have e2:(acc ++ cm) ++ (List.replicate k cm).flatten=acc ++ (List.replicate (k + 1) cm).flatten:=by
   rw[dm,iR,gE]
  rw[← e2,← foldl_rep cm k (acc ++ cm),← e,dm,dJ]
section
variable {X:Cx}{pins:List (Addr×Obj)}{σ:St}{H:Hp}{s:Shared}{l b:Addr}{xs ys zs:List V}
theorem Inv.QH {cm qh:List Value}{n:Nat}{f:Array Value->Array Value}{t':Nat}(I:Inv X pins σ H s)(hH:H l=some (.lst xs))
  (e:s.heap.get? l=some {cls:= .type "list",data:= .seq cm.toArray n}) (hf:f cm.toArray=qh.toArray) (hv:Vals ys qh) (hz:ys.length<=sizeLine):
  Inv X pins σ (upd H l (.lst ys)) {s with heap:=s.heap.update l (Obj.mapSeq f),toks:=t'}:=by
 have q:=PySem.IsL.update e f
 rw[hf] at q
 refine I.write (x:=l) (e:=l) (by rw[hH]; exact trivial) (.inl rfl) (fun b' u hb hu=>(mx s.heap (Obj.mapSeq f) (vz hb)).trans hu) ⟨_,q⟩ ?_
 exact⟨hz,qh,_,hv,q⟩
theorem Inv.Nv {cm:List Value}{t':Nat}(I:Inv X pins σ H s)(hv:Vals ys cm)(hz:ys.length<=sizeLine):
  Inv X pins σ (upd H s.heap.objs.size (.lst ys)) {s with heap:=s.heap.push {cls:= .type "list",data:= .seq cm.toArray},toks:=t'}:=
 I.laid (fun _ _ q=>ax _ q) (aB _) ⟨hz,cm,0,hv,bN _ rfl⟩
theorem Inv.fresh (I:Inv X pins σ H s):H s.heap.objs.size=none:=I.cB.fresh (aB _)
theorem Inv.Hy (I:Inv X pins σ H s)(hH:H l=some (.lst xs)):xs.length<=sizeLine/\ ∃(cm:List Value) (n:Nat),Vals xs cm/\xs.length=cm.length/\s.heap.get? l=some {cls:= .type "list",data:= .seq cm.toArray n}:=by
 obtain⟨z,cm,n,r,e⟩:=I.cB l _ hH
 exact⟨z,cm,n,r,r.length,e⟩
theorem HA {n:Nat}(h:n<=sizeLine):Builtin.List.listTooLong n=false:=by
 unfold Builtin.List.listTooLong
 exact bI (by lia)
end
section
variable {X:Cx}
def Kv:V->List V->Hp->VK->Prop:=fun x vs H Q=> ∃l xs y,x= .ref l/\vs=[y]/\H l=some (.lst xs)/\xs.length < sizeLine/\Q .en (upd H l (.lst (xs ++ [y])))
theorem bU:X5 X "list.append" Kv:=by
 intro pins s σ H x vs v us Q I rx rv h
 obtain⟨l,xs,y,rfl,rfl,hH,hz,q⟩:=h
 cases rx
 obtain⟨u,rfl,ru⟩:=rv.one
 obtain⟨z,cm,n,r,hl,e⟩:=I.Hy hH
 refine call_meets aH ⟨_,e,rfl⟩ F.entry_list_append (F.args_list_append_2 _ _) (PySem.list_append l cm.toArray n u (by rw[br]; lia)) ⟨e,?_⟩
 refine⟨.en,_,I.QH (qh:=cm ++ [u]) hH e (by simp) (r.append (.cons ru .nil)) ?_,rfl,q⟩
 rw[aF,List.length_singleton]
 lia
def Vj:V->List V->Hp->VK->Prop:=fun x vs H Q=> ∃l xs y,x= .ref l/\vs=[]/\H l=some (.lst xs)/\xs[xs.length - 1]? =some y/\Q y (upd H l (.lst xs.dropLast))
theorem Nw:X5 X "list.pop" Vj:=by
 intro pins s σ H x vs v us Q I rx rv h
 obtain⟨l,xs,y,rfl,rfl,hH,hy,q⟩:=h
 cases rx
 have Vk:=rv.zero
 subst Vk
 obtain⟨z,cm,n,r,hl,e⟩:=I.Hy hH
 obtain⟨u,hu,ru⟩:=r.get hy
 have ZX:cm.toArray[cm.toArray.size - 1]? =some u:=by
  show cm.toArray[cm.length - 1]? =some u
  rw[← Array.getElem?_toList,← hl]
  exact hu
 refine call_meets F.slot_list_pop ⟨_,e,rfl⟩ F.entry_list_pop (F.args_list_pop_1 _) (MeetsSeq.list_pop_last l cm.toArray n u ZX (by rw[br]; lia)) ⟨e,?_⟩
 refine⟨y,_,I.QH (qh:=cm.dropLast) hH e ?_ r.dropLast ?_,ru,q⟩
 ·show cm.toArray.eraseIdxIfInBounds (cm.toArray.size - 1)=cm.dropLast.toArray
  rw[br,List.eraseIdxIfInBounds_toArray,Cv]
 ·rw[List.length_dropLast]
  lia
def QI:R2:=fun x y H Q=> ∃l b xs zs,x= .ref l/\y= .ref b/\H l=some (.lst xs)/\H b=some (.lst zs)/\xs.length + zs.length<=sizeLine/\ ∀p,H p=none->Q (.ref p) (upd H p (.lst (xs ++ zs)))
theorem lP:ou X (binaryOp .Add) QI:=by
 intro pins s σ H x y v u Q I rx ry h
 obtain⟨l,b,xs,zs,rfl,rfl,hH,hB,hz,q⟩:=h
 cases rx
 cases ry
 obtain⟨z,cm,n,r,hl,e⟩:=I.Hy hH
 obtain⟨z2,Fq,n2,r2,QJ,e2⟩:=I.Hy hB
 refine PySem.P.add_list e e2 ?_ (by rw[br,br]; lia)
 have ea:cm.toArray ++ Fq.toArray=(cm ++ Fq).toArray:=by simp
 rw[ea]
 exact⟨.ref _,_,I.Nv (t':=s.toks) (r.append r2) (by rw[aF]; lia),rfl,q _ I.fresh⟩
def QK:R2:=fun x y H Q=> ∃l k xs,x= .ref l/\y= .int k/\H l=some (.lst xs)/\ -(2 ^ 63)<=k/\k < 2 ^ 63/\xs.length * k.toNat<=sizeLine/\
 ∀p,H p=none->Q (.ref p) (upd H p (.lst (List.replicate k.toNat xs).flatten))
theorem len_rep {α:Type}(xs:List α)(k:Nat):(List.replicate k xs).flatten.length=k * xs.length:=by
 induction k with
 |zero=>simp
 |succ k ih=>rw[dm,iR,aF,ih,vC,Nat.add_comm]
theorem Cw:ou X (binaryOp .Mult) QK:=by
 intro pins s σ H x y v u Q I rx ry h
 obtain⟨l,k,xs,rfl,rfl,hH,h1,h2,hz,q⟩:=h
 cases rx
 obtain⟨t,rfl⟩:=ry
 obtain⟨z,cm,n,r,hl,e⟩:=I.Hy hH
 have hlen:cm.toArray.size * k.toNat<=sizeLine:=by rw[br,← hl]; exact hz
 have Vl: ¬ cm.toArray.size * k.toNat > (2 ^ 63 - 1) / 8:=by
  have:(sizeLine:Nat)<=(2 ^ 63 - 1) / 8:=by decide
  lia
 have Vm: ¬ (!Builtin.List.listFitsIndex k)=true:=by
  rw[fitsIndex_both h1 h2]
  exact aY
 have QL: ¬ Builtin.List.listTooLong (cm.toArray.size * k.toNat)=true:=by
  rw[HA hlen]
  exact aY
 have Vn:List.foldl (fun x1 x2=>x1 ++ x2) #[] (List.replicate (if cm.toArray.isEmpty=true then 0 else k.toNat) cm.toArray)=(List.replicate k.toNat cm).flatten.toArray:=by
  have f0: ∀m:Nat,List.foldl (fun x1 x2=>x1 ++ x2) #[] (List.replicate m cm.toArray)=(List.replicate m cm).flatten.toArray:=fun m=>by
   have:=foldl_rep cm m []
   rw[List.nil_append] at this
   exact this
  rw[f0]
  cases cm with
  |nil=>simp
  |cons a r'=>rw[if_neg (by simp)]
 refine wpAny_binaryOp_repeat_ref (T:="list") (U:="int") (by decide) ⟨_,e,rfl⟩ (fun s'=>typeIs_int s' k t) noFill_list_mul F.fills_int_mul F.slot_int_rmul repeat_list F.slot_int_index.lookup
  (call_meets F.slot_int_rmul (typeIs_int s k t) F.entry_int_rmul (F.args_int_rmul_2 _ _) (int___rmul___int_list k t l cm.toArray n)
   ⟨e,rfl,⟨_,e,rfl⟩,call_meets F.slot_list_mul ⟨_,e,rfl⟩ F.entry_list_mul (F.args_list_mul_2 _ _) (AutoListH.list___mul___list_int_3 l cm.toArray n k t Vm Vl QL) ⟨e,?_⟩⟩)
 rw[Vn]
 exact⟨.ref _,_,I.Nv (t':=s.toks) (r.rep k.toNat) (by rw[len_rep,Nat.mul_comm]; exact hz),rfl,q _ I.fresh⟩
end
section
variable {prog:Program}{w:World}{A:Around}{E:Value->Shared->Prop}{s:Shared}
end
section
variable {X:Cx}
end
section
variable {κ:Type}[DecidableEq κ]
def gj (bc:List (κ×V))(k:κ):Option V:=(bc.find? fun kv=>decide (kv.1=k)).map (·.2)
def putK (bc:List (κ×V))(k:κ)(v:V):List (κ×V):=
 if(bc.any fun kv=>decide (kv.1=k))=true then bc.map (fun kv=>if kv.1=k then(kv.1,v) else kv) else bc ++ [(k,v)]
def k8 (bc:List (κ×V))(k:κ):List (κ×V):=bc.filter fun kv=>decide (kv.1≠k)
theorem fI {p:κ×V}{r:List (κ×V)}{k:κ}(e:p.1=k):gj (p :: r) k=some p.2:=by simp[gj,List.find?_cons,e]
theorem fm {p:κ×V}{r:List (κ×V)}{k:κ}(e: ¬ p.1=k):gj (p :: r) k=gj r k:=by simp[gj,List.find?_cons,e]
theorem mK (k:κ): ∀bc:List (κ×V),(bc.any fun kv=>decide (kv.1=k))=(gj bc k).isSome
 |[]=>rfl
 |p :: r=>by
  rw[sU]
  by_cases e:p.1=k
  ·simp only[fI e,decide_eq_true e,Bool.true_or,Option.isSome_some]
  ·rw[fm e,bI e,Bool.false_or]; exact mK k r
theorem Ak (k j:κ)(y:V): ∀bc:List (κ×V),gj (bc.map fun kv=>if kv.1=k then(kv.1,y) else kv) j=(gj bc j).map fun x=>if j=k then y else x
 |[]=>rfl
 |p :: r=>by
  have ih:=Ak k j y r
  rw[c9]
  by_cases h:p.1=k
  ·rw[a7 h]
   by_cases e:p.1=j
   ·rw[fI (p:=(p.1,y)) e,fI e,om,a7 (e.symm.trans h)]
   ·rw[fm (p:=(p.1,y)) e,fm e,ih]
  ·rw[aO h]
   by_cases e:p.1=j
   ·rw[fI (p:=p) e,fI e,om,aO (fun z=>h (e.trans z))]
   ·rw[fm (p:=p) e,fm e,ih]
theorem xh (k j:κ)(y:V): ∀bc:List (κ×V),gj bc k=none->gj (bc ++ [(k,y)]) j=if j=k then some y else gj bc j
 |[],_=>by
  by_cases e:k=j
  ·rw[a7 e.symm]; exact fI (p:=(k,y)) e
  ·rw[aO (fun z=>e z.symm)]; exact fm (p:=(k,y)) e
 |p :: r,hn=>by
  rw[List.cons_append]
  have hk: ¬ p.1=k:=fun z=>by rw[fI z] at hn; cases hn
  rw[fm hk] at hn
  have ih:=xh k j y r hn
  by_cases e:p.1=j
  ·rw[fI e,fI e,aO (fun z=>hk (e.trans z))]
  ·rw[fm e,fm e,ih]
theorem HB (bc:List (κ×V))(k j:κ)(y:V):gj (putK bc k y) j=if j=k then some y else gj bc j:=by
 unfold putK
 by_cases a:(bc.any fun kv=>decide (kv.1=k))=true
 ·rw[a7 a,Ak]
  rw[mK] at a
  by_cases e:j=k
  ·obtain⟨x,hx⟩:=Pq.mp a
   rw[a7 e,e,hx,om,a7 rfl]
  ·rw[aO e]
   cases gj bc j with
   |none=>rfl
   |some x=>rw[om,aO e]
 ·rw[aO a]
  refine xh k j y bc ?_
  rw[mK] at a
  cases q:gj bc k with
  |none=>rfl
  |some x=>rw[q] at a; exact(a rfl).elim
theorem kr (bc:List (κ×V))(k:κ)(v:V):(putK bc k v).length<=bc.length + 1:=by
 unfold putK
 split
 ·rw[ae]; lia
 ·rw[aF,cf,vD]; lia
theorem HC {bc:List (κ×V)}{k:κ}(v:V)(h:gj bc k=none):putK bc k v=bc ++ [(k,v)]:=by
 unfold putK
 rw[mK,h]
 exact aO (by decide)
theorem kZ.k9 {o:Option V}{u:Option Value}(r:kZ o u):o.isSome=u.isSome:=by
 cases o with
 |none=>cases u with
  |none=>rfl
  |some _=>exact(show False from r).elim
 |some _=>cases u with
  |none=>exact(show False from r).elim
  |some _=>rfl
theorem KV.val {bc:List (κ×V)}{vs:List (κ×Value)}(r:KV bc vs)(k:κ):kZ (gj bc k) (valueAt vs k):=by
 unfold KV at r
 induction r with
 |nil=>exact True.intro
 | @cons p q ps qs h t ih=>
  obtain⟨h1,h2⟩:=h
  by_cases e:p.1=k
  ·have e':q.1=k:=h1.symm.trans e
   have b:valueAt (q :: qs) k=some q.2:=by simp[valueAt,List.find?_cons,e']
   rw[fI e,b]; exact h2
  ·have e': ¬ q.1=k:=fun z=>e (h1.trans z)
   have b:valueAt (q :: qs) k=valueAt qs k:=by simp[valueAt,List.find?_cons,e']
   rw[fm e,b]; exact ih
theorem KV.any {bc:List (κ×V)}{vs:List (κ×Value)}(r:KV bc vs)(k:κ):(bc.any fun kv=>decide (kv.1=k))=vs.any fun kv=>decide (kv.1=k):=by
 unfold KV at r
 induction r with
 |nil=>rfl
 |cons h t ih=>rw[sU,sU,ih,h.1]
theorem KV.Nx {bc:List (κ×V)}{vs:List (κ×Value)}(r:KV bc vs)(k:κ){y:V}{u:Value}(ry:RelV y u):
  KV (bc.map fun kv=>if kv.1=k then(kv.1,y) else kv) (vs.map fun kv=>if kv.1=k then(kv.1,u) else kv):=by
 unfold KV at r ⊢
 induction r with
 |nil=>exact .nil
 | @cons p q ps qs h t ih=>
  rw[c9,c9]
  refine .cons ?_ ih
  obtain⟨h1,h2⟩:=h
  by_cases e:p.1=k
  ·rw[a7 e,a7 (h1.symm.trans e)]; exact⟨h1,ry⟩
  ·rw[aO e,aO (fun z=>e (h1.trans z))]; exact⟨h1,h2⟩
theorem KV.put {bc:List (κ×V)}{vs:List (κ×Value)}(r:KV bc vs)(k:κ){y:V}{u:Value}(ry:RelV y u):KV (putK bc k y) (stored vs k u):=by
 unfold putK stored
 rw[r.any k]
 by_cases e:(vs.any fun kv=>decide (kv.1=k))=true
 ·rw[a7 e,a7 e]; exact r.Nx k ry
 ·rw[aO e,aO e]; exact cL r ⟨rfl,ry⟩
theorem KV.drop {bc:List (κ×V)}{vs:List (κ×Value)}(r:KV bc vs)(k:κ):KV (k8 bc k) (without vs k):=by
 unfold KV at r ⊢
 unfold k8 without
 induction r with
 |nil=>exact .nil
 | @cons p q ps qs h t ih=>
  obtain⟨h1,h2⟩:=h
  rw[List.filter_cons,List.filter_cons]
  by_cases e:p.1=k
  ·have a: ¬ decide (p.1≠k)=true:=by simp[e]
   have b: ¬ decide (q.1≠k)=true:=by simp[h1.symm.trans e]
   rw[aO a,aO b]; exact ih
  ·have e': ¬ q.1=k:=fun z=>e (h1.trans z)
   have a:decide (p.1≠k)=true:=by simp[e]
   have b:decide (q.1≠k)=true:=by simp[e']
   rw[a7 a,a7 b]; exact .cons ⟨h1,h2⟩ ih
theorem KV.length {bc:List (κ×V)}{vs:List (κ×Value)}(r:KV bc vs):bc.length=vs.length:=aW r
theorem HE (bc:List (κ×V))(k:κ):(k8 bc k).length<=bc.length:=a6 _ _
end
theorem ud {P:Program}{w:World}{k:Key}{u:Value}(r:RelV (kV k) u):(dU P w).is k u=true:=by
 cases k with
 |inl i=>obtain⟨t,e⟩:=(show ∃t,u=Value.int i t from r); subst e; exact zY P w i t
 |inr x=>obtain⟨t,e⟩:=(show ∃t,u=Value.str x t from r); subst e; exact zZ P w x t
theorem xi {P:Program}{w:World}: ∀{ks:List Key} {us:List Value},Vals (ks.map kV) us->ItemsAre (dU P w) ks us
 |[],_,r=>by rw[vB] at r; cases r; exact .nil
 |k :: ks,_,r=>by
  rw[c9] at r
  cases r with
  |cons h t=>exact .cons (ud h) (xi t)
abbrev KT (H:Hp):List (List Key×V)->List (List Key×Addr×Value)->Prop:=Paired fun p q=>p.1=q.1/\H q.2.1=some (.tup (p.1.map kV))/\RelV p.2 q.2.2
theorem KT.val {H:Hp}{bc:List (List Key×V)}{xs:List (List Key×Addr×Value)}(r:KT H bc xs)(k:List Key):kZ (gj bc k) ((atKey xs k).map (·.2)):=by
 induction r with
 |nil=>exact True.intro
 | @cons p q ps qs h t ih=>
  obtain⟨h1,_,h2⟩:=h
  by_cases e:p.1=k
  ·have e':q.1=k:=h1.symm.trans e
   have b:atKey (q :: qs) k=some q.2:=by simp[atKey,List.find?_cons,e']
   rw[fI e,b]; exact h2
  ·have e': ¬ q.1=k:=fun z=>e (h1.trans z)
   have b:atKey (q :: qs) k=atKey qs k:=by simp[atKey,List.find?_cons,e']
   rw[fm e,b]; exact ih
theorem KT.Nx {H:Hp}{bc:List (List Key×V)}{xs:List (List Key×Addr×Value)}(r:KT H bc xs)(k:List Key){y:V}{u:Value}(ry:RelV y u):
  KT H (bc.map fun kv=>if kv.1=k then(kv.1,y) else kv) (xs.map (putAt k u)):=by
 induction r with
 |nil=>exact .nil
 | @cons p q ps qs h t ih=>
  rw[c9,c9]
  refine .cons ?_ ih
  obtain⟨h1,h2,h3⟩:=h
  unfold putAt
  by_cases e:p.1=k
  ·rw[a7 e,a7 (h1.symm.trans e)]; exact⟨h1,h2,ry⟩
  ·rw[aO e,aO (fun z=>e (h1.trans z))]; exact⟨h1,h2,h3⟩
theorem KT.put {H:Hp}{bc:List (List Key×V)}{xs:List (List Key×Addr×Value)}(r:KT H bc xs)(k:List Key){b:Addr}{y:V}{u:Value}(hb:H b=some (.tup (k.map kV)))(ry:RelV y u):
  KT H (putK bc k y) (storedH xs k b u):=by
 have e:(bc.any fun kv=>decide (kv.1=k))=(atKey xs k).isSome:=by
  rw[mK,(r.val k).k9,E1]
 unfold putK storedH
 rw[e]
 by_cases q:(atKey xs k).isSome=true
 ·rw[a7 q,a7 q]; exact r.Nx k ry
 ·rw[aO q,aO q]; exact cL r ⟨rfl,hb,ry⟩
theorem KT.keeps {H H':Hp}{bc:List (List Key×V)}{xs:List (List Key×Addr×Value)}(r:KT H bc xs)(ht: ∀b ys,H b=some (.tup ys)->H' b=some (.tup ys)):KT H' bc xs:=
 Paired.iS r fun _ _ z=>⟨z.1,ht _ _ z.2.1,z.2.2⟩
section
variable {P:Program}{w:World}{H:Hp}{h:Heap}{a:Addr}
theorem Ml {u:HO}(ok:oq P w H h)(e:Rd H a u):dC P w H h a u:=e.ok ok
theorem ue {bc:List (Key×V)}(ok:oq P w H h)(e:Rd H a (.dK bc)):bc.length<=sizeLine/\(a == sysModules)=false/\ ∃vs,KV bc vs/\h.DictOf (dU P w) a vs:=
 show dC P w H h a (.dK bc) from Ml ok e
theorem DR {bc:List (Key×V)}(ok:oq P w H h)(e:H a=some (.dK bc)):bc.length<=sizeLine/\(a == sysModules)=false/\ ∃vs,KV bc vs/\h.DictOf (dU P w) a vs:=ue ok (.inl e)
theorem uf {ks:List Key}(ok:oq P w H h)(e:H a=some (.tup (ks.map kV))):(tupleKind (dU P w)).is h ks a:=by
 obtain⟨_,cm,r,o,h1,h2,n,h3⟩:=(show dC P w H h a (.tup (ks.map kV)) from ok a _ e)
 exact⟨o,cm.toArray,n,h1,h2,h3,by simpa using xi r⟩
theorem xj {bc:List (List Key×V)}(ok:oq P w H h)(e:Rd H a (.dT bc)):bc.length<=sizeLine/\(a == sysModules)=false/\
  ∃xs,KT H bc xs/\h.DictOfH (tupleKind (dU P w)) a xs:=by
 obtain⟨z,y,xs,r,o,es,ep,h1,h2,h3,h4,h5⟩:=(show dC P w H h a (.dT bc) from Ml ok e)
 refine⟨z,y,xs,r,o,es,ep,h1,h2,h3,h4,fun x hx=>?_,h5⟩
 have all: ∀{l:List (List Key×V)} {m:List (List Key×Addr×Value)},KT H l m-> ∀x∈m,(tupleKind (dU P w)).is h x.1 x.2.1:=by
  intro l m q
  induction q with
  |nil=>intro x hx; exact nomatch hx
  | @cons p q ps qs hq t ih=>
   intro x hx
   rcases aw.mp hx with e|hx
   ·subst e
    exact uf ok (by rw[← hq.1]; exact hq.2.1)
   ·exact ih x hx
 exact all r x hx
theorem QM {bc:List (List Key×V)}(ok:oq P w H h)(e:H a=some (.dT bc)):bc.length<=sizeLine/\(a == sysModules)=false/\
  ∃xs,KT H bc xs/\h.DictOfH (tupleKind (dU P w)) a xs:=xj ok (.inl e)
end
def mr (H:Hp)(a:Addr)(y:V)(r:Option V):Prop:=
 (∃bc k,Rd H a (.dK bc)/\y=kV k/\r=gj bc k)∨ ∃bc k b,Rd H a (.dT bc)/\y= .ref b/\H b=some (.tup (k.map kV))/\r=gj bc k
def Fs (H:Hp)(a:Addr)(y v:V)(H':Hp):Prop:=
 (∃bc k,H a=some (.dK bc)/\y=kV k/\bc.length < sizeLine/\H'=upd H a (.dK (putK bc k v)))∨
 ∃bc k b,H a=some (.dT bc)/\y= .ref b/\H b=some (.tup (k.map kV))/\bc.length < sizeLine/\H'=upd H a (.dT (putK bc k v))
theorem mr.k {H:Hp}{a:Addr}{bc:List (Key×V)}{k:Key}(e:H a=some (.dK bc)):mr H a (kV k) (gj bc k):= .inl ⟨bc,k,.inl e,rfl,rfl⟩
theorem Fs.k {H:Hp}{a:Addr}{bc:List (Key×V)}{k:Key}{v:V}(e:H a=some (.dK bc))(hl:bc.length < sizeLine):Fs H a (kV k) v (upd H a (.dK (putK bc k v))):= .inl ⟨bc,k,e,rfl,hl,rfl⟩
section
variable {X:Cx}{pins:List (Addr×Obj)}{σ:St}{H:Hp}{s:Shared}{a:Addr}{y v:V}{u r:Value}{o:Option V}{A:Around}{E:Value->Shared->Prop}
theorem Inv.big (I:Inv X pins σ H s):sysModules < s.heap.objs.size:=by
 have h:mainGlobals < s.heap.objs.size:=(I.mod.glob.keeps I.bk).lt
 exact Nat.lt_trans (by decide) h
theorem Ft {Q:Value->Shared->Prop}(hu:A.units + 1 < cLine)(I:Inv X pins σ H s)(g:mr H a y (some v))(ry:RelV y u)(h: ∀w' s',Inv X pins σ H s'->RelV v w'->Q w' s'):
  wpAny (model X.prog X.w) A (getItem (.ref a) u) Q E s:=by
 rcases g with⟨bc,k,e,ey,l⟩|⟨bc,k,b,e,ey,eb,l⟩
 ·subst ey
  obtain⟨z,hd,vs,rel,dd⟩:=ue I.cB e
  obtain⟨w',hw,Fp⟩:=kZ.some_of (v:=v) (o:=valueAt vs k) (by rw[l]; exact rel.val k)
  exact wpAny_getItem_of (ud ry) dd.mapOf hw (h w' _ (I.tok _) Fp)
 ·subst ey
  cases(show u=Value.ref b from ry)
  obtain⟨z,hd,xs,rel,dd⟩:=xj I.cB e
  obtain⟨w',hw,Fp⟩:=kZ.some_of (v:=v) (o:=(atKey xs k).map (·.2)) (by rw[l]; exact rel.val k)
  obtain⟨p,hp,xk⟩:=bH.mp hw
  refine wpAny_getItem_heap (tE hu) (uf I.cB eb) dd hp ?_
  rw[xk]
  exact h w' _ (I.tok _) Fp
theorem Vo {Q:Value->Shared->Prop}(hu:A.units + 1 < cLine)(I:Inv X pins σ H s)(g:mr H a y o)(ry:RelV y u)(h: ∀s',Inv X pins σ H s'->Q (.bool o.isSome) s'):
  wpAny (model X.prog X.w) A (compareOp .In u (.ref a)) Q E s:=by
 rcases g with⟨bc,k,e,ey,l⟩|⟨bc,k,b,e,ey,eb,l⟩
 ·subst ey
  obtain⟨z,hd,vs,rel,dd⟩:=ue I.cB e
  refine wpAny_in_of (ud ry) hd dd.mapOf ?_
  rw[← (rel.val k).k9,← l]
  exact h _ (I.tok _)
 ·subst ey
  cases(show u=Value.ref b from ry)
  obtain⟨z,hd,xs,rel,dd⟩:=xj I.cB e
  refine wpAny_in_heap (tE hu) (uf I.cB eb) hd dd ?_
  have q:=(rel.val k).k9
  rw[E1] at q
  rw[← q,← l]
  exact h _ (I.tok _)
theorem Kw {Q:Value->Shared->Prop}(hu:A.units + 1 < cLine)(I:Inv X pins σ H s)(g:mr H a y o)(ry:RelV y u)(h: ∀s',Inv X pins σ H s'->Q (.bool (!o.isSome)) s'):
  wpAny (model X.prog X.w) A (compareOp .NotIn u (.ref a)) Q E s:=by
 rcases g with⟨bc,k,e,ey,l⟩|⟨bc,k,b,e,ey,eb,l⟩
 ·subst ey
  obtain⟨z,hd,vs,rel,dd⟩:=ue I.cB e
  refine wpAny_notIn_of (ud ry) hd dd.mapOf ?_
  rw[← (rel.val k).k9,← l]
  exact h _ (I.tok _)
 ·subst ey
  cases(show u=Value.ref b from ry)
  obtain⟨z,hd,xs,rel,dd⟩:=xj I.cB e
  refine wpAny_notIn_heap (tE hu) (uf I.cB eb) hd dd ?_
  have q:=(rel.val k).k9
  rw[E1] at q
  rw[← q,← l]
  exact h _ (I.tok _)
theorem tJ {h':Heap}{t':Nat}{ob:HO}(I:Inv X pins σ H s)(mu:Qg (H a))(hs:Heap.SameBut a s.heap h')(he: ∃q,h'.get? a=some q)(new:dC X.prog X.w (upd H a ob) h' a ob):
  Inv X pins σ (upd H a ob) {s with heap:=h',toks:=t'}:=
 I.write (x:=a) (e:=a) mu (.inl rfl) (fun b q hb z=>(hs.2 b hb).trans z) he new
theorem yj {P:Program}{w:World}{H':Hp}{h':Heap}{bc:List (Key×V)}{vs:List (Key×Value)}(z:bc.length<=sizeLine)(hd:(a == sysModules)=false)(rel:KV bc vs)(dd:h'.DictOf (dU P w) a vs):
  dC P w H' h' a (.dK bc):=⟨z,hd,vs,rel,dd⟩
theorem Fu {H':Hp}{Q:Unit->Shared->Prop}(hu:A.units + 1 < cLine)(I:Inv X pins σ H s)(g:Fs H a y v H')(ry:RelV y u)(rv:RelV v r)(h: ∀s',Inv X pins σ H' s'->Q () s'):
  wpAny (model X.prog X.w) A (setItem (.ref a) u r) Q E s:=by
 rcases g with⟨bc,k,e,ey,l,eH⟩|⟨bc,k,b,e,ey,eb,l,eH⟩
 ·subst ey eH
  obtain⟨z,hd,vs,rel,dd⟩:=DR I.cB e
  have hz:vs.length<=sizeLine:=by rw[← rel.length]; exact z
  have hl:(putK bc k v).length<=sizeLine:=by have:=kr bc k v; lia
  refine wpAny_setItem_pairs (hsz:=hz) (ud ry) dd fun h' DS hs=>h _ ?_
  have he: ∃q,h'.get? a=some q:=let⟨q,_,_,hq,_⟩:=DS; ⟨q,hq⟩
  exact tJ I (by rw[e]; exact True.intro) hs he (yj hl hd (rel.put k rv) DS)
 ·subst ey eH
  cases(show u=Value.ref b from ry)
  obtain⟨z,hd,xs,rel,dd⟩:=QM I.cB e
  have hz:xs.length<=sizeLine:=by rw[← aW rel]; exact z
  have hl:(putK bc k v).length<=sizeLine:=by have:=kr bc k v; lia
  refine wpAny_setItem_heap (hsz:=hz) (tE hu) (uf I.cB eb) dd fun h' DS hs=>h _ ?_
  obtain⟨q,es,ep,hq,h2,h3,h4,_,h5⟩:=DS
  refine tJ I (by rw[e]; exact True.intro) hs ⟨q,hq⟩ ⟨hl,hd,_,(rel.put k eb rv).keeps fun c ys ec=>?_,q,es,ep,hq,h2,h3,h4,h5⟩
  rw[az (ma ec e (fun z=>nomatch z))]
  exact ec
end
section
variable {X:Cx}{pins:List (Addr×Obj)}{σ:St}{H:Hp}{s:Shared}{a:Addr}{bc:List (Key×V)}{k:Key}{u:Value}{A:Around}{E:Value->Shared->Prop}
theorem QN {v:V}{more:List Value}{Q:Value->Shared->Prop}(I:Inv X pins σ H s)(e:H a=some (.dK bc))(ry:RelV (kV k) u)(l:gj bc k=some v)(hm:more=[]∨ ∃x,more=[x])
  (h: ∀w' s',Inv X pins σ (upd H a (.dK (k8 bc k))) s'->RelV v w'->Q w' s'):wpAny (model X.prog X.w) A (call (.builtin "dict.pop") (.ref a :: u :: more)) Q E s:=by
 obtain⟨z,hd,vs,rel,dd⟩:=DR I.cB e
 obtain⟨w',hw,Fp⟩:=kZ.some_of (v:=v) (o:=valueAt vs k) (by rw[← l]; exact rel.val k)
 have hp:(keyPart u).isSome=true:=by
  cases k with
  |inl i=>obtain⟨t,q⟩:=(show ∃t,u=Value.int i t from ry); subst q; rfl
  |inr x=>obtain⟨t,q⟩:=(show ∃t,u=Value.str x t from ry); subst q; rfl
 have ha:argsOk "dict.pop" ⟨.ref a :: u :: more,[]⟩:=by
  rcases hm with q|⟨x,q⟩
  ·subst q; exact PySem.F.args_dict_pop_2 _ _
  ·subst q; exact PySem.F.args_dict_pop_3 _ _ _
 refine call_meetsIn PySem.F.slot_dict_pop dd.typeIs PySem.F.entry_dict_pop ha (meets_dict_pop_there (dU X.prog X.w) a (ud ry) more hm hp)
  ⟨vs,w',dd,by rw[← rel.length]; exact z,hw,fun h' DS hs=>h w' _ ?_ Fp⟩
 have he: ∃q,h'.get? a=some q:=let⟨q,_,_,hq,_⟩:=DS; ⟨q,hq⟩
 exact tJ I (by rw[e]; exact True.intro) hs he (yj (a0 (HE bc k) z) hd (rel.drop k) DS)
end
def QO (i:Expr):Prop:= ∀ov iv,subscripted i false ov iv=operate [ov,iv] (getItem ov iv)
theorem Kx {prog:Program}{w:World}{A:Around}{E:Value->Shared->Prop}{s:Shared}{env:Env}{value slice:Expr}{pos:Pos}{T id:String}{Q:Value->Shared->Prop}
  (hl:typeLookup (.type T) "__getitem__"=pure (some (.builtin id))) (hs:QO slice)
  (h:wpAny (model prog w) A (eval value env) (fun o s₁=>wpAny (model prog w) A (eval slice env) (fun i s₂=>s₂.TypeIs o T/\wpAny (model prog w) A (getItem o i) Q E s₂) E s₁) E s):
  wpAny (model prog w) A (eval (.Subscript value slice pos) env) Q E s:=by
 refine Subscript_ (cw h (fun o s₁ h₁=>cw h₁ (fun i s₂ h₂=>?_) fun _ _ x=>x) fun _ _ x=>x)
 obtain⟨hT,h₂⟩:=h₂
 unfold subscriptTail
 refine aA ?_
 rw[getitemInPython_of_ne hT.not_modules]
 refine aA (wpAny_specialOf hT hl ?_)
 have fin:wpAny (model prog w) A (subscripted slice false o i) (fun r s₃=>wpAny (model prog w) A (letTemporaryGo value o r >>=fun _=>pure r) Q E s₃) E s₂:=by
  rw[hs o i]
  exact wpAny_operating (cw h₂ (fun r s₃ h₃=>aA (wpAny_letTemporaryGo (bG h₃))) fun _ _ x=>x)
 first
  |exact bG (aA fin)
  |exact aA (bG (aA fin))
  |exact aA fin
theorem Al {X:Cx}{pins:List (Addr×Obj)}{σ:St}{H:Hp}{s:Shared}{a:Addr}{y:V}{o:Option V}(I:Inv X pins σ H s)(g:mr H a y o):s.TypeIs (.ref a) "dict":=by
 rcases g with⟨bc,k,e,_,_⟩|⟨bc,k,b,e,_,_,_⟩
 ·obtain⟨_,_,vs,_,dd⟩:=ue I.cB e
  exact dd.typeIs
 ·obtain⟨_,_,xs,_,dd⟩:=xj I.cB e
  exact dd.typeIs
def QP (td ty:TE):TE:=fun σ H Q=>td σ H fun x H1=>ty σ H1 fun y H2=> ∃a v,x= .ref a/\mr H2 a y (some v)/\Q v H2
def Vp (ty td:TE):TE:=fun σ H Q=>ty σ H fun y H1=>td σ H1 fun x H2=> ∃a o,x= .ref a/\mr H2 a y o/\Q (.bl o.isSome) H2
def Ky (ty td:TE):TE:=fun σ H Q=>ty σ H fun y H1=>td σ H1 fun x H2=> ∃a o,x= .ref a/\mr H2 a y o/\Q (.bl (!o.isSome)) H2
def QQ (td ty tv:TE):TS:=fun D σ H=>tv σ H fun v H1=>td σ H1 fun x H2=>ty σ H2 fun y H3=> ∃a H4,x= .ref a/\Fs H3 a y v H4/\D.nx σ H4
section
variable {X:Cx}{o i e value:Expr}{pos pos' Nl:Pos}{td ty tv:TE}
theorem cO (hu:X.A.units + 1 < cLine)(ho:PE X o td)(hi:PE X i ty)(hs:QO i):PE X (.Subscript o i pos) (QP td ty):=by
 intro pins s σ H Q I h
 refine Kx PySem.F.slot_dict_getitem.lookup hs (dY (ho pins s σ H _ I h) fun u s1 ⟨x,H1,I1,rx,q1⟩=>dY (hi pins s1 σ H1 _ I1 q1) fun iv s2 ⟨y,H2,I2,ry,a,v,ex,g,q2⟩=>?_)
 subst ex
 obtain rfl:u=Value.ref a:=rx
 exact⟨Al I2 g,Ft hu I2 g ry fun w' s3 I3 Fp=>⟨v,H2,I3,Fp,q2⟩⟩
theorem Ny (hu:X.A.units + 1 < cLine)(hi:PE X i ty)(ho:PE X o td):PC X .In i o (Vp ty td):=by
 intro pins s σ H Q I h
 refine dY (hi pins s σ H _ I h) fun iv s1 ⟨y,H1,I1,ry,q1⟩=>dY (ho pins s1 σ H1 _ I1 q1) fun u s2 ⟨x,H2,I2,rx,a,ov,ex,g,q2⟩=>?_
 subst ex
 obtain rfl:u=Value.ref a:=rx
 exact Vo hu I2 g ry fun s3 I3=>⟨.bl ov.isSome,H2,I3,rfl,q2⟩
theorem Fv (hu:X.A.units + 1 < cLine)(hi:PE X i ty)(ho:PE X o td):PC X .NotIn i o (Ky ty td):=by
 intro pins s σ H Q I h
 refine dY (hi pins s σ H _ I h) fun iv s1 ⟨y,H1,I1,ry,q1⟩=>dY (ho pins s1 σ H1 _ I1 q1) fun u s2 ⟨x,H2,I2,rx,a,ov,ex,g,q2⟩=>?_
 subst ex
 obtain rfl:u=Value.ref a:=rx
 exact Kw hu I2 g ry fun s3 I3=>⟨.bl (!ov.isSome),H2,I3,rfl,q2⟩
theorem DT (hu:X.A.units + 1 < cLine)(ho:PE X o td)(hi:PE X i ty)(hv:PE X value tv)(hs:swapsWith value (some (.Subscript o i pos')) pos.line X.env=pure false):
  PS X (.Assign [.Subscript o i pos'] value pos) (QQ td ty tv):=by
 intro pins s σ H D I h
 refine wpAny_Assign_Subscript (dY (hv pins s σ H _ I h) fun r s1 ⟨v,H1,I1,rv,q1⟩=>dY (ho pins s1 σ H1 _ I1 q1) fun u s2 ⟨x,H2,I2,rx,q2⟩=>dY (hi pins s2 σ H2 _ I2 q2) fun iv s3 ⟨y,H3,I3,ry,a,H4,ex,g,q3⟩=>?_) hs
 subst ex
 obtain rfl:u=Value.ref a:=rx
 exact Fu hu I3 g ry rv fun s4 I4=>⟨σ,H4,I4,q3⟩
end
theorem Am {P:Program}{w:World}{H:Hp}(h:Heap)(hb:sysModules < h.objs.size):dC P w H (h.push {cls:= .type "dict",data:= .dict #[]}) h.objs.size (.dK []):=
 ⟨bB _,gQ.mpr (vz (aX hb)),[],.nil,Heap.DictOf.new h⟩
def Nz:TE:=fun _ H Q=> ∀p,H p=none->Q (.ref p) (upd H p (.dK []))
section
variable {X:Cx}{pos:Pos}
theorem An:PE X (.Dict [] [] pos) Nz:=fun pins s σ H Q I h=>
 wpAny_Dict_empty ⟨.ref s.heap.objs.size,_,I.laid (a:=s.heap.objs.size) (o:= .dK []) (t':=s.toks) (fun _ _ q=>ax _ q) (aB _) (Am s.heap I.big),rfl,h _ (I.cB.fresh (aB _))⟩
end
def Cy:List (TE×TE)->St->Hp->(List (V×V)->Hp->Prop)->Prop
 |[],_,H,Q=>Q [] H
 |(tk,tv) :: r,σ,H,Q=>tk σ H fun x H1=>tv σ H1 fun y H2=>Cy r σ H2 fun ps H3=>Q ((x,y) :: ps) H3
abbrev VV:List (V×V)->List (Value×Value)->Prop:=Paired fun p q=>RelV p.1 q.1/\RelV p.2 q.2
def Kz (X:Cx)(pos:Pos)(keys:List (Option Expr))(values:List Expr)(KA:List (TE×TE)):Prop:=
 ∀(pins:List (Addr×Obj)) (s:Shared) (σ:St) (H:Hp) (Q:List (V×V)->Hp->Prop),Inv X pins σ H s->Cy KA σ H Q->
  wpAny (model X.prog X.w) X.A (evalPairs (pairTrees keys values X.env pos)) (fun vs s'=> ∃ps H',Inv X pins σ H' s'/\VV ps vs/\Q ps H') X.xe s
theorem KC {X:Cx}{pos:Pos}:Kz X pos [] [] []:=fun pins s σ H Q I h=>pairTrees_nil_walk ⟨[],H,I,.nil,h⟩
theorem ug {X:Cx}{pos:Pos}{k v:Expr}{ks:List (Option Expr)}{vs:List Expr}{tk tv:TE}{KA:List (TE×TE)}(hk:PE X k tk)(hv:PE X v tv)(hr:Kz X pos ks vs KA):
  Kz X pos (some k :: ks) (v :: vs) ((tk,tv) :: KA):=fun pins s σ H Q I h=>
 pairTrees_cons_walk (dY (hk pins s σ H _ I h) fun u s1 ⟨x,H1,I1,rx,q1⟩=>dY (hv pins s1 σ H1 _ I1 q1) fun w2 s2 ⟨y,H2,I2,ry,q2⟩=>
  dY (hr pins s2 σ H2 _ I2 q2) fun ws s3 ⟨ps,H3,I3,rel,q3⟩=>⟨(x,y) :: ps,H3,I3,.cons ⟨rx,ry⟩ rel,q3⟩)
def px (bc more:List (Key×V)):List (Key×V):=more.foldl (fun acc kv=>putK acc kv.1 kv.2) bc
theorem KV.merge: ∀{more:List (Key×V)} {rs:List (Key×Value)} {bc:List (Key×V)} {vs:List (Key×Value)},KV more rs->KV bc vs->KV (px bc more) (merged vs rs):=by
 intro more rs bc vs r
 unfold KV at r
 induction r generalizing bc vs with
 |nil=>intro q; exact q
 | @cons p q ps qs h t ih=>
  intro r0
  have e:KV (putK bc p.1 p.2) (stored vs q.1 q.2):=by
   have:=r0.put p.1 h.2
   rw[← h.1]; exact this
  exact ih e
theorem oJ: ∀(more bc:List (Key×V)),(px bc more).length<=bc.length + more.length
 |[],bc=>by show bc.length<=bc.length + 0; lia
 |p :: r,bc=>by
  have h1:=oJ r (putK bc p.1 p.2)
  have h2:=kr bc p.1 p.2
  show(px (putK bc p.1 p.2) r).length<=_
  rw[cf]; lia
theorem uh {P:Program}{w:World}: ∀{bc:List (Key×V)} {ws:List (Value×Value)},VV (bc.map fun kv=>(kV kv.1,kv.2)) ws-> ∃rs,Carries (dU P w) ws rs/\KV bc rs
 |[],_,r=>by rw[vB] at r; cases r; exact⟨[],True.intro,.nil⟩
 |p :: bc,_,r=>by
  rw[c9] at r
  cases r with
  | @cons a b as bs h t=>
   obtain⟨rs,c,q⟩:=uh (P:=P) (w:=w) t
   obtain⟨b1,b2⟩:=b
   exact⟨(p.1,b2) :: rs,⟨ud h.1,rfl,c⟩,.cons ⟨rfl,h.2⟩ q⟩
def QR (KA:List (TE×TE)):TE:=fun σ H Q=> ∀p,H p=none->Cy KA σ (upd H p (.dK [])) fun ps H2=>H2 p=some (.dK [])/\ ∃bc:List (Key×V),ps=bc.map (fun kv=>(kV kv.1,kv.2))/\bc.length<=15/\Q (.ref p) (upd H2 p (.dK (px [] bc)))
theorem KD {X:Cx}{pos:Pos}{keys:List (Option Expr)}{values:List Expr}{KA:List (TE×TE)}(h:Kz X pos keys values KA)(NA:keys.all (·.isSome)=true)(hl:keys.length=values.length)(h0:keys≠[])
  (Vq:keys.length<=15):PE X (.Dict keys values pos) (QR KA):=by
 intro pins s σ H Q I q
 have hn:=I.cB.fresh (aB s.heap.objs.size)
 have I1:=I.laid (a:=s.heap.objs.size) (o:= .dK []) (h':=s.heap.push {cls:= .type "dict",data:= .dict #[]}) (t':=s.toks) (fun _ _ q=>ax _ q) (aB _) (Am s.heap I.big)
 refine wpAny_Dict_walk (knd:=dU X.prog X.w) NA hl h0 Vq (dY (h pins _ σ _ _ I1 (q _ hn)) fun ws s2 ⟨ps,H2,I2,rel,e,bc,ep,lk,q2⟩=>?_)
 subst ep
 obtain⟨rs,c,rk⟩:=uh (P:=X.prog) (w:=X.w) rel
 obtain⟨z,hd,QS,r0,dd⟩:=DR I2.cB e
 cases r0
 refine⟨rs,c,dd,fun h' DS hs=>⟨.ref s.heap.objs.size,_,?_,rfl,q2⟩⟩
 have hz:(px [] bc).length<=sizeLine:=by
  have h1:=oJ bc []
  rw[vD] at h1
  rw[eU]; lia
 have he: ∃q,h'.get? s.heap.objs.size=some q:=let⟨q,_,_,hq,_⟩:=DS; ⟨q,hq⟩
 exact tJ I2 (by rw[e]; exact True.intro) hs he (yj hz hd (rk.merge .nil) DS)
structure M1 (X:Cx)(o:Expr)(m:Str)(apos:Pos)(e:Expr)(gP:Pos):Prop where
 base:attributeBase o m X.env (eval o X.env)=eval o X.env
 X6:((backTo gP (starEach [e] X.env)).all (fun x=> !x.1) && (backToKw gP (keywordEach [] X.env)).all (fun x=>x.1.isSome)
  && decide (([e]:List Expr).length + ([]:List Keyword).length + (if([]:List Keyword).isEmpty then 0 else 1) < 30))=true
 line:(apos.endLine == gP.line)=true
 trees:backTo gP (starEach [e] X.env)=[(false,eval e X.env)]
structure M2 (X:Cx)(o:Expr)(m:Str)(apos:Pos)(e f:Expr)(gP:Pos):Prop where
 base:attributeBase o m X.env (eval o X.env)=eval o X.env
 X6:((backTo gP (starEach [e,f] X.env)).all (fun x=> !x.1) && (backToKw gP (keywordEach [] X.env)).all (fun x=>x.1.isSome)
  && decide (([e,f]:List Expr).length + ([]:List Keyword).length + (if([]:List Keyword).isEmpty then 0 else 1) < 30))=true
 line:(apos.endLine == gP.line)=true
 trees:backTo gP (starEach [e,f] X.env)=[(false,eval e X.env),(false,eval f X.env)]
def X7 (H:Hp)(a:Addr):Prop:=(∃bc,Rd H a (.dK bc))∨ ∃bc,Rd H a (.dT bc)
theorem NB {X:Cx}{pins:List (Addr×Obj)}{σ:St}{H:Hp}{s:Shared}{a:Addr}(I:Inv X pins σ H s)(d:X7 H a):
  s.TypeIs (.ref a) "dict"/\(∀b,Value.ref a= .ref b-> ∃ob,s.heap.get? b=some ob/\ob.dict=none)/\(a == sysModules)=false:=by
 rcases d with⟨bc,e⟩|⟨bc,e⟩
 ·obtain⟨_,hd,vs,_,dd⟩:=ue I.cB e
  refine⟨dd.typeIs,fun b q=>?_,hd⟩
  cases q
  obtain⟨ob,_,_,h1,h2,_⟩:=dd
  exact⟨ob,h1,h2.2.1⟩
 ·obtain⟨_,hd,xs,_,dd⟩:=xj I.cB e
  refine⟨dd.typeIs,fun b q=>?_,hd⟩
  cases q
  obtain⟨ob,_,_,h1,h2,_⟩:=dd
  exact⟨ob,h1,h2.2.1⟩
section
variable {X:Cx}{pins:List (Addr×Obj)}{σ:St}{H:Hp}{s:Shared}{a:Addr}{y d:V}{u r:Value}{o:Option V}{A:Around}{E:Value->Shared->Prop}
end
def NC (td ty:TE):TE:=fun σ H Q=>td σ H fun x H1=> ∃a,x= .ref a/\X7 H1 a/\ty σ H1 fun y H2=> ∃bc k v,H2 a=some (.dK bc)/\y=kV k/\gj bc k=some v/\Q v (upd H2 a (.dK (k8 bc k)))
section
variable {X:Cx}{o e f:Expr}{apos gP:Pos}{td ty tx:TE}
theorem HF (ho:PE X o td)(he:PE X e ty)(m:M1 X o "pop" apos e gP):PE X (.Call (.Attribute o "pop" apos) [e] [] gP) (NC td ty):=by
 intro pins s σ H Q I h
 refine wpAny_Call_method m.base m.X6 m.line PySem.F.plainAttrs_dict PySem.F.slot_dict_pop PySem.F.type_dict_pop (dY (ho pins s σ H _ I h) fun u s1 ⟨x,H1,I1,rx,a,ex,d,q1⟩=>?_)
 subst ex
 obtain rfl:u=Value.ref a:=rx
 obtain⟨t1,t2,_⟩:=NB I1 d
 refine⟨t1,t2,?_⟩
 rw[m.trees]
 refine iQ rfl (EZ (Calls.spliced_cons (dY (he pins s1 σ H1 _ I1 q1) fun iv s2 ⟨y,H2,I2,ry,bc,k,v,ea,ey,l,q2⟩=>Calls.spliced_nil ?_)))
 subst ey
 exact QN I2 ea ry l (.inl rfl) fun w' s3 I3 Fp=>⟨v,_,I3,Fp,q2⟩
end
section
variable {X:Cx}{pins:List (Addr×Obj)}{σ:St}{H:Hp}{s:Shared}{a:Addr}{bc:List (Key×V)}{A:Around}{E:Value->Shared->Prop}
theorem HG {Q:Value->Shared->Prop}(I:Inv X pins σ H s)(e:Rd H a (.dK bc))(h: ∀p s',H p=none->Inv X pins σ (upd H p (.dK bc)) s'->Q (.ref p) s'):wpAny (model X.prog X.w) A (call (.type "dict") [.ref a]) Q E s:=by
 obtain⟨z,hd,vs,rel,dd⟩:=ue I.cB e
 refine kt_call_dict hd dd (by rw[← rel.length]; exact z) fun h' DS hs=>?_
 refine h _ _ (I.cB.fresh (aB _)) (I.laid (a:=s.heap.objs.size) (o:= .dK bc) (t':=s.toks) (fun b q hq=>?_) (aB _) (yj z (gQ.mpr (vz (aX I.big))) rel DS))
 exact(hs.2 b (aX (aK hq))).trans (ax _ hq)
end
section
variable {X:Cx}{pins:List (Addr×Obj)}{σ:St}{H:Hp}{s:Shared}{a:Addr}{y:V}{u:Value}{A:Around}{E:Value->Shared->Prop}
end
end L2
namespace X8
open PySem PySem.W PySem.Calls PyProof.Rows
theorem sW {P:Params}{h:Heap}: ∀(ns:List Int) (vs:List Value),WellAll P h vs (ns.map WData.int)->IntsAre vs ns:=by
 intro ns
 induction ns with
 |nil=>
  intro vs w
  rw[vB] at w
  cases w
  exact .nil
 |cons n ns ih=>
  intro vs w
  rw[c9] at w
  cases w with
  |cons a b=>
   cases a
   exact .cons _ _ (ih _ b)
theorem Fw {l:OpenLaw}{n:Nat}(hn:l.most=some n){P:Params}{h:Heap}{args:List WData}{vals:List Value}
  (KG:l.row.toRowW.claim.pre args=true) (DU:WellAll P h vals args):
  ∃a vs ns,vals=[Value.ref a]/\args=[WData.list (ns.map WData.int)]/\h.get? a=some {cls:= .type "list",data:= .seq vs.toArray}/\IntsAre vs ns/\ns.length<=n:=by
 have ZY:WShape.hasAll [] args [.list .int]=true:=(pre_splitW KG).1
 have hc:l.pre.holds [] {args:=args}=true:=(pre_splitW KG).2
 obtain⟨d,r,rfl,h1,h2⟩:=hasAllW_cons ZY
 obtain rfl:=hasAllW_nil h2
 obtain⟨xs,rfl,h3⟩:=hasW_list h1
 obtain⟨ns,rfl⟩:=items_int h3
 have hlen:ns.length<=n:=by
  unfold OpenLaw.pre at hc
  have h4:(WTm.not (.lt (.lit (.int (n:Int))) (.len (.arg 0)))).holds [] {args:=[.list (ns.map .int)]}=true:=by
   have h4:=(holds_andW hc).1
   rw[hn] at h4
   exact h4
  have h5:=condW_of h4 (w_not (w_lt w_lit (w_len_list (w_arg rfl))))
  rw[ae] at h5
  refine Nat.le_of_not_lt fun q=>?_
  have q':(n:Int) < ((ns.length:Nat):Int):=by lia
  first
   |(rw[aM q'] at h5; exact absurd h5 (by decide))
   |(simp at h5; lia)
 cases DU with
 |cons w1 w2=>
  cases w2
  cases w1 with
  |list ho NA=>exact⟨_,_,ns,rfl,rfl,ho,sW ns _ NA,hlen⟩
theorem Fx (l:OpenLaw)(args:List WData):l.row.toRowW.claim.post args (.bool true) args=true:=
 postW_of (r:=l.row.toRowW) (X:=(true == true))
  (show WShape.has [] (.bool true) .bool=true by first|rfl|decide|simp[WShape.has,WShape.arms,WShape.armsAll])
  (show(WTm.eq .res (.lit (.bool true))).value [] {args:=args,res:=some (.bool true),after:=args}=some (.bool (true == true)) from w_eq_bool (w_res rfl) w_lit) rfl
theorem Ao {l:OpenLaw}{n:Nat}{q:Program}{loose:List Str}{XP:(Str->Option Value)->Heap->Prop}{YP:World->Heap->Prop}{d:DefRec}
  (hn:l.most=some n) (Vr:d.params.defaults=[])
  (call: ∀(w:World) (s₀ s₁:Shared) (mg mb:Str->Option Value) (fa:Addr) (o:Obj) (pm cd doc:Value) (a:Addr) (vs:List Value) (ns:List Int),
   Ground q loose [] XP w s₀ mg mb s₁.heap->YP w s₁.heap->
   s₁.heap.get? fa=some o->o.data= .func (docDef d.name d.params d.body d.scope pm cd doc)->s₁.heap.CodeRec cd d.name->mg d.name=some (.ref fa)->
   s₁.heap.get? a=some {cls:= .type "list",data:= .seq vs.toArray}->IntsAre vs ns->ns.length<=n->s₁.gens= #[]->
   codeAny (model l.prog w) callerA (.call (.ref fa) ⟨[.ref a],[]⟩) (fun r s'=>r= .ok (.ret (.bool true))/\OldK s₁.heap s'.heap/\s'.os=s₁.os/\AllBare s'.gens) s₁):
  WalkO q loose XP YP l.row.toRowW d [] (fun f vs=>PySem.call f vs):=by
 intro w s₀ s₁ mg mb G Y fa o pm cd doc dV kV ho hd ra hD QT hg args vals as KG ZZ X9 DU hlo
 obtain rfl:dV= .none:=Dflts.none hD Vr
 obtain rfl:kV= .none:=Dflts.noKw hD
 obtain⟨a,vs,ns,rfl,rfl,ND,hints,hlen⟩:=Fw hn KG DU
 refine enter_call (Cd (call w s₀ s₁ mg mb fa o pm cd doc a vs ns G Y ho (fd_plain hd) ra QT ND hints hlen hg) fun r s' hq=>?_)
 obtain⟨rfl,h2,h3,h4⟩:=hq
 exact⟨.inl ⟨.bool true,.bool true,[],rfl,fun _=>rfl,.bool true,Fx l _,fun _=>⟨List.Pairwise.nil,fun _ hm=>(nomatch hm)⟩⟩,h2,h3,h4⟩
section
variable {prog:Program}{w:World}{A:Around}{E:Value->Shared->Prop}{s:Shared}{K:Frag}
end
end X8
namespace L2
open PySem PySem.Spec PyProof.Rows
theorem xm: ∀{vs:List Value} {ns:List Int},IntsAre vs ns->Vals (ns.map V.int) vs
 |_,_,.nil=> .nil
 |_,_,.cons n t h=> .cons ⟨t,rfl⟩ (xm h)
def gH (s:Stmt):Arguments:=match s with
 | .FunctionDef _ a _ _ _ _ _ _ _ _=>a
 |_=>{posonlyargs:=[],args:=[],vararg:=none,kwonlyargs:=[],kw_defaults:=[],kwarg:=none,defaults:=[]}
def dD (s:Stmt):List Stmt:=match s with
 | .FunctionDef _ _ b _ _ _ _ _ _ _=>b
 |_=>[]
def ay (s:Stmt):Scope:=match s with
 | .FunctionDef _ _ _ _ _ _ sc _ _ _=>sc
 |_=>{kind:= .function,names:=[],isGenerator:=false,isCoroutine:=false}
abbrev rE:Fn:=fun _ _ _ _ _ _=>False
abbrev E0:XK:=fun _ _ _=>False
theorem mL {X:Cx}:Passes rE X E0:=fun _ _ _ _ _ _ _ h=>h.elim
structure gp (K:PySem.W.Frag)(x qual:Str)(st:Stmt)(f:Addr)(fd:FuncData):Prop where
 ex: ∃(oc:Value) (od:Option Addr) (kV doc pm:Value) (an:Option Addr) (cX ct:Value) (Fo:Array (Option Value)),
  fd=PySem.W.fnOf x qual (gH st) (dD st) (ay st) .none kV doc pm an cX ct/\K.lookup f=some ⟨oc,od,.func fd,Fo⟩/\PySem.W.codeIn K cX qual=true
 kp:PySem.W.keepIn K (.ref f)=true
section
variable {P:Program}{w:World}{K:PySem.W.Frag}{mg:Str->Option Value}{base:Heap}
theorem gp.ok {x qual:Str}{st:Stmt}{f:Addr}{fd:FuncData}{N ps:List Str}{k:Nat}{sp:Sp}(F:gp K x qual st f fd)(S:aS N ps (ay st))(len: ∀vs H Q E,sp vs H Q E->vs.length=ps.length)
  (fW: ∀(cX:Value) (A:Around) (outer:List Env) (s:Shared) (H:Hp) (vs:List V) (Q:VK) (E:XK),eW k (A.deeper (envOfC qual (ay st) s.heap.objs.size f cX))->sp vs H Q E->
   ∃t,oG (k7 rE P w K mg base N qual (ay st) f cX A outer s H E).DF (dD st) t/\t {nx:=fun _ H'=>Q .en H',rt:=Q} (start N vs) H):lN P w K mg base rE (k + 1) f fd ps sp:=by
 obtain⟨oc,od,kV,doc,pm,an,cX,ct,Fo,rfl,lk,ra⟩:=F.ex
 refine Ht lk ra S len fun A outer s H vs Q E hr yc=>?_
 obtain⟨t,h,q⟩:=fW cX A outer s H vs Q E hr yc
 exact⟨t,h.DF,q⟩
theorem gp.binds {x qual:Str}{st:Stmt}{f:Addr}{fd:FuncData}{ps:List Str}(F:gp K x qual st f fd)
  (h: ∀(kV doc pm:Value) (an:Option Addr) (cX ct:Value) (us:List Value),us.length=ps.length->bindArgs (PySem.W.fnOf x qual (gH st) (dD st) (ay st) .none kV doc pm an cX ct) ⟨us,[]⟩=pure (ps.zip us)):Binds K fd ps []:=by
 obtain⟨oc,od,kV,doc,pm,an,cX,ct,Fo,rfl,lk,ra⟩:=F.ex
 exact .all (h kV doc pm an cX ct)
theorem pz {x qual:Str}{st:Stmt}{f:Addr}{oc:Value}{od an:Option Addr}{Fo:Array (Option Value)}{kV doc pm cX ct:Value}(l:K.lookup f=some ⟨oc,od,.func (PySem.W.fnOf x qual (gH st) (dD st) (ay st) .none kV doc pm an cX ct),Fo⟩)
  (c:PySem.W.codeIn K cX qual=true) (k:PySem.W.keepIn K (.ref f)=true):gp K x qual st f (PySem.W.fnOf x qual (gH st) (dD st) (ay st) .none kV doc pm an cX ct):=⟨⟨oc,od,kV,doc,pm,an,cX,ct,Fo,rfl,l,c⟩,k⟩
end
theorem kz {A:Around}{k:Nat}(hr:eW k A):A.units + 1 < cLine:=pW (Nat.add_le_add_left (by decide:1<=64) _) hr.units
theorem bh {n:Nat}(h:n<=1000):n < sizeLine:=pW h (by decide)
section
variable {X:Cx}
theorem pv (i:Nat){x:Str}{pos:Pos}(hN:X.N[i]? =some x:=by rfl)(hv:Qi X.env.scope x:=by first|exact Or.inl rfl|exact Or.inr (Or.inl rfl)|exact Or.inr (Or.inr rfl))(hd:(x == ("__debug__":Str))=false:=by decide)
  (ra:(x == ("__classdict__":Str))=false:=by decide):PE X (.Name x pos) (Ql i):=Ci hN hv hd ra
end
theorem cg {A B:Prop}(h:B):if false=true then A else B:=by
 rw[aO aY]
 exact h
theorem fC {A B:Prop}(h:A):if true=true then A else B:=by
 rw[a7 rfl]
 exact h
theorem cI {c A B:Prop}[Decidable c](h1:c->A)(h2: ¬ c->B):if c then A else B:=by
 by_cases h:c
 ·rw[a7 h]
  exact h1 h
 ·rw[aO h]
  exact h2 h
theorem Ap {c A B:Prop}[Decidable c](hc:c)(h:B):if(!decide c)=true then A else B:=by
 rw[aM hc]
 exact cg h
def aG (H H':Hp):Prop:= ∀b o,H b=some o->H' b=some o
theorem aG.refl (H:Hp):aG H H:=fun _ _ h=>h
theorem aG.trans {H H1 H2:Hp}(a:aG H H1)(b:aG H1 H2):aG H H2:=fun c o h=>b c o (a c o h)
theorem aG.free {H H':Hp}(e:aG H H'){l:Addr}(h:H' l=Option.none):H l=Option.none:=by
 cases q:H l with
 |none=>rfl
 |some o=>
  rw[e l o q] at h
  cases h
theorem aG.seq {K:PySem.W.Frag}{H H':Hp}{a:Addr}{xs:List V}(e:aG H H')(h:bL K H a xs):bL K H' a xs:=by
 rcases h with(h|⟨o,h⟩)|h
 ·exact .inl (.inl (e _ _ h))
 ·exact .inl (.inr ⟨o,e _ _ h⟩)
 ·exact .inr h
section
variable {X:Cx}
end
section
variable {κ:Type}[DecidableEq κ]
end
theorem Fy {prog:Program}{w:World}{A:Around}{R:Result->Shared->Prop}{s:Shared}{elt target iter:Expr}{ifs:List Expr}{scope:Scope}{pos:Pos}{it acc:Value}{env:Env}(I:Nat->Shared->Prop)
  (turn: ∀n s,I n s->wpAny (model prog w) A (pyNext it) (fun r s₁=>match r with
   |none=>R (.ok .next) s₁
   |some v=>wpAny (model prog w) A (letOwnedTupleGo target it v) (fun _ Ya=>wpAny (model prog w) A (assign target env v) (fun _ s₂=>
     wpAny (model prog w) A (forIn ifs true fun c r=>if r=true then do let ok ← isTrue c env (eval c env); pure (ForInStep.yield ok) else pure (ForInStep.yield r)) (fun ok s₃=>
      if ok=true then wpAny (model prog w) A (eval elt env) (fun x s₄=>
       wpAny (model prog w) A (call (.builtin "list.append") [acc,x]) (fun _ s₅=> ∃m,m < n/\I m s₅) (fun _ _=>False) s₄) (fun _ _=>False) s₃
      else ∃m,m < n/\I m s₃) (fun _ _=>False) s₂) (fun _ _=>False) Ya) (fun _ _=>False) s₁) (fun _ _=>False) s)
  (n:Nat) (h:I n s):
  codeAny (model prog w) A (.compLoop (.ListComp elt [⟨target,iter,ifs,0⟩] scope pos) 0 it acc env) R s:=by
 refine codeAny_loop rfl I (fun n s hI=>?_) n h
 show wpAny _ A ((compTurn (.ListComp elt [⟨target,iter,ifs,0⟩] scope pos) 0 it acc env).onRaise (fun x=>do noteFrame x env; theTreesLotGoes x)) _ _ s
 refine wpAny_noted ?_
 rw[compTurn_list]
 refine aA (ir (aA (cw (turn n s hI) (fun r s₁ h₁=>?_) fun _ _ h'=>h'.elim)))
 cases r with
 |none=>exact bG h₁
 |some v=>
  refine aA (cw h₁ (fun _ Ya Z0=>?_) fun _ _ h'=>h'.elim)
  refine aA (cw Z0 (fun _ s₂ h₂=>aA (cw h₂ (fun ok s₃ h₃=>?_) fun _ _ h'=>h'.elim)) fun _ _ h'=>h'.elim)
  cases ok with
  |false=>exact bG ⟨rfl,h₃⟩
  |true=>
   exact aA (aA (cw h₃ (fun x s₄ h₄=>aA (cw h₄ (fun _ s₅ h₅=>bG (bG ⟨rfl,h₅⟩)) fun _ _ h'=>h'.elim)) fun _ _ h'=>h'.elim))
def Aq (X:Cx)(N:List Str)(scope:Scope)(cl:List (Str×Addr))(C:Addr)(s3:Shared)(H3:Hp)(fp:List Addr):Cx:=
 {X with N:=N,s₀:=s3,H₀:=H3,env:=compEnvC scope cl C X.env,outer:=X.stack,stack:=X.stack,ex:=fp,fn:=fun _=>false,pn:=[],xe:=fun _ _=>False}
def JN (X:Cx)(ifs:List Expr)(t:TT):Prop:=
 ∀(pins:List (Addr×Obj)) (s:Shared) (σ:St) (H:Hp) (Q:Bool->Hp->Prop),Inv X pins σ H s->t σ H Q->
  wpAny (model X.prog X.w) X.A (forIn ifs true fun c r=>if r=true then do let ok ← isTrue c X.env (eval c X.env); pure (ForInStep.yield ok) else pure (ForInStep.yield r)) (TP X pins σ Q) X.xe s
def Vs:TT:=fun _ H Q=>Q true H
theorem lQ {X:Cx}:JN X [] Vs:=fun pins s σ H Q I h=>wpAny_tests_nil ⟨H,I,h⟩
theorem pA {X:Cx}{c:Expr}{t:TT}(h:PT X c t):JN X [c] t:=fun pins s σ H Q I hw=>wpAny_tests_one (h pins s σ H Q I hw)
def xn (J:It)(g:TG)(tc:TT)(te:TE)(σ0:St)(H2:Hp)(Q:VK):Prop:=
 ∀D,H2 D=none-> ∃W:Nat->Nat->St->Hp->Prop,(∃m,W 0 m σ0 (upd H2 D (.lst [])))/\ ∀i m σ' H',W i m σ' H'->
  (J.stop i H'/\Q (.ref D) H')∨(J.go i H'/\ ∃N:St->Hp->Prop,(∀KH GY,N KH GY-> ∃m',m' < m/\W (i + 1) m' KH GY)/\
   ∀x GY,J.Pw i H' x GY->g x σ' GY fun σ2 H2=>tc σ2 H2 fun ok H3=>if ok=true then te σ2 H3 fun y H4=> ∃ys,H4 D=some (.lst ys)/\ys.length < sizeLine/\N σ2 (upd H4 D (.lst (ys ++ [y]))) else N σ2 H3)
structure rF (X:Cx)(scope:Scope)(cl:List (Str×Addr))(cn:List Str)(cj:List Nat):Prop where
 Fz:closureFor scope X.env=pure cl
 cell: ∀y∈scope.names,y.2≠ .cell
 kind:scope.kind= .function
 names: ∀x∈scope.names,x.2= .local->scope.names.lookup x.1=some .local
 sub: ∀x c,cl.lookup x=some c->X.env.cells.lookup x=some c
 all: ∀x,((relabel scope X.env).names.lookup x=some .cell∨(relabel scope X.env).names.lookup x=some .free)-> ∃c,cl.lookup x=some c
 Yb:Paired (fun x j=>X.N[j]? =some x/\(X.env.kindOf x=some .cell∨X.env.kindOf x=some .free)/\((relabel scope X.env).names.lookup x=some .cell∨(relabel scope X.env).names.lookup x=some .free)) cn cj
theorem bO {α β:Type}{F:α->β->Prop}: ∀{l₁:List α} {l₂:List β} {i:Nat} {a:α},Paired F l₁ l₂->l₁[i]? =some a-> ∃b,l₂[i]? =some b/\F a b
 |_,_,_,_,.nil,e=>by simp at e
 |_,_,0,_,.cons r _,e=>by simp at e; subst e; exact⟨_,rfl,r⟩
 |_,_,i + 1,a,.cons _ t,e=>by
  obtain⟨b,h1,h2⟩:=bO (i:=i) (a:=a) t (by simpa using e)
  exact⟨b,by simpa using h1,h2⟩
def ui (tn:List Str)(cj:List Nat)(σ:St):St:=tn.map (fun _=>none) ++ cj.map fun j=>(σ[j]?).join
theorem uj {X:Cx}{pins:List (Addr×Obj)}{σ:St}{H2:Hp}{s2:Shared}{elt tg iter:Expr}{ifs:List Expr}{scope:Scope}{pos:Pos}{cl:List (Str×Addr)}{tn cn:List Str}{cj:List Nat}{g:TG}{tc:TT}{te:TE}
  {it:Addr} {fp:List Addr} {NF:Nat->Heap->Prop} {J:It} {RR:Value->Addr->Result->Shared->Prop} {E:Value->Shared->Prop} {Q:VK}
  (xp:X.calm=true) (S:rF X scope cl cn cj)
  (hg: ∀C s3 H3 fp,PG (Aq X (tn ++ cn) scope cl C s3 H3 fp) tg g) (hc: ∀C s3 H3 fp,JN (Aq X (tn ++ cn) scope cl C s3 H3 fp) ifs tc) (he: ∀C s3 H3 fp,PE (Aq X (tn ++ cn) scope cl C s3 H3 fp) elt te)
  (I2:Inv X pins σ H2 s2) (T:Turn X.prog X.w X.K tg J fp it NF) (Mh:NF 0 s2.heap) (f2: ∀b∈fp,tW X pins H2 b)
  (hw:xn J g tc te (ui tn cj σ) H2 Q)
  (Z1: ∀D C (s':Shared) H' m',Inv X pins σ H' s'->tW X pins H' C->s'.heap.Ns C m'->Q (.ref D) H'->RR (.ref D) C (.ok .next) s'):
  wpAny (model X.prog X.w) X.A (newList []) (fun acc s₃=>wpAny (model X.prog X.w) X.A (newFunctionEnv scope X.env.globals cl [] X.env.qual none .none (some X.env)) (fun QU s₄=>
   codeAny (model X.prog X.w) X.A (.compStart (.ListComp elt [⟨tg,iter,ifs,0⟩] scope pos) 0 (.ref it) acc {QU with scope:=relabel scope X.env}) (RR acc QU.locals) s₄) E s₃) E s2:=by
 have Z2:H2 s2.heap.objs.size=none:=I2.cB.fresh (aB _)
 obtain⟨W,⟨m0,w0⟩,turn⟩:=hw _ Z2
 refine wpAny_newObj_type (wpAny_newFunctionEnv S.cell (by intro y hy; simp at hy) (fun h₁ NG NH=>?_) S.kind)
 dsimp only at NG NH ⊢
 have I3:Inv X pins σ (upd H2 s2.heap.objs.size (.lst [])) {s2 with heap:=s2.heap.push {cls:= .type "list",dict:=none,data:= .seq ([]:List Value).toArray}}:=I2.Nv (t':=s2.toks) (ys:=[]) (cm:=[]) .nil (bB _)
 generalize TK:s2.heap.push {cls:= .type "list",dict:=none,data:= .seq ([]:List Value).toArray}=HH at NG NH I3 ⊢
 have hC:HH.objs.size=s2.heap.objs.size + 1:=by rw[← TK,kg]
 have old: ∀b o,HH.get? b=some o->h₁.get? b=some o:=fun b o e=>NH.extBut b o (aX (aK e)) (ax _ e)
 have Vt: ∀b o,s2.heap.get? b=some o->HH.get? b=some o:=fun b o e=>TK▸ax _ e
 have QV: ∀b∈fp,b < s2.heap.objs.size:=fun b hb=>by
  obtain⟨o,e,_⟩:=T.obj 0 _ Mh b hb
  exact aK e
 have TL:(Aq X (tn ++ cn) scope cl HH.objs.size {s2 with heap:=HH} (upd H2 s2.heap.objs.size (.lst [])) fp).Ok:=by
  refine⟨I3.ok.mod,S.kind,I3.ok.glob,I3.ok.blt,aB _,fun x y c h1 h2=>I3.ok.inj x y c (S.sub x c h1) (S.sub y c h2),fun x hx=>S.all x hx,fun x c z=>absurd z aY,I3.ok.hd,I3.ok.frames,.inl rfl,fun b hb=>⟨?_,fun x c e z=>?_⟩,I3.bs,?_,fun b o e hb=>?_,fun b hb z=>?_,I3.stack,I3.qg⟩
  ·show b≠HH.objs.size
   rw[hC]
   exact aX (gF (QV b hb))
  ·exact(f2 b hb).2.2.2.2.1 x c (S.sub x c e) z
  ·exact a0 I3.ok.z5 I3.sz
  ·rcases(f2 b hb).2.2.2.1 with z|z
   ·exact I3.ok.vI b o e z
   ·have h1:b < X.base.objs.size:=aK e
    exact absurd (bf h1 (a0 I3.ok.z5 z)) (iP _)
  ·rcases aw.mp (I3.tT b z) with z|z
   ·exact(f2 b hb).2.1 z
   ·exact(f2 b hb).2.2.1 z
 have IY:Inv (Aq X (tn ++ cn) scope cl HH.objs.size {s2 with heap:=HH} (upd H2 s2.heap.objs.size (.lst [])) fp) [] (ui tn cj σ) (upd H2 s2.heap.objs.size (.lst [])) {s2 with heap:=h₁,toks:=s2.toks + ([]:List (Str×Value)).length}:=by
  refine⟨TL,rfl,I3.bare,Un.kept old,⟨_,NG,fun i x v e1 e2 e3=>?_⟩,fun x c e=>?_,?_,fun x c e=>I3.iO x c (S.sub x c e),fun p hp=>absurd hp (by intro z; exact nomatch z),I3.cB.kept old,?_⟩
  ·have Yc:(tn ++ cn)[i]? =some x:=e1
   by_cases hi:i < tn.length
   ·unfold ui at e2
    rw[List.getElem?_append_left (by simpa using hi),List.getElem?_map] at e2
    cases h:tn[i]? with
    |none=>rw[h] at e2; cases e2
    |some _=>rw[h] at e2; cases e2
   ·rw[o4 (by lia)] at Yc
    obtain⟨j,hj,hN,hk,Mm⟩:=bO S.Yb Yc
    unfold ui at e2
    rw[List.getElem?_append_right (by simpa using hi),List.getElem?_map] at e2
    simp only[List.length_map,hj,Option.map_some] at e2
    have QW:σ[j]? =some (some v):=by
     cases h:σ[j]? with
     |none=>rw[h] at e2; cases e2
     |some q=>
      rw[h] at e2
      have QW:q=some v:=aE e2
      rw[QW]
    obtain⟨m,hn,hl⟩:=I3.loc
    have hv:Qi X.env.scope x:=by
     rcases hk with hk|hk
     ·exact .inr (.inl hk)
     ·exact .inr (.inr hk)
    obtain⟨u,r,l⟩:=hl j x v hN QW hv
    refine⟨u,r,?_⟩
    rcases l with⟨k,_⟩|⟨_,c,hc,md⟩
    ·rcases hk with hk|hk <;> (rw[k] at hk; cases hk)
    ·obtain⟨c',Kk⟩:=S.all x Mm
     have:=S.sub x c' Kk
     rw[hc] at this
     cases this
     obtain⟨o,ho,hd⟩:=md
     exact .inr ⟨Mm,c,Kk,⟨o,old _ _ ho,hd⟩⟩
  ·obtain⟨v,o,ho,hd⟩:=I3.cell x c (S.sub x c e)
   exact⟨v,o,old _ _ ho,hd⟩
  ·exact I3.cB.fresh (aB _)
  ·show(ui tn cj σ).length=(tn ++ cn).length
   unfold ui
   rw[aF,aF,ae,ae,S.Yb.length]
 have Yd:NF 0 h₁:=T.keep 0 _ _ Mh fun b _ o e=>old b o (Vt b o e)
 have rB: ∀{H':Hp},(∀b∈fp,H' b=none)-> ∀b∈fp,tW (Aq X (tn ++ cn) scope cl HH.objs.size {s2 with heap:=HH} (upd H2 s2.heap.objs.size (.lst [])) fp) [] H' b:=fun hn b hb=>
  ⟨hn b hb,(TL.Kh b hb).1,TL.vJ b hb,.inl hb,(TL.Kh b hb).2,fun p hp=>absurd hp (by intro z; exact nomatch z)⟩
 have Z3: ∀b∈fp,upd H2 s2.heap.objs.size (.lst []) b=none:=fun b hb=>by
  rw[az (aX (QV b hb))]
  exact(f2 b hb).1
 have loop:codeAny (model X.prog X.w) X.A (.compLoop (.ListComp elt [⟨tg,iter,ifs,0⟩] scope pos) 0 (.ref it) (.ref s2.heap.objs.size) (compEnvC scope cl HH.objs.size X.env))
    (RR (.ref s2.heap.objs.size) HH.objs.size) {s2 with heap:=h₁,toks:=s2.toks + ([]:List (Str×Value)).length}:=by
  refine Fy (fun n s'=> ∃i σ' H',Inv (Aq X (tn ++ cn) scope cl HH.objs.size {s2 with heap:=HH} (upd H2 s2.heap.objs.size (.lst [])) fp) [] σ' H' s'/\NF i s'.heap/\(∀b∈fp,H' b=none)/\W i n σ' H') ?_ m0 ⟨0,_,_,IY,Yd,Z3,w0⟩
  rintro n s3 ⟨i,σ3,H3,J3,Qx,Kn,w3⟩
  rcases turn i n σ3 H3 w3 with⟨stop,qn⟩|⟨go,N,hN,step⟩
  ·refine dY (T.done (Aq X (tn ++ cn) scope cl HH.objs.size {s2 with heap:=HH} (upd H2 s2.heap.objs.size (.lst [])) fp) rfl rfl rfl xp i [] s3 σ3 H3 _ J3 (rB Kn) Qx stop) fun r s4 ⟨hr,J4⟩=>?_
   subst hr
   obtain⟨m',UN,_⟩:=J4.loc
   exact Z1 _ _ s4 H3 m' (I3.DD (ch:=fp) J4.os J4.base J4.cB J4.bare fun b hb=>⟨(f2 b hb).2.2.2.1,(f2 b hb).2.1,(f2 b hb).2.2.2.2.1,(f2 b hb).2.2.2.2.2⟩) (I3.Fe (aB _) J4.free) UN qn
  ·refine dY (T.item (Aq X (tn ++ cn) scope cl HH.objs.size {s2 with heap:=HH} (upd H2 s2.heap.objs.size (.lst [])) fp) rfl rfl rfl xp i [] s3 σ3 H3 _ J3 (rB Kn) Qx go) fun r s4 ⟨u,hr,h4⟩=>?_
   subst hr
   refine dY h4 fun _ s5 ⟨x,H5,J5,r5,y5,Ni,Py⟩=>?_
   have Z4:=J5.pinned (rB Py) (T.obj _ _ Ni)
   refine dY (hg _ _ _ _ _ s5 σ3 H5 x u _ Z4 r5 (step x H5 y5)) fun _ s6 ⟨σ6,H6,J6,q6⟩=>?_
   have again: ∀{s7:Shared} {σ7:St} {H7:Hp},Inv (Aq X (tn ++ cn) scope cl HH.objs.size {s2 with heap:=HH} (upd H2 s2.heap.objs.size (.lst [])) fp) ([] ++ pj fp s5.heap) σ7 H7 s7->N σ7 H7->
     ∃m,m < n/\ ∃i σ' H',Inv (Aq X (tn ++ cn) scope cl HH.objs.size {s2 with heap:=HH} (upd H2 s2.heap.objs.size (.lst [])) fp) [] σ' H' s7/\NF i s7.heap/\(∀b∈fp,H' b=none)/\W i m σ' H':=fun{s7 σ7 H7} I7 n7=>by
    obtain⟨m',hm,w7⟩:=hN σ7 H7 n7
    refine⟨m',hm,i + 1,σ7,H7,I7.i9,T.keep _ _ _ Ni fun b hb o e=>(I7.pin (b,o) (bA _ (bA _ (jM hb e)))).1,fun b hb=>?_,w7⟩
    obtain⟨o,e,d⟩:=T.obj _ _ Ni b hb
    exact(I7.pin (b,o) (bA _ (bA _ (jM hb e)))).2.1
   refine dY (hc _ _ _ _ _ s6 σ6 H6 _ J6 q6) fun ok s7 ⟨H7,J7,q7⟩=>?_
   cases ok with
   |false=>exact again J7 q7
   |true=>
    refine dY (he _ _ _ _ _ s7 σ6 H7 _ J7 q7) fun y s8 ⟨yv,H8,J8,r8,ys,hD,hz,q8⟩=>?_
    refine dY (bU _ s8 σ6 H8 (.ref s2.heap.objs.size) [yv] (.ref s2.heap.objs.size) [y] (fun _ H'=>N σ6 H') J8 rfl (.cons r8 .nil) ⟨_,ys,yv,rfl,rfl,hD,hz,q8⟩) fun _ s9 ⟨_,H9,J9,_,q9⟩=>?_
    exact again J9 q9
 exact codeAny_compStart_list loop (T.self _ 0 _ _ _ Yd loop)
def Mn (wi:TI)(tn:List Str)(cj:List Nat)(g:TG)(tc:TT)(te:TE):TE:=fun σ H Q=>wi σ H fun J H2=>xn J g tc te (ui tn cj σ) H2 Q
theorem ja {X:Cx}{elt tg iter:Expr}{ifs:List Expr}{scope:Scope}{pos:Pos}{cl:List (Str×Addr)}{tn cn:List Str}{cj:List Nat}{wi:TI}{g:TG}{tc:TT}{te:TE}
  (xp:X.calm=true) (S:rF X scope cl cn cj) (hi:PI X tg iter wi)
  (hg: ∀C s3 H3 fp,PG (Aq X (tn ++ cn) scope cl C s3 H3 fp) tg g) (hc: ∀C s3 H3 fp,JN (Aq X (tn ++ cn) scope cl C s3 H3 fp) ifs tc) (he: ∀C s3 H3 fp,PE (Aq X (tn ++ cn) scope cl C s3 H3 fp) elt te)
  (hs: ∀x,foldedSetIterable iter X.env x=pure x:=by intro _; rfl):
  PE X (.ListComp elt [⟨tg,iter,ifs,0⟩] scope pos) (Mn wi tn cj g tc te):=by
 intro pins s σ H Q I h
 rw[eval_ListComp]
 refine wpAny_comprehension_free (use:=none) rfl hs S.Fz S.kind S.names (dY (hi pins s σ H _ I h) fun v s1 h1=>dY h1 fun TF s2 h2=>?_)
 obtain⟨it,fp,NF,J,H2,e,I2,T,Mh,f2,hw⟩:=h2
 subst e
 refine uj (RR:=fun acc C=>compPost (model X.prog X.w) X.A X.xe none (EP X pins σ Q) acc C) xp S hg hc he I2 T Mh f2 hw ?_
 intro D C s' H' m' I' FA hn q
 exact⟨m',hn,fun h' KI=>⟨.ref D,H',I'.turned (t':=s'.toks) (fun b o hb e=>(KI.2 b hb).trans e) FA.1 FA.2.1 FA.2.2.2.1 FA.2.2.2.2.1 FA.2.2.2.2.2,rfl,q⟩⟩
theorem jb {X:Cx}{i:Nat}{y:Str}{py QX:Pos}{elt tg iter:Expr}{ifs:List Expr}{scope:Scope}{pos:Pos}{cl:List (Str×Addr)}{tn cn:List Str}{cj:List Nat}{wi:TI}{g:TG}{tc:TT}{te:TE}
  (hN:X.N.Nodup) (hy:X.N[i]? =some y) (hx:Loc X.env.scope y)
  (xp:X.calm=true) (S:rF X scope cl cn cj) (hi:PI X tg iter wi)
  (hg: ∀C s3 H3 fp,PG (Aq X (tn ++ cn) scope cl C s3 H3 fp) tg g) (hc: ∀C s3 H3 fp,JN (Aq X (tn ++ cn) scope cl C s3 H3 fp) ifs tc) (he: ∀C s3 H3 fp,PE (Aq X (tn ++ cn) scope cl C s3 H3 fp) elt te)
  (Vu:swapsWith (.ListComp elt [⟨tg,iter,ifs,0⟩] scope pos) (some (.Name y py)) QX.line X.env=pure true:=by rfl)
  (hs: ∀x,foldedSetIterable iter X.env x=pure x:=by intro _; rfl)
  (hf:X.fn y=true∨X.env.scope.names.lookup y=some .local:=by first|exact .inl rfl|exact .inr rfl|assumption):
  PS X (.Assign [.Name y py] (.ListComp elt [⟨tg,iter,ifs,0⟩] scope pos) QX) (Km (Mn wi tn cj g tc te) (Ac i)):=by
 intro pins s σ H D I h
 rw[exec_Assign_Name_used _ _ _ _ Vu]
 refine aA (ir (aA ?_))
 show wpAny _ X.A (do let _ ← comprehension (.ListComp elt [⟨tg,iter,ifs,0⟩] scope pos) scope X.env _ (newList []) false (eval iter X.env) (some (assign (.Name y py) X.env))) _ _ s
 refine aA (cw (wpAny_comprehension_free (use:=some (assign (.Name y py) X.env)) (Q:=fun _ s'=>SP X pins D .next s') rfl hs S.Fz S.kind S.names
  (dY (hi pins s σ H _ I h) fun v s1 h1=>dY h1 fun TF s2 h2=>?_)) (fun _ s' hq=>bG (bG hq)) fun _ _ e=>e)
 obtain⟨it,fp,NF,J,H2,e,I2,T,Mh,f2,hw⟩:=h2
 subst e
 refine uj (RR:=fun acc C=>compPost (model X.prog X.w) X.A X.xe (some (assign (.Name y py) X.env)) (fun _ s'=>SP X pins D .next s') acc C) xp S hg hc he I2 T Mh f2 hw ?_
 intro D' C s' H' m' I' FA hn q
 show wpAny _ X.A (assign (.Name y py) X.env (.ref D')) _ _ _
 refine wpAny_assign_Name (wX I' hN hy hx (v:= .ref D') rfl (fun DO Z5 ⟨a,sb,ha⟩=>?_) hf)
 have Z6:C≠a:=by
  rcases ha with rfl|ha
  ·exact FA.2.1
  ·exact fun z=>FA.2.2.2.2.1 y a ha z.symm
 refine⟨m',hn.sameBut sb Z6,fun h3 PD=>⟨_,H',Z5.turned (t':=DO.toks) (fun b o hb e=>(PD.2 b hb).trans e) FA.1 FA.2.1 FA.2.2.2.1 FA.2.2.2.2.1 FA.2.2.2.2.2,q⟩⟩
theorem eo {K:PySem.W.Frag}{a:Addr}{xs:List V}{g:TG}{tc:TT}{te:TE}{σ0:St}{H2:Hp}{Q:VK}(Pv:Addr->Nat->St->Hp->Prop)(h0: ∀D,H2 D=none->Pv D 0 σ0 (upd H2 D (.lst [])))
  (hl: ∀D i σ H,i<=xs.length->Pv D i σ H->bL K H a xs)
  (hs: ∀D i x σ H,xs[i]? =some x->Pv D i σ H->g x σ H fun σ2 H2=>tc σ2 H2 fun ok H3=>if ok=true then te σ2 H3 fun y H4=> ∃ys,H4 D=some (.lst ys)/\ys.length < sizeLine/\Pv D (i + 1) σ2 (upd H4 D (.lst (ys ++ [y]))) else Pv D (i + 1) σ2 H3)
  (hd: ∀D σ H,H2 D=none->Pv D xs.length σ H->Q (.ref D) H):xn (Px K a) g tc te σ0 H2 Q:=by
 intro D hD
 refine⟨fun i m σ H=>m=xs.length - i/\i<=xs.length/\Pv D i σ H,⟨xs.length,by simp,Nat.zero_le _,h0 D hD⟩,?_⟩
 rintro i m σ H ⟨rfl,hi,p⟩
 have q:=hl D i σ H hi p
 by_cases iU:i < xs.length
 ·refine .inr ⟨⟨xs,xs[i],q,by simp[iU]⟩,Pv D (i + 1),fun σ' H' p'=>⟨xs.length - (i + 1),by lia,rfl,iU,p'⟩,fun x H' y=>?_⟩
  obtain⟨e,y⟩:=y
  subst e
  exact hs D i x σ _ (y xs q) p
 ·have e:i=xs.length:=by lia
  subst e
  exact .inl ⟨⟨xs,q,aB _⟩,hd D σ H hD p⟩
theorem HI {K:PySem.W.Frag}{a:Addr}{xs:List V}{g:TG}{tc:TT}{te:TE}{σ0:St}{H2:Hp}{Q:VK}(Pv:Addr->Nat->St->Hp->Prop)(h0: ∀D,H2 D=none->Pv D 0 σ0 (upd H2 D (.lst [])))
  (hl: ∀D i σ H,i<=xs.length->Pv D i σ H->cG K H a xs)
  (hs: ∀D i x σ H,xs[i]? =some x->Pv D i σ H->g x σ H fun σ2 H2=>tc σ2 H2 fun ok H3=>if ok=true then te σ2 H3 fun y H4=> ∃ys,H4 D=some (.lst ys)/\ys.length < sizeLine/\Pv D (i + 1) σ2 (upd H4 D (.lst (ys ++ [y]))) else Pv D (i + 1) σ2 H3)
  (hd: ∀D σ H,H2 D=none->Pv D xs.length σ H->Q (.ref D) H):xn (U0 K a) g tc te σ0 H2 Q:=by
 intro D hD
 refine⟨fun i m σ H=>m=xs.length - i/\i<=xs.length/\Pv D i σ H,⟨xs.length,by simp,Nat.zero_le _,h0 D hD⟩,?_⟩
 rintro i m σ H ⟨rfl,hi,p⟩
 have q:=hl D i σ H hi p
 by_cases iU:i < xs.length
 ·refine .inr ⟨⟨xs,xs[i],q,by simp[iU]⟩,Pv D (i + 1),fun σ' H' p'=>⟨xs.length - (i + 1),by lia,rfl,iU,p'⟩,fun x H' y=>?_⟩
  obtain⟨e,y⟩:=y
  subst e
  exact hs D i x σ _ (y xs q) p
 ·have e:i=xs.length:=by lia
  subst e
  exact .inl ⟨⟨xs,q,aB _⟩,hd D σ H hD p⟩
theorem Cz {lo:Int}{n:Nat}{g:TG}{tc:TT}{te:TE}{σ0:St}{H2:Hp}{Q:VK}(Pv:Addr->Nat->St->Hp->Prop)(h0: ∀D,H2 D=none->Pv D 0 σ0 (upd H2 D (.lst [])))
  (hs: ∀D i σ H,i < n->Pv D i σ H->g (.int (lo + i)) σ H fun σ2 H2=>tc σ2 H2 fun ok H3=>if ok=true then te σ2 H3 fun y H4=> ∃ys,H4 D=some (.lst ys)/\ys.length < sizeLine/\Pv D (i + 1) σ2 (upd H4 D (.lst (ys ++ [y]))) else Pv D (i + 1) σ2 H3)
  (hd: ∀D σ H,H2 D=none->Pv D n σ H->Q (.ref D) H):xn (Mg lo n) g tc te σ0 H2 Q:=by
 intro D hD
 refine⟨fun i m σ H=>m=n - i/\i<=n/\Pv D i σ H,⟨n,by simp,Nat.zero_le _,h0 D hD⟩,?_⟩
 rintro i m σ H ⟨rfl,hi,p⟩
 by_cases iU:i < n
 ·refine .inr ⟨iU,Pv D (i + 1),fun σ' H' p'=>⟨n - (i + 1),by lia,rfl,iU,p'⟩,fun x H' y=>?_⟩
  obtain⟨e,y⟩:=y
  subst e y
  exact hs D i σ _ iU p
 ·have e:i=n:=by lia
  subst e
  exact .inl ⟨aB _,hd D σ H hD p⟩
theorem Inv.CA {X:Cx}{pins:List (Addr×Obj)}{σ:St}{H:Hp}{s:Shared}{h':Heap}{a:Addr}{o:HO}{t':Nat}{ch:List Addr}(I:Inv X pins σ H s)(k: ∀b ob,b∉ch->s.heap.get? b=some ob->h'.get? b=some ob)
  (z6: ∀b∈ch,tW X pins H b) (hp:s.heap.objs.size<=a) (new:dC X.prog X.w (upd H a o) h' a o):Inv X pins σ (upd H a o) {s with heap:=h',toks:=t'}:=by
 have hn:H a=none:=I.cB.fresh hp
 have Qk: ∀b u,H b=some u->b∉ch:=fun b u e z=>by rw[(z6 b z).1] at e; cases e
 refine I.step (g':=s.gens) (d':=s.drawn) (ch:=ch) (fun b hb=>⟨(z6 b hb).2.2.2.1,(z6 b hb).2.1,(z6 b hb).2.2.2.2.1,(z6 b hb).2.2.2.2.2⟩) (fun b ob _ _ hc e _=>k b ob hc e) (fun b ob _ _ hc e _=>⟨ob.slots,k b ob hc e⟩)
  (fun b ob _ e n=>by rw[az (aX (bf (aK e) hp))]; exact n)
  (fun b ob hc e=>⟨ob,k b ob hc e⟩) (fun b xs e=>by rw[az (aL e hn)]; exact e) (fun b ob u e=>by rw[az (aL e hn)]; exact e) (fun b ps e=>⟨#[],by rw[az (aL e hn),e]; simp⟩) (fun m hm=>?_) (fun b u e=>?_) I.bare
 ·obtain⟨ob,es,ep,ho,r⟩:=hm
  exact⟨ob,es,ep,k _ ob (fun z=>(z6 _ z).2.1 rfl) ho,r⟩
 ·by_cases hb:b=a
  ·subst hb
   rw[ag] at e
   cases e
   exact new
  ·rw[az hb] at e
   refine(I.cB b u e).sV (fun c v hc q=>k c v ?_ q) (fun c q=>by rw[az (aL q hn)]; exact q) fun c xs q=>by rw[az (aL q hn)]; exact q
   rcases hc with z|z
   ·rw[z]; exact Qk b u e
   ·exact Qk c _ z
def QY (K:PySem.W.Frag)(a:Addr):It:=
 ⟨fun i H=> ∃xs x,bL K H a xs/\xs[i]? =some x,fun i H x H'=> ∃p y,H p=none/\x= .ref p/\H'=upd H p (.tup [.int i,y])/\ ∀xs,bL K H a xs->xs[i]? =some y,fun i H=> ∃xs,bL K H a xs/\xs.length<=i⟩
theorem FC {P:Program}{w:World}{K:PySem.W.Frag}{elts:List Expr}{k1}{pos:Pos}(a e it:Addr)(jc:e≠it):Turn P w K (.Tuple elts k1 pos) (QY K a) [e,it] e (fun i h=>(∃old,IsEnum h e it i old)/\h.IsListIter it a i) where
 mem:=by simp
 obj:=fun i h st b hb=>by
  obtain⟨⟨old,he⟩,hit⟩:=st
  have e1:b=e∨b=it:=by simpa using hb
  rcases e1 with rfl|rfl
  ·exact⟨_,he,fun v z=>by have z':Data.fields _ =Data.cell v:=z; cases z'⟩
  ·obtain⟨o,e,c,d⟩:=hit
   exact⟨o,e,fun v z=>by rw[d] at z; cases z⟩
 keep:=fun i h h' st k=>by
  obtain⟨⟨old,he⟩,hit⟩:=st
  exact⟨⟨old,k e (by simp) _ he⟩,hit.at fun o e=>k it (by simp) o e⟩
 item:=by
  intro X hP hw hK hc i pins s σ H E I hf st hg
  subst hP hw hK
  obtain⟨⟨old,he⟩,hit⟩:=st
  obtain⟨xs,x,hq,hx⟩:=hg
  obtain⟨cm,rv,p,hz⟩:=I.list hq
  obtain⟨u,hu,ru⟩:=rv.get hx
  refine wpAny_pyNext_enum_item he hit p.isList (x:=u) (by simpa using hu) jc fun h' ho Vv hT hsz hk=>⟨_,rfl,?_⟩
  refine wpAny_letOwnedTupleGo_enum ho fun h2 Z7 PB=>?_
  have iU:e < s.heap.objs.size:=aK he
  have FD:h2.get? s.heap.objs.size=some {cls:= .type "tuple",data:= .seq #[.int i s.toks,u]}:=(PB.2 _ (pV iU)).trans hT
  have hn:H s.heap.objs.size=none:=I.cB.fresh (aB _)
  have I2:Inv X pins σ (upd H s.heap.objs.size (.tup [.int i,x])) {s with heap:=h2,toks:=s.toks + 1}:=by
   refine I.CA (ch:=[e,it]) (fun b ob hb q=>?_) hf (aB _) ⟨by show 2<=sizeLine; decide,[.int i s.toks,u],.cons ⟨_,rfl⟩ (.cons ru .nil),⟨_,FD,rfl,_,rfl⟩⟩
   have pY:b≠e/\b≠it:=⟨fun z=>hb (by simp[z]),fun z=>hb (by simp[z])⟩
   exact(PB.2 b pY.1).trans (hk b ob pY.1 pY.2 q)
  refine⟨.ref s.heap.objs.size,_,I2,rfl,⟨_,x,hn,rfl,rfl,fun ys hy=>by rw[I.Ab hy hq]; exact hx⟩,⟨⟨u,by simpa using Z7⟩,Vv.at fun o q=>(PB.2 it jc.symm).trans q⟩,fun b hb=>?_⟩
  have PF:=hf b hb
  rw[az]
  ·exact PF.1
  ·have e1:b=e∨b=it:=by simpa using hb
   rcases e1 with rfl|rfl
   ·exact aX iU
   ·obtain⟨o,q,_⟩:=hit
    exact aX (aK q)
 done:=by
  intro X hP hw hK hc i pins s σ H E I hf st hg
  subst hP hw hK
  obtain⟨⟨old,he⟩,hit⟩:=st
  obtain⟨xs,hq,hx⟩:=hg
  obtain⟨cm,rv,p,hz⟩:=I.list hq
  obtain⟨f0,f1,f2,f3,f4,f5⟩:=hf it (by simp)
  have hl:=rv.length
  exact wpAny_pyNext_enum_end (I.ok.hd hc) he hit p.isList (by simp; lia) fun h' eb=>⟨rfl,I.turned (t':=s.toks) (fun b o hb e=>eb b o hb e) f0 f1 f3 f4 f5⟩
 self:=fun _ _ _ _ _ st h=>by
  obtain⟨⟨old,he⟩,hit⟩:=st
  exact wpAny_pyIter_enum he h
def QZ (K:PySem.W.Frag)(ta:TA):TI:=fun σ H R=>ta σ H fun vs H1=> ∃a,vs=[.ref a]/\(∃xs,bL K H1 a xs)/\R (QY K a) H1
theorem qr {X:Cx}{elts:List Expr}{k1}{Nl:Pos}{l:Expr}{ta:TA}{p pos:Pos}(hg:Gl X "enumerate")(hm:X.mg "enumerate"=none)(ha:PA X [l] ta)(hs:starEach [l] X.env=[(false,eval l X.env)]:=by rfl):
  PI X (.Tuple elts k1 Nl) (.Call (.Name "enumerate" p) [l] [] pos) (QZ X.K ta):=by
 intro pins s σ H R I h
 refine Call_ (o8 I hg hm boot_enumerate (og (dY (ha pos pins s σ H _ I h) fun us s1 ⟨vs,H1,I1,r1,q1⟩=>?_) hs rfl))
 obtain⟨a,e,⟨xs,hq⟩,q⟩:=q1
 subst e
 obtain⟨u,rfl,ru⟩:=vals1 r1
 cases ru
 obtain⟨cm,rv,pl,hz⟩:=I1.list hq
 refine call_enumerate_list pl.isList fun h' he hit hsz kp=>?_
 have I2:Inv X pins σ H1 {s1 with heap:=h'}:=I1.kept (t':=s1.toks) kp
 refine wpAny_pyIter_enum he ⟨s1.heap.objs.size + 1,[s1.heap.objs.size + 1,s1.heap.objs.size],_,_,H1,rfl,I2,FC a _ _ (Nat.succ_ne_self _),⟨⟨_,he⟩,hit⟩,fun b hb=>?_,q⟩
 have e1:b=s1.heap.objs.size + 1∨b=s1.heap.objs.size:=by simpa using hb
 have pY:s1.heap.objs.size<=b:=by
  rcases e1 with rfl|rfl
  ·exact cZ _
  ·exact aB _
 exact I1.Fe pY (I1.cB.fresh pY)
theorem mM {K:PySem.W.Frag}{a:Addr}{xs:List V}{g:TG}{tb:TS}{D:Ends}{σ:St}{H:Hp}(Pv:Nat->St->Hp->Prop)(h0:Pv 0 σ H)(hl: ∀i σ H,i<=xs.length->Pv i σ H->bL K H a xs)
  (hs: ∀i x p σ H,xs[i]? =some x->H p=none->Pv i σ H->g (.ref p) σ (upd H p (.tup [.int i,x])) fun σ2 H2=>tb {D with nx:=Pv (i + 1),ct:=Pv (i + 1),bk:=D.nx} σ2 H2) (hd: ∀σ H,Pv xs.length σ H->D.nx σ H):
  ∃W:Nat->Nat->St->Hp->Prop,(∃m,W 0 m σ H)/\ ∀i m σ H,W i m σ H->
   ((QY K a).stop i H/\D.nx σ H)∨((QY K a).go i H/\ ∃N:St->Hp->Prop,(∀σ' H',N σ' H'-> ∃m',m' < m/\W (i + 1) m' σ' H')/\ ∀x H',(QY K a).Pw i H x H'->g x σ H' fun σ2 H2=>tb {D with nx:=N,ct:=N,bk:=D.nx} σ2 H2):=by
 refine⟨fun i m σ H=>m=xs.length - i/\i<=xs.length/\Pv i σ H,⟨xs.length,by simp,Nat.zero_le _,h0⟩,?_⟩
 rintro i m σ H ⟨rfl,hi,p⟩
 have q:=hl i σ H hi p
 by_cases iU:i < xs.length
 ·refine .inr ⟨⟨xs,xs[i],q,by simp[iU]⟩,Pv (i + 1),fun σ' H' p'=>⟨xs.length - (i + 1),by lia,rfl,iU,p'⟩,fun x H' y=>?_⟩
  obtain⟨pp,y,h1,e1,e2,h2⟩:=y
  subst e1 e2
  exact hs i y pp σ _ (h2 xs q) h1 p
 ·have e:i=xs.length:=by lia
  subst e
  exact .inl ⟨⟨xs,q,aB _⟩,hd σ H p⟩
structure fe (P:Program)(w:World)(K:PySem.W.Frag)(mg:Str->Option Value)(base:Heap)(x:Str)(k:Nat)(ps:List Str)(sp:Sp):Prop where
 ex: ∃(f:Addr) (fd:FuncData),lN P w K mg base rE k f fd ps sp/\mg x=some (.ref f)/\PySem.W.keepIn K (.ref f)=true/\Binds K fd ps []
section
variable {X:Cx}{x:Str}{k:Nat}{ps:List Str}{sp:Sp}{e:Expr}{es:List Expr}{t:TA}{p pos:Pos}
theorem Q0 (C:fe X.prog X.w X.K X.mg X.base x k ps sp)(hr:eW k X.A)(hg:Gl X x)(ha:PA X (e :: es) t)(ql:(x == ("__debug__":Str))=false:=by decide)
  (he:starEach (e :: es) X.env=(false,eval e X.env) :: starEach es X.env:=by rfl) (iw:(backTo pos (starEach es X.env)).any (·.1)=false:=by rfl):PE X (.Call (.Name x p) (e :: es) [] pos) (ua sp [] E0 t):=by
 obtain⟨f,fd,F,hm,hk,hb⟩:=C.ex
 exact DN F hr hg hm hk hb .nil mL ha ql he iw
theorem HJ (C:fe X.prog X.w X.K X.mg X.base x k ps sp)(hr:eW k X.A)(hg:Gl X x)(ql:(x == ("__debug__":Str))=false:=by decide):PE X (.Call (.Name x p) [] [] pos) (ua sp [] E0 Ho):=by
 obtain⟨f,fd,F,hm,hk,hb⟩:=C.ex
 exact Hr F hr hg hm hk hb .nil mL ql
end
structure Df (K:PySem.W.Frag)(mg:Str->Option Value)(x:Str)(st:Stmt):Prop where
 ex: ∃(f:Addr) (fd:FuncData),gp K x x st f fd/\mg x=some (.ref f)
theorem Df.Z8 {P:Program}{w:World}{K:PySem.W.Frag}{mg:Str->Option Value}{base:Heap}{x:Str}{st:Stmt}{N ps:List Str}{k:Nat}{sp:Sp}(D:Df K mg x st)(S:aS N ps (ay st))
  (hb: ∀(kV doc pm:Value) (an:Option Addr) (cX ct:Value) (us:List Value),us.length=ps.length->bindArgs (PySem.W.fnOf x x (gH st) (dD st) (ay st) .none kV doc pm an cX ct) ⟨us,[]⟩=pure (ps.zip us))
  (len: ∀vs H Q E,sp vs H Q E->vs.length=ps.length)
  (fW: ∀(f:Addr) (cX:Value) (A:Around) (outer:List Env) (s:Shared) (H:Hp) (vs:List V) (Q:VK) (E:XK),eW k (A.deeper (envOfC x (ay st) s.heap.objs.size f cX))->sp vs H Q E->
   ∃t,oG (k7 rE P w K mg base N x (ay st) f cX A outer s H E).DF (dD st) t/\t {nx:=fun _ H'=>Q .en H',rt:=Q} (start N vs) H):fe P w K mg base x (k + 1) ps sp:=by
 obtain⟨f,fd,F,hm⟩:=D.ex
 exact⟨f,fd,F.ok S len (fW f),hm,F.kp,F.binds hb⟩
theorem yk {X:Cx}{scope:Scope}(wY: ∀y∈scope.names,y.2≠ .free)(md: ∀y∈scope.names,y.2≠ .cell)(mI:scope.kind= .function)(uk: ∀x∈scope.names,x.2= .local->scope.names.lookup x.1=some .local):rF X scope [] [] []:=by
 have e:(relabel scope X.env).names=scope.names:=map_eq_self (l:=scope.names) (fun x hx=>by
  obtain⟨n,k⟩:=x
  have:(k == NameKind.free)=false:=by simpa using wY _ hx
  simp[this])
 refine⟨closureFor_none wY,md,mI,uk,fun x c h=>by simp at h,fun x h=>?_,.nil⟩
 rw[e] at h
 rcases h with h|h
 ·exact absurd rfl (md _ (cv h))
 ·exact absurd rfl (wY _ (cv h))
theorem i0 {X:Cx}{scope:Scope}{x:Str}{c:Addr}{j:Nat}(Fz:closureFor scope X.env=pure [(x,c)])(md: ∀y∈scope.names,y.2≠ .cell)(mI:scope.kind= .function)(uk: ∀x∈scope.names,x.2= .local->scope.names.lookup x.1=some .local)
  (hx:X.env.cells.lookup x=some c) (Q1:List (Str×NameKind)) (Q2:(relabel scope X.env).names=Q1) (BY: ∀y∈Q1,(y.2= .cell∨y.2= .free)->y.1=x) (hN:X.N[j]? =some x) (hk:X.env.kindOf x=some .cell∨X.env.kindOf x=some .free)
  (Mm:(relabel scope X.env).names.lookup x=some .cell∨(relabel scope X.env).names.lookup x=some .free):rF X scope [(x,c)] [x] [j]:=by
 refine⟨Fz,md,mI,uk,fun y c' h=>?_,fun y h=>?_,.cons ⟨hN,hk,Mm⟩ .nil⟩
 ·have h':=cv h
  have e:(y,c')=(x,c):=by simpa using h'
  cases e
  exact hx
 ·have e:y=x:=by
   rcases h with h|h
   ·rw[Q2] at h
    exact BY _ (cv h) (.inl rfl)
   ·rw[Q2] at h
    exact BY _ (cv h) (.inr rfl)
  subst e
  exact⟨c,by simp[List.lookup_cons]⟩
section
variable {X:Cx}
def Q3 (i j:Int):Prop:=Builtin.Int.intBits i<=2 ^ 20/\Builtin.Int.intBits j<=2 ^ 20
theorem KJ:ou X (binaryOp .Mult) (rI Q3 fun i j=> .int (i * j)):=Qy fun _ _ _ _ _ _ _ hc q=>mul_int q (.of_bits hc.1 hc.2)
end
section
variable {prog:Program}{w:World}{A:Around}{E:Value->Shared->Prop}{s:Shared}
end
section
variable {X:Cx}
theorem fu:iu X (.builtin "isinstance") (fun xs H Q=> ∃x c t b,xs=[x,.ty c]/\mG X.K H x t/\PySem.W.kitOne X.K t (.type c)=some b/\Q (.bl b) H):=by
 intro pins s σ H xs us Q I r h
 obtain⟨x,c,t,b,rfl,ty,e,q⟩:=h
 obtain⟨u,u2,rfl,r1,r2⟩:=vals2 r
 obtain rfl:u2=Value.type c:=r2
 exact Fm I r1 ty e fun tk=>⟨.bl b,H,I.tok _,rfl,q⟩
theorem DV: ∀{cs:List String} {us:List Value},Vals (cs.map V.ty) us->us=cs.map Value.type
 |[],_,r=>by rw[vB] at r; cases r; rfl
 |c :: cs,_,r=>by
  rw[c9] at r
  cases r with
  |cons r1 r2=>
   have e1:_ =Value.type c:=r1
   rw[e1,DV r2,c9]
theorem CB {pins:List (Addr×Obj)}{σ:St}{H:Hp}{s:Shared}{A:Around}{E:Value->Shared->Prop}{Q:Value->Shared->Prop}{x:V}{u t:Value}{tp:Addr}{cs:List String}{b:Bool}(I:Inv X pins σ H s)(rx:RelV x u)(ty:mG X.K H x t)
  (hp:H tp=some (.tup (cs.map V.ty))) (e:PySem.W.kitAny X.K t (cs.map Value.type)=some b) (h: ∀tk,Q (.bool b) {s with toks:=tk}):
  wpAny (model X.prog X.w) A (call (.builtin "isinstance") [u,.ref tp]) Q E s:=by
 obtain⟨_,cm,rv,⟨cl,dd,dt,sl⟩,hg,hc,n,hd⟩:=(show dC X.prog X.w H s.heap tp (.tup (cs.map V.ty)) from I.cB tp _ hp)
 have ei:=DV rv
 subst ei
 simp only at hc hd
 subst hc hd
 cases ty with
 |en=>cases(show u=Value.none from rx); exact ej PySem.W.kitx_none I.gN True.intro hg e (fun z=>nomatch z) h
 |bl y=>cases(show u=Value.bool y from rx); exact ej PySem.W.kitx_bool I.gN True.intro hg e (fun z=>nomatch z) h
 |int i=>obtain⟨t,q⟩:=(show ∃t,u=Value.int i t from rx); cases q; exact ej PySem.W.kitx_int I.gN True.intro hg e (fun z=>nomatch z) h
 |str y=>obtain⟨t,q⟩:=(show ∃t,u=Value.str y t from rx); cases q; exact ej PySem.W.kitx_str I.gN True.intro hg e (fun z=>nomatch z) h
 |Ke y=>obtain⟨t,q⟩:=(show ∃t,u=Value.float y t from rx); cases q; exact ej PySem.W.kitx_float I.gN True.intro hg e (fun z=>nomatch z) h
 | @lst a xs ea=>
  cases(show u=Value.ref a from rx)
  obtain⟨_,_,n,_,h1⟩:=(show dC X.prog X.w H s.heap a (.lst xs) from I.cB a _ ea)
  exact ej rh I.gN ⟨_,h1,rfl⟩ hg e (fun z=>nomatch z) h
 | @BX a ob xs ea=>
  cases(show u=Value.ref a from rx)
  obtain⟨_,_,_,n,_,h1⟩:=(show dC X.prog X.w H s.heap a (.BX ob (.lst xs)) from I.cB a _ ea)
  exact ej rh I.gN ⟨_,h1,rfl⟩ hg e (fun z=>nomatch z) h
 | @tup a xs ea=>
  cases(show u=Value.ref a from rx)
  obtain⟨_,_,_,p⟩:=(show dC X.prog X.w H s.heap a (.tup xs) from I.cB a _ ea)
  obtain⟨o,h1,h2,_⟩:=p
  exact ej PySem.W.kitx_tuple I.gN ⟨o,h1,h2⟩ hg e (fun z=>nomatch z) h
 | @dK a bc ea=>
  cases(show u=Value.ref a from rx)
  obtain⟨_,_,vs,_,p⟩:=(show dC X.prog X.w H s.heap a (.dK bc) from I.cB a _ ea)
  obtain⟨o,es,ep,h1,h2,_⟩:=p
  exact ej rj I.gN ⟨o,h1,h2.1⟩ hg e (fun z=>nomatch z) h
 | @dT a bc ea=>
  cases(show u=Value.ref a from rx)
  obtain⟨_,_,xs,_,o,es,ep,h1,h2,_⟩:=(show dC X.prog X.w H s.heap a (.dT bc) from I.cB a _ ea)
  exact ej rj I.gN ⟨o,h1,h2.1⟩ hg e (fun z=>nomatch z) h
 | @ins a C dx fs ea cl ha hn mH hm=>
  cases(show u=Value.ref a from rx)
  obtain⟨mA,O,_⟩:=qj I.cB ea
  obtain⟨od,J,_⟩:=O.look
  exact ej (PySem.W.kitx_own (cl.get _) cl.hd ha hn mH hm) I.gN J hg e (fun z=>nomatch z) h
theorem CC:iu X (.builtin "isinstance") (fun xs H Q=> ∃(x:V) (tp:Addr) (cs:List String) (t:Value) (b:Bool),xs=[x,.ref tp]/\H tp=some (.tup (cs.map V.ty))/\mG X.K H x t/\PySem.W.kitAny X.K t (cs.map Value.type)=some b/\Q (.bl b) H):=by
 intro pins s σ H xs us Q I r h
 obtain⟨x,tp,cs,t,b,rfl,hp,ty,e,q⟩:=h
 obtain⟨u,u2,rfl,r1,r2⟩:=vals2 r
 obtain rfl:u2=Value.ref tp:=r2
 exact CB I r1 ty hp e fun tk=>⟨.bl b,H,I.tok _,rfl,q⟩
def NI (K:PySem.W.Frag):R2:=fun x y H Q=> ∃a b xs,x= .ref a/\y= .ref b/\bL K H a xs/\bL K H b []/\Q (.bl (!xs.isEmpty)) H
theorem HL {n:Nat}(hu:X.A.units + n < cLine):ou X (compareOp .NotEq) (NI X.K):=by
 intro pins s σ H x y v u Q I rx ry h
 obtain⟨a,b,xs,rfl,rfl,ha,hb,q⟩:=h
 cases rx
 cases ry
 obtain⟨cm,r1,p1,_⟩:=I.list ha
 obtain⟨Fq,r2,p2,_⟩:=I.list hb
 have e2:Fq=[]:=r2.zero
 subst e2
 cases xs with
 |nil=>
  have e1:cm=[]:=r1.zero
  subst e1
  exact SeqAt.RcNeAt.lists (e:=fun _=>true) p1.isList p2.isList rfl (by lia) (fun j h1 _=>absurd h1 (by simp)) X.prog X.w X.xe _ ⟨.bl false,H,I,rfl,q⟩
 |cons z zs=>
  have l1:=r1.length
  exact SeqAt.RcNeAt.lists_lengths p1.isList p2.isList (by simp only[List.size_toArray,← l1]; simp) (by lia) X.prog X.w X.xe _ ⟨.bl true,H,I,rfl,q⟩
def Vw (K:PySem.W.Frag):R2:=fun x y H Q=> ∃p xs i v,x= .ref p/\y= .int i/\(bL K H p xs∨cG K H p xs)/\tH xs i=some v/\Q v H
theorem Mo:Hv X (Vw X.K):=by
 intro value slice pins s σ H x y v u Q I rx ry h hs
 obtain⟨p,xs,i,z,e1,e2,hq|hq,he,q⟩:=h
 ·exact yg value slice pins s σ H x y v u Q I rx ry ⟨p,xs,i,z,e1,e2,hq,he,q⟩ hs
 ·exact Cr value slice pins s σ H x y v u Q I rx ry ⟨p,xs,i,z,e1,e2,hq,he,q⟩ hs
end
theorem aG.new {H:Hp}{p:Addr}{o:HO}(h:H p=none):aG H (upd H p o):=fun b u e=>by rw[az (aL e h)]; exact e
def Vx (t u:TS):TS:=fun D σ H=> ∃M:St->Hp->Prop,t {D with nx:=M} σ H/\ ∀σ' H',M σ' H'->u D σ' H'
theorem jy {X:Cx}{st:Stmt}{rest:List Stmt}{t u:TS}(h1:PS X st t)(h2:oG X rest u):oG X (st :: rest) (Vx t u):=by
 intro pins s σ H D I ⟨M,h,hM⟩
 refine wpAny_execs_cons (dY (h1 pins s σ H {D with nx:=M} I h) fun f s1 q=>?_)
 cases f with
 |next=>
  obtain⟨σ',H',I',q⟩:=q
  exact h2 pins s1 σ' H' D I' (hM _ _ q)
 |ret v=>exact q
 |brk=>exact q
 |cont=>exact q
section
variable {X:Cx}{K:PySem.W.Frag}
theorem jd (h:X.K=K):Hv X (Np K):=by subst h; exact yg
theorem tK (h:X.K=K):Hv X (Nq K):=by subst h; exact Cr
end
inductive Dt where
 |en|bl (b:Bool)|int (i:Int)|str (x:Str)|tup (ds:List Dt)|lst (ds:List Dt)
mutual
def Rp (H:Hp):Dt->V->Prop
 | .en,v=>v= .en
 | .bl b,v=>v= .bl b
 | .int i,v=>v= .int i
 | .str x,v=>v= .str x
 | .tup ds,v=> ∃a xs,v= .ref a/\H a=some (.tup xs)/\iJ H ds xs
 | .lst ds,v=> ∃a xs,v= .ref a/\H a=some (.lst xs)/\iJ H ds xs
def iJ (H:Hp):List Dt->List V->Prop
 |[],vs=>vs=[]
 |d :: ds,vs=> ∃v r,vs=v :: r/\Rp H d v/\iJ H ds r
end
mutual
def Dt.size:Dt->Nat
 | .tup ds=>1 + Dt.fB ds
 | .lst ds=>1 + Dt.fB ds
 | .en=>1
 | .bl _=>1
 | .int _=>1
 | .str _=>1
def Dt.fB:List Dt->Nat
 |[]=>0
 |d :: ds=>d.size + Dt.fB ds
end
theorem Dt.size_pos (d:Dt):1<=d.size:=by cases d <;> simp[Dt.size]
theorem Dt.ix (a b:List Dt):Dt.fB (a ++ b)=Dt.fB a + Dt.fB b:=by
 induction a with
 |nil=>simp[Dt.fB]
 |cons d ds ih=>simp[Dt.fB,ih]; lia
theorem Dt.qt (a:List Dt):a.length<=Dt.fB a:=by
 induction a with
 |nil=>simp[Dt.fB]
 |cons d ds ih=>
  have:=d.size_pos
  simp[Dt.fB]; lia
theorem um {H:Hp}{v:V}:Rp H .en v↔v= .en:=by unfold Rp; exact Iff.rfl
theorem qu {H:Hp}{v:V}{b:Bool}:Rp H (.bl b) v↔v= .bl b:=by unfold Rp; exact Iff.rfl
theorem eB {H:Hp}{v:V}{i:Int}:Rp H (.int i) v↔v= .int i:=by unfold Rp; exact Iff.rfl
theorem gZ {H:Hp}{v:V}{x:Str}:Rp H (.str x) v↔v= .str x:=by unfold Rp; exact Iff.rfl
theorem jO {H:Hp}{v:V}{ds:List Dt}:Rp H (.tup ds) v↔ ∃a xs,v= .ref a/\H a=some (.tup xs)/\iJ H ds xs:=by unfold Rp; exact Iff.rfl
theorem jP {H:Hp}{v:V}{ds:List Dt}:Rp H (.lst ds) v↔ ∃a xs,v= .ref a/\H a=some (.lst xs)/\iJ H ds xs:=by unfold Rp; exact Iff.rfl
theorem dW {H:Hp}{vs:List V}:iJ H [] vs↔vs=[]:=by unfold iJ; exact Iff.rfl
theorem bX {H:Hp}{d:Dt}{ds:List Dt}{vs:List V}:iJ H (d :: ds) vs↔ ∃v r,vs=v :: r/\Rp H d v/\iJ H ds r:=by
 conv=>lhs; unfold iJ
mutual
theorem Rp.mono {H H':Hp}(s:aG H H'): ∀(d:Dt) {v:V},Rp H d v->Rp H' d v
 | .en,_,h=>um.mpr (um.mp h)
 | .bl _,_,h=>qu.mpr (qu.mp h)
 | .int _,_,h=>eB.mpr (eB.mp h)
 | .str _,_,h=>gZ.mpr (gZ.mp h)
 | .tup ds,_,h=>by
  obtain⟨a,xs,e,h1,h2⟩:=jO.mp h
  exact jO.mpr ⟨a,xs,e,s _ _ h1,iJ.mono s ds h2⟩
 | .lst ds,_,h=>by
  obtain⟨a,xs,e,h1,h2⟩:=jP.mp h
  exact jP.mpr ⟨a,xs,e,s _ _ h1,iJ.mono s ds h2⟩
theorem iJ.mono {H H':Hp}(s:aG H H'): ∀(ds:List Dt) {vs:List V},iJ H ds vs->iJ H' ds vs
 |[],_,h=>dW.mpr (dW.mp h)
 |d :: ds,_,h=>by
  obtain⟨v,r,e,h1,h2⟩:=bX.mp h
  exact bX.mpr ⟨v,r,e,Rp.mono s d h1,iJ.mono s ds h2⟩
end
theorem iJ.length {H:Hp}: ∀{ds:List Dt} {vs:List V},iJ H ds vs->ds.length=vs.length
 |[],_,h=>by rw[dW.mp h]; rfl
 |d :: ds,_,h=>by
  obtain⟨v,r,e,_,h2⟩:=bX.mp h
  rw[e,cf,cf,iJ.length h2]
theorem iJ.get {H:Hp}: ∀{ds:List Dt} {vs:List V} {i:Nat} {d:Dt},iJ H ds vs->ds[i]? =some d-> ∃v,vs[i]? =some v/\Rp H d v
 |[],_,_,_,_,e=>by simp at e
 |d :: ds,_,0,_,h,e=>by
  obtain⟨v,r,rfl,h1,_⟩:=bX.mp h
  simp at e; subst e
  exact⟨v,rfl,h1⟩
 |d :: ds,_,i + 1,_,h,e=>by
  obtain⟨v,r,rfl,_,h2⟩:=bX.mp h
  obtain⟨u,h3,h4⟩:=iJ.get (i:=i) h2 (by simpa using e)
  exact⟨u,by simpa using h3,h4⟩
theorem iJ.append {H:Hp}: ∀{ds es:List Dt} {vs us:List V},iJ H ds vs->iJ H es us->iJ H (ds ++ es) (vs ++ us)
 |[],_,_,_,h,h'=>by rw[dW.mp h]; exact h'
 |d :: ds,_,_,_,h,h'=>by
  obtain⟨v,r,rfl,h1,h2⟩:=bX.mp h
  exact bX.mpr ⟨v,r ++ _,rfl,h1,iJ.append h2 h'⟩
theorem iJ.one {H:Hp}{d:Dt}{v:V}(h:Rp H d v):iJ H [d] [v]:=bX.mpr ⟨v,[],rfl,h,dW.mpr rfl⟩
theorem iJ.ints {H:Hp}: ∀(ns:List Int),iJ H (ns.map Dt.int) (ns.map V.int)
 |[]=>dW.mpr rfl
 |n :: ns=>bX.mpr ⟨_,_,rfl,eB.mpr rfl,iJ.ints ns⟩
theorem lR {H:Hp}{a:Addr}{xs:List V}{ds:List Dt}(h:H a=some (.lst xs))(r:iJ H ds xs):Rp H (.lst ds) (.ref a):=jP.mpr ⟨a,xs,rfl,h,r⟩
theorem fX {H:Hp}{a:Addr}{xs:List V}{ds:List Dt}(h:H a=some (.tup xs))(r:iJ H ds xs):Rp H (.tup ds) (.ref a):=jO.mpr ⟨a,xs,rfl,h,r⟩
def NJ:Dt->String
 | .en=>"NoneType"| .bl _=>"bool"| .int _=>"int"| .str _=>"str"| .tup _=>"tuple"| .lst _=>"list"
theorem Rp.ty {K:PySem.W.Frag}{H:Hp}{d:Dt}{v:V}(h:Rp H d v):mG K H v (.type (NJ d)):=by
 cases d with
 |en=>rw[um.mp h]; exact .en
 |bl b=>rw[qu.mp h]; exact .bl b
 |int i=>rw[eB.mp h]; exact .int i
 |str x=>rw[gZ.mp h]; exact .str x
 |tup ds=>obtain⟨a,xs,e,h1,_⟩:=jO.mp h; rw[e]; exact .tup h1
 |lst ds=>obtain⟨a,xs,e,h1,_⟩:=jP.mp h; rw[e]; exact .lst h1
def Vy:Dt->Bool| .lst _=>true|_=>false
def Vz:Dt->Bool| .tup _=>true|_=>false
def isLT:Dt->Bool| .lst _=>true| .tup _=>true|_=>false
def TM:Dt->Bool| .str _=>true|_=>false
def Z9:Dt->Bool| .bl _=>true|_=>false
def Ye:Dt->Bool| .int _=>true| .bl _=>true|_=>false
def isW:Dt->Bool| .int _=>true|_=>false
theorem HM {K:PySem.W.Frag}(d:Dt):PySem.W.kitOne K (.type (NJ d)) (.type "list")=some (Vy d):=by cases d <;> (first|rfl|decide +kernel)
theorem HN {K:PySem.W.Frag}(d:Dt):PySem.W.kitOne K (.type (NJ d)) (.type "tuple")=some (Vz d):=by cases d <;> (first|rfl|decide +kernel)
theorem xq {K:PySem.W.Frag}(d:Dt):PySem.W.kitOne K (.type (NJ d)) (.type "str")=some (TM d):=by cases d <;> (first|rfl|decide +kernel)
theorem Mp {K:PySem.W.Frag}(d:Dt):PySem.W.kitOne K (.type (NJ d)) (.type "bool")=some (Z9 d):=by cases d <;> (first|rfl|decide +kernel)
theorem Q4 {K:PySem.W.Frag}(d:Dt):PySem.W.kitOne K (.type (NJ d)) (.type "int")=some (Ye d):=by cases d <;> (first|rfl|decide +kernel)
theorem NK {K:PySem.W.Frag}(d:Dt):PySem.W.kitAny K (.type (NJ d)) [.type "list",.type "tuple"]=some (isLT d):=by
 unfold PySem.W.kitAny
 rw[HM]
 cases d <;> (first|rfl|(show PySem.W.kitAny K _ [.type "tuple"]=_; unfold PySem.W.kitAny; rw[HN]; rfl))
theorem sm {α β:Type}{F:α->β->Prop}: ∀{l₁:List α} {l₂:List β} {y:β},Paired F l₁ l₂->l₂[l₂.length - 1]? =some y-> ∃l d,l₁=l ++ [d]/\F d y/\Paired F l l₂.dropLast
 |_,_,_,.nil,e=>by simp at e
 |a :: l₁,b :: l₂,y,.cons r t,e=>by
  cases t with
  |nil=>
   simp at e; subst e
   exact⟨[],a,rfl,r,.nil⟩
  |cons r' t'=>
   rename_i a' b' m₁ m₂
   have e':(b' :: m₂)[(b' :: m₂).length - 1]? =some y:=by
    have h1:(b :: b' :: m₂).length - 1=((b' :: m₂).length - 1) + 1:=by simp
    rw[h1] at e
    simpa using e
   obtain⟨l,d,e1,h1,h2⟩:=sm (.cons r' t') e'
   refine⟨a :: l,d,by rw[e1]; rfl,h1,?_⟩
   rw[List.dropLast_cons_of_ne_nil (by simp)]
   exact .cons r h2
def lS (H H':Hp)(d:Dt)(v:V):Prop:= ∃t u1 u2,v= .ref t/\H' t=some (.tup [u1,u2])/\Rp H d u1/\Rp H d u2
theorem lS.mono {H H' H2:Hp}{d:Dt}{v:V}(h:lS H H' d v)(k: ∀b xs,H' b=some (.tup xs)->H2 b=some (.tup xs)):lS H H2 d v:=by
 obtain⟨t,u1,u2,e,h1,h2⟩:=h
 exact⟨t,u1,u2,e,k _ _ h1,h2⟩
theorem HP {H:Hp}{p:Addr}{o:HO}(h:H p=none): ∀b xs,H b=some (.tup xs)->upd H p o b=some (.tup xs):=fun b xs e=>aG.new h b _ e
theorem dP {H:Hp}{p:Addr}{o:HO}{ys:List V}(h:H p=some (.lst ys)): ∀b xs,H b=some (.tup xs)->upd H p o b=some (.tup xs):=fun b xs e=>by
 rw[az (ma e h (by intro z; cases z))]; exact e
theorem aG.dj {H0 H:Hp}{p:Addr}{o:HO}(s:aG H0 H)(h:H0 p=none):aG H0 (upd H p o):=fun b u e=>by
 rw[az (aL e h)]; exact s b u e
def kids:Dt->List Dt
 | .tup ds=>ds
 | .lst ds=>ds
 |_=>[]
theorem DW {H:Hp}{d:Dt}{v:V}(h:Rp H d v)(hd:isLT d=true): ∃a xs,v= .ref a/\(∀(K:PySem.W.Frag) (H':Hp),aG H H'->bL K H' a xs∨cG K H' a xs)/\iJ H (kids d) xs:=by
 cases d with
 |tup ds=>
  obtain⟨a,xs,e,h1,h2⟩:=jO.mp h
  exact⟨a,xs,e,fun K H' s=> .inr (cG.of (s _ _ h1)),h2⟩
 |lst ds=>
  obtain⟨a,xs,e,h1,h2⟩:=jP.mp h
  exact⟨a,xs,e,fun K H' s=> .inl (bL.of (s _ _ h1)),h2⟩
 |_=>cases hd
theorem FE {d:Dt}(hd:isLT d=true):d.size=1 + Dt.fB (kids d):=by
 cases d with
 |tup ds=>simp[Dt.size,kids]
 |lst ds=>simp[Dt.size,kids]
 |_=>cases hd
mutual
def Dt.plain:Dt->Bool
 | .int _=>true
 | .str _=>true
 | .tup ds=>Dt.lT ds
 | .lst ds=>Dt.lT ds
 | .en=>false
 | .bl _=>false
def Dt.lT:List Dt->Bool
 |[]=>true
 |d :: ds=>d.plain && Dt.lT ds
end
theorem Dt.pB {ds:List Dt}:Dt.lT ds=true↔ ∀d∈ds,d.plain=true:=by
 induction ds with
 |nil=>simp[Dt.lT]
 |cons d ds ih=>simp[Dt.lT,ih]
theorem CD {d:Dt}(h:d.plain=true): ∀c∈kids d,c.plain=true:=by
 cases d with
 |tup ds=>exact Dt.pB.mp (by simpa[Dt.plain,kids] using h)
 |lst ds=>exact Dt.pB.mp (by simpa[Dt.plain,kids] using h)
 |_=>intro c hc; cases hc
theorem sX {ds:List Dt}{i:Nat}{d:Dt}(h:ds[i]? =some d):ds.take (i + 1)=ds.take i ++ [d]:=by rw[E2,h]; rfl
theorem vO (ds:List Dt)(i:Nat):Dt.fB (ds.take i)<=Dt.fB ds:=by
 have:=Dt.ix (ds.take i) (ds.drop i)
 rw[List.take_append_drop] at this
 lia
theorem i6 {n:Nat}(h:n<=1000000):n < sizeLine:=pW h (by rw[eU]; decide)
open PySem.W
def jQ {α:Type}(key:Nat->Int)(n:Nat)(Po:α->Prop):KasT α->Prop
 | .ret a=>Po a
 | .ask i j k=>i < n/\j < n/\jQ key n Po (k (decide (key i < key j)))
theorem g6 {α:Type}{key:Nat->Int}{n:Nat}{Po Yf:α->Prop}(h: ∀a,Po a->Yf a): ∀(t:KasT α),jQ key n Po t->jQ key n Yf t
 | .ret a,q=>h a q
 | .ask i j k,q=>⟨q.1,q.2.1,g6 h _ q.2.2⟩
theorem iV {α β:Type}{key:Nat->Int}{n:Nat}{Po:β->Prop}{f:α->KasT β}: ∀(t:KasT α),jQ key n (fun a=>jQ key n Po (f a)) t->jQ key n Po (t.bind f)
 | .ret a,q=>q
 | .ask i j k,q=>⟨q.1,q.2.1,iV _ q.2.2⟩
theorem uo {α:Type}{key:Nat->Int}{n:Nat}{Po:α->Prop}{cmp:Nat->Nat->(Bool->Shared->Prop)->Shared->Prop}{s:Shared}{Q:α->Shared->Prop}
  (hc: ∀i j (C:Bool->Shared->Prop),i < n->j < n->C (decide (key i < key j)) s->cmp i j C s) (hq: ∀a,Po a->Q a s): ∀(t:KasT α),jQ key n Po t->t.kasWp cmp Q s
 | .ret a,q=>hq a q
 | .ask i j k,q=>hc i j _ q.1 q.2.1 (uo hc hq _ q.2.2)
def kf (key:Nat->Int)(p:Array Nat)(i:Nat):Int:=key (p.getD i 0)
def qv (n:Nat)(p:Array Nat):Prop:=p.Perm (List.toArray (List.range n))
theorem qv.size {n:Nat}{p:Array Nat}(h:qv n p):p.size=n:=by
 have:=Array.Perm.size_eq h
 simpa using this
theorem qv.lt {n:Nat}{p:Array Nat}(h:qv n p)(h0:0 < n)(i:Nat):p.getD i 0 < n:=by
 by_cases hi:i < p.size
 ·have e:p.getD i 0=p[i]:=by simp[Array.getD,hi]
  rw[e]
  have hm:p[i]∈p:=Array.getElem_mem hi
  have:=(Array.Perm.mem_iff h).mp hm
  simpa using this
 ·have e:p.getD i 0=0:=by simp[Array.getD,hi]
  rw[e]; exact h0
theorem qw {p q:Array Nat}{i j:Nat}(h:p[i]? =q[j]?):p.getD i 0=q.getD j 0:=by
 rw[J2,J2,h]
theorem pC {key:Nat->Int}{p:Array Nat}{i j:Nat}(hj:j<=p.size)(a:Nat):kf key (kas_rev p i j) a=if i<=a/\a < j then kf key p (i + j - 1 - a) else kf key p a:=by
 have:=getElem?_mirror_all (xs:=p) (i:=i) hj a
 by_cases h:i<=a/\a < j
 ·rw[a7 h] at this ⊢
  exact c8 key (qw this)
 ·rw[aO h] at this ⊢
  exact c8 key (qw this)
theorem qv.rev {n:Nat}{p:Array Nat}(h:qv n p)(i j:Nat):qv n (kas_rev p i j):=(mirror_perm p i j _).trans h
theorem HQ {key:Nat->Int}{p:Array Nat}{src d:Nat}(hs:src < p.size)(hd:d<=src)(k:Nat):kf key (bubble p src d) k=if k=src - d then kf key p src else if src - d < k/\k<=src then kf key p (k - 1) else kf key p k:=by
 have:=getElem?_bubble (xs:=p) hs d hd k
 by_cases h:k=src - d
 ·rw[a7 h] at this ⊢
  exact c8 key (qw this)
 ·rw[aO h] at this ⊢
  by_cases h2:src - d < k/\k<=src
  ·rw[a7 h2] at this ⊢
   exact c8 key (qw this)
  ·rw[aO h2] at this ⊢
   exact c8 key (qw this)
def lg (key:Nat->Int)(p:Array Nat)(m:Nat):Prop:= ∀a b,a<=b->b < m->kf key p a<=kf key p b
def HR (key:Nat->Int)(p:Array Nat)(m:Nat):Prop:= ∀a b,a<=b->b < m->kf key p b<=kf key p a
section
variable {key:Nat->Int}{n:Nat}
theorem HS {p:Array Nat}(hp:qv n p)(h0:0 < n): ∀(f m:Nat),1<=m->lg key p m->jQ key n (fun r=>m<=r/\r<=m + f/\lg key p r/\(r=m + f∨kf key p r < kf key p (r - 1))) (kas_asc p f m)
 |0,m,h1,hs=>⟨aB _,aB _,hs,.inl rfl⟩
 |f + 1,m,h1,hs=>by
  unfold kas_asc
  refine⟨hp.lt h0 _,hp.lt h0 _,?_⟩
  by_cases c:key (p.getD m 0) < key (p.getD (m - 1) 0)
  ·rw[decide_eq_true c]; dsimp only; rw[if_pos rfl]
   exact⟨aB _,by lia,hs,.inr c⟩
  ·rw[decide_eq_false c]; dsimp only; rw[if_neg Bool.false_ne_true]
   have KI:lg key p (m + 1):=by
    intro a b GZ hb
    by_cases KL:b < m
    ·exact hs a b GZ KL
    ·have e:b=m:=by lia
     subst e
     by_cases NL:a=b
     ·rw[NL]; exact eJ _
     ·have h2:=hs a (b - 1) (by lia) (by lia)
      have h3:kf key p (b - 1)<=kf key p b:=by unfold kf; lia
      lia
   refine g6 (fun r ⟨q1,q2,q3,q4⟩=>⟨by lia,by lia,q3,?_⟩) _ (HS hp h0 f (m + 1) (by lia) KI)
   rcases q4 with q4|q4
   ·exact .inl (by lia)
   ·exact .inr q4
theorem yl (h0:0 < n): ∀(f:Nat) (p:Array Nat) (m q:Nat),qv n p->m + f<=n->q + 1<=m->HR key p m->(∀a,m - (q + 1)<=a->a < m->kf key p a=kf key p (m - 1))->
  jQ key n (fun r=>qv n r.1/\1<=r.2.1/\r.2.1<=n/\r.2.2 + 1<=r.2.1/\HR key r.1 r.2.1/\ ∀a,r.2.1 - (r.2.2 + 1)<=a->a < r.2.1->kf key r.1 a=kf key r.1 (r.2.1 - 1)) (kas_desc f p m q)
 |0,p,m,q,hp,hm,hq,hs,he=>⟨hp,(by show 1<=m; lia),(by show m<=n; lia),hq,hs,he⟩
 |f + 1,p,m,q,hp,hm,hq,hs,he=>by
  unfold kas_desc
  have dn: ∀{r:Array Nat},(∀a,a < m->kf key r a=kf key p a)->kf key r m=kf key p m->kf key p m<=kf key p (m - 1)->HR key r (m + 1):=by
   intro r hr Q5 c a b GZ hb
   by_cases KL:b < m
   ·rw[hr a (by lia),hr b KL]; exact hs a b GZ KL
   ·have e:b=m:=by lia
    subst e
    by_cases NL:a=b
    ·rw[NL]; exact eJ _
    ·rw[Q5,hr a (by lia)]
     have h2:=hs a (b - 1) (by lia) (by lia)
     lia
  refine⟨hp.lt h0 _,hp.lt h0 _,?_⟩
  by_cases c:key (p.getD m 0) < key (p.getD (m - 1) 0)
  ·rw[decide_eq_true c]; dsimp only; rw[if_pos rfl]
   have c':kf key p m<=kf key p (m - 1):=by unfold kf; lia
   have last: ∀{r:Array Nat} (a:Nat),m + 1 - (0 + 1)<=a->a < m + 1->kf key r a=kf key r (m + 1 - 1):=fun{r} a h1 h2=>by
    have e:a=m + 1 - 1:=by lia
    rw[e]
   by_cases Yg:q > 0
   ·rw[a7 Yg]
    have hz:m<=p.size:=by rw[hp.size]; lia
    have hr: ∀a,a < m->kf key (kas_rev p (m - (q + 1)) m) a=kf key p a:=fun a ha=>by
     rw[pC hz]
     split
     ·rename_i h
      rw[he a h.1 h.2,he _ (by lia) (by lia)]
     ·rfl
    have Q5:kf key (kas_rev p (m - (q + 1)) m) m=kf key p m:=by rw[pC hz,aO (by lia)]
    exact yl h0 f _ (m + 1) 0 (hp.rev _ _) (by lia) (by lia) (dn hr Q5 c') last
   ·rw[aO Yg]
    exact yl h0 f p (m + 1) 0 hp (by lia) (by lia) (dn (fun _ _=>rfl) rfl c') last
  ·rw[decide_eq_false c]; dsimp only; rw[if_neg Bool.false_ne_true]
   refine⟨hp.lt h0 _,hp.lt h0 _,?_⟩
   by_cases d:key (p.getD (m - 1) 0) < key (p.getD m 0)
   ·rw[decide_eq_true d]; dsimp only; rw[if_pos rfl]
    exact⟨hp,(by show 1<=m; lia),(by show m<=n; lia),hq,hs,he⟩
   ·rw[decide_eq_false d]; dsimp only; rw[if_neg Bool.false_ne_true]
    have e0:kf key p m=kf key p (m - 1):=by unfold kf; lia
    refine yl h0 f p (m + 1) (q + 1) hp (by lia) (by lia) (dn (fun _ _=>rfl) rfl (by lia)) (fun a h1 h2=>?_)
    have e1:m + 1 - 1=m:=by lia
    rw[e1]
    by_cases NL:a=m
    ·rw[NL]
    ·rw[e0]; exact he a (by lia) (by lia)
theorem DX (h0:0 < n){p:Array Nat}{m:Nat}(hp:qv n p)(h1:1<=m)(hm:m<=n)(hs:HR key p m):jQ key n (fun r=>qv n r.2/\1<=r.1/\r.1<=n/\lg key r.2 r.1) (kas_tail3 m n p):=by
 unfold kas_tail3
 have hz:m<=p.size:=by rw[hp.size]; lia
 have hu:lg key (kas_rev p 0 m) m:=by
  intro a b GZ hb
  rw[pC hz,pC hz,a7 ⟨bB _,by lia⟩,a7 ⟨bB _,hb⟩]
  exact hs _ _ (by lia) (by lia)
 refine iV _ (g6 (fun r ⟨q1,q2,q3,_⟩=>?_) _ (HS (hp.rev 0 m) h0 (n - m) m h1 hu))
 exact⟨hp.rev 0 m,by lia,by lia,q3⟩
theorem uq (h0:0 < n){p:Array Nat}{m:Nat}(hp:qv n p)(hm:m + 1<=n)(hs:HR key p (m + 1)):jQ key n (fun r=>qv n r.2/\1<=r.1/\r.1<=n/\lg key r.2 r.1) (kas_descPart m n p):=by
 unfold kas_descPart
 refine iV _ (g6 (fun r ⟨q1,q2,q3,q4,q5,q6⟩=>?_) _ (yl h0 (n - (m + 1)) p (m + 1) 0 hp (by lia) (by lia) hs fun a h1 h2=>by
  have e:a=m + 1 - 1:=by lia
  rw[e]))
 by_cases hq:r.2.2 > 0
 ·rw[a7 hq]
  have hz:r.2.1<=r.1.size:=by rw[q1.size]; lia
  refine DX h0 (q1.rev _ _) q2 q3 fun a b GZ hb=>?_
  have hr: ∀a,a < r.2.1->kf key (kas_rev r.1 (r.2.1 - (r.2.2 + 1)) r.2.1) a=kf key r.1 a:=fun a ha=>by
   rw[pC hz]
   split
   ·rename_i h
    rw[q6 a h.1 h.2,q6 _ (by lia) (by lia)]
   ·rfl
  rw[hr a (by lia),hr b hb]
  exact q5 a b GZ hb
 ·rw[aO hq]
  exact DX h0 q1 q2 q3 q5
theorem KN (h0:0 < n){p:Array Nat}(hp:qv n p):jQ key n (fun r=>qv n r.2/\1<=r.1/\r.1<=n/\lg key r.2 r.1) (kas_count n p):=by
 unfold kas_count
 have hs1:lg key p 1:=fun a b GZ hb=>by
  have e:a=b:=by lia
  rw[e]; exact eJ _
 refine iV _ (g6 (fun m ⟨q1,q2,q3,q4⟩=>?_) _ (HS hp h0 (n - 1) 1 (aB _) hs1))
 by_cases Q7:(m == n)=true
 ·rw[a7 Q7]
  exact⟨hp,q1,by lia,q3⟩
 ·rw[aO Q7]
  have jc:m≠n:=fun z=>Q7 (by simp[z])
  have iU:kf key p m < kf key p (m - 1):=by
   rcases q4 with q4|q4
   ·exact absurd q4 (by lia)
   ·exact q4
  by_cases TN:m > 1
  ·rw[a7 TN]
   refine⟨hp.lt h0 _,hp.lt h0 _,?_⟩
   by_cases c:key (p.getD 0 0) < key (p.getD (m - 1) 0)
   ·rw[decide_eq_true c]; dsimp only; rw[if_pos rfl]
    exact⟨hp,q1,by lia,q3⟩
   ·rw[decide_eq_false c]; dsimp only; rw[if_neg Bool.false_ne_true]
    have hz:m<=p.size:=by rw[hp.size]; lia
    have heq: ∀a,a < m->kf key p a=kf key p (m - 1):=fun a ha=>by
     have h1:=q3 0 a (bB _) ha
     have h2:=q3 a (m - 1) (by lia) (by lia)
     have h3:kf key p (m - 1)<=kf key p 0:=by unfold kf; lia
     lia
    have hr: ∀a,a < m->kf key (kas_rev p 0 m) a=kf key p (m - 1):=fun a ha=>by
     rw[pC hz,a7 ⟨bB _,ha⟩]
     exact heq _ (by lia)
    refine uq h0 (hp.rev _ _) (by lia) fun a b GZ hb=>?_
    by_cases KL:b < m
    ·rw[hr a (by lia),hr b KL]; exact eJ _
    ·have e:b=m:=by lia
     subst e
     by_cases NL:a=b
     ·rw[NL]; exact eJ _
     ·rw[hr a (by lia),pC hz,aO (by lia)]
      lia
  ·rw[aO TN]
   have e:m=1:=by lia
   subst e
   refine uq h0 hp (by lia) fun a b GZ hb=>?_
   by_cases VA:a=b
   ·rw[VA]; exact eJ _
   ·have e1:a=0:=by lia
    have e2:b=1:=by lia
    subst e1 e2
    have e3:(1:Nat) - 1=0:=rfl
    rw[e3] at iU
    lia
theorem ym (h0:0 < n){p:Array Nat}{k:Nat}(hp:qv n p)(hs:lg key p k): ∀(f l r:Nat),l<=r->r<=k->r - l<=f->(∀i,i < l->kf key p i<=kf key p k)->(∀i,r<=i->i < k->kf key p k < kf key p i)->
  jQ key n (fun m=>m<=k/\(∀i,i < m->kf key p i<=kf key p k)/\ ∀i,m<=i->i < k->kf key p k < kf key p i) (kas_place p k f l r)
 |0,l,r,hlr,TQ,hf,h1,h2=>by
  have e:l=r:=by lia
  subst e
  exact⟨TQ,h1,h2⟩
 |f + 1,l,r,hlr,TQ,hf,h1,h2=>by
  unfold kas_place
  by_cases NM:l≥r
  ·rw[a7 NM]
   have e:l=r:=by lia
   subst e
   exact⟨TQ,h1,h2⟩
  ·rw[aO NM]
   refine⟨hp.lt h0 _,hp.lt h0 _,?_⟩
   by_cases c:key (p.getD k 0) < key (p.getD ((l + r) / 2) 0)
   ·rw[decide_eq_true c]; dsimp only; rw[if_pos rfl]
    refine ym h0 hp hs f l ((l + r) / 2) (by lia) (by lia) (by lia) h1 fun i hi VB=>?_
    have:=hs ((l + r) / 2) i hi VB
    have c':kf key p k < kf key p ((l + r) / 2):=c
    lia
   ·rw[decide_eq_false c]; dsimp only; rw[if_neg Bool.false_ne_true]
    refine ym h0 hp hs f ((l + r) / 2 + 1) r (by lia) TQ (by lia) (fun i hi=>?_) h2
    have:=hs i ((l + r) / 2) (by lia) (by lia)
    have c': ¬ kf key p k < kf key p ((l + r) / 2):=c
    lia
theorem Mq (h0:0 < n): ∀(f:Nat) (p:Array Nat) (k:Nat),qv n p->k + f=n->lg key p k->jQ key n (fun r=>qv n r/\lg key r n) (kas_bin f p k)
 |0,p,k,hp,hk,hs=>⟨hp,by rw[← hk]; exact hs⟩
 |f + 1,p,k,hp,hk,hs=>by
  unfold kas_bin
  refine iV _ (g6 (fun l ⟨q1,q2,q3⟩=>?_) _ (ym h0 hp hs k 0 k (bB _) (aB _) (by lia) (fun i hi=>absurd hi (fP _)) fun i h1 h2=>by lia))
  have hz:k < p.size:=by rw[hp.size]; lia
  refine Mq h0 f _ (k + 1) ((bubble_perm p k _).trans hp) (by lia) fun a b GZ hb=>?_
  rw[HQ hz (by lia),HQ hz (by lia)]
  have el:k - (k - l)=l:=by lia
  rw[el]
  by_cases ha:a=l
  ·rw[a7 ha]
   by_cases pY:b=l
   ·rw[a7 pY]; exact eJ _
   ·rw[aO pY,a7 ⟨by lia,by lia⟩]
    have:=q3 (b - 1) (by lia) (by lia)
    lia
  ·rw[aO ha]
   by_cases Yh:l < a/\a<=k
   ·rw[a7 Yh,aO (by lia),a7 ⟨by lia,by lia⟩]
    exact hs _ _ (by lia) (by lia)
   ·rw[aO Yh]
    have VC:a < l:=by lia
    by_cases pY:b=l
    ·rw[a7 pY]; exact q2 a VC
    ·rw[aO pY]
     by_cases PF:l < b/\b<=k
     ·rw[a7 PF]
      exact hs _ _ (by lia) (by lia)
     ·rw[aO PF]
      exact hs _ _ GZ (by lia)
theorem HU (h0:0 < n):jQ key n (fun r=>qv n r/\lg key r n) (kas_sort n):=by
 unfold kas_sort
 refine iV _ (g6 (fun r ⟨q1,q2,q3,q4⟩=>?_) _ (KN h0 (Ka _)))
 by_cases h:r.1 < n
 ·rw[a7 h]
  have e:max r.1 1=r.1:=by lia
  rw[e]
  exact Mq h0 _ _ _ q1 (by lia) q4
 ·rw[aO h]
  have e:r.1=n:=by lia
  rw[e] at q4
  exact⟨q1,q4⟩
end
section
variable {prog:Program}{w:World}{A:Around}{E:Value->Shared->Prop}{s:Shared}
theorem yn {a:Addr}{vs:List Value}{n:Nat}{P:PySem.Fin->Shared->Prop}{key:Nat->Int}{κ:SortKind}(ho:s.heap.get? a=some (seqObj "list" vs.toArray n))(BZ:vs.length < 64)
  (hk:2<=vs.length-> ∀(s':Shared) (Q:SortKind->Shared->Prop),(∀b o,b≠a->s.heap.get? b=some o->s'.heap.get? b=some o)->Q κ s'->wpAny (model prog w) A (keyKind' vs.toArray) Q (fun _ _=>False) s')
  (hc: ∀(s':Shared) (i j:Nat) (C:Bool->Shared->Prop),(∀b o,b≠a->s.heap.get? b=some o->s'.heap.get? b=some o)->i < vs.length->j < vs.length->C (decide (key i < key j)) s'->
   wpAny (model prog w) A (keyLt' κ (vs.getD i Value.none) (vs.getD j Value.none)) C (fun _ _=>False) s')
  (h: ∀p:Array Nat,qv vs.length p->lg key p vs.length->P (.done (.ret .none)) {s with heap:=sortedHeap s.heap a vs (p.toList.map fun i=>vs.getD i Value.none).toArray}):
  wpAny (model prog w) A (Builtin.«list.sort» ⟨[.ref a],[]⟩) P E s:=by
 rw[list_sort_plain]
 have ha:a < s.heap.objs.size:=aK ho
 have hl:sizeLine=16777216:=eU
 refine aA (listItems_at ho rfl ?_)
 refine aA (vy ho rfl ?_ (by rw[br]; lia) (bB _))
 obtain⟨e1,FF⟩: ∃e1,(s.heap.update a (Obj.mapSeq fun _=>(#[]:Array Value))).get? a=some (seqObj "list" #[] e1):=⟨_,Md ho (fun _=> #[])⟩
 refine aA (seqEpoch_at FF rfl ?_)
 refine aA (wpAny_newTuple ?_ (by show vs.length<=_; lia))
 refine aA (Kb ?_ (bB _))
 refine iq ?_
 have TR:(((s.heap.update a (Obj.mapSeq fun _=>(#[]:Array Value))).push (seqObj "tuple" vs.toArray 0)).push (seqObj "list" #[] 0)).get? a=some (seqObj "list" #[] e1):=by
  rw[my _ _ _ (by rw[size_push',o5]; exact aX (gF ha)),my _ _ _ (by rw[o5]; exact aX ha)]
  exact FF
 show wpAny (model prog w) A _ P E {s with heap:=((s.heap.update a (Obj.mapSeq fun _=>(#[]:Array Value))).push (seqObj "tuple" vs.toArray 0)).push (seqObj "list" #[] 0)}
 dsimp only
 have keep: ∀b o,b≠a->s.heap.get? b=some o->(((s.heap.update a (Obj.mapSeq fun _=>(#[]:Array Value))).push (seqObj "tuple" vs.toArray 0)).push (seqObj "list" #[] 0)).get? b=some o:=fun b o hb e=>
  ax _ (ax _ ((mx s.heap _ (vz hb)).trans e))
 have hsz:vs.toArray.size=vs.length:=by simp
 by_cases h2:vs.toArray.size < 2
 ·rw[a7 h2,a7 h2]
  refine aA (bG ?_)
  rw[StateT.run_pure]
  refine aA (bG ?_)
  dsimp only
  have CF:(arrOf (SortSt.mk' general' (vs.toArray.zip vs.toArray) #[] 7 none)).map (·.2)=((List.toArray (List.range vs.length)).toList.map fun i=>vs.getD i Value.none).toArray:=by
   show(vs.toArray.zip vs.toArray).map (·.2)=_
   apply Array.toList_inj.mp
   apply List.ext_getElem?
   intro i
   simp only[Array.toList_map,Array.toList_zip,List.getElem?_map,List.getElem?_zip_eq_some,List.getElem?_range]
   by_cases hi:i < vs.length
   ·simp[hi,List.getElem?_zip_eq_some,List.zip]
   ·simp[hi]
  refine aA (seqEpoch_at TR rfl ?_)
  rw[CF]
  refine wpAny_bind (listUpdate_at TR rfl ?_ (Nat.zero_le _) (by simp; lia))
  simp only[bne_self_eq_false,Bool.false_eq_true,if_false]
  refine bG (h _ (Ka _) ?_)
  intro i j Yi hj
  have:i=j:=by lia
  subst this; exact eJ _
 ·rw[aO h2,aO h2]
  have Q8:2<=vs.length:=by lia
  refine aA (cw (hk Q8 _ (fun κ' s'=>κ'=κ/\s'={s with heap:=((s.heap.update a (Obj.mapSeq fun _=>(#[]:Array Value))).push (seqObj "tuple" vs.toArray 0)).push (seqObj "list" #[] 0)}) keep ⟨rfl,rfl⟩) (fun κ' s' JO=>?_) fun _ _ x=>x.elim)
  obtain⟨rfl,rfl⟩:=JO
  refine aA (cw (kat_run (Q:=fun zP s'=>s'={s with heap:=((s.heap.update a (Obj.mapSeq fun _=>(#[]:Array Value))).push (seqObj "tuple" vs.toArray 0)).push (seqObj "list" #[] 0)}/\ ∃p:Array Nat,p.size=vs.length/\arrOf zP=p.map (kas_item (vs.toArray.zip vs.toArray))/\failedOf zP=none/\qv vs.length p/\lg key p vs.length)
   (G:=fun p s'=>s'={s with heap:=((s.heap.update a (Obj.mapSeq fun _=>(#[]:Array Value))).push (seqObj "tuple" vs.toArray 0)).push (seqObj "list" #[] 0)}/\qv vs.length p/\lg key p vs.length)
   (κ:=κ') rfl Q8 BZ (fun p' zP s' a1 a2 a3 a4=>⟨a4.1,p',a1,a2,a3,a4.2⟩) (uo (fun i j C hi hj q=>hc _ i j C keep hi hj q) (fun p q=>⟨rfl,q⟩) _ (HU (by lia)))) ?_ fun _ _ e=>e)
  rintro⟨⟨⟩,zP⟩ s' ⟨rfl,p,hp,VD,hf,q1,q2⟩
  dsimp only
  have CF:=kat_snds (ks:=vs) (vs:=vs) rfl VD
  rw[CF]
  refine aA (seqEpoch_at TR rfl ?_)
  refine aA (vy TR rfl ?_ (bB _) (by rw[br,ae,oo,hp]; lia))
  rw[hf]
  simp only[bne_self_eq_false,Bool.false_eq_true,if_false]
  exact bG (h p q1 q2)
theorem FG {l:Addr}{vs:List Value}{Q:Value->Shared->Prop}{key:Nat->Int}{κ:SortKind}(hl:s.heap.IsList l vs.toArray)(BZ:vs.length < 64)
  (hk:2<=vs.length-> ∀(s':Shared) (Q:SortKind->Shared->Prop),(∀b o,s.heap.get? b=some o->s'.heap.get? b=some o)->Q κ s'->wpAny (model prog w) A.in1.in1 (keyKind' vs.toArray) Q (fun _ _=>False) s')
  (hc: ∀(s':Shared) (i j:Nat) (C:Bool->Shared->Prop),(∀b o,s.heap.get? b=some o->s'.heap.get? b=some o)->i < vs.length->j < vs.length->C (decide (key i < key j)) s'->
   wpAny (model prog w) A.in1.in1 (keyLt' κ (vs.getD i Value.none) (vs.getD j Value.none)) C (fun _ _=>False) s')
  (h: ∀p:Array Nat,qv vs.length p->lg key p vs.length->Q (.ref (s.heap.objs.size + 1)) {s with heap:=sortedAll s.heap vs (p.toList.map fun i=>vs.getD i Value.none).toArray}):
  wpAny (model prog w) A (call (.builtin "sorted") [.ref l]) Q E s:=by
 have TU:sizeLine=16777216:=eU
 refine Calls.call_function_entry kind_sorted plain_sorted entry_sorted (args_sorted1 _) ?_
 unfold Builtin.«sorted»
 refine aA (m:=checkCount "sorted" 1 1 _) (bG ?_)
 refine aA (collect_list hl ?_ (by lia))
 refine aA (Kb ?_ (by show vs.length<=_; lia))
 have hsz:((s.heap.push (seqObj "list" #[] 0)).update s.heap.objs.size (Obj.mapSeq (· ++ vs.toArray))).objs.size=s.heap.objs.size + 1:=by
  rw[o5,size_push']
 have Na:(((s.heap.push (seqObj "list" #[] 0)).update s.heap.objs.size (Obj.mapSeq (· ++ vs.toArray))).push (seqObj "list" vs.toArray 0)).get? (s.heap.objs.size + 1)=some (seqObj "list" vs.toArray 0):=by
  rw[← hsz]; exact bN _ rfl
 have keep: ∀b o,s.heap.get? b=some o->b≠s.heap.objs.size + 1/\(((s.heap.push (seqObj "list" #[] 0)).update s.heap.objs.size (Obj.mapSeq (· ++ vs.toArray))).push (seqObj "list" vs.toArray 0)).get? b=some o:=fun b o q=>by
  have iU:b < s.heap.objs.size:=aK q
  refine⟨aX (gF iU),?_⟩
  rw[my _ _ _ (by rw[hsz]; exact aX (gF iU)),G8 _ _ _ _ (aX iU),my _ _ _ (aX iU)]
  exact q
 show wpAny _ _ _ _ _ {s with heap:=((s.heap.push (seqObj "list" #[] 0)).update s.heap.objs.size (Obj.mapSeq (· ++ vs.toArray))).push (seqObj "list" vs.toArray 0)}
 rw[hsz]
 refine aA (iq (wpAny_call_entry slot_list_sort ⟨_,Na,rfl⟩ entry_list_sort (yn (key:=key) (κ:=κ) Na BZ
  (fun h2 s' Q' kp q=>hk h2 s' Q' (fun b o e=>kp b o (keep b o e).1 (keep b o e).2) q) (fun s' i j C kp hi hj q=>hc s' i j C (fun b o e=>kp b o (keep b o e).1 (keep b o e).2) hi hj q) fun p a1 a2=>⟨_,rfl,?_⟩) (args_list_sort _)))
 exact bG ⟨_,rfl,h p a1 a2⟩
theorem mN {b:Bool}{Q:Bool->Shared->Prop}: ∀{ts us:List Int} {vs ws:List Value} (i:Nat),IntsAre vs ts->IntsAre ws us->Q (HT.lexLt ts us) s->
  KatLex prog w A b (decide (ts.length < us.length)) Q (vs.zip ws) i s
 |_,_,_,_,i,.nil,.nil,q=>q
 |_,_,_,_,i,.nil,.cons _ _ _,q=>by
  show Q (decide _) s
  rw[decide_eq_true (by simp)]; exact q
 |_,_,_,_,i,.cons _ _ _,.nil,q=>by
  show Q (decide _) s
  rw[decide_eq_false (by simp)]; exact q
 |_,_,_,_,i,.cons x t r,.cons y u r',q=>by
  refine kat_cons ?_
  have he:=SeqAt.EqAt.int_int (A:=A) (s:=s) x t y u
  refine he prog w _ _ ?_
  rw[HT.pq] at q
  by_cases e:x=y
  ·rw[a7 e] at q
   have eb:(x == y)=true:=by simp[e]
   rw[eb]
   refine kat_yes ?_
   have hd: ∀(a b:Nat),decide (a + 1 < b + 1)=decide (a < b):=fun a b=>by
    rw[Bool.eq_iff_iff]; simp
   rw[cf,cf,hd]
   exact mN (i + 1) r r' q
  ·rw[aO e] at q
   have eb:(x == y)=false:=by simpa using e
   rw[eb]
   refine kat_no ?_
   cases hb:(b && i == 0) with
   |true=>exact oneLt_int q
   |false=>exact kat_one _ _ (PyProof.Rows.lt_int q)
end
def hX (H:Hp)(ts:List (List Int))(xs:List V):Prop:=Paired (fun(t:List Int) v=> ∃p,v= .ref p/\H p=some (.tup (t.map V.int))) ts xs
theorem hX.mono {H H':Hp}{ts:List (List Int)}{xs:List V}(h:hX H ts xs)(k: ∀b xs,H b=some (.tup xs)->H' b=some (.tup xs)):hX H' ts xs:=
 Paired.iS h fun _ _ ⟨p,e,q⟩=>⟨p,e,k _ _ q⟩
theorem hX.get {H:Hp}{ts:List (List Int)}{xs:List V}(h:hX H ts xs){i:Nat}(hi:i < ts.length): ∃p,xs.getD i .en= .ref p/\H p=some (.tup ((ts.getD i []).map V.int)):=by
 have g:ts[i]? =some ts[i]:=af hi
 obtain⟨v,hv,p,e,q⟩:=bO h g
 refine⟨p,?_,?_⟩
 ·rw[ai,hv,e]; rfl
 ·rw[ai,g]; exact q
theorem jE {xs:List V}{us:List Value}(r:Vals xs us)(i:Nat):RelV (xs.getD i .en) (us.getD i .none):=by
 by_cases hi:i < xs.length
 ·have g:xs[i]? =some xs[i]:=af hi
  obtain⟨u,h1,h2⟩:=r.get g
  rw[ai,ai,g,h1]
  exact h2
 ·have h1:xs[i]? =none:=vE (by lia)
  rw[ai,ai,h1,r.none_of h1]
  rfl
theorem rG {xs:List V}{us:List Value}(r:Vals xs us): ∀l:List Nat,Vals (l.map fun i=>xs.getD i .en) (l.map fun i=>us.getD i .none)
 |[]=> .nil
 |i :: l=> .cons (jE r i) (rG r l)
theorem xr {H:Hp}{ts:List (List Int)}{xs:List V}(h:hX H ts xs): ∀l:List Nat,(∀i∈l,i < ts.length)->hX H (l.map fun i=>ts.getD i []) (l.map fun i=>xs.getD i .en)
 |[],_=> .nil
 |i :: l,hl=> .cons (by
   obtain⟨p,e,q⟩:=h.get (hl i bw)
   exact⟨p,e,q⟩) (xr h l fun j hj=>hl j (aU _ hj))
theorem range_getD {α:Type}(ts:List α)(d:α):(List.range ts.length).map (fun i=>ts.getD i d)=ts:=by
 apply List.ext_getElem?
 intro i
 rw[aD]
 by_cases hi:i < ts.length
 ·rw[List.getElem?_range hi,om,ai,af hi]; rfl
 ·rw[List.getElem?_eq_none (by simpa using hi),List.getElem?_eq_none (by lia)]; rfl
theorem qv.list {n:Nat}{p:Array Nat}(h:qv n p):p.toList.Perm (List.range n):=by
 have:=Array.perm_iff_toList_perm.mp h
 simpa using this
theorem sq {p:Array Nat}{n:Nat}{key:Nat->Int}(hp:p.size=n)(h:lg key p n):p.toList.Pairwise (fun i j=>key i<=key j):=by
 rw[List.pairwise_iff_getElem]
 intro i j hi hj Yi
 have yo:i < p.size:=by simpa using hi
 have TV:j < p.size:=by simpa using hj
 have:=h i j (by lia) (by lia)
 unfold kf at this
 have e1:p.getD i 0=p.toList[i]:=by simp[Array.getD,yo]
 have e2:p.getD j 0=p.toList[j]:=by simp[Array.getD,TV]
 rw[e1,e2] at this
 exact this
section
variable {X:Cx}
theorem Inv.tupI {pins:List (Addr×Obj)}{σ:St}{H:Hp}{s:Shared}(I:Inv X pins σ H s){p:Addr}{t:List Int}(h:H p=some (.tup (t.map V.int))):
  ∃(o:Obj) (cm:List Value) (n:Nat),s.heap.get? p=some o/\o.cls= .type "tuple"/\o.data= .seq cm.toArray n/\IntsAre cm t:=by
 obtain⟨_,cm,rv,o,ho,hc,n,hd⟩:=(show dC X.prog X.w H s.heap p (.tup (t.map V.int)) from I.cB p _ h)
 exact⟨o,cm,n,ho,hc,hd,intsAre_of rv⟩
theorem rH {pins:List (Addr×Obj)}{σ:St}{H:Hp}{s:Shared}(I:Inv X pins σ H s){h':Heap}(kp: ∀b o,s.heap.get? b=some o->h'.get? b=some o): ∀{ts:List (List Int)} {xs:List V} {us:List Value},hX H ts xs->Vals xs us->(∀t∈ts,t≠[])->
  ∃fs:List Value,KatTups h' us fs/\fs.length=us.length/\ ∀v∈fs,∃n t,v= .int n t
 |[],_,us,.nil,r,_=>by
  have e:us=[]:=r.zero
  subst e
  exact⟨[],trivial,rfl,fun v hv=>by cases hv⟩
 |t :: ts,_,_,.cons ⟨p,e,q⟩ rest,.cons r1 r2,jc=>by
  subst e
  obtain⟨fs,h1,h2,h3⟩:=rH I kp rest r2 fun t ht=>jc t (aU _ ht)
  obtain⟨o,cm,n,ho,hc,hd,hi⟩:=I.tupI q
  have ht:t≠[]:=jc t bw
  cases hi with
  |nil=>exact absurd rfl ht
  |cons z tk yo=>
   cases r1
   refine⟨.int z tk :: fs,⟨⟨p,o,_,n,rfl,kp _ _ ho,hc,hd,by simp⟩,h1⟩,by rw[List.length_cons,List.length_cons,h2],fun v hv=>?_⟩
   rcases aw.mp hv with rfl|hv
   ·exact⟨z,tk,rfl⟩
   ·exact h3 v hv
def NN (K:PySem.W.Frag):List V->Hp->VK->Prop:=fun vs H Q=> ∃a xs ts,∃key:List Int->Int,vs=[V.ref a]/\bL K H a xs/\xs.length < 64/\hX H ts xs/\(∀t∈ts,t≠[])/\(∀t∈ts,∀u∈ts,HT.lexLt t u=decide (key t < key u))/\
 ∀D ys us,H D=none->hX H us ys->us.Perm ts->us.Pairwise (fun t u=>key t<=key u)->Q (V.ref D) (upd H D (.lst ys))
theorem yp:iu X (.builtin "sorted") (NN X.K):=by
 intro pins s σ H xs us Q I r h
 obtain⟨a,xs,ts,key,rfl,hq,BZ,hT,jc,Hl,q⟩:=h
 obtain⟨u,rfl,ru⟩:=vals1 r
 cases ru
 obtain⟨cm,rv,pl,hz⟩:=I.list hq
 have hl:=rv.length
 have iU:ts.length=xs.length:=hT.length
 refine FG (κ:=tuples' true) (key:=fun i=>key (ts.getD i [])) pl.isList (by lia) (fun h2 s' Q' kp q'=>?_) (fun s' i j C kp hi hj q'=>?_) fun p hp hup=>?_
 ·obtain⟨fs,f1,f2,f3⟩:=rH I kp hT rv jc
  refine kat_kind (T:= .type "int") f1 (by lia) (fun v hv=>?_) rfl q'
  obtain⟨n,t,rfl⟩:=f3 v hv
  exact Looks.of_pure rfl
 ·obtain⟨p1,e1,g1⟩:=hT.get (i:=i) (by lia)
  obtain⟨p2,e2,g2⟩:=hT.get (i:=j) (by lia)
  have w1:=jE rv i
  have w2:=jE rv j
  rw[e1] at w1
  rw[e2] at w2
  have w1':cm.getD i Value.none= .ref p1:=w1
  have w2':cm.getD j Value.none= .ref p2:=w2
  rw[w1',w2']
  obtain⟨o1,VE,n1,FF,hc1,lU,Q9⟩:=I.tupI g1
  obtain⟨o2,Fq,n2,PH,KO,hd2,Ra⟩:=I.tupI g2
  refine kat_lt (kp _ _ FF) lU (kp _ _ PH) hd2 ?_
  have l1:=Q9.length
  have l2:=Ra.length
  have m1:ts.getD i []∈ts:=by rw[ai,af (show i < ts.length by lia)]; exact bJ _
  have m2:ts.getD j []∈ts:=by rw[ai,af (show j < ts.length by lia)]; exact bJ _
  have k:=mN (prog:=X.prog) (w:=X.w) (A:=X.A.in1.in1) (b:=true) (Q:=C) (s:=s') 0 Q9 Ra (by rw[Hl _ m1 _ m2]; exact q')
  rw[br,br,l1,l2]
  exact k
 ·have mO:=hp.size
  have hD:H (s.heap.objs.size + 1)=none:=I.cB.fresh (cZ _)
  obtain⟨e,he⟩:=sortedAll_at s.heap cm (p.toList.map fun i=>cm.getD i Value.none).toArray
  refine⟨.ref (s.heap.objs.size + 1),_,I.laid (t':=s.toks) (a:=s.heap.objs.size + 1) (o:= .lst (p.toList.map fun i=>xs.getD i .en)) (fun b o q=>sortedAll_old q) (cZ _) ⟨?_,_,e,rG rv p.toList,he⟩,rfl,q _ _ (p.toList.map fun i=>ts.getD i []) hD ?_ ?_ ?_⟩
  ·rw[ae,oo,mO]
   exact a0 (iK hl.symm) hz
  ·refine xr hT p.toList fun i hi=>?_
   have:=(hp.list.mem_iff).mp hi
   rw[cV] at this
   lia
  ·have e1:=hp.list.map (fun i=>ts.getD i [])
   rw[← hl,← iU,range_getD] at e1
   exact e1
  ·rw[rm]
   exact sq mO hup
theorem su (ns:List Int): ∀n,n<=ns.length->preSum (fun i=>ns.getD i 0) n=(ns.take n).sum
 |0,_=>by simp[preSum]
 |n + 1,h=>by
  rw[preSum,su ns n (by lia),zO,Kc,af (by lia),ai,af (by lia)]
  simp
def Rb (K:PySem.W.Frag):List V->Hp->VK->Prop:=fun xs H Q=> ∃(p:Addr) (ns:List Int),xs=[V.ref p]/\bL K H p (ns.map V.int)/\Q (.int ns.sum) H
theorem rJ (hc:X.calm=true):iu X (.builtin "sum") (Rb X.K):=by
 intro pins s σ H xs us Q I r h
 obtain⟨p,ns,rfl,hq,q⟩:=h
 obtain⟨u,rfl,ru⟩:=vals1 r
 cases ru
 obtain⟨cm,rv,pl,hz⟩:=I.list hq
 have hI:IntsAre cm ns:=intsAre_of rv
 have hl:=hI.length
 have hh:=I.ok.hd hc
 have hT:s.heap.IsList p cm.toArray:=pl.isList
 have hp:p < s.heap.objs.size:=by
  obtain⟨o,ho,_⟩:=hT
  exact aK ho
 have NO:p≠s.heap.objs.size:=aX hp
 refine call_sum_walkG (MV hT ?_)
 refine⟨_,[_,p],[_],_,_,_,fun i=>ns.getD i 0,rfl,Walks.list (A:=X.A.in1) hh _ p NO cm.toArray,
  ⟨⟨_,Heap.get?_push_size _ rfl,rfl,rfl⟩,hT.push _⟩,fun c hc=>?_,(fun i v hv=>IntsAre.int_at hI i v (by simpa using hv)),fun h' tk t' hk=>?_⟩
 ·show c < (s.heap.push _).objs.size
  rw[kg]
  rcases aw.mp hc with rfl|hc
  ·exact fh _
  ·rcases aw.mp hc with rfl|hc
   ·exact gF hp
   ·cases hc
 ·refine⟨.int _,H,I.kept (t':=tk) (fun b o e=>hk b o (fun hm=>?_) (ax _ e)),⟨_,rfl⟩,?_⟩
  ·rw[ao] at hm
   exact absurd hm (aX (aK e))
  ·rw[br,hl,su ns ns.length (aB _),bb]
   exact q
theorem xu (a:Array Nat): ∀(n:Nat) (acc:Array Nat),((List.replicate n a).foldl (· ++ ·) acc).size=acc.size + n * a.size
 |0,acc=>by simp
 |n + 1,acc=>by
  rw[dm,dJ,xu a n,Array.size_append,vC]
  lia
def Rc:R2:=fun x y H Q=> ∃(z:Str) (n:Int),x= .str z/\y= .int n/\z.length=1/\0<=n/\n<=1000/\ ∀z':Str,z'.length<=1000->Q (.str z') H
theorem yq:ou X (binaryOp .Mult) Rc:=by
 intro pins s σ H x y v u Q I rx ry h
 obtain⟨z,n,rfl,rfl,hz,h0,h1,q⟩:=h
 obtain⟨t,rfl⟩:=rx
 obtain⟨t',rfl⟩:=ry
 refine P.mul_str ?_ (fun _ _=>?_) (fun _ _=>?_) ?_
 ·rw[bI (by lia),bI (by lia)]; rfl
 ·rw[hz]
  intro KP
  have:(2 ^ 63 - 1:Int) / n≥1:=by
   have hn:0 < n:=by
    by_cases c:0 < n
    ·exact c
    ·have e:n=0:=by lia
     subst e
     simp at KP
     lia
   exact Int.le_ediv_of_mul_le hn (by lia)
  lia
 ·rw[hz]
  unfold Builtin.Str.tooLong
  simp
  rw[eU]
  lia
 ·by_cases c:n < 1
  ·rw[a7 c]
   exact⟨by decide,⟨.str Str.empty,H,I.tok _,⟨_,rfl⟩,q _ (by show 0<=1000; lia)⟩⟩
  ·rw[aO c]
   by_cases c2:(n == 1 || z.length == 0)=true
   ·rw[a7 c2]
    exact⟨.str z,H,I,⟨_,rfl⟩,q _ (by lia)⟩
   ·rw[aO c2]
    have hsz:((List.replicate n.toNat z.cps).foldl (· ++ ·) #[]).size<=1000:=by
     rw[xu]
     have:z.cps.size=1:=hz
     rw[this]
     simp
     lia
    refine⟨?_,⟨.str _,H,I.tok _,⟨_,rfl⟩,q _ hsz⟩⟩
    show _<=_
    refine a0 hsz ?_
    rw[eU]; lia
end
inductive bD where
 |dQ (aN:Str) (day zQ dO:Int)
 |pZ (aN:Str) (day dO:Int)
 |note (b day dO:Int)
 |set (c b dO:Int)
 |fJ (aN:Str)
 |iM (n:Int)
 |ask (bQ:Bool) (aN:Str) (day:Int)
 |iy (aN:Str) (day:Int) (di:List Int)
structure Rw where
 aN:Str
 a:Int
 b:Int
 c:Int
 d:Int
instance:Inhabited Rw:=⟨⟨"",0,0,0,0⟩⟩
structure Bk where
 aC:List Rw
 credits:List Rw
 made:List (Nat×Nat×Int)
def Bk.new:Bk:=⟨[],[],[]⟩
def Bk.cr (S:Bk)(c:Nat):Rw:=S.credits.getD c default
def Bk.bl (S:Bk)(b:Nat):Rw:=S.aC.getD b default
def Bk.dR (S:Bk)(c b:Nat):Bool:=decide ((S.cr c).aN=(S.bl b).aN) && (decide ((S.cr c).c= -1) || decide ((S.cr c).c=(b:Int)))
def Rw.less (r:Rw)(x:Int):Rw:={r with d:=r.d - x}
def Bk.put (S:Bk)(c b:Nat)(x:Int):Bk:=⟨S.aC.set b ((S.bl b).less x),S.credits.set c ((S.cr c).less x),S.made ++ [(c,b,x)]⟩
def fE (a b:Int):Int:=if b < a then b else a
def sY (x:Int×Nat):Int:=x.1 * 1000 + (x.2:Int)
def ins (x:Int×Nat):List (Int×Nat)->List (Int×Nat)
 |[]=>[x]
 |y :: l=>if sY x<=sY y then x :: y :: l else y :: ins x l
def fL:List (Int×Nat)->List (Int×Nat)
 |[]=>[]
 |x :: l=>ins x (fL l)
theorem Ar (x y:Int×Nat)(l:List (Int×Nat)):ins x (y :: l)=if sY x<=sY y then x :: y :: l else y :: ins x l:=rfl
theorem ur (x:Int×Nat): ∀l,(ins x l).Perm (x :: l)
 |[]=>MX _
 |y :: l=>by
  unfold ins
  split
  ·exact MX _
  ·exact(List.Perm.cons y (ur x l)).trans (List.Perm.swap x y l)
theorem dE: ∀l,(fL l).Perm l
 |[]=>MX _
 |x :: l=>(ur x (fL l)).trans (List.Perm.cons x (dE l))
theorem HV (x:Int×Nat): ∀l,l.Pairwise (fun a b=>sY a<=sY b)->(ins x l).Pairwise (fun a b=>sY a<=sY b)
 |[],_=>List.pairwise_singleton _ _
 |y :: l,h=>by
  rw[fb] at h
  unfold ins
  split
  ·rename_i c
   rw[fb]
   refine⟨fun z hz=>?_,fb.mpr h⟩
   rcases aw.mp hz with rfl|hz
   ·exact c
   ·exact lJ c (h.1 z hz)
  ·rename_i c
   rw[fb]
   refine⟨fun z hz=>?_,HV x l h.2⟩
   rcases aw.mp ((ur x l).mem_iff.mp hz) with rfl|hz
   ·lia
   ·exact h.1 z hz
theorem uu: ∀l,(fL l).Pairwise (fun a b=>sY a<=sY b)
 |[]=>List.Pairwise.nil
 |x :: l=>HV x _ (uu l)
theorem FH (x:Int×Nat): ∀l,(∀y∈l,sY x<=sY y)->ins x l=x :: l
 |[],_=>rfl
 |y :: l,h=>by
  unfold ins
  rw[a7 (h y bw)]
theorem uv (p:Int×Nat->Bool)(x:Int×Nat): ∀l,l.Pairwise (fun a b=>sY a<=sY b)->(ins x l).filter p=if p x then ins x (l.filter p) else l.filter p
 |[],_=>by
  unfold ins
  cases h:p x <;> simp[h,ins]
 |y :: l,hs=>by
  rw[fb] at hs
  rw[Ar]
  by_cases c:sY x<=sY y
  ·rw[a7 c]
   cases h:p x
   ·rw[List.filter_cons_of_neg (by simp[h])]
    simp
   ·rw[cM h]
    simp only[if_true]
    rw[FH x]
    intro z hz
    rcases aw.mp (fO.mp hz).1 with rfl|hz'
    ·exact c
    ·exact lJ c (hs.1 z hz')
  ·rw[aO c]
   have ih:=uv p x l hs.2
   cases hy:p y
   ·rw[List.filter_cons_of_neg (by simp[hy]),ih,List.filter_cons_of_neg (by simp[hy])]
   ·rw[cM hy,ih,cM hy]
    cases h:p x
    ·simp
    ·simp only[if_true]
     rw[Ar,aO c]
theorem qx (p:Int×Nat->Bool): ∀l,fL (l.filter p)=(fL l).filter p
 |[]=>rfl
 |x :: l=>by
  show _ =(ins x (fL l)).filter p
  rw[uv p x _ (uu l),← qx p l]
  cases h:p x
  ·rw[List.filter_cons_of_neg (by simp[h])]
   simp
  ·rw[cM h]
   simp[fL]
def g8 (rows:List Rw)(aN:Str)(key:Rw->Int):List (Int×Nat):=((List.range rows.length).filter fun k=>decide ((rows.getD k default).aN=aN)).map fun k=>(key (rows.getD k default),k)
def inOrder (rows:List Rw)(aN:Str)(key:Rw->Int):List Nat:=(fL (g8 rows aN key)).map (·.2)
def uw (rows:List Rw)(aN:Str)(key:Rw->Int):List (Int×Nat):=
 ((List.range rows.length).filter fun k=>decide ((rows.getD k default).aN=aN) && decide (0 < (rows.getD k default).d)).map fun k=>(key (rows.getD k default),k)
def inTurn (rows:List Rw)(aN:Str)(key:Rw->Int):List Nat:=(fL (uw rows aN key)).map (·.2)
theorem As (rows:List Rw)(aN:Str)(key:Rw->Int):uw rows aN key=(g8 rows aN key).filter fun x=>decide (0 < (rows.getD x.2 default).d):=by
 unfold uw g8
 rw[List.filter_map,Cf]
 congr 1
 apply E3
 intro k _
 simp[Bool.and_comm]
theorem Au {α β:Type}(f:α->β)(p:β->Bool)(l:List α):(l.filter fun x=>p (f x)).map f=(l.map f).filter p:=by
 rw[List.filter_map]; rfl
theorem hZ (rows:List Rw)(aN:Str)(key:Rw->Int):inTurn rows aN key=(inOrder rows aN key).filter fun k=>decide (0 < (rows.getD k default).d):=by
 unfold inTurn inOrder
 rw[As,qx]
 exact Au (fun x:Int×Nat=>x.2) (fun k=>decide (0 < (rows.getD k default).d)) _
theorem kA {rows:List Rw}{aN:Str}{key:Rw->Int}{k:Nat}:k∈inOrder rows aN key↔k < rows.length/\(rows.getD k default).aN=aN:=by
 unfold inOrder g8
 rw[bK]
 constructor
 ·rintro⟨x,hx,rfl⟩
  obtain⟨j,hj,rfl⟩:=bK.mp ((dE _).mem_iff.mp hx)
  simpa using hj
 ·rintro⟨h1,h2⟩
  refine⟨(key (rows.getD k default),k),(dE _).mem_iff.mpr (bK.mpr ⟨k,?_,rfl⟩),rfl⟩
  exact List.mem_filter.mpr ⟨List.mem_range.mpr h1,by simpa using h2⟩
theorem cE {rows:List Rw}{aN:Str}{key:Rw->Int}{k:Nat}:k∈inTurn rows aN key↔k < rows.length/\(rows.getD k default).aN=aN/\0 < (rows.getD k default).d:=by
 rw[hZ,fO,kA]
 simp[and_assoc]
theorem vP (rows:List Rw)(aN:Str)(key:Rw->Int):(inOrder rows aN key).Nodup:=by
 have h:((fL (g8 rows aN key)).map (·.2)).Perm ((g8 rows aN key).map (·.2)):=(dE _).map _
 refine h.nodup_iff.mpr ?_
 unfold g8
 rw[fF]
 have e:((fun x:Int×Nat=>x.2) ∘ fun k=>(key (rows.getD k default),k))=id:=rfl
 rw[e,Kd]
 exact tF.filter _
theorem iz (rows:List Rw)(aN:Str)(key:Rw->Int):(inTurn rows aN key).Nodup:=by
 rw[hZ]
 exact(vP rows aN key).filter _
def ow (r r':Rw):Prop:=r'.aN=r.aN/\r'.a=r.a/\r'.b=r.b/\r'.c=r.c
theorem ow.refl (r:Rw):ow r r:=⟨rfl,rfl,rfl,rfl⟩
theorem ow.trans {r s t:Rw}(h:ow r s)(k:ow s t):ow r t:=⟨k.1.trans h.1,k.2.1.trans h.2.1,k.2.2.1.trans h.2.2.1,k.2.2.2.trans h.2.2.2⟩
theorem Av {rows iA:List Rw}{aN:Str}{key:Rw->Int}(hk: ∀r r',ow r r'->key r'=key r)(hl:iA.length=rows.length)(h: ∀k,ow (rows.getD k default) (iA.getD k default)):g8 iA aN key=g8 rows aN key:=by
 unfold g8
 rw[hl]
 have e:(fun k=>decide ((iA.getD k default).aN=aN))=fun k=>decide ((rows.getD k default).aN=aN):=by
  funext k
  rw[(h k).1]
 rw[e]
 apply eK
 intro k _
 rw[hk _ _ (h k)]
theorem yr {rows iA:List Rw}{aN:Str}{key:Rw->Int}(hk: ∀r r',ow r r'->key r'=key r)(hl:iA.length=rows.length)(h: ∀k,ow (rows.getD k default) (iA.getD k default)):inOrder iA aN key=inOrder rows aN key:=by
 unfold inOrder
 rw[Av hk hl h]
theorem yt {rows iA:List Rw}{aN:Str}{key:Rw->Int}(hk: ∀r r',ow r r'->key r'=key r)(hl:iA.length=rows.length)(h: ∀k,ow (rows.getD k default) (iA.getD k default))(hd: ∀k,(iA.getD k default).d<=(rows.getD k default).d):
  inTurn iA aN key=(inTurn rows aN key).filter fun k=>decide (0 < (iA.getD k default).d):=by
 rw[hZ,hZ,yr hk hl h,Cf]
 apply E3
 intro k _
 have:=hd k
 by_cases c:0 < (iA.getD k default).d
 ·have c2:0 < (rows.getD k default).d:=by lia
  rw[aM c,aM c2]
  rfl
 ·rw[bI c]
  rfl
def bP (exact:Bool)(c:Nat)(S:Bk)(b:Nat):Bk:=
 if 0 < (S.cr c).d/\S.dR c b=true/\((S.cr c).d=(S.bl b).d∨exact=false) then S.put c b (fE (S.cr c).d (S.bl b).d) else S
def bZ (aN:Str)(exact:Bool)(S:Bk)(c:Nat):Bk:=(inTurn S.aC aN (·.b)).foldl (bP exact c) S
def bS (aN:Str)(S:Bk)(exact:Bool):Bk:=(inTurn S.credits aN (·.a)).foldl (bZ aN exact) S
def Bk.iB (S:Bk)(aN:Str):Bk:=bS aN (bS aN S true) false
theorem Aw {α:Type}{l:List α}{i k:Nat}{v d:α}(h:i < l.length):(l.set i v).getD k d=if k=i then v else l.getD k d:=by
 rw[ai,ai]
 by_cases c:k=i
 ·subst c
  rw[a7 rfl,kX h]
  rfl
 ·rw[aO c,mw (fun z=>c z.symm)]
theorem mP {S:Bk}{c b k:Nat}{x:Int}(h:b < S.aC.length):(S.put c b x).bl k=if k=b then(S.bl b).less x else S.bl k:=Aw h
theorem pE {S:Bk}{c b k:Nat}{x:Int}(h:c < S.credits.length):(S.put c b x).cr k=if k=c then(S.cr c).less x else S.cr k:=Aw h
def ko (S:Bk)(l:List (Nat×Nat×Int)):Bk:=l.foldl (fun S t=>S.put t.1 t.2.1 t.2.2) S
theorem mQ (S:Bk)(l m:List (Nat×Nat×Int)):ko S (l ++ m)=ko (ko S l) m:=by
 unfold ko; rw[List.foldl_append]
theorem jF (S:Bk): ∀l,(ko S l).made=S.made ++ l
 |[]=>by simp[ko]
 |t :: l=>by
  show(ko (S.put t.1 t.2.1 t.2.2) l).made=_
  rw[jF _ l]
  simp[Bk.put]
structure Later (S S':Bk):Prop where
 bl:S'.aC.length=S.aC.length
 cl:S'.credits.length=S.credits.length
 b: ∀k,ow (S.bl k) (S'.bl k)/\(S'.bl k).d<=(S.bl k).d
 c: ∀k,ow (S.cr k) (S'.cr k)/\(S'.cr k).d<=(S.cr k).d
theorem Later.refl (S:Bk):Later S S:=⟨rfl,rfl,fun k=>⟨ow.refl _,eJ _⟩,fun k=>⟨ow.refl _,eJ _⟩⟩
theorem Later.trans {S T U:Bk}(h:Later S T)(k:Later T U):Later S U:=
 ⟨k.bl.trans h.bl,k.cl.trans h.cl,fun i=>⟨(h.b i).1.trans (k.b i).1,lJ (k.b i).2 (h.b i).2⟩,fun i=>⟨(h.c i).1.trans (k.c i).1,lJ (k.c i).2 (h.c i).2⟩⟩
theorem Later.put {S:Bk}{c b:Nat}{x:Int}(hb:b < S.aC.length)(hc:c < S.credits.length)(hx:0<=x):Later S (S.put c b x):=by
 refine⟨dI,dI,fun k=>?_,fun k=>?_⟩
 ·rw[mP hb]
  split
  ·rename_i e
   subst e
   exact⟨ow.refl _,by show(S.bl k).d - x<=_; lia⟩
  ·exact⟨ow.refl _,eJ _⟩
 ·rw[pE hc]
  split
  ·rename_i e
   subst e
   exact⟨ow.refl _,by show(S.cr k).d - x<=_; lia⟩
  ·exact⟨ow.refl _,eJ _⟩
theorem Later.dR {S T:Bk}(h:Later S T)(c b:Nat):T.dR c b=S.dR c b:=by
 unfold Bk.dR
 rw[(h.c c).1.1,(h.b b).1.1,(h.c c).1.2.2.2]
theorem Later.Mr {S T:Bk}(h:Later S T)(aN:Str):inTurn T.aC aN (·.b)=(inTurn S.aC aN (·.b)).filter fun k=>decide (0 < (T.bl k).d):=
 yt (fun r r' z=>z.2.2.1) h.bl (fun k=>(h.b k).1) (fun k=>(h.b k).2)
def g9 (f:Int)(ls:List Int)(row:List Bool)(tk:Nat->Bool):Option Nat:=(List.range ls.length).find? fun j=>row.getD j false && decide (ls.getD j 0=f) && !tk j
def bY (fs ls:List Int)(al:List (List Bool)):Nat->(Nat->Bool)×List (Nat×Nat×Int)
 |0=>(fun _=>false,[])
 |i + 1=>match g9 (fs.getD i 0) ls (al.getD i []) (bY fs ls al i).1 with
  |none=>bY fs ls al i
  |some j=>(fun x=>x == j || (bY fs ls al i).1 x,(bY fs ls al i).2 ++ [(i,j,fs.getD i 0)])
def lV (gs ts:List Nat)(t:Nat×Nat×Int):Nat×Nat×Int:=(gs.getD t.1 0,ts.getD t.2.1 0,t.2.2)
theorem rK {α:Type}(l:List α)(d:α):(List.range l.length).map (fun j=>l.getD j d)=l:=by
 apply List.ext_getElem
 ·rw[ae,dv]
 ·intro i h1 h2
  rw[G9,List.getElem_range,ai,af h2]
  rfl
theorem CG {α:Type}(l:List α)(d:α)(p:α->Bool):l.find? p=((List.range l.length).find? fun j=>p (l.getD j d)).map fun j=>l.getD j d:=by
 have e:l.find? p=((List.range l.length).map (fun j=>l.getD j d)).find? p:=by rw[rK]
 rw[e,List.find?_map]
 rfl
theorem jR {l:List Nat}{i:Nat}(h:i < l.length):l.getD i 0∈l:=by
 rw[ai,af h]
 exact bJ _
theorem getD_map {α β:Type}(f:α->β)(l:List α)(i:Nat)(d:α)(e:β)(h:i < l.length):(l.map f).getD i e=f (l.getD i d):=by
 rw[ai,ai,aD,af h]
 rfl
theorem getD_inj {l:List Nat}(nd:l.Nodup){i j:Nat}(hi:i < l.length)(hj:j < l.length)(h:l.getD i 0=l.getD j 0):i=j:=by
 rw[ai,ai,af hi,af hj] at h
 exact(List.getElem_inj nd).mp h
theorem idle {ex:Bool}{c:Nat}: ∀{l:List Nat} {S:Bk},(S.cr c).d<=0->l.foldl (bP ex c) S=S
 |[],_,_=>rfl
 |b :: l,S,h=>by
  rw[dJ]
  have e:bP ex c S b=S:=by
   unfold bP
   rw[aO (fun z=>by lia)]
  rw[e]
  exact idle h
theorem DY {c:Nat}{S:Bk}(hc:c < S.credits.length): ∀{l:List Nat},(∀b∈l,b < S.aC.length)->0 < (S.cr c).d->l.foldl (bP true c) S=match l.find? (fun b=>S.dR c b && decide ((S.bl b).d=(S.cr c).d)) with
  |none=>S
  |some b=>S.put c b (S.cr c).d
 |[],_,_=>rfl
 |b :: l,hl,h=>by
  rw[dJ]
  by_cases z:(S.dR c b && decide ((S.bl b).d=(S.cr c).d))=true
  ·rw[List.find?_cons_of_pos (p:=fun b=>S.dR c b && decide ((S.bl b).d=(S.cr c).d)) z]
   have z':S.dR c b=true/\(S.bl b).d=(S.cr c).d:=by simpa using z
   have e:bP true c S b=S.put c b (S.cr c).d:=by
    unfold bP
    rw[a7 ⟨h,z'.1,.inl z'.2.symm⟩,z'.2]
    congr 1
    unfold fE
    split <;> rfl
   rw[e]
   refine idle ?_
   rw[pE hc,a7 rfl]
   show(S.cr c).d - (S.cr c).d<=0
   lia
  ·rw[List.find?_cons_of_neg (p:=fun b=>S.dR c b && decide ((S.bl b).d=(S.cr c).d)) z]
   have e:bP true c S b=S:=by
    unfold bP
    rw[aO]
    rintro⟨_,z1,z2⟩
    rcases z2 with z2|z2
    ·exact z (by simp[z1,z2])
    ·cases z2
   rw[e]
   exact DY hc (fun x hx=>hl x (aU _ hx)) h
structure ux (S:Bk)(aN:Str)(gs ts:List Nat)(fs ls:List Int)(al:List (List Bool)):Prop where
 eg:gs=inTurn S.credits aN (·.a)
 et:ts=inTurn S.aC aN (·.b)
 ef:fs=gs.map fun g=>(S.cr g).d
 el:ls=ts.map fun t=>(S.bl t).d
 ea:al=gs.map fun g=>ts.map fun t=>S.dR g t
section
variable {S:Bk}{aN:Str}{gs ts:List Nat}{fs ls:List Int}{al:List (List Bool)}
theorem ux.g (R:ux S aN gs ts fs ls al){i:Nat}(h:i < gs.length):gs.getD i 0 < S.credits.length/\0 < (S.cr (gs.getD i 0)).d/\fs.getD i 0=(S.cr (gs.getD i 0)).d:=by
 have m:=jR h
 rw[R.eg] at m
 obtain⟨m1,_,m3⟩:=cE.mp m
 rw[← R.eg] at m1 m3
 exact⟨m1,m3,by rw[R.ef,getD_map _ gs i 0 0 h]⟩
theorem ux.t (R:ux S aN gs ts fs ls al){i:Nat}(h:i < ts.length):ts.getD i 0 < S.aC.length/\0 < (S.bl (ts.getD i 0)).d/\ls.getD i 0=(S.bl (ts.getD i 0)).d:=by
 have m:=jR h
 rw[R.et] at m
 obtain⟨m1,_,m3⟩:=cE.mp m
 rw[← R.et] at m1 m3
 exact⟨m1,m3,by rw[R.el,getD_map _ ts i 0 0 h]⟩
theorem ux.a (R:ux S aN gs ts fs ls al){i j:Nat}(hi:i < gs.length)(hj:j < ts.length):(al.getD i []).getD j false=S.dR (gs.getD i 0) (ts.getD j 0):=by
 rw[R.ea,getD_map _ gs i 0 [] hi,getD_map _ ts j 0 false hj]
theorem ux.gn (R:ux S aN gs ts fs ls al):gs.Nodup:=by rw[R.eg]; exact iz _ _ _
theorem ux.tn (R:ux S aN gs ts fs ls al):ts.Nodup:=by rw[R.et]; exact iz _ _ _
theorem ux.ll (R:ux S aN gs ts fs ls al):ls.length=ts.length:=by rw[R.el,ae]
theorem ux.tm (R:ux S aN gs ts fs ls al){b:Nat}(h:b∈ts):b < S.aC.length:=by
 rw[R.et] at h
 exact(cE.mp h).1
theorem pF {l:List Nat}{i:Nat}(h:i < l.length):l.take (i + 1)=l.take i ++ [l.getD i 0]:=by
 rw[zO,af h,ai,af h]
 rfl
structure VF (S:Bk)(aN:Str)(gs ts:List Nat)(fs ls:List Int)(i:Nat)(st:(Nat->Bool)×List (Nat×Nat×Int))(Si:Bk):Prop where
 run:(gs.take i).foldl (bZ aN true) S=Si
 eq:Si=ko S (st.2.map (lV gs ts))
 later:Later S Si
 b: ∀j,j < ts.length->(Si.bl (ts.getD j 0)).d=if st.1 j=true then 0 else ls.getD j 0
 c: ∀k,i<=k->k < gs.length->(Si.cr (gs.getD k 0)).d=fs.getD k 0
theorem Ax (R:ux S aN gs ts fs ls al){i:Nat}{Si:Bk}(hi:i < gs.length)(J:VF S aN gs ts fs ls i (bY fs ls al i) Si): ∃S',VF S aN gs ts fs ls (i + 1) (bY fs ls al (i + 1)) S':=by
 obtain⟨g1,g2,g3⟩:=R.g hi
 have gc:gs.getD i 0 < Si.credits.length:=by rw[J.later.cl]; exact g1
 have fr:(Si.cr (gs.getD i 0)).d=fs.getD i 0:=J.c i (aB _) hi
 have fp:0 < (Si.cr (gs.getD i 0)).d:=by rw[fr,g3]; exact g2
 have find:((inTurn Si.aC aN (·.b)).find? fun b=>Si.dR (gs.getD i 0) b && decide ((Si.bl b).d=(Si.cr (gs.getD i 0)).d))=(g9 (fs.getD i 0) ls (al.getD i []) (bY fs ls al i).1).map fun j=>ts.getD j 0:=by
  rw[J.later.Mr,← R.et,List.find?_filter,CG ts 0]
  unfold g9
  rw[R.ll]
  congr 1
  have q: ∀j∈List.range ts.length,(decide (0 < (Si.bl (ts.getD j 0)).d) && (Si.dR (gs.getD i 0) (ts.getD j 0) && decide ((Si.bl (ts.getD j 0)).d=(Si.cr (gs.getD i 0)).d)))=((al.getD i []).getD j false && decide (ls.getD j 0=fs.getD i 0) && !(bY fs ls al i).1 j):=by
   intro j hj
   have hj:=cV.mp hj
   rw[R.a hi hj,J.later.dR,J.b j hj,fr]
   obtain⟨_,t2,t3⟩:=R.t hj
   cases h:(bY fs ls al i).1 j
   ·simp only[Bool.false_eq_true,if_false,Bool.not_false,Bool.and_true]
    rw[t3,aM t2]
    simp
   ·simp
  have key: ∀(l:List Nat) (p q:Nat->Bool),(∀j∈l,p j=q j)->l.find? p=l.find? q:=by
   intro l p q h
   induction l with
   |nil=>rfl
   |cons x l ih=>
    rw[List.find?_cons,List.find?_cons,h x bw,ih fun j hj=>h j (aU _ hj)]
  refine key _ _ _ fun j hj=>?_
  rw[← q j hj]
  simp
 have run:(gs.take (i + 1)).foldl (bZ aN true) S=match(g9 (fs.getD i 0) ls (al.getD i []) (bY fs ls al i).1).map (fun j=>ts.getD j 0) with
   |none=>Si
   |some b=>Si.put (gs.getD i 0) b (Si.cr (gs.getD i 0)).d:=by
  rw[pF hi,rn,J.run]
  show bZ aN true Si (gs.getD i 0)=_
  unfold bZ
  rw[DY gc (fun b hb=>(cE.mp hb).1) fp,find]
 cases h:g9 (fs.getD i 0) ls (al.getD i []) (bY fs ls al i).1 with
 |none=>
  rw[h] at run
  have e:bY fs ls al (i + 1)=bY fs ls al i:=by rw[bY,h]
  rw[e]
  exact⟨Si,run,J.eq,J.later,J.b,fun k h1 h2=>J.c k (by lia) h2⟩
 |some j=>
  rw[h] at run
  have e:bY fs ls al (i + 1)=(fun x=>x == j || (bY fs ls al i).1 x,(bY fs ls al i).2 ++ [(i,j,fs.getD i 0)]):=by rw[bY,h]
  have hj:j < ts.length:=by
   unfold g9 at h
   have:=MY h
   rw[R.ll] at this
   exact cV.mp this
  have Yj:(al.getD i []).getD j false=true/\ls.getD j 0=fs.getD i 0/\(bY fs ls al i).1 j=false:=by
   unfold g9 at h
   have:=List.find?_some h
   simpa[and_assoc] using this
  obtain⟨t1,t2,t3⟩:=R.t hj
  have tb:ts.getD j 0 < Si.aC.length:=by rw[J.later.bl]; exact t1
  have f0:0<=fs.getD i 0:=by rw[g3]; lia
  have run':(gs.take (i + 1)).foldl (bZ aN true) S=Si.put (gs.getD i 0) (ts.getD j 0) (fs.getD i 0):=by
   rw[run,← fr]
   rfl
  rw[e]
  refine⟨Si.put (gs.getD i 0) (ts.getD j 0) (fs.getD i 0),run',?_,J.later.trans (Later.put tb gc f0),fun j' TV=>?_,fun k h1 h2=>?_⟩
  ·rw[aQ,mQ,← J.eq]
   rfl
  ·rw[mP tb]
   by_cases q:j'=j
   ·subst q
    rw[a7 rfl]
    simp only[beq_self_eq_true,Bool.true_or,if_true]
    show(Si.bl (ts.getD j' 0)).d - fs.getD i 0=0
    rw[J.b j' hj,Yj.2.2,aO (by decide),Yj.2.1]
    lia
   ·rw[aO fun z=>q (getD_inj R.tn TV hj z),J.b j' TV]
    have:(j' == j)=false:=by simpa using q
    show _ =if(j' == j || (bY fs ls al i).1 j')=true then 0 else _
    rw[this,Bool.false_or]
  ·rw[pE gc,aO fun z=>by have:=getD_inj R.gn h2 hi z; lia]
   exact J.c k (by lia) h2
theorem uy (R:ux S aN gs ts fs ls al): ∀i,i<=gs.length-> ∃Si,VF S aN gs ts fs ls i (bY fs ls al i) Si
 |0,_=>⟨S,rfl,rfl,Later.refl S,fun j hj=>by
   obtain⟨_,_,t3⟩:=R.t hj
   show _ =if false=true then 0 else _
   rw[aO (by decide),t3],fun k _ h2=>by
   obtain⟨_,_,g3⟩:=R.g h2
   exact g3.symm⟩
 |i + 1,h=>by
  obtain⟨Si,J⟩:=uy R i (by lia)
  exact Ax R (by lia) J
theorem HW (R:ux S aN gs ts fs ls al):bS aN S true=ko S ((bY fs ls al gs.length).2.map (lV gs ts))/\Later S (bS aN S true):=by
 obtain⟨Si,J⟩:=uy R gs.length (aB _)
 have e:bS aN S true=Si:=by
  unfold bS
  rw[← R.eg,← J.run,bb]
 rw[e]
 exact⟨J.eq,J.later⟩
end
theorem DZ {l:List Int}{i j:Nat}{v:Int}(h:i≠j):(l.set i v).getD j 0=l.getD j 0:=by
 rw[ai,ai,mw h]
theorem KQ {l:List Int}{i:Nat}{v:Int}(h:i < l.length):(l.set i v).getD i 0=v:=by
 rw[ai,kX h]; rfl
def dN (l:List Int)(ps:List (Nat×Int)):List Int:=ps.foldl (fun l x=>l.set x.1 (l.getD x.1 0 - x.2)) l
theorem sx (l:List Int)(ps:List (Nat×Int))(x:Nat×Int):dN l (ps ++ [x])=(dN l ps).set x.1 ((dN l ps).getD x.1 0 - x.2):=by
 unfold dN; rw[List.foldl_append]; rfl
theorem pG (ps:List (Nat×Int)): ∀l:List Int,(dN l ps).length=l.length:=by
 induction ps with
 |nil=>intro l; rfl
 |cons x ps ih=>
  intro l
  show(dN (l.set x.1 _) ps).length=_
  rw[ih,dI]
def bF (f:Int)(l:List Int)(row:List Bool):Nat->Int×List (Nat×Int)
 |0=>(f,[])
 |j + 1=>if row.getD j false=true/\0 < fE (bF f l row j).1 (l.getD j 0) then((bF f l row j).1 - fE (bF f l row j).1 (l.getD j 0),(bF f l row j).2 ++ [(j,fE (bF f l row j).1 (l.getD j 0))]) else bF f l row j
def cz (fs ls:List Int)(al:List (List Bool)):Nat->List Int×List (Nat×Nat×Int)
 |0=>(ls,[])
 |i + 1=>(dN (cz fs ls al i).1 (bF (fs.getD i 0) (cz fs ls al i).1 (al.getD i []) (cz fs ls al i).1.length).2,
   (cz fs ls al i).2 ++ (bF (fs.getD i 0) (cz fs ls al i).1 (al.getD i []) (cz fs ls al i).1.length).2.map fun x=>(i,x.1,x.2))
theorem jG (fs ls:List Int)(al:List (List Bool)): ∀i,(cz fs ls al i).1.length=ls.length
 |0=>rfl
 |i + 1=>by
  show(dN _ _).length=_
  rw[pG,jG fs ls al i]
def gh (c:Nat)(S:Bk)(b:Nat):Bk:=if 0 < (S.bl b).d then bP false c S b else S
theorem HX {c b:Nat}{S:Bk}(hc:c < S.credits.length)(hb:b < S.aC.length):Later S (gh c S b)/\ ∀k,k≠b->((gh c S b).bl k).d=(S.bl k).d:=by
 unfold gh bP
 split
 ·rename_i h1
  split
  ·rename_i h2
   refine⟨Later.put hb hc ?_,fun k hk=>by rw[mP hb,aO hk]⟩
   unfold fE
   split <;> lia
  ·exact⟨Later.refl S,fun _ _=>rfl⟩
 ·exact⟨Later.refl S,fun _ _=>rfl⟩
theorem D0 {c:Nat}{S0:Bk}: ∀{l:List Nat} {S:Bk},l.Nodup->c < S.credits.length->(∀b∈l,b < S.aC.length)->(∀b∈l,(S.bl b).d=(S0.bl b).d)->
  (l.filter fun b=>decide (0 < (S0.bl b).d)).foldl (bP false c) S=l.foldl (gh c) S
 |[],_,_,_,_,_=>rfl
 |b :: l,S,nd,hc,hl,hd=>by
  rw[eh] at nd
  obtain⟨lt,ot⟩:=HX (S:=S) hc (hl b bw)
  have ih:=D0 (S:=gh c S b) (S0:=S0) (l:=l) nd.2 (by rw[lt.cl]; exact hc) (fun x hx=>by rw[lt.bl]; exact hl x (aU _ hx)) (fun x hx=>by
   rw[ot x (fun z=>nd.1 (z▸hx))]
   exact hd x (aU _ hx))
  rw[dJ,← ih]
  have e:=hd b bw
  by_cases z:0 < (S0.bl b).d
  ·rw[List.filter_cons_of_pos (by simpa using z),List.foldl_cons]
   congr 1
   unfold gh
   rw[a7 (by lia)]
  ·rw[List.filter_cons_of_neg (by simpa using z)]
   congr 1
   unfold gh
   rw[aO (by lia)]
section
variable {S:Bk}{aN:Str}{gs ts:List Nat}{fs ls:List Int}{al:List (List Bool)}
structure NP (S:Bk)(ts:List Nat)(c:Nat)(L:List Int)(j:Nat)(st:Int×List (Nat×Int))(Sj:Bk):Prop where
 run:(ts.take j).foldl (gh c) S=Sj
 eq:Sj=ko S (st.2.map fun x=>(c,ts.getD x.1 0,x.2))
 later:Later S Sj
 f:(Sj.cr c).d=st.1
 b: ∀k,k < ts.length->(Sj.bl (ts.getD k 0)).d=(dN L st.2).getD k 0
 lt: ∀x∈st.2,x.1 < j
 oc: ∀k,k≠c->Sj.cr k=S.cr k
theorem yu {c:Nat}{L:List Int}{row:List Bool}(nd:ts.Nodup)(hc:c < S.credits.length)(ht: ∀b∈ts,b < S.aC.length)(hL:L.length=ts.length)(hb: ∀k,k < ts.length->(S.bl (ts.getD k 0)).d=L.getD k 0)
  (hr: ∀k,k < ts.length->row.getD k false=S.dR c (ts.getD k 0)) {j:Nat} (hj:j < ts.length) {Sj:Bk} (J:NP S ts c L j (bF (S.cr c).d L row j) Sj): ∃S',NP S ts c L (j + 1) (bF (S.cr c).d L row (j + 1)) S':=by
 have ap:(dN L (bF (S.cr c).d L row j).2).getD j 0=L.getD j 0:=by
  have other: ∀(ps:List (Nat×Int)) (l:List Int),(∀x∈ps,x.1≠j)->(dN l ps).getD j 0=l.getD j 0:=by
   intro ps
   induction ps with
   |nil=>intro l h; rfl
   |cons x ps ih=>
    intro l h
    show(dN (l.set x.1 _) ps).getD j 0=_
    rw[ih _ fun y hy=>h y (aU _ hy),DZ (h x bw)]
  exact other _ _ fun x hx=>aX (J.lt x hx)
 have bd:(Sj.bl (ts.getD j 0)).d=L.getD j 0:=by rw[J.b j hj,ap]
 have cj:c < Sj.credits.length:=by rw[J.later.cl]; exact hc
 have bj:ts.getD j 0 < Sj.aC.length:=by rw[J.later.bl]; exact ht _ (jR hj)
 have run:(ts.take (j + 1)).foldl (gh c) S=gh c Sj (ts.getD j 0):=by
  rw[pF hj,rn,J.run]
  rfl
 have g:Sj.dR c (ts.getD j 0)=row.getD j false:=by rw[J.later.dR,hr j hj]
 by_cases z:row.getD j false=true/\0 < fE (bF (S.cr c).d L row j).1 (L.getD j 0)
 ·have e:bF (S.cr c).d L row (j + 1)=((bF (S.cr c).d L row j).1 - fE (bF (S.cr c).d L row j).1 (L.getD j 0),(bF (S.cr c).d L row j).2 ++ [(j,fE (bF (S.cr c).d L row j).1 (L.getD j 0))]):=by
   rw[bF,a7 z]
  have z1:0 < (Sj.bl (ts.getD j 0)).d/\0 < (Sj.cr c).d:=by
   rw[bd,J.f]
   have:=z.2
   unfold fE at this
   split at this <;> lia
  have e2:gh c Sj (ts.getD j 0)=Sj.put c (ts.getD j 0) (fE (bF (S.cr c).d L row j).1 (L.getD j 0)):=by
   unfold gh bP
   rw[a7 z1.1,a7 ⟨z1.2,by rw[g]; exact z.1,.inr rfl⟩,J.f,bd]
  rw[e]
  refine⟨_,run.trans e2,?_,J.later.trans (Later.put bj cj (by lia)),?_,fun k hk=>?_,fun x hx=>?_,fun k hk=>?_⟩
  ·rw[aQ,mQ,← J.eq]
   rfl
  ·rw[pE cj,a7 rfl]
   show(Sj.cr c).d - _ =_
   rw[J.f]
  ·rw[mP bj,sx]
   have len:(dN L (bF (S.cr c).d L row j).2).length=ts.length:=by rw[pG,hL]
   by_cases q:k=j
   ·subst q
    rw[a7 rfl,KQ (by rw[len]; exact hk)]
    show(Sj.bl (ts.getD k 0)).d - _ =(dN L _).getD k 0 - _
    rw[J.b k hk]
   ·rw[aO fun w=>q (getD_inj nd hk hj w),J.b k hk,DZ (vz q)]
  ·rcases bg.mp hx with hx|hx
   ·have:=J.lt x hx
    lia
   ·rw[ao.mp hx]
    exact fh _
  ·rw[pE cj,aO hk]
   exact J.oc k hk
 ·have e:bF (S.cr c).d L row (j + 1)=bF (S.cr c).d L row j:=by rw[bF,aO z]
  have e2:gh c Sj (ts.getD j 0)=Sj:=by
   unfold gh bP
   split
   ·rename_i h1
    rw[aO]
    rintro⟨h2,h3,_⟩
    refine z ⟨by rw[← g]; exact h3,?_⟩
    rw[bd] at h1
    rw[J.f] at h2
    unfold fE
    split <;> assumption
   ·rfl
  rw[e]
  exact⟨Sj,run.trans e2,J.eq,J.later,J.f,J.b,fun x hx=>by have:=J.lt x hx; lia,J.oc⟩
theorem D3 {c:Nat}{L:List Int}{row:List Bool}(nd:ts.Nodup)(hc:c < S.credits.length)(ht: ∀b∈ts,b < S.aC.length)(hL:L.length=ts.length)(hb: ∀k,k < ts.length->(S.bl (ts.getD k 0)).d=L.getD k 0)
  (hr: ∀k,k < ts.length->row.getD k false=S.dR c (ts.getD k 0)): ∀j,j<=ts.length-> ∃Sj,NP S ts c L j (bF (S.cr c).d L row j) Sj
 |0,_=>⟨S,rfl,rfl,Later.refl S,rfl,hb,(fun _ h=>by cases h),fun _ _=>rfl⟩
 |j + 1,h=>by
  obtain⟨Sj,J⟩:=D3 nd hc ht hL hb hr j (by lia)
  exact yu nd hc ht hL hb hr (by lia) J
structure VG (S:Bk)(aN:Str)(gs ts:List Nat)(fs:List Int)(i:Nat)(st:List Int×List (Nat×Nat×Int))(Si:Bk):Prop where
 run:(gs.take i).foldl (bZ aN false) S=Si
 eq:Si=ko S (st.2.map (lV gs ts))
 later:Later S Si
 b: ∀j,j < ts.length->(Si.bl (ts.getD j 0)).d=st.1.getD j 0
 c: ∀k,i<=k->k < gs.length->(Si.cr (gs.getD k 0)).d=fs.getD k 0
theorem Ay (R:ux S aN gs ts fs ls al){i:Nat}{Si:Bk}(hi:i < gs.length)(J:VG S aN gs ts fs i (cz fs ls al i) Si): ∃S',VG S aN gs ts fs (i + 1) (cz fs ls al (i + 1)) S':=by
 obtain⟨g1,g2,g3⟩:=R.g hi
 have gc:gs.getD i 0 < Si.credits.length:=by rw[J.later.cl]; exact g1
 have fr:(Si.cr (gs.getD i 0)).d=fs.getD i 0:=J.c i (aB _) hi
 have tl:(cz fs ls al i).1.length=ts.length:=by rw[jG,R.ll]
 have tb: ∀b∈ts,b < Si.aC.length:=fun b hb=>by rw[J.later.bl]; exact R.tm hb
 obtain⟨S',K⟩:=D3 (S:=Si) (ts:=ts) (c:=gs.getD i 0) (L:=(cz fs ls al i).1) (row:=al.getD i []) R.tn gc tb tl J.b (fun k hk=>by rw[R.a hi hk,J.later.dR]) ts.length (aB _)
 have e:(gs.take (i + 1)).foldl (bZ aN false) S=S':=by
  rw[pF hi,rn,J.run]
  show bZ aN false Si (gs.getD i 0)=_
  unfold bZ
  rw[J.later.Mr,← R.et,D0 R.tn gc tb (fun _ _=>rfl),← K.run,bb]
 rw[fr] at K
 have pe:bF (fs.getD i 0) (cz fs ls al i).1 (al.getD i []) ts.length=bF (fs.getD i 0) (cz fs ls al i).1 (al.getD i []) (cz fs ls al i).1.length:=by rw[tl]
 rw[pe] at K
 refine⟨S',e,?_,J.later.trans K.later,K.b,fun k h1 h2=>?_⟩
 ·show S'=ko S (((cz fs ls al i).2 ++ _).map (lV gs ts))
  rw[aQ,mQ,← J.eq,K.eq,fF]
  rfl
 ·rw[K.oc _ fun z=>by have:=getD_inj R.gn h2 hi z; lia]
  exact J.c k (by lia) h2
theorem uz (R:ux S aN gs ts fs ls al): ∀i,i<=gs.length-> ∃Si,VG S aN gs ts fs i (cz fs ls al i) Si
 |0,_=>⟨S,rfl,rfl,Later.refl S,fun j hj=>by
   obtain⟨_,_,t3⟩:=R.t hj
   exact t3.symm,fun k _ h2=>by
   obtain⟨_,_,g3⟩:=R.g h2
   exact g3.symm⟩
 |i + 1,h=>by
  obtain⟨Si,J⟩:=uz R i (by lia)
  exact Ay R (by lia) J
theorem HY (R:ux S aN gs ts fs ls al):bS aN S false=ko S ((cz fs ls al gs.length).2.map (lV gs ts))/\Later S (bS aN S false):=by
 obtain⟨Si,J⟩:=uz R gs.length (aB _)
 have e:bS aN S false=Si:=by
  unfold bS
  rw[← R.eg,← J.run,bb]
 rw[e]
 exact⟨J.eq,J.later⟩
end
inductive JP where
 |int (i:Int)
 |txt (s:Str)
 |sets (l:List (Nat×Nat×Int))
 |pairs (l:List (Nat×Int))
 |ints (l:List Int)
def bD.isSet:bD->Bool
 | .set _ _ _=>true
 | .fJ _=>true
 |_=>false
def bD.tells:bD->Bool
 | .dQ _ _ _ _=>true
 | .pZ _ _ _=>true
 | .note _ _ _=>true
 | .set _ _ _=>true
 | .fJ _=>true
 |_=>false
def qa (x:Int)(n:Nat):Prop:=0<=x/\x < (n:Int)
instance (x:Int) (n:Nat):Decidable (qa x n):=inferInstanceAs (Decidable (_/\_))
def Bk.bar (S:Bk):bD->Str
 | .dQ _ day zQ dO=>if dO < 1 then "no amount" else if zQ < day then "too early" else ""
 | .pZ _ _ dO=>if dO < 1 then "no amount" else ""
 | .note b _ dO=>if ¬ qa b S.aC.length then "no bill" else if dO < 1 then "no amount" else ""
 | .set c b dO=>if ¬ qa c S.credits.length then "no credit" else if ¬ qa b S.aC.length then "no bill" else if S.dR c.toNat b.toNat=false then "not theirs" else
   if dO < 1 then "no amount" else if fE (S.cr c.toNat).d (S.bl b.toNat).d < dO then "too much" else ""
 |_=>""
theorem uA (S:Bk)(b d a:Int):S.bar (.note b d a)=(if ¬ qa b S.aC.length then("no bill":Str) else if a < 1 then("no amount":Str) else("":Str)):=rfl
theorem yw (S:Bk)(c b a:Int):S.bar (.set c b a)=(if ¬ qa c S.credits.length then("no credit":Str) else if ¬ qa b S.aC.length then("no bill":Str) else if S.dR c.toNat b.toNat=false then("not theirs":Str) else
   if a < 1 then("no amount":Str) else if fE (S.cr c.toNat).d (S.bl b.toNat).d < a then("too much":Str) else("":Str)):=rfl
theorem n1:("no credit":Str)≠"":=by decide +kernel
theorem n2:("no bill":Str)≠"":=by decide +kernel
theorem n3:("not theirs":Str)≠"":=by decide +kernel
theorem n4:("no amount":Str)≠"":=by decide +kernel
theorem n6:("too much":Str)≠"":=by decide +kernel
theorem nQ {S:Bk}{b d a:Int}(h:S.bar (.note b d a)=""):qa b S.aC.length/\1<=a:=by
 rw[uA] at h
 split at h
 ·exact absurd h n2
 ·rename_i q
  split at h
  ·exact absurd h n4
  ·exact⟨E4.mp q,by lia⟩
theorem lh {S:Bk}{c b a:Int}(h:S.bar (.set c b a)=""):qa c S.credits.length/\qa b S.aC.length/\S.dR c.toNat b.toNat=true/\1<=a/\a<=(S.cr c.toNat).d/\a<=(S.bl b.toNat).d:=by
 rw[yw] at h
 split at h
 ·exact absurd h n1
 rename_i q1
 split at h
 ·exact absurd h n2
 rename_i q2
 split at h
 ·exact absurd h n3
 rename_i q3
 split at h
 ·exact absurd h n4
 rename_i q4
 split at h
 ·exact absurd h n6
 rename_i q5
 refine⟨Classical.not_not.mp q1,Classical.not_not.mp q2,by simpa using q3,by lia,?_⟩
 unfold fE at q5
 split at q5 <;> lia
def Bk.il (S:Bk)(r:Rw):Bk:={S with aC:=S.aC ++ [r]}
def Bk.fR (S:Bk)(r:Rw):Bk:={S with credits:=S.credits ++ [r]}
def Bk.enter (S:Bk):bD->Bk
 | .dQ w d u a=>S.il ⟨w,d,u,a,a⟩
 | .pZ w d a=>S.fR ⟨w,d,a,-1,a⟩
 | .note b d a=>S.fR ⟨(S.bl b.toNat).aN,d,a,b,a⟩
 | .set c b a=>S.put c.toNat b.toNat a
 | .fJ w=>S.iB w
 |_=>S
def Bk.KR (S:Bk):bD->JP
 | .dQ _ _ _ _=> .int S.aC.length
 | .pZ _ _ _=> .int S.credits.length
 | .note _ _ _=> .int S.credits.length
 | .set _ _ a=> .int a
 | .fJ w=> .sets ((S.iB w).made.drop S.made.length)
 |_=> .int 0
def cF:List (Int×bD)->Bk->Option Bk
 |[],S=>some S
 |(_,d) :: l,S=>if S.bar d="" then cF l (S.enter d) else none
def iC:List (Int×bD)->Bk->Str
 |[],_=>""
 |(_,d) :: l,S=>if S.bar d="" then iC l (S.enter d) else S.bar d
def Bk.gq (S:Bk)(t:Nat×Nat×Int):Int:=if(S.bl t.2.1).a > (S.cr t.1).a then(S.bl t.2.1).a else(S.cr t.1).a
def spotOf (bQ:Bool)(t:Nat×Nat×Int):Nat:=if bQ then t.2.1 else t.1
def Bk.cnt (S:Bk)(bQ:Bool)(k:Nat)(day:Int)(t:Nat×Nat×Int):Bool:=decide (spotOf bQ t=k) && decide (S.gq t<=day)
def Bk.rows (S:Bk)(bQ:Bool):List Rw:=if bQ then S.aC else S.credits
def HZ (bQ:Bool)(r:Rw):Int:=if bQ then r.c else r.b
def keyOf (bQ:Bool)(r:Rw):Int:=if bQ then r.b else r.a
def Bk.rest (S:Bk)(bQ:Bool)(k:Nat)(day:Int):Int:=HZ bQ ((S.rows bQ).getD k default) - ((S.made.filter (S.cnt bQ k day)).map (·.2.2)).sum
def Bk.qy (S:Bk)(bQ:Bool)(aN:Str)(day:Int):List (Nat×Int):=
 ((inOrder (S.rows bQ) aN (keyOf bQ)).filter fun k=>decide (((S.rows bQ).getD k default).a<=day) && decide (0 < S.rest bQ k day)).map fun k=>(k,S.rest bQ k day)
def placeOf (gq:Int)(di:List Int):Nat:=if gq<=0 then 0 else 1 + (di.filter fun l=>decide (l < gq)).length
def sy (l:List Int)(i:Nat)(x:Int):List Int:=l.set i (l.getD i 0 + x)
def Bk.NQ (S:Bk)(aN:Str)(day:Int)(di:List Int):List Int:=
 (S.qy true aN day).foldl (fun l t=>sy l (placeOf (day - (S.bl t.1).b) di) t.2) (List.replicate (di.length + 2) 0)
structure iW where
 steps:List (Int×bD)
 bk:Bk
def iW.new:iW:=⟨[],Bk.new⟩
def cD (m:Int)(st:Int×bD):Bool:= !(decide (st.1=m) && st.2.isSet)
def gi (T:iW)(n:Int):bD->JP×iW
 | .iM m=>if(T.steps.filter (cD m)).length=T.steps.length then(.txt "no setting",T) else
   match cF (T.steps.filter (cD m)) Bk.new with
   |none=>(.txt "needed",T)
   |some S=>(.txt "undone",⟨T.steps.filter (cD m),S⟩)
 | .ask o w d=>(.pairs (T.bk.qy o w d),T)
 | .iy w d l=>(.ints (T.bk.NQ w d l),T)
 |d=>if T.bk.bar d="" then(T.bk.KR d,⟨T.steps ++ [(n,d)],T.bk.enter d⟩) else(.txt (T.bk.bar d),T)
def gS:List bD->iW->Nat->List JP×iW
 |[],T,_=>([],T)
 |d :: l,T,n=>((gi T n d).1 :: (gS l (gi T n d).2 (n + 1)).1,(gS l (gi T n d).2 (n + 1)).2)
structure WF (S:Bk)(n:Nat):Prop where
 m: ∀t∈S.made,t.1 < S.credits.length/\t.2.1 < S.aC.length
 o: ∀c,c < S.credits.length->(S.cr c).c= -1∨ ∃b:Nat,(S.cr c).c=(b:Int)/\b < S.aC.length/\(S.cr c).aN=(S.bl b).aN
 lb:S.aC.length<=n
 lc:S.credits.length<=n
 lm:S.made.length<=8000 * n
theorem WF.new:WF Bk.new 0:=⟨(fun t h=>by cases h),fun c h=>absurd h (fP _),aB _,aB _,aB _⟩
theorem WF.mono {S:Bk}{n m:Nat}(h:WF S n)(k:n<=m):WF S m:=⟨h.m,h.o,a0 h.lb k,a0 h.lc k,a0 h.lm (Nat.mul_le_mul_left _ k)⟩
theorem getD_snoc {α:Type}{l:List α}{x d:α}{k:Nat}(h:k < l.length):(l ++ [x]).getD k d=l.getD k d:=by
 rw[ai,ai,MZ h]
theorem getD_last {α:Type}{l:List α}{x d:α}:(l ++ [x]).getD l.length d=x:=by
 rw[ai,o4 (aB _)]
 simp
theorem WF.il {S:Bk}{n:Nat}(h:WF S n)(r:Rw):WF (S.il r) (n + 1):=by
 have len:(S.il r).aC.length=S.aC.length + 1:=by simp[Bk.il]
 refine⟨fun t ht=>⟨(h.m t ht).1,by rw[len]; have:=(h.m t ht).2; lia⟩,fun c hc=>?_,by rw[len]; have:=h.lb; lia,by have:=h.lc; exact rq this,by have:=h.lm; show S.made.length<=_; lia⟩
 rcases h.o c hc with z|⟨b,z1,z2,z3⟩
 ·exact .inl z
 ·refine .inr ⟨b,z1,by rw[len]; lia,?_⟩
  show(S.cr c).aN=((S.aC ++ [r]).getD b default).aN
  rw[getD_snoc z2]
  exact z3
theorem WF.fR {S:Bk}{n:Nat}(h:WF S n)(r:Rw)(hr:r.c= -1∨ ∃b:Nat,r.c=(b:Int)/\b < S.aC.length/\r.aN=(S.bl b).aN):WF (S.fR r) (n + 1):=by
 have len:(S.fR r).credits.length=S.credits.length + 1:=by simp[Bk.fR]
 refine⟨fun t ht=>⟨by rw[len]; have:=(h.m t ht).1; lia,(h.m t ht).2⟩,fun c hc=>?_,by have:=h.lb; exact rq this,by rw[len]; have:=h.lc; lia,by have:=h.lm; show S.made.length<=_; lia⟩
 by_cases q:c < S.credits.length
 ·have e:(S.fR r).cr c=S.cr c:=getD_snoc q
  rw[e]
  exact h.o c q
 ·have q':c=S.credits.length:=by lia
  have e:(S.fR r).cr c=r:=by rw[q']; exact getD_last
  rw[e]
  exact hr
theorem WF.later {S S':Bk}{n m:Nat}(h:WF S n)(l:Later S S')(hm: ∀t∈S'.made,t.1 < S.credits.length/\t.2.1 < S.aC.length)(hn:n<=m)(hl:S'.made.length<=8000 * m):WF S' m:=by
 refine⟨fun t ht=>by rw[l.cl,l.bl]; exact hm t ht,fun c hc=>?_,by rw[l.bl]; exact a0 h.lb hn,by rw[l.cl]; exact a0 h.lc hn,hl⟩
 rw[l.cl] at hc
 rw[(l.c c).1.2.2.2,(l.c c).1.1]
 rcases h.o c hc with z|⟨b,z1,z2,z3⟩
 ·exact .inl z
 ·exact .inr ⟨b,z1,by rw[l.bl]; exact z2,by rw[(l.b b).1.1]; exact z3⟩
theorem uB: ∀{n:Nat} {l:List Nat},l.Nodup->(∀x∈l,x < n)->l.length<=n
 |0,l,_,h=>by
  cases l with
  |nil=>exact aB _
  |cons x l=>exact absurd (h x bw) (fP _)
 |n + 1,l,nd,h=>by
  by_cases q:n∈l
  ·have h1:=uB (n:=n) (l:=l.erase n) (nd.erase n) (fun x hx=>by
    have h2:=h x (List.mem_of_mem_erase hx)
    have h3:x≠n:=fun z=>(List.Nodup.mem_erase_iff nd).mp hx |>.1 z
    lia)
   rw[List.length_erase_of_mem q] at h1
   lia
  ·have:=uB (n:=n) nd (fun x hx=>by
    have h2:=h x hx
    have h3:x≠n:=fun z=>q (z▸hx)
    lia)
   lia
theorem jS (rows:List Rw)(aN:Str)(key:Rw->Int):(inTurn rows aN key).length<=rows.length:=uB (iz _ _ _) fun _ h=>(cE.mp h).1
theorem ie (fs ls:List Int)(al:List (List Bool)): ∀i,(bY fs ls al i).2.length<=i
 |0=>aB _
 |i + 1=>by
  have:=ie fs ls al i
  unfold bY
  split
  ·lia
  ·rw[aF]
   show _ + 1<=_
   lia
theorem gr (f:Int)(l:List Int)(row:List Bool): ∀j,(bF f l row j).2.length<=j
 |0=>aB _
 |j + 1=>by
  have:=gr f l row j
  rw[bF]
  split
  ·rw[aF]
   show _ + 1<=_
   lia
  ·lia
theorem pH (fs ls:List Int)(al:List (List Bool)): ∀i,(cz fs ls al i).2.length<=i * ls.length
 |0=>by simp[cz]
 |i + 1=>by
  have h1:=pH fs ls al i
  have h2:=gr (fs.getD i 0) (cz fs ls al i).1 (al.getD i []) (cz fs ls al i).1.length
  show((cz fs ls al i).2 ++ _).length<=_
  rw[aF,ae,vC]
  rw[jG] at h2 ⊢
  lia
theorem lW (fs ls:List Int)(al:List (List Bool)): ∀i,∀t∈(bY fs ls al i).2,t.1 < i/\t.2.1 < ls.length
 |0,t,h=>by cases h
 |i + 1,t,h=>by
  rw[bY] at h
  split at h
  ·have:=lW fs ls al i t h
   lia
  ·rename_i j hj
   rcases bg.mp h with h|h
   ·have:=lW fs ls al i t h
    lia
   ·rw[ao.mp h]
    unfold g9 at hj
    have:=cV.mp (MY hj)
    exact⟨fh _,this⟩
theorem pI (f:Int)(l:List Int)(row:List Bool): ∀j,∀x∈(bF f l row j).2,x.1 < j
 |0,x,h=>by cases h
 |j + 1,x,h=>by
  rw[bF] at h
  split at h
  ·rcases bg.mp h with h|h
   ·have:=pI f l row j x h
    lia
   ·rw[ao.mp h]
    exact fh _
  ·have:=pI f l row j x h
   lia
theorem uC (fs ls:List Int)(al:List (List Bool)): ∀i,∀t∈(cz fs ls al i).2,t.1 < i/\t.2.1 < ls.length
 |0,t,h=>by cases h
 |i + 1,t,h=>by
  rcases bg.mp (show t∈(cz fs ls al i).2 ++ _ from h) with h|h
  ·have:=uC fs ls al i t h
   lia
  ·obtain⟨x,hx,rfl⟩:=bK.mp h
   have:=pI _ _ _ _ x hx
   rw[jG] at this
   exact⟨fh _,this⟩
def Yk (S:Bk)(aN:Str):ux S aN (inTurn S.credits aN (·.a)) (inTurn S.aC aN (·.b)) ((inTurn S.credits aN (·.a)).map fun g=>(S.cr g).d) ((inTurn S.aC aN (·.b)).map fun t=>(S.bl t).d)
  ((inTurn S.credits aN (·.a)).map fun g=>(inTurn S.aC aN (·.b)).map fun t=>S.dR g t):=⟨rfl,rfl,rfl,rfl,rfl⟩
theorem D4 {S:Bk}{gs ts:List Nat}{l:List (Nat×Nat×Int)}(hl: ∀t∈l,t.1 < gs.length/\t.2.1 < ts.length)(hg: ∀g∈gs,g < S.credits.length)(ht: ∀t∈ts,t < S.aC.length): ∀t∈l.map (lV gs ts),t.1 < S.credits.length/\t.2.1 < S.aC.length:=by
 intro t h
 obtain⟨x,hx,rfl⟩:=bK.mp h
 obtain⟨h1,h2⟩:=hl x hx
 exact⟨hg _ (jR h1),ht _ (jR h2)⟩
theorem uD (S:Bk)(aN:Str)(ex:Bool):Later S (bS aN S ex)/\ ∃l,(bS aN S ex).made=S.made ++ l/\(∀t∈l,t.1 < S.credits.length/\t.2.1 < S.aC.length)/\l.length<=S.credits.length + S.credits.length * S.aC.length:=by
 have gl:=jS S.credits aN (·.a)
 have tl:=jS S.aC aN (·.b)
 have hg: ∀g∈inTurn S.credits aN (·.a),g < S.credits.length:=fun g h=>(cE.mp h).1
 have ht: ∀t∈inTurn S.aC aN (·.b),t < S.aC.length:=fun g h=>(cE.mp h).1
 have mul:(inTurn S.credits aN (·.a)).length * (inTurn S.aC aN (·.b)).length<=S.credits.length * S.aC.length:=qe gl tl
 cases ex with
 |true=>
  obtain⟨e,l⟩:=HW (Yk S aN)
  refine⟨l,_,by rw[e]; exact jF _ _,D4 (fun t h=>?_) hg ht,?_⟩
  ·have:=lW _ _ _ _ t h
   rwa [ae] at this
  ·rw[ae]
   have:=ie ((inTurn S.credits aN (·.a)).map fun g=>(S.cr g).d) ((inTurn S.aC aN (·.b)).map fun t=>(S.bl t).d) ((inTurn S.credits aN (·.a)).map fun g=>(inTurn S.aC aN (·.b)).map fun t=>S.dR g t) (inTurn S.credits aN (·.a)).length
   lia
 |false=>
  obtain⟨e,l⟩:=HY (Yk S aN)
  refine⟨l,_,by rw[e]; exact jF _ _,D4 (fun t h=>?_) hg ht,?_⟩
  ·have:=uC _ _ _ _ t h
   rwa [ae] at this
  ·rw[ae]
   have:=pH ((inTurn S.credits aN (·.a)).map fun g=>(S.cr g).d) ((inTurn S.aC aN (·.b)).map fun t=>(S.bl t).d) ((inTurn S.credits aN (·.a)).map fun g=>(inTurn S.aC aN (·.b)).map fun t=>S.dR g t) (inTurn S.credits aN (·.a)).length
   rw[ae] at this
   lia
theorem qz (S:Bk)(aN:Str):Later S (S.iB aN)/\ ∃l,(S.iB aN).made=S.made ++ l/\(∀t∈l,t.1 < S.credits.length/\t.2.1 < S.aC.length)/\l.length<=2 * (S.credits.length + S.credits.length * S.aC.length):=by
 obtain⟨l1,m1,e1,h1,n1⟩:=uD S aN true
 obtain⟨l2,m2,e2,h2,n2⟩:=uD (bS aN S true) aN false
 refine⟨l1.trans l2,m1 ++ m2,by show(bS aN (bS aN S true) false).made=_; rw[e2,e1,gE],fun t ht=>?_,?_⟩
 ·rcases bg.mp ht with ht|ht
  ·exact h1 t ht
  ·have:=h2 t ht
   rwa [l1.cl,l1.bl] at this
 ·rw[l1.cl,l1.bl] at n2
  rw[aF]
  lia
theorem WF.enter {S:Bk}{n:Nat}{d:bD}(h:WF S n)(hn:n < 60)(hb:S.bar d=""):WF (S.enter d) (n + 1):=by
 cases d with
 |dQ w d u a=>exact h.il _
 |pZ w d a=>exact h.fR _ (.inl rfl)
 |note b d a=>
  refine h.fR _ (.inr ⟨b.toNat,?_⟩)
  have z:=(nQ hb).1
  obtain⟨z1,z2⟩:=z
  refine⟨?_,?_,rfl⟩
  ·show b=(b.toNat:Int)
   lia
  ·lia
 |set c b a=>
  obtain⟨zc,zb,_,za,_⟩:=lh hb
  obtain⟨c1,c2⟩:=zc
  obtain⟨b1,b2⟩:=zb
  have l:Later S (S.put c.toNat b.toNat a):=Later.put (by lia) (by lia) (by lia)
  refine h.later l (fun t ht=>?_) (cZ _) ?_
  ·rcases bg.mp ht with ht|ht
   ·exact h.m t ht
   ·rw[ao.mp ht]
    show c.toNat < _/\b.toNat < _
    lia
  ·show(S.made ++ [_]).length<=_
   rw[aF]
   have:=h.lm
   show _ + 1<=_
   lia
 |fJ w=>
  obtain⟨l,m,e,h1,h2⟩:=qz S w
  refine h.later l (fun t ht=>?_) (cZ _) ?_
  ·rw[show(S.enter (.fJ w)).made=S.made ++ m from e] at ht
   rcases bg.mp ht with ht|ht
   ·exact h.m t ht
   ·exact h1 t ht
  ·show(S.iB w).made.length<=_
   rw[e,aF]
   have h3:=h.lm
   have h4:=h.lb
   have h5:=h.lc
   have:S.credits.length * S.aC.length<=60 * 60:=qe (by lia) (by lia)
   lia
 |iM m=>exact h.mono (cZ _)
 |ask o w d=>exact h.mono (cZ _)
 |iy w d l=>exact h.mono (cZ _)
structure mR (S T:Bk):Prop where
 bl:T.aC.length=S.aC.length
 cl:T.credits.length=S.credits.length
 b: ∀k,ow (S.bl k) (T.bl k)
 c: ∀k,ow (S.cr k) (T.cr k)
theorem ow.symm {r s:Rw}(h:ow r s):ow s r:=⟨h.1.symm,h.2.1.symm,h.2.2.1.symm,h.2.2.2.symm⟩
theorem mR.refl (S:Bk):mR S S:=⟨rfl,rfl,fun _=>ow.refl _,fun _=>ow.refl _⟩
theorem mR.symm {S T:Bk}(h:mR S T):mR T S:=⟨h.bl.symm,h.cl.symm,fun k=>(h.b k).symm,fun k=>(h.c k).symm⟩
theorem mR.trans {S T U:Bk}(h:mR S T)(k:mR T U):mR S U:=⟨k.bl.trans h.bl,k.cl.trans h.cl,fun i=>(h.b i).trans (k.b i),fun i=>(h.c i).trans (k.c i)⟩
theorem Later.rB {S T:Bk}(h:Later S T):mR S T:=⟨h.bl,h.cl,fun k=>(h.b k).1,fun k=>(h.c k).1⟩
theorem mR.dR {S T:Bk}(h:mR S T)(c b:Nat):T.dR c b=S.dR c b:=by
 unfold Bk.dR
 rw[(h.c c).1,(h.b b).1,(h.c c).2.2.2]
theorem rL {l m:List Rw}{r s:Rw}(hl:m.length=l.length)(h: ∀k,ow (l.getD k default) (m.getD k default))(hr:ow r s)(k:Nat):ow ((l ++ [r]).getD k default) ((m ++ [s]).getD k default):=by
 by_cases q:k < l.length
 ·rw[getD_snoc q,getD_snoc (by rw[hl]; exact q)]
  exact h k
 ·by_cases e:k=l.length
  ·subst e
   rw[getD_last,← hl,getD_last]
   exact hr
  ·have o1:(l ++ [r]).getD k default=default:=by
    rw[ai,vE (by rw[aF]; show l.length + 1<=k; lia)]
    rfl
   have o2:(m ++ [s]).getD k default=default:=by
    rw[ai,vE (by rw[aF]; show m.length + 1<=k; lia)]
    rfl
   rw[o1,o2]
   exact ow.refl _
theorem Ia {S T:Bk}(h:mR S T){d:bD}(hb:S.bar d=""):T.bar d=""∨T.bar d="too much":=by
 cases d with
 |note b d a=>
  obtain⟨z1,z2⟩:=nQ hb
  left
  rw[uA,h.bl,aO (fun z=>z z1),aO (by lia)]
 |set c b a=>
  obtain⟨z1,z2,z3,z4,_⟩:=lh hb
  rw[yw,h.bl,h.cl,h.dR,aO (fun z=>z z1),aO (fun z=>z z2),aO (by rw[z3]; decide),aO (by lia)]
  split
  ·exact .inr rfl
  ·exact .inl rfl
 |dQ w d u a=>exact .inl hb
 |pZ w d a=>exact .inl hb
 |fJ w=>exact .inl rfl
 |iM m=>exact .inl rfl
 |ask o w d=>exact .inl rfl
 |iy w d l=>exact .inl rfl
theorem lj {S:Bk}{d:bD}(hs:d.isSet=true)(hb:S.bar d=""):Later S (S.enter d):=by
 cases d with
 |set c b a=>
  obtain⟨⟨_,_⟩,⟨_,_⟩,_,_,_⟩:=lh hb
  exact Later.put (by lia) (by lia) (by lia)
 |fJ w=>exact(qz S w).1
 |dQ w d u a=>cases hs
 |pZ w d a=>cases hs
 |note b d a=>cases hs
 |iM m=>cases hs
 |ask o w d=>cases hs
 |iy w d l=>cases hs
theorem CI {S T:Bk}(h:mR S T){d:bD}(hs:S.bar d="")(ht:T.bar d=""):mR (S.enter d) (T.enter d):=by
 cases d with
 |dQ w d u a=>exact⟨by simp[Bk.enter,Bk.il,h.bl],h.cl,rL h.bl h.b (ow.refl _),h.c⟩
 |pZ w d a=>exact⟨h.bl,by simp[Bk.enter,Bk.fR,h.cl],h.b,rL h.cl h.c (ow.refl _)⟩
 |note b d a=>exact⟨h.bl,by simp[Bk.enter,Bk.fR,h.cl],h.b,rL h.cl h.c ⟨(h.b _).1,rfl,rfl,rfl⟩⟩
 |set c b a=>exact(lj rfl hs).rB.symm.trans (h.trans (lj rfl ht).rB)
 |fJ w=>exact(lj (d:= .fJ w) rfl hs).rB.symm.trans (h.trans (lj (d:= .fJ w) rfl ht).rB)
 |iM m=>exact h
 |ask o w d=>exact h
 |iy w d l=>exact h
theorem NR (m:Int): ∀(l:List (Int×bD)) {S T:Bk},mR S T->(cF l S).isSome=true->iC (l.filter (cD m)) T=""∨iC (l.filter (cD m)) T="too much"
 |[],_,_,_,_=> .inl rfl
 |(n,d) :: l,S,T,h,hw=>by
  unfold cF at hw
  split at hw
  ·rename_i hb
   by_cases k:cD m (n,d)=true
   ·rw[cM k]
    unfold iC
    split
    ·rename_i ht
     exact NR m l (CI h hb ht) hw
    ·rename_i ht
     exact .inr ((Ia h hb).resolve_left ht)
   ·rw[kj k]
    have ds:d.isSet=true:=by
     unfold cD at k
     simp at k
     exact k.2
    exact NR m l ((lj ds hb).rB.symm.trans h) hw
  ·cases hw
theorem rM: ∀(l:List (Int×bD)) {S T:Bk} {n:Nat},WF S n->cF l S=some T->n + l.length<=60->WF T (n + l.length)
 |[],S,T,n,h,e,_=>by
  cases e
  exact h
 |(k,d) :: l,S,T,n,h,e,hl=>by
  unfold cF at e
  split at e
  ·rename_i hb
   have len:((k,d) :: l).length=l.length + 1:=rfl
   rw[len] at hl ⊢
   have:=rM l (h.enter (by lia) hb) e (by lia)
   rwa [show n + (l.length + 1)=n + 1 + l.length by lia]
  ·cases e
theorem kN: ∀(l m:List (Int×bD)) (S:Bk),cF (l ++ m) S=(cF l S).bind (cF m)
 |[],m,S=>rfl
 |(k,d) :: l,m,S=>by
  show(if S.bar d="" then cF (l ++ m) (S.enter d) else none)=(if S.bar d="" then cF l (S.enter d) else none).bind (cF m)
  split
  ·exact kN l m _
  ·rfl
structure Good (T:iW)(n:Nat):Prop where
 w:cF T.steps Bk.new=some T.bk
 lt: ∀st∈T.steps,0<=st.1/\st.1 < (n:Int)
 inc:T.steps.Pairwise fun a b=>a.1 < b.1
 tl: ∀st∈T.steps,st.2.tells=true
 len:T.steps.length<=n
theorem Good.new:Good iW.new 0:=⟨rfl,(fun _ h=>by cases h),List.Pairwise.nil,(fun _ h=>by cases h),aB _⟩
theorem Good.mono {T:iW}{n m:Nat}(h:Good T n)(k:n<=m):Good T m:=⟨h.w,fun st hs=>⟨(h.lt st hs).1,by have:=(h.lt st hs).2; lia⟩,h.inc,h.tl,a0 h.len k⟩
theorem Good.wf {T:iW}{n:Nat}(h:Good T n)(hn:n<=60):WF T.bk n:=by
 have z:=rM T.steps WF.new h.w (by have:=h.len; lia)
 rw[Nat.zero_add] at z
 exact z.mono h.len
theorem Good.add {T:iW}{n:Nat}(h:Good T n){d:bD}(ht:d.tells=true)(hb:T.bk.bar d=""):Good ⟨T.steps ++ [((n:Int),d)],T.bk.enter d⟩ (n + 1):=by
 refine⟨?_,fun st hs=>?_,?_,fun st hs=>?_,?_⟩
 ·show cF (T.steps ++ [((n:Int),d)]) Bk.new=_
  rw[kN,h.w]
  show(if T.bk.bar d="" then some (T.bk.enter d) else none)=_
  rw[a7 hb]
 ·rcases bg.mp hs with hs|hs
  ·have:=h.lt st hs
   lia
  ·rw[ao.mp hs]
   show(0:Int)<=(n:Int)/\(n:Int) < _
   lia
 ·rw[List.pairwise_append]
  refine⟨h.inc,List.pairwise_singleton _ _,fun a ha b hb=>?_⟩
  rw[ao.mp hb]
  exact(h.lt a ha).2
 ·rcases bg.mp hs with hs|hs
  ·exact h.tl st hs
  ·rw[ao.mp hs]
   exact ht
 ·show(T.steps ++ [_]).length<=_
  rw[aF]
  have:=h.len
  show _ + 1<=_
  lia
theorem Good.step {T:iW}{n:Nat}(h:Good T n)(d:bD):Good (gi T n d).2 (n + 1):=by
 have keep:=h.mono (cZ n)
 have dflt: ∀d:bD,d.tells=true->Good (if T.bk.bar d="" then(T.bk.KR d,(⟨T.steps ++ [((n:Int),d)],T.bk.enter d⟩:iW)) else(.txt (T.bk.bar d),T)).2 (n + 1):=fun d ht=>by
  split
  ·rename_i hb
   exact h.add ht hb
  ·exact keep
 cases d with
 |iM m=>
  show Good (if(T.steps.filter (cD m)).length=T.steps.length then(JP.txt "no setting",T) else
   match cF (T.steps.filter (cD m)) Bk.new with
   |none=>(.txt "needed",T)
   |some S=>(.txt "undone",⟨T.steps.filter (cD m),S⟩)).2 (n + 1)
  split
  ·exact keep
  ·cases e:cF (T.steps.filter (cD m)) Bk.new with
   |none=>exact keep
   |some S=>
    refine⟨e,fun st hs=>?_,h.inc.filter _,fun st hs=>h.tl st (fO.mp hs).1,?_⟩
    ·have:=h.lt st (fO.mp hs).1
     lia
    ·have h1:=a6 (cD m) T.steps
     have h2:=h.len
     show(T.steps.filter (cD m)).length<=_
     lia
 |ask o w d=>exact keep
 |iy w d l=>exact keep
 |dQ w d u a=>exact dflt _ rfl
 |pZ w d a=>exact dflt _ rfl
 |note b d a=>exact dflt _ rfl
 |set c b a=>exact dflt _ rfl
 |fJ w=>exact dflt _ rfl
theorem sC: ∀(l:List bD) (T:iW) (n:Nat),(gS l T n).1.length=l.length
 |[],_,_=>rfl
 |d :: l,T,n=>by
  show(gS l _ _).1.length + 1=_
  rw[sC l]
  rfl
def bD.dt:bD->Dt
 | .dQ w d u a=> .tup [.str "bill",.str w,.int d,.int u,.int a]
 | .pZ w d a=> .tup [.str "pay",.str w,.int d,.int a]
 | .note b d a=> .tup [.str "note",.int b,.int d,.int a]
 | .set c b a=> .tup [.str "set",.int c,.int b,.int a]
 | .fJ w=> .tup [.str "sweep",.str w]
 | .iM n=> .tup [.str "undo",.int n]
 | .ask o w d=> .tup [.str (if o then "owed" else "free"),.str w,.int d]
 | .iy w d l=> .tup [.str "ages",.str w,.int d,.tup (l.map Dt.int)]
def uE:Int:=10 ^ 62
theorem D5 {x:Int}(h:x<=10 ^ 60):x<=uE:=lJ h (by decide +kernel)
def bD.ok:bD->Prop
 | .dQ _ d _ _=>d<=uE
 | .pZ _ d _=>d<=uE
 | .note _ d _=>d<=uE
 | .iy _ _ l=>l.length<=11/\l.Pairwise (· < ·)/\ ∀x∈l,1<=x
 |_=>True
mutual
def Dt.JQ:Dt->Bool
 | .lst _=>false
 | .tup ds=>Dt.vQ ds
 | .en=>true
 | .bl _=>true
 | .int _=>true
 | .str _=>true
def Dt.vQ:List Dt->Bool
 |[]=>true
 |d :: ds=>d.JQ && Dt.vQ ds
end
def cK (H H':Hp):Prop:= ∀b xs,H b=some (.tup xs)->H' b=some (.tup xs)
theorem cK.trans {H1 H2 H3:Hp}(a:cK H1 H2)(b:cK H2 H3):cK H1 H3:=fun x xs e=>b x xs (a x xs e)
theorem aG.tk {H H':Hp}(s:aG H H'):cK H H':=fun b xs e=>s _ _ e
theorem gu {H:Hp}{p:Addr}{o:HO}{ys:List V}(h:H p=some (.lst ys)):cK H (upd H p o):=dP h
mutual
theorem Rp.Az {H H':Hp}(k:cK H H'): ∀(d:Dt) {v:V},d.JQ=true->Rp H d v->Rp H' d v
 | .en,_,_,h=>um.mpr (um.mp h)
 | .bl _,_,_,h=>qu.mpr (qu.mp h)
 | .int _,_,_,h=>eB.mpr (eB.mp h)
 | .str _,_,_,h=>gZ.mpr (gZ.mp h)
 | .tup ds,_,n,h=>by
  obtain⟨a,xs,e,h1,h2⟩:=jO.mp h
  exact jO.mpr ⟨a,xs,e,k _ _ h1,iJ.Az k ds (by simpa[Dt.JQ] using n) h2⟩
 | .lst ds,_,n,h=>by simp[Dt.JQ] at n
theorem iJ.Az {H H':Hp}(k:cK H H'): ∀(ds:List Dt) {vs:List V},Dt.vQ ds=true->iJ H ds vs->iJ H' ds vs
 |[],_,_,h=>dW.mpr (dW.mp h)
 |d :: ds,_,n,h=>by
  obtain⟨v,r,e,h1,h2⟩:=bX.mp h
  have n':d.JQ=true/\Dt.vQ ds=true:=by simpa[Dt.vQ] using n
  exact bX.mpr ⟨v,r,e,Rp.Az k d n'.1 h1,iJ.Az k ds n'.2 h2⟩
end
theorem FI (l:List Int):Dt.vQ (l.map Dt.int)=true:=by
 induction l with
 |nil=>rfl
 |cons x l ih=>simp[Dt.vQ,Dt.JQ,ih]
theorem bD.JQ (d:bD):d.dt.JQ=true:=by
 cases d <;> simp[bD.dt,Dt.JQ,Dt.vQ,FI]
theorem FJ (ds:List bD):Dt.vQ (ds.map bD.dt)=true:=by
 induction ds with
 |nil=>rfl
 |cons d ds ih=>simp[Dt.vQ,bD.JQ,ih]
def gT (H:Hp)(ds:List bD)(ms:List V):Prop:=iJ H (ds.map bD.dt) ms
theorem gT.mono {H H':Hp}{ds:List bD}{ms:List V}(h:gT H ds ms)(k:cK H H'):gT H' ds ms:=iJ.Az k _ (FJ ds) h
theorem gT.snoc {H:Hp}{ds:List bD}{ms:List V}{d:bD}{v:V}(h:gT H ds ms)(hd:Rp H d.dt v):gT H (ds ++ [d]) (ms ++ [v]):=by
 unfold gT
 rw[aQ]
 exact iJ.append h (iJ.one hd)
theorem gT.length {H:Hp}{ds:List bD}{ms:List V}(h:gT H ds ms):ds.length=ms.length:=by
 have:=iJ.length h
 rwa [ae] at this
theorem KS (n:Nat)(b:Str):(List.replicate n [V.str b]).flatten=(List.replicate n b).map V.str:=by
 induction n with
 |zero=>rfl
 |succ n ih=>rw[dm,iR,ih,dm]; rfl
def Rw.vs (r:Rw):List V:=[.str r.aN,.int r.a,.int r.b,.int r.c,.int r.d]
structure fG where
 pb:Addr
 pc:Addr
 pm:Addr
 iD:List Addr
 cps:List Addr
def fG.fp (f:fG):List Addr:=f.pb :: f.pc :: f.pm :: (f.iD ++ f.cps)
def bk3 (f:fG):List (Key×V):=[(Sum.inr "bills",.ref f.pb),(Sum.inr "credits",.ref f.pc),(Sum.inr "made",.ref f.pm)]
def eX (H:Hp)(rs:List Rw)(ps:List Addr):Prop:=Paired (fun(r:Rw) p=>H p=some (.lst r.vs)) rs ps
def gO (H:Hp)(ms:List (Nat×Nat×Int))(vs:List V):Prop:=Paired (fun(t:Nat×Nat×Int) v=> ∃p,v= .ref p/\H p=some (.tup [.int t.1,.int t.2.1,.int t.2.2])) ms vs
theorem gO.mono {H H':Hp}{ms:List (Nat×Nat×Int)}{vs:List V}(h:gO H ms vs)(k:cK H H'):gO H' ms vs:=
 Paired.iS h fun _ _ ⟨p,e,q⟩=>⟨p,e,k _ _ q⟩
structure dr (H:Hp)(sd:Addr)(S:Bk)(f:fG):Prop where
 dict:H sd=some (.dK (bk3 f))
 hb:H f.pb=some (.lst (f.iD.map V.ref))
 hc:H f.pc=some (.lst (f.cps.map V.ref))
 hm: ∃ms,H f.pm=some (.lst ms)/\gO H S.made ms
 rb:eX H S.aC f.iD
 rc:eX H S.credits f.cps
 nd:f.fp.Nodup
 ns:sd∉f.fp
theorem eX.keep {H H':Hp}{rs:List Rw}{ps:List Addr}(h:eX H rs ps)(k: ∀p∈ps,∀o,H p=some o->H' p=some o):eX H' rs ps:=by
 induction h with
 |nil=>exact .nil
 | @cons r p rs ps hr t ih=>exact .cons (k p bw _ hr) (ih fun q hq=>k q (aU _ hq))
theorem dr.keep {H H':Hp}{sd:Addr}{S:Bk}{f:fG}(h:dr H sd S f)(k: ∀b o,(b=sd∨b∈f.fp)->H b=some o->H' b=some o)(t:cK H H'):dr H' sd S f:=by
 obtain⟨ms,m1,m2⟩:=h.hm
 refine⟨k _ _ (.inl rfl) h.dict,k _ _ (.inr (by simp[fG.fp])) h.hb,k _ _ (.inr (by simp[fG.fp])) h.hc,⟨ms,k _ _ (.inr (by simp[fG.fp])) m1,m2.mono t⟩,h.rb.keep fun p hp o e=>k p o (.inr (by simp[fG.fp,hp])) e,h.rc.keep fun p hp o e=>k p o (.inr (by simp[fG.fp,hp])) e,h.nd,h.ns⟩
theorem dr.same {H H':Hp}{sd:Addr}{S:Bk}{f:fG}(h:dr H sd S f)(s:aG H H'):dr H' sd S f:=h.keep (fun b o _ e=>s _ _ e) s.tk
def Frame (fp:List Addr)(H H':Hp):Prop:= ∀b o,b∉fp->H b=some o->H' b=some o
theorem Frame.refl {fp:List Addr}{H:Hp}:Frame fp H H:=fun _ _ _ e=>e
theorem Frame.trans {fp Rf:List Addr}{H1 H2 H3:Hp}(a:Frame fp H1 H2)(b:Frame Rf H2 H3)(h: ∀x∈Rf,x∈fp∨H1 x=none):Frame fp H1 H3:=fun x o hx e=>
 b x o (fun hx'=>by
  rcases h x hx' with h|h
  ·exact hx h
  ·rw[h] at e; cases e) (a x o hx e)
theorem aG.frame {fp:List Addr}{H H':Hp}(s:aG H H'):Frame fp H H':=fun b o _ e=>s _ _ e
theorem Frame.upd {fp:List Addr}{H:Hp}{p:Addr}{o:HO}(h:p∈fp):Frame fp H (upd H p o):=fun b u hb e=>by
 have jc:b≠p:=fun z=>hb (by rw[z]; exact h)
 rw[az jc]; exact e
theorem Frame.same {fp:List Addr}{H0 H H':Hp}(a:Frame fp H H')(s:aG H0 H)(h: ∀x∈fp,H0 x=none):aG H0 H':=fun b o e=>a b o (fun hb=>by rw[h b hb] at e; cases e) (s b o e)
theorem eX.length {H:Hp}{rs:List Rw}{ps:List Addr}(h:eX H rs ps):rs.length=ps.length:=aW h
theorem eX.at {H:Hp}{rs:List Rw}{ps:List Addr}(h:eX H rs ps){i:Nat}(hi:i < rs.length): ∃p,ps[i]? =some p/\H p=some (.lst (rs.getD i default).vs):=by
 obtain⟨p,e,q⟩:=bO h (af hi)
 refine⟨p,e,?_⟩
 rw[ai,af hi]
 exact q
theorem eX.set {H:Hp}: ∀{rs:List Rw} {ps:List Addr} {i:Nat} {p:Addr} {r:Rw},eX H rs ps->ps.Nodup->ps[i]? =some p->eX (upd H p (.lst r.vs)) (rs.set i r) ps
 |_,_,i,p,r,.nil,_,h=>by simp at h
 |_,_,0,p,r,.cons (b:=q) hr t,nd,h=>by
  injection h with h
  subst h
  rw[eh] at nd
  refine .cons ag (eX.keep t fun x hx o e=>?_)
  have jc:x≠q:=fun z=>nd.1 (by rw[← z]; exact hx)
  rw[az jc]; exact e
 |_,_,i + 1,p,r,.cons (b:=q) hr t,nd,h=>by
  rw[eh] at nd
  rw[List.getElem?_cons_succ] at h
  have jc:q≠p:=fun z=>nd.1 (by rw[z]; exact gA h)
  refine .cons ?_ (eX.set t nd.2 h)
  rw[az jc]; exact hr
theorem eX.ig {H:Hp}{rs:List Rw}{ps:List Addr}{p:Addr}{o:HO}(h:eX H rs ps)(hp:p∉ps):eX (upd H p o) rs ps:=
 h.keep fun q hq u e=>by
  have jc:q≠p:=fun z=>hp (by rw[← z]; exact hq)
  rw[az jc]; exact e
theorem fG.Rg {f:fG}(h:f.fp.Nodup):f.pb≠f.pc/\f.pb≠f.pm/\f.pc≠f.pm/\(∀p∈f.iD,p≠f.pb/\p≠f.pc/\p≠f.pm/\p∉f.cps)/\(∀p∈f.cps,p≠f.pb/\p≠f.pc/\p≠f.pm/\p∉f.iD)/\f.iD.Nodup/\f.cps.Nodup:=by
 unfold fG.fp at h
 simp only[List.nodup_cons,List.mem_cons,List.mem_append,not_or,List.nodup_append] at h
 obtain⟨⟨h1,h2,h3,h4⟩,⟨h5,h6,h7⟩,⟨h8,h9⟩,Rh,VH,TX⟩:=h
 refine⟨h1,h2,h5,fun p hp=>⟨fun e=>h3 (e▸hp),fun e=>h6 (e▸hp),fun e=>h8 (e▸hp),fun hc=>TX p hp p hc rfl⟩,fun p hp=>⟨fun e=>h4 (e▸hp),fun e=>h7 (e▸hp),fun e=>h9 (e▸hp),fun hb=>TX p hb p hp rfl⟩,Rh,VH⟩
theorem dr.setB {H:Hp}{sd:Addr}{S:Bk}{f:fG}(h:dr H sd S f){i:Nat}{p:Addr}{r:Rw}(hp:f.iD[i]? =some p)(hl: ∃xs,H p=some (.lst xs)):dr (upd H p (.lst r.vs)) sd {S with aC:=S.aC.set i r} f:=by
 obtain⟨d1,d2,d3,d4,d5,d6,d7⟩:=fG.Rg h.nd
 have hm:=gA hp
 obtain⟨e1,e2,e3,e4⟩:=d4 p hm
 obtain⟨ms,m1,m2⟩:=h.hm
 obtain⟨xs,hx⟩:=hl
 have es:sd≠p:=fun z=>h.ns (by rw[z]; simp[fG.fp,hm])
 exact⟨by rw[az es]; exact h.dict,by rw[az e1.symm]; exact h.hb,by rw[az e2.symm]; exact h.hc,⟨ms,by rw[az e3.symm]; exact m1,m2.mono (gu hx)⟩,h.rb.set d6 hp,h.rc.ig e4,h.nd,h.ns⟩
theorem dr.setC {H:Hp}{sd:Addr}{S:Bk}{f:fG}(h:dr H sd S f){i:Nat}{p:Addr}{r:Rw}(hp:f.cps[i]? =some p)(hl: ∃xs,H p=some (.lst xs)):dr (upd H p (.lst r.vs)) sd {S with credits:=S.credits.set i r} f:=by
 obtain⟨d1,d2,d3,d4,d5,d6,d7⟩:=fG.Rg h.nd
 have hm:=gA hp
 obtain⟨e1,e2,e3,e4⟩:=d5 p hm
 obtain⟨ms,m1,m2⟩:=h.hm
 obtain⟨xs,hx⟩:=hl
 have es:sd≠p:=fun z=>h.ns (by rw[z]; simp[fG.fp,hm])
 exact⟨by rw[az es]; exact h.dict,by rw[az e1.symm]; exact h.hb,by rw[az e2.symm]; exact h.hc,⟨ms,by rw[az e3.symm]; exact m1,m2.mono (gu hx)⟩,h.rb.ig e4,h.rc.set d7 hp,h.nd,h.ns⟩
theorem dr.VI {H:Hp}{sd:Addr}{S:Bk}{f:fG}(h:dr H sd S f){ms:List V}{t:Nat×Nat×Int}{p:Addr}(hm:H f.pm=some (.lst ms))(hms:gO H S.made ms)(hp:H p=some (.tup [.int t.1,.int t.2.1,.int t.2.2])):
  dr (upd H f.pm (.lst (ms ++ [.ref p]))) sd {S with made:=S.made ++ [t]} f:=by
 obtain⟨d1,d2,d3,d4,d5,d6,d7⟩:=fG.Rg h.nd
 have es:sd≠f.pm:=fun z=>h.ns (by rw[z]; simp[fG.fp])
 exact⟨by rw[az es]; exact h.dict,by rw[az d2]; exact h.hb,by rw[az d3]; exact h.hc,⟨_,ag,cL (hms.mono (gu hm)) ⟨p,rfl,dP hm _ _ hp⟩⟩,h.rb.ig fun z=>(d4 _ z).2.2.1 rfl,h.rc.ig fun z=>(d5 _ z).2.2.1 rfl,h.nd,h.ns⟩
theorem Ri:("bills":Str)≠"credits":=by decide +kernel
theorem Rj:("bills":Str)≠"made":=by decide +kernel
theorem Rk:("credits":Str)≠"made":=by decide +kernel
theorem Rl (a b c:V):gj [((Sum.inr "bills":Key),a),(Sum.inr "credits",b),(Sum.inr "made",c)] (Sum.inr "bills")=some a:=by
 unfold gj
 rw[List.find?_cons_of_pos (by simp)]; rfl
theorem Rm (a b c:V):gj [((Sum.inr "bills":Key),a),(Sum.inr "credits",b),(Sum.inr "made",c)] (Sum.inr "credits")=some b:=by
 unfold gj
 rw[List.find?_cons_of_neg (by simpa using Ri),List.find?_cons_of_pos (by simp)]; rfl
theorem Rn (a b c:V):gj [((Sum.inr "bills":Key),a),(Sum.inr "credits",b),(Sum.inr "made",c)] (Sum.inr "made")=some c:=by
 unfold gj
 rw[List.find?_cons_of_neg (by simpa using Rj),List.find?_cons_of_neg (by simpa using Rk),List.find?_cons_of_pos (by simp)]; rfl
theorem NS (a b c:V):px [] [((Sum.inr "bills":Key),a),(Sum.inr "credits",b),(Sum.inr "made",c)]=[((Sum.inr "bills":Key),a),(Sum.inr "credits",b),(Sum.inr "made",c)]:=by
 unfold px
 rw[dJ,dJ,dJ,List.foldl_nil]
 have h1:putK ([]:List (Key×V)) (Sum.inr "bills") a=[((Sum.inr "bills":Key),a)]:=by
  unfold putK; rw[if_neg (by simp)]; rfl
 have h2:putK [((Sum.inr "bills":Key),a)] (Sum.inr "credits") b=[((Sum.inr "bills":Key),a),(Sum.inr "credits",b)]:=by
  unfold putK; rw[if_neg (by simpa using Ri)]; rfl
 have h3:putK [((Sum.inr "bills":Key),a),(Sum.inr "credits",b)] (Sum.inr "made") c=[((Sum.inr "bills":Key),a),(Sum.inr "credits",b),(Sum.inr "made",c)]:=by
  unfold putK; rw[if_neg (by simpa using⟨Rj,Rk⟩)]; rfl
 dsimp only
 rw[h1,h2,h3]
theorem dr.gB {H:Hp}{sd:Addr}{S:Bk}{f:fG}(h:dr H sd S f):mr H sd (.str "bills") (some (.ref f.pb)):=Rl (.ref f.pb) (.ref f.pc) (.ref f.pm)▸mr.k (k:=Sum.inr "bills") h.dict
theorem dr.gC {H:Hp}{sd:Addr}{S:Bk}{f:fG}(h:dr H sd S f):mr H sd (.str "credits") (some (.ref f.pc)):=Rm (.ref f.pb) (.ref f.pc) (.ref f.pm)▸mr.k (k:=Sum.inr "credits") h.dict
theorem dr.gM {H:Hp}{sd:Addr}{S:Bk}{f:fG}(h:dr H sd S f):mr H sd (.str "made") (some (.ref f.pm)):=Rn (.ref f.pb) (.ref f.pc) (.ref f.pm)▸mr.k (k:=Sum.inr "made") h.dict
theorem dr.lb {H:Hp}{sd:Addr}{S:Bk}{f:fG}(h:dr H sd S f){b:Nat}(hb:b < S.aC.length): ∃p,f.iD[b]? =some p/\tH (f.iD.map V.ref) (b:Int)=some (.ref p)/\H p=some (.lst (S.bl b).vs):=by
 obtain⟨p,e,q⟩:=h.rb.at hb
 exact⟨p,e,cJ (by rw[aD,e]; rfl),q⟩
theorem dr.lc {H:Hp}{sd:Addr}{S:Bk}{f:fG}(h:dr H sd S f){b:Nat}(hb:b < S.credits.length): ∃p,f.cps[b]? =some p/\tH (f.cps.map V.ref) (b:Int)=some (.ref p)/\H p=some (.lst (S.cr b).vs):=by
 obtain⟨p,e,q⟩:=h.rc.at hb
 exact⟨p,e,cJ (by rw[aD,e]; rfl),q⟩
section
variable {prog:Program}{w:World}{A:Around}{E:Value->Shared->Prop}
def sD (prog:Program)(w:World)(A:Around)(kS:Addr)(f:Value)(Fi:List Value->Shared->Prop):List Value->List Value->Shared->Prop
 |[],ks,s=>Fi ks s
 |v :: r,ks,s=>wpAny (model prog w) A (call f [v]) (fun k s'=> ∃e,s'.heap.get? kS=some (seqObj "list" ks.toArray e)/\ ∀h' c,Heap.SameBut kS s'.heap h'->h'.get? kS=some (seqObj "list" (ks ++ [k]).toArray c)->sD prog w A kS f Fi r (ks ++ [k]) {s' with heap:=h'}) (fun _ _=>False) s
def FK (prog:Program)(w:World)(A:Around)(D kS:Addr)(e1:Nat)(vs:List Value)(Q:Shared->Prop)(ks:List Value)(s:Shared):Prop:=
 ∃(κ:SortKind) (key:Nat->Int),D≠kS/\s.heap.get? D=some (seqObj "list" #[] e1)/\(2<=vs.length-> ∀Q':SortKind->Shared->Prop,Q' κ s->wpAny (model prog w) A (keyKind' ks.toArray) Q' (fun _ _=>False) s)/\
  (∀(i j:Nat) (C:Bool->Shared->Prop),i < vs.length->j < vs.length->C (decide (key i < key j)) s->wpAny (model prog w) A (keyLt' κ (ks.getD i Value.none) (ks.getD j Value.none)) C (fun _ _=>False) s)/\
  ∀(p:Array Nat) (h':Heap) (n:Nat),qv vs.length p->lg key p vs.length->h'.objs.size=s.heap.objs.size->h'.get? D=some (seqObj "list" (p.toList.map fun i=>vs.getD i Value.none).toArray n)->(∀b,b≠D->b≠kS->h'.get? b=s.heap.get? b)->Q {s with heap:=h'}
theorem D7 {f:Value}{kS:Addr}{Fi:List Value->Shared->Prop}{n:Nat}{body:Value->PUnit->Sem (ForInStep PUnit)}(hn:n < 64)
  (hb: ∀x ks (s:Shared) (C:Value->Shared->Prop),List.length ks < 64->wpAny (model prog w) A (call f [x]) (fun k s'=> ∃e,s'.heap.get? kS=some (seqObj "list" ks.toArray e)/\ ∀h' c,Heap.SameBut kS s'.heap h'->h'.get? kS=some (seqObj "list" (ks ++ [k]).toArray c)->C k {s' with heap:=h'}) (fun _ _=>False) s->
   wpAny (model prog w) A (body x ⟨⟩) (fun r s'=>r= .yield ⟨⟩/\ ∃k c,s'.heap.get? kS=some (seqObj "list" (ks ++ [k]).toArray c)/\C k s') E s): ∀(r ks:List Value) (e:Nat) (s:Shared),ks.length + r.length=n->
   s.heap.get? kS=some (seqObj "list" ks.toArray e)->sD prog w A kS f Fi r ks s->
   wpAny (model prog w) A (forIn r PUnit.unit body) (fun _ s'=> ∃ks e,s'.heap.get? kS=some (seqObj "list" ks.toArray e)/\ks.length=n/\Fi ks s') E s
 |[],ks,e,s,hl,hk,h=>by
  rw[List.forIn_nil]
  exact wpAny_pure ⟨ks,e,hk,by simpa using hl,h⟩
 |x :: r,ks,e,s,hl,hk,h=>by
  rw[cf] at hl
  rw[List.forIn_cons]
  refine aA (cw (hb x ks s (fun k s'=>sD prog w A kS f Fi r (ks ++ [k]) s') (by lia) h) (fun q s' hq=>?_) fun _ _ x=>x)
  obtain⟨rfl,k,c,JO,h2⟩:=hq
  show wpAny (model prog w) A (forIn r PUnit.unit body) _ E s'
  exact D7 hn hb r (ks ++ [k]) c s' (by rw[aF,List.length_singleton]; lia) JO h2
variable {s:Shared}
theorem D8 {D kS:Addr}{e e1:Nat}{ks out:List Value}{st:SortSt}{P:PySem.Fin->Shared->Prop}(hD:s.heap.get? D=some (seqObj "list" #[] e1))(hk:s.heap.get? kS=some (seqObj "list" ks.toArray e))(ne:D≠kS)
  (CF:(arrOf st).map (·.2)=out.toArray) (hz:out.length < 64) (hkz:ks.length < 64) (hf:failedOf st=none)
  (h: ∀(h':Heap) (n:Nat),h'.objs.size=s.heap.objs.size->h'.get? D=some (seqObj "list" out.toArray n)->(∀b,b≠D->b≠kS->h'.get? b=s.heap.get? b)->P (.done (.ret .none)) {s with heap:=h'}):
  wpAny (model prog w) A (ksk_tail D false e1 (.ref kS) st) P E s:=by
 have hl:sizeLine=16777216:=eU
 unfold ksk_tail
 try dsimp only
 rw[CF]
 have s1:=rz s.heap kS (Obj.mapSeq fun _=>(#[]:Array Value))
 have d1:(s.heap.update kS (Obj.mapSeq fun _=>(#[]:Array Value))).get? D=some (seqObj "list" #[] e1):=(s1.2 D ne).trans hD
 have s2:=rz (s.heap.update kS (Obj.mapSeq fun _=>(#[]:Array Value))) D (Obj.mapSeq fun _=>out.toArray)
 obtain⟨c2,KO⟩: ∃c2,((s.heap.update kS (Obj.mapSeq fun _=>(#[]:Array Value))).update D (Obj.mapSeq fun _=>out.toArray)).get? D=some (seqObj "list" out.toArray c2):=⟨_,Md d1 fun _=>out.toArray⟩
 refine aA (vy hk rfl ?_ (by rw[br]; lia) (bB _))
 refine aA (wpAny_letGo ?_)
 refine aA (seqEpoch_at d1 rfl ?_)
 simp only[Bool.false_eq_true,if_false]
 refine aA (vy d1 rfl ?_ (bB _) (by rw[br]; lia))
 rw[hf]
 simp only[bne_self_eq_false,Bool.false_eq_true,if_false]
 refine bG (h _ c2 (s2.1.trans s1.1) KO fun b n1 n2=>(s2.2 b n1).trans (s1.2 b n2))
theorem NT {D kS:Addr}{e e1:Nat}{ks vs:List Value}{P:PySem.Fin->Shared->Prop}(hk:s.heap.get? kS=some (seqObj "list" ks.toArray e))(hl:ks.length=vs.length)(BZ:vs.length < 64)
  (h:FK prog w A D kS e1 vs (fun s'=>P (.done (.ret .none)) s') ks s):wpAny (model prog w) A (ksk_end D false vs.toArray e1 (.ref kS) ks.toArray) P E s:=by
 obtain⟨κ,key,ne,hD,kind,cmp,fin⟩:=h
 have hsz:vs.toArray.size=vs.length:=by simp
 unfold ksk_end
 try dsimp only
 simp only[Bool.false_eq_true,if_false]
 by_cases h2:vs.toArray.size < 2
 ·rw[a7 h2,a7 h2]
  refine aA (bG ?_)
  rw[StateT.run_pure]
  refine aA (bG ?_)
  dsimp only
  have CF:(arrOf (SortSt.mk' general' (ks.toArray.zip vs.toArray) #[] 7 none)).map (·.2)=((List.toArray (List.range vs.length)).toList.map fun i=>vs.getD i Value.none).toArray:=by
   show(ks.toArray.zip vs.toArray).map (·.2)=_
   apply Array.toList_inj.mp
   have e1:((ks.toArray.zip vs.toArray).map (·.2)).toList=vs:=by
    rw[Array.toList_map,Array.toList_zip]
    exact List.map_snd_zip (by rw[zX,zX]; lia)
   rw[e1]
   show vs=(List.range vs.length).map fun i=>vs.getD i Value.none
   exact(range_getD vs Value.none).symm
  refine D8 hD hk ne CF (by rw[ae,zX,dv]; exact BZ) (by lia) rfl fun h' n z1 z2 z3=>?_
  refine fin (List.toArray (List.range vs.length)) h' n (Ka _) (fun i j Yi hj=>?_) z1 z2 z3
  have:i=j:=by lia
  subst this
  exact eJ _
 ·rw[aO h2,aO h2]
  have Q8:2<=vs.length:=by lia
  refine aA (cw (kind Q8 (fun κ' s'=>κ'=κ/\s'=s) ⟨rfl,rfl⟩) (fun κ' s' JO=>?_) fun _ _ x=>x.elim)
  obtain⟨rfl,rfl⟩:=JO
  refine aA (cw (kat_run (Q:=fun zP DO=>DO=s'/\ ∃p:Array Nat,p.size=vs.length/\arrOf zP=p.map (kas_item (ks.toArray.zip vs.toArray))/\failedOf zP=none/\qv vs.length p/\lg key p vs.length)
   (G:=fun p DO=>DO=s'/\qv vs.length p/\lg key p vs.length) (κ:=κ') hl Q8 BZ (fun p' zP DO a1 a2 a3 a4=>⟨a4.1,p',a1,a2,a3,a4.2⟩) (uo (fun i j C hi hj q=>cmp i j C hi hj q) (fun p q=>⟨rfl,q⟩) _ (HU (by lia)))) ?_ fun _ _ e=>e)
  rintro⟨⟨⟩,zP⟩ DO ⟨rfl,p,hp,VD,hf,q1,q2⟩
  dsimp only
  exact D8 hD hk ne (kat_snds hl VD) (by rw[ae,oo,hp]; exact BZ) (by lia) hf fun h' n z1 z2 z3=>fin p h' n q1 q2 z1 z2 z3
theorem KU {D:Addr}{n:Nat}{vs:List Value}{f:Value}{P:PySem.Fin->Shared->Prop}(ho:s.heap.get? D=some (seqObj "list" vs.toArray n))(BZ:vs.length < 64)
  (h: ∀(kS:Addr) (e1:Nat) (h':Heap),(∀b o,b≠D->s.heap.get? b=some o->h'.get? b=some o)->h'.get? D=some (seqObj "list" #[] e1)->h'.get? kS=some (seqObj "list" #[] 0)->D≠kS->s.heap.objs.size<=kS->
   sD prog w A kS f (FK prog w A D kS e1 vs (fun s'=>P (.done (.ret .none)) s')) vs [] {s with heap:=h'}):wpAny (model prog w) A (ksk_tree D f false) P E s:=by
 have ha:D < s.heap.objs.size:=aK ho
 have hl:sizeLine=16777216:=eU
 have s1:=rz s.heap D (Obj.mapSeq fun _=>(#[]:Array Value))
 obtain⟨e1,FF⟩: ∃e1,(s.heap.update D (Obj.mapSeq fun _=>(#[]:Array Value))).get? D=some (seqObj "list" #[] e1):=⟨_,Md ho fun _=> #[]⟩
 have VJ:((s.heap.update D (Obj.mapSeq fun _=>(#[]:Array Value))).push (seqObj "tuple" vs.toArray 0)).objs.size=s.heap.objs.size + 1:=by rw[size_push',o5]
 unfold ksk_tree
 refine aA (listItems_at ho rfl ?_)
 refine aA (vy ho rfl ?_ (by rw[br]; lia) (bB _))
 refine aA (seqEpoch_at FF rfl ?_)
 refine aA (wpAny_newTuple ?_ (by show vs.length<=_; lia))
 refine aA (Kb ?_ (bB _))
 refine iq ?_
 generalize hU:((s.heap.update D (Obj.mapSeq fun _=>(#[]:Array Value))).push (seqObj "tuple" vs.toArray 0))=U at VJ
 have kU: ∀b o,(s.heap.update D (Obj.mapSeq fun _=>(#[]:Array Value))).get? b=some o->U.get? b=some o:=fun b o z=>by
  rw[← hU]
  exact ax _ z
 have PJ:(U.push (seqObj "list" #[] 0)).get? U.objs.size=some (seqObj "list" #[] 0):=bN _ rfl
 have start:=h U.objs.size e1 (U.push (seqObj "list" #[] 0)) (fun b o n z=>ax _ (kU b o ((s1.2 b n).trans z))) (ax _ (kU D _ FF)) PJ (by rw[VJ]; exact aX (gF ha)) (by rw[VJ]; exact cZ _)
 show wpAny (model prog w) A (ksk_rest D f false vs.toArray e1 (.ref U.objs.size)) P E {s with heap:=U.push (seqObj "list" #[] 0)}
 unfold ksk_rest
 refine aA (wpAny_rule ?_)
 first
  |rw[List.forIn_toArray]
  |(rw[← Array.forIn_toList]; simp only[List.toList_toArray])
 refine wpAny_bind (wpAny_mono (D7 BZ (fun x ks s' C hz hx=>?_) vs [] 0 _ (by simp) PJ start) (fun _ s' hd=>?_) fun _ _ x=>x)
 ·refine aA (wpAny_attempt (cw hx (fun k DO hk=>?_) fun _ _ hF=>hF.elim))
  obtain⟨e,nk,c⟩:=hk
  have s2:=rz DO.heap U.objs.size (Obj.mapSeq (·.push k))
  have ea:ks.toArray.push k=(ks ++ [k]).toArray:=by simp
  obtain⟨c2,KO⟩: ∃c2,(DO.heap.update U.objs.size (Obj.mapSeq (·.push k))).get? U.objs.size=some (seqObj "list" (ks ++ [k]).toArray c2):=⟨_,by rw[← ea]; exact Md nk (·.push k)⟩
  try dsimp only
  refine aA (vy nk rfl ?_ (by rw[br]; lia) (a0 (iK (Array.size_push ..)) (by rw[br]; lia)))
  exact bG ⟨rfl,k,c2,KO,c _ c2 s2 KO⟩
 ·obtain⟨ks,e,JO,hl',fin⟩:=hd
  try dsimp only
  refine aA (listItems_at JO rfl ?_)
  exact NT JO hl' BZ fin
theorem sortedK {l q:Addr}{vs:List Value}{Q:Value->Shared->Prop}(hl:s.heap.IsList l vs.toArray)(BZ:vs.length < 64)
  (h: ∀(D kS:Addr) (e1:Nat) (h':Heap),(∀b o,s.heap.get? b=some o->h'.get? b=some o)->h'.get? D=some (seqObj "list" #[] e1)->h'.get? kS=some (seqObj "list" #[] 0)->D≠kS->s.heap.objs.size<=D->s.heap.objs.size<=kS->
   sD prog w A.in1.in1 kS (.ref q) (FK prog w A.in1.in1 D kS e1 vs (fun s'=>Q (.ref D) s')) vs [] {s with heap:=h'}):
  wpAny (model prog w) A (call (.builtin "sorted") [.ref l] [(Str.ofString "key",.ref q)]) Q E s:=by
 have TU:sizeLine=16777216:=eU
 refine call_function_entry_kw kind_sorted plain_sorted entry_sorted (ksk_s1 _ _) ?_
 unfold Builtin.«sorted»
 refine aA (m:=checkCount "sorted" 1 1 _) (bG ?_)
 refine aA (collect_list hl ?_ (by lia))
 refine aA (Kb ?_ (by show vs.length<=_; lia))
 have hsz:((s.heap.push (seqObj "list" #[] 0)).update s.heap.objs.size (Obj.mapSeq (· ++ vs.toArray))).objs.size=s.heap.objs.size + 1:=by
  rw[o5,size_push']
 generalize hU:((s.heap.push (seqObj "list" #[] 0)).update s.heap.objs.size (Obj.mapSeq (· ++ vs.toArray)))=U at hsz
 have keep: ∀b o,s.heap.get? b=some o->U.get? b=some o:=fun b o z=>by
  have lt:b < s.heap.objs.size:=aK z
  rw[← hU,G8 _ _ _ _ (aX lt),my _ _ _ (aX lt)]
  exact z
 have Na:(U.push (seqObj "list" vs.toArray 0)).get? U.objs.size=some (seqObj "list" vs.toArray 0):=bN _ rfl
 show wpAny _ _ _ _ _ {s with heap:=U.push (seqObj "list" vs.toArray 0)}
 refine aA (iq (wpAny_call_entry_kw slot_list_sort ⟨_,Na,rfl⟩ entry_list_sort ?body (ksk_l1 _ _)))
 case body=>
  show wpAny (model prog w) A.in1.in1 (Builtin.«list.sort» ⟨[.ref U.objs.size],[(Str.ofString "key",.ref q)]⟩) _ _ _
  rw[ksk_t1]
  refine KU (s:={s with heap:=U.push (seqObj "list" vs.toArray 0)}) Na BZ fun kS e1 h' kp d1 k1 ne le=>?_
  have z:=h U.objs.size kS e1 h' (fun b o w=>kp b o (fun w2=>by rw[w2] at w; exact absurd (aK w) (by rw[hsz]; exact wV.mpr (cZ _))) (ax _ (keep b o w))) d1 k1 ne (by rw[hsz]; exact cZ _) (by
   have Yl:(U.push (seqObj "list" vs.toArray 0)).objs.size<=kS:=le
   rw[size_push',hsz] at Yl
   exact a0 (rq (cZ _)) Yl)
  have mono: ∀(r ks:List Value) (s':Shared),sD prog w A.in1.in1 kS (.ref q) (FK prog w A.in1.in1 U.objs.size kS e1 vs (fun s'=>Q (.ref U.objs.size) s')) r ks s'->
    sD prog w A.in1.in1 kS (.ref q) (FK prog w A.in1.in1 U.objs.size kS e1 vs (fun s'=> ∃v,PySem.Fin.done (.ret .none)= .done (.ret v)/\wpAny (model prog w) A.in1 (ret (.ref U.objs.size)) (fun fin s'=> ∃v,fin=PySem.Fin.done (Flow.ret v)/\Q v s') E s')) r ks s':=by
   intro r
   induction r with
   |nil=>
    rintro ks s' ⟨κ,key,a1,a2,a3,a4,a5⟩
    exact⟨κ,key,a1,a2,a3,a4,fun p h2 n b1 b2 b3 b4 b5=>⟨_,rfl,bG ⟨_,rfl,a5 p h2 n b1 b2 b3 b4 b5⟩⟩⟩
   |cons v r ih=>
    intro ks s' hh
    exact cw hh (fun k s2 ⟨e,z1,z2⟩=>⟨e,z1,fun h2 c w1 w2=>ih _ _ (z2 h2 c w1 w2)⟩) fun _ _ x=>x
  exact mono vs [] _ z
end
end L2
namespace JR
open PySem
theorem FL (f:Array Value->Array Value)(o:Obj):(Obj.mapFields f o).dict=o.dict:=by
 obtain⟨c,d,dt,sl⟩:=o
 cases dt <;> rfl
def iX (h:Heap)(e:Addr)(cls:Value)(iN:Option Addr)(vs:Array Value):Prop:= ∃oe,h.get? e=some oe/\oe.cls=cls/\oe.dict=iN/\oe.data= .fields vs
theorem iX.set {h:Heap}{e:Addr}{cls:Value}{iN:Option Addr}{vs:Array Value}(x:iX h e cls iN vs)(i:Nat)(v:Value):
  iX (h.update e (Obj.mapFields (·.setIfInBounds i v))) e cls iN (vs.setIfInBounds i v):=by
 obtain⟨oe,he,hc,hd,hv⟩:=x
 have q:=Obj.data_mapFields hv (·.setIfInBounds i v)
 exact⟨_,Ce _ he (Obj.isFreed_of_fields q),(Obj.cls_mapFields _ _).trans hc,(FL _ _).trans hd,q⟩
theorem iX.same {h h':Heap}{e:Addr}{cls:Value}{iN:Option Addr}{vs:Array Value}(x:iX h e cls iN vs)(k: ∀o,h.get? e=some o->h'.get? e=some o):iX h' e cls iN vs:=
 let⟨oe,he,r⟩:=x
 ⟨oe,k _ he,r⟩
def mS (fr own:List Addr)(h h':Heap):Prop:= ∀b o,h.get? b=some o->b∉own->(b∉fr->h'.get? b=some o)/\ ∃sl,h'.get? b=some {o with slots:=sl}
theorem mS.trans {fr o1 o2:List Addr}{h h1 h2:Heap}(a:mS fr o1 h h1)(b:mS fr o2 h1 h2):mS fr (o1 ++ o2) h h2:=fun c ob q n=>by
 obtain⟨k,sl,e⟩:=a c ob q (fun z=>n (cY _ z))
 obtain⟨_,TY,e2⟩:=b c _ e (fun z=>n (bA _ z))
 exact⟨fun hn=>(b c ob (k hn) (fun z=>n (bA _ z))).1 hn,TY,e2⟩
theorem mS.mono {fr PL o1 o2:List Addr}{h h1:Heap}(a:mS fr o1 h h1)(hf: ∀b∈fr,b∈PL)(ho: ∀b∈o1,b∈o2):mS PL o2 h h1:=fun c ob q n=>
 let⟨k,sl,e⟩:=a c ob q (fun z=>n (ho c z))
 ⟨fun hn=>k (fun z=>hn (hf c z)),sl,e⟩
theorem yx {fr:List Addr}{h:Heap}{a:Addr}(f:Obj->Obj):mS fr [a] h (h.update a f):=fun b o q n=>by
 have z:(h.update a f).get? b=some o:=(mx _ _ (fun(e:a=b)=>n (ao.mpr e.symm))).trans q
 exact⟨fun _=>z,o.slots,z⟩
theorem uF {fr own:List Addr}{h:Heap}(o':Obj):mS fr own h (h.push o'):=fun b o q _=>⟨fun _=>ax _ q,o.slots,ax _ q⟩
theorem iX.but {fr own:List Addr}{h h':Heap}{e:Addr}{cls:Value}{iN:Option Addr}{vs:Array Value}(x:iX h e cls iN vs)(b:mS fr own h h')(n:e∉own):iX h' e cls iN vs:=by
 obtain⟨oe,he,hc,hd,hv⟩:=x
 obtain⟨_,sl,q⟩:=b e oe he n
 exact⟨_,q,hc,hd,hv⟩
def JS (h:Heap)(T:Addr)(fl:Value):Prop:= ∃c d ts,iX h T c d ts/\ts[3]? =some fl
theorem ff {ts:Array Value}{i:Nat}{v:Value}(h:ts[i]? =some v):i < ts.size:=(Array.getElem?_eq_some_iff.mp h).1
theorem pJ {ts:Array Value}{i:Nat}{v:Value}(h:i < ts.size):(ts.setIfInBounds i v)[i]? =some v:=by
 rw[Array.getElem?_setIfInBounds_self_of_lt h]
theorem qA {ts:Array Value}{i j:Nat}{v:Value}(h:i≠j):(ts.setIfInBounds i v)[j]? =ts[j]? :=by
 rw[Array.getElem?_setIfInBounds_ne h]
section
variable {M:Model}{A:Around}{E:Value->Shared->Prop}{s:Shared}{env:Env}{outer:List Env}{base:Heap}{L e T:Addr}{cls:Value}{iN:Option Addr}{vs:Array Value}{Q:Unit->Shared->Prop}
theorem qB {a:Addr}{i:Nat}{v:Value}{R:Value->Shared->Prop}(x:iX s.heap a cls iN vs)(h:vs[i]? =some v)(q:R v s):wpAny M A (field (.ref a) i) R E s:=by
 obtain⟨oe,he,_,_,hv⟩:=x
 exact Hb he hv h q
theorem nR {a:Addr}{i:Nat}{v:Value}(x:iX s.heap a cls iN vs)(h:i < vs.size)
  (q: ∀h',mS [] [a] s.heap h'->iX h' a cls iN (vs.setIfInBounds i v)->h'.objs.size=s.heap.objs.size->Q () {s with heap:=h'}):wpAny M A (setField (.ref a) i v) Q E s:=by
 obtain⟨oe,he,hc,hd,hv⟩:=id x
 exact wpAny_setField he hv h (q _ (yx _) (x.set i v) (Heap.size_after_update ..))
theorem uG {fl:Value}(x:iX s.heap e cls iN vs)(h1:vs[1]? =some (.ref T))(ht:JS s.heap T fl)
  (q: ∀h',mS [] [T] s.heap h'->JS h' T .none->h'.objs.size=s.heap.objs.size->Q () {s with heap:=h'}):wpAny M A (setFlight (.ref e) none) Q E s:=by
 obtain⟨c,d,ts,xt,h3⟩:=ht
 unfold setFlight
 refine aA (qB x h1 ?_)
 rw[if_pos (show(Value.ref T != Value.none)=true from by simp)]
 exact nR xt (ff h3) fun h' b x' z=>q h' b ⟨c,d,_,x',pJ (ff h3)⟩ z
theorem entry {head:Value}{had:Bool}(B0:A.frames=some (env :: outer))(hl:s.heap.FunFrames base (env :: outer))(hf:env.frame=some L)(x:iX s.heap e cls iN vs)(hsz:1 < vs.size)
  (q: ∀h' T,mS ((env :: outer).filterMap (·.frame)) [e] s.heap h'->iX h' e cls iN (vs.setIfInBounds 1 (.ref T))->T=s.heap.objs.size->JS h' T (rawInt L)->Q () {s with heap:=h'}):
  wpAny M A (do let a ← frameOf env; let pl ← entryPlaceOf L had; let b ← EntryCells.newEntry head a .none (rawInt L) .none pl; setField (.ref e) 1 b) Q E s:=by
 refine aA (wpAny_frameOf_fun B0 hl hf fun h1 so=>?_)
 refine aA (wpAny_entryPlaceOf fun pl iw=>?_)
 unfold EntryCells.newEntry newFields
 refine aA (wpAny_newObj_type ?_ (iw.sizeOk5 _ _ _ _ _))
 have b1:mS ((env :: outer).filterMap (·.frame)) [] s.heap h1:=fun b o z _=>⟨fun n=>(so.2.1 b n).trans z,so.2.2 b o z⟩
 have x1:iX h1 e cls iN vs:=x.but b1 (by simp)
 generalize TZ:({cls:= .type "traceback",dict:=none,data:= .fields ([head,.ref L,.none,rawInt L,.none] ++ (if pl.isEmpty then List.replicate 6 Value.none else pl)).toArray}:Obj)=ob
 have x2:iX (h1.push ob) e cls iN vs:=x1.same fun o z=>ax _ z
 have ne:h1.objs.size≠e:=by
  obtain⟨_,z,_⟩:=x1
  exact pV (aK z)
 have xt:iX (h1.push ob) h1.objs.size ob.cls ob.dict ([head,.ref L,.none,rawInt L,.none] ++ (if pl.isEmpty then List.replicate 6 Value.none else pl)).toArray:=by
  subst TZ
  exact⟨_,bN _ rfl,rfl,rfl,rfl⟩
 refine nR (s:={s with heap:=h1.push ob}) x2 hsz fun h' b x' _=>q h' h1.objs.size ?_ x' so.1 ⟨_,_,_,xt.but b (by simpa using ne),?_⟩
 ·exact((b1.trans (uF ob (own:=[]))).trans (b.mono (by simp) (fun _ z=>z))).mono (fun _ z=>z) (by simp)
 ·simp
theorem NU (B0:A.frames=some (env :: outer))(hl:s.heap.FunFrames base (env :: outer))(hf:env.frame=some L)(x:iX s.heap e cls iN vs)(h1:vs[1]? =some .none)
  (q: ∀h' T,mS ((env :: outer).filterMap (·.frame)) [e] s.heap h'->iX h' e cls iN (vs.setIfInBounds 1 (.ref T))->T=s.heap.objs.size->JS h' T .none->Q () {s with heap:=h'}):
  wpAny M A (leaving env (.ref e)) Q E s:=by
 have ne:s.heap.objs.size≠e:=by
  obtain⟨_,z,_⟩:=x
  exact pV (aK z)
 unfold leaving noteFrame
 simp only[hf]
 refine aA (aA (qB x h1 ?_))
 rw[aO (by decide)]
 refine entry B0 hl hf x (ff h1) fun h' T b x' hT t=>?_
 refine uG x' (pJ (ff h1)) t fun h2 b2 t2 _=>q h2 T ?_ (x'.but b2 (by rw[hT]; simpa using ne.symm)) hT t2
 intro c o z n
 have hc:c≠T:=fun w=>by rw[w,hT] at z; exact absurd (aK z) (iP _)
 exact(b.trans (b2.mono (by simp) (fun _ z=>z))) c o z (by simpa using⟨by simpa using n,hc⟩)
theorem Ms (B0:A.frames=some (env :: outer))(hl:s.heap.FunFrames base (env :: outer))(hf:env.frame=some L)(x:iX s.heap e cls iN vs)(h1:vs[1]? =some (.ref T))(ht:JS s.heap T .none)(VL:T≠e)
  (q: ∀h' T',mS ((env :: outer).filterMap (·.frame)) [T,e] s.heap h'->iX h' e cls iN (vs.setIfInBounds 1 (.ref T'))->T'=s.heap.objs.size->JS h' T' (rawInt L)->Q () {s with heap:=h'}):
  wpAny M A (noteFrame (.ref e) env) Q E s:=by
 obtain⟨c,d,ts,xt,h3⟩:=ht
 unfold noteFrame
 simp only[hf]
 refine aA (qB x h1 ?_)
 rw[if_pos (show(Value.ref T != Value.none)=true from by simp)]
 refine aA (qB xt h3 ?_)
 rw[if_neg (show ¬ ((Value.none == rawInt L)=true) from by simp[rawInt])]
 refine aA (nR xt (ff h3) fun h' b xt' sz=>?_)
 refine entry (s:={s with heap:=h'}) B0 (hl.of_keeps fun a o z nf=>?_) hf (x.but b (by simpa using VL.symm)) (ff h1) fun h2 T' b2 x2 hT t2=>q h2 T' ?_ x2 (hT.trans sz) t2
 ·have na:a≠T:=fun w=>by
   obtain⟨_,z',_,_,hd⟩:=xt
   rw[w,z'] at z
   cases z
   exact nf _ hd
  obtain⟨_,sl,z'⟩:=b a o z (by simpa using na)
  exact⟨_,z',rfl⟩
 ·exact((b.mono (fun _ z=>absurd z (by simp)) (fun _ z=>z)).trans b2).mono (fun _ z=>z) (by simp)
theorem NV (B0:A.frames=some (env :: outer))(hl:s.heap.FunFrames base (env :: outer))(hf:env.frame=some L)(x:iX s.heap e cls iN vs)(h1:vs[1]? =some (.ref T))(ht:JS s.heap T .none)(VL:T≠e)
  (q: ∀h' T',mS ((env :: outer).filterMap (·.frame)) [T,e] s.heap h'->iX h' e cls iN (vs.setIfInBounds 1 (.ref T'))->T'=s.heap.objs.size->JS h' T' .none->Q () {s with heap:=h'}):
  wpAny M A (leaving env (.ref e)) Q E s:=by
 have ne:s.heap.objs.size≠e:=by
  obtain⟨_,z,_⟩:=x
  exact pV (aK z)
 unfold leaving
 refine aA (Ms B0 hl hf x h1 ht VL fun h' T' b x' hT t=>?_)
 refine uG (s:={s with heap:=h'}) x' (pJ (ff h1)) t fun h2 b2 t2 _=>q h2 T' ?_ (x'.but b2 (by rw[hT]; simpa using ne.symm)) hT t2
 intro c o z n
 have hc:c≠T':=fun w=>by rw[w,hT] at z; exact absurd (aK z) (iP _)
 have n': ¬ (c=T∨c=e):=by simpa using n
 exact(b.trans (b2.mono (by simp) (fun _ z=>z))) c o z (by simp; exact⟨fun w=>n' (.inl w),fun w=>n' (.inr w),hc⟩)
end
def JT {α:Type}(M:Model)(h:Heap)(t:Sem α)(r:α):Prop:=
 ∀(A:Around) (Q:α->Shared->Prop) (E:Value->Shared->Prop) (s:Shared),(∀b o,h.get? b=some o->s.heap.get? b=some o)->Q r s->wpAny M A t Q E s
section
variable {M:Model}{A:Around}{E:Value->Shared->Prop}{h:Heap}{g:Array GenState}{d:Drawn}{t:Nat}{os:OsState}
variable {nm q:Str}{C N:Addr}{bs bm D9:List Value}{ox:Bool}{sn:List Str}{sub:List Value}{ab:Bool}{col:Option Bool}{dd:Option Addr}{k0 k1 k2 k3 k5:Option Value}{B newId kO:String}
theorem iE {X:String}{r:Bool}(hb:bm.contains (.type X)=r):(Value.ref C :: bm).contains (.type X)=r:=by
 rw[List.contains_cons,hb]
 rfl
theorem KW (F:ExcBaseFacts B newId kO D9)(hB:bm.contains (.type B)=true){rest:List Value}{Q:Unit->Shared->Prop}
  (hC:h.get? C=some (excClassObj nm q C N bs bm ox sn sub ab col dd k0 k1 k2 k3 k5 newId)) (hq:Q () ⟨h,g,d,t,os⟩):wpAny M A (checkBuiltinCall newId ⟨.ref C :: rest,[]⟩) Q E ⟨h,g,d,t,os⟩:=by
 have jH:=iE (C:=C) hB; have st:=F.noStar
 simp only[checkBuiltinCall,F.newKind,F.newSplit,F.newRow]
 repeat (first
  |refine bC hC ?_
  |(refine cW hC ?_; rw[jH])
  |refine wpAny_staticBase_exc hC ?_
  |refine wpAny_madeBy_exc hC ?_
  |simp only[bne_self_eq_false,Bool.false_eq_true,if_false]
  |wp_step)
 exact hq
end
section
variable {prog:Program}{w:World}{A:Around}{E:Value->Shared->Prop}{R:Result->Shared->Prop}{h:Heap}{g:Array GenState}{d:Drawn}{t:Nat}{os:OsState}
variable {nm q:Str}{C N f:Addr}{bs bm D9:List Value}{ox:Bool}{sn:List Str}{sub:List Value}{ab:Bool}{col:Option Bool}{dd:Option Addr}{k0 k1 k2 k3 k5:Option Value}{B newId kO:String}
abbrev lX (C t:Addr):Obj:={cls:= .ref C,data:= .fields #[.ref t,.none,.none,.none,.bool false,.none]}
abbrev jo (l:List Value):Obj:={cls:= .type "tuple",data:= .seq l.toArray}
theorem KY (F:ExcBaseFacts B newId kO D9)(hB:bm.contains (.type B)=true)(hA:bm.contains (.type "AttributeError")=false)(hN:bm.contains (.type "NameError")=false)
  (hC:h.get? C=some (excClassObj nm q C N bs bm ox sn sub ab col dd k0 k1 k2 k3 k5 newId)) (hq:R (.ok (.ret (.ref (h.objs.size + 1)))) ⟨(h.push (jo [])).push (lX C h.objs.size),g,d,t,os⟩):
  codeAny (model prog w) A (.builtin newId ⟨[.ref C],[]⟩) R ⟨h,g,d,t,os⟩:=by
 have he:=F.ends
 have h1:=iE (C:=C) hB; have h2:=iE (C:=C) hA; have h3:=iE (C:=C) hN
 refine codeAny_builtinAt F.entry ?_
 unfold Builtin.«BaseException.__new__»
 refine wpAt_bind ?_
 show wpAt _ _ _ (stack >>=_) _ _ _
 refine wpAt_bind (wpAt_stack fun p below=>wpAt_of_wpAny ?_)
 wp_walk
 refine wpAt_of_wpAny ?_
 rw[F.owner]
 repeat (first
  |with_reducible refine wpAny_madeHere_exc F.canon hC ?_
  |with_reducible refine bC hC ?_
  |(with_reducible refine cW hC ?_; first|rw[h1]|rw[h2]|rw[h3])
  |wp_step)
 show R _ _
 rw[kg]
 exact hq
theorem FN (F:ExcBaseFacts B newId kO D9)(hB:bm.contains (.type B)=true)(hA:bm.contains (.type "AttributeError")=false)(hN:bm.contains (.type "NameError")=false){oI:Obj}{Q:Fin->Shared->Prop}
  (hC:h.get? C=some (excClassObj nm q C N bs bm ox sn sub ab col dd k0 k1 k2 k3 k5 newId)) (hi:JT (model prog w) h (typeLookup (.ref C) "__init__") (some (.ref f))) (hf:h.get? f=some oI) (Ro:oI.cls= .type "function")
  (hq:wpAny (model prog w) A (call (.ref f) [.ref (h.objs.size + 1)]) (fun r s'=>r= .none/\Q (.done (.ret (.ref (h.objs.size + 1)))) s') E ⟨(h.push (jo [])).push (lX C h.objs.size),g,d,t,os⟩):
  wpAny (model prog w) A (Builtin.«type.__call__» ⟨[.ref C],[]⟩) Q E ⟨h,g,d,t,os⟩:=by
 repeat (first
  |with_reducible refine bC hC ?_
  |with_reducible refine wpAny_madeBy_exc hC ?_
  |wp_step)
 refine codeAny_call_builtin_code (Code.quiet_builtin _ F.quiet) (KW F hB hC ?_)
 refine KY F hB hA hN hC ?_
 show wpAny _ _ _ _ _ _
 have kp: ∀b o,h.get? b=some o->((h.push (jo [])).push (lX C h.objs.size)).get? b=some o:=fun b o z=>ax _ (ax _ z)
 have Ib:=kp _ _ hC
 have hg:((h.push (jo [])).push (lX C h.objs.size)).get? (h.objs.size + 1)=some (lX C h.objs.size):=by heap_get
 have Rq:(Value.ref C :: bm).contains (.ref C)=true:=by simp
 unfold isInstance
 repeat (first
  |with_reducible refine bC hg ?_
  |(with_reducible refine cW Ib ?_; rw[Rq])
  |wp_step)
 show wpAny _ _ (typeLookup (.ref C) _) _ _ _
 refine hi _ _ _ _ kp ?_
 refine iq (aA ?_)
 unfold bindSpecial
 refine aA (wpAny_typeOf (T:="function") ⟨_,kp _ _ hf,Ro⟩ ?_)
 rw[a7 (by decide)]
 refine bG (aA (cw hq (fun r s' hr=>?_) fun _ _ x=>x))
 obtain⟨rfl,z⟩:=hr
 wp_walk
 exact z
theorem call_exc (F:ExcBaseFacts B newId kO D9)(hB:bm.contains (.type B)=true)(hA:bm.contains (.type "AttributeError")=false)(hN:bm.contains (.type "NameError")=false){oI:Obj}{Q:Value->Shared->Prop}
  (hC:h.get? C=some (excClassObj nm q C N bs bm ox sn sub ab col dd k0 k1 k2 k3 k5 newId)) (hi:JT (model prog w) h (typeLookup (.ref C) "__init__") (some (.ref f))) (hf:h.get? f=some oI) (Ro:oI.cls= .type "function")
  (hq:wpAny (model prog w) (A.under (.builtin "type.__call__" ⟨[.ref C],[]⟩)) (call (.ref f) [.ref (h.objs.size + 1)]) (fun r s'=>r= .none/\Q (.ref (h.objs.size + 1)) s') E ⟨(h.push (jo [])).push (lX C h.objs.size),g,d,t,os⟩):
  wpAny (model prog w) A (call (.ref C) []) Q E ⟨h,g,d,t,os⟩:=by
 have f1:=tc_lookup; have f2:=tc_bind (.ref C)
 have hT:(⟨h,g,d,t,os⟩:Shared).TypeIs (.ref C) "type":=⟨_,hC,rfl⟩
 refine Dz (codeAny_of_tree ?_)
 show wpAny _ _ (callAny (.ref C) _) _ _ _
 repeat (any_goals (first
  |assumption
  |with_reducible refine bC hC ?_
  |wp_step))
 refine⟨rfl,?_⟩
 exact codeAny_call_builtin_at (Code.quiet_builtin _ (by decide +kernel)) entry_typeCall (wpAny_check_type_call_sub hC (FN F hB hA hN hC hi hf Ro hq))
end
def Stop (P:Prop):Prop:=P
theorem Stop.out {P:Prop}(h:Stop P):P:=h
theorem Stop.in {P:Prop}(h:P):Stop P:=h
section
variable {prog:Program}{w:World}{A:Around}{E:Value->Shared->Prop}{R:Result->Shared->Prop}{h:Heap}{g:Array GenState}{d:Drawn}{t:Nat}{os:OsState}
variable {nm q:Str}{C N e:Addr}{bs bm D9:List Value}{ox:Bool}{sn:List Str}{sub:List Value}{ab:Bool}{col:Option Bool}{dd iN:Option Addr}{k0 k1 k2 k3 k5:Option Value}{B newId Ym kO:String}{vs:Array Value}
theorem Ic {M:Model}(F:ExcBaseFacts B Ym kO D9)(hB:bm.contains (.type B)=true){oe:Obj}{rest:List Value}{Q:Unit->Shared->Prop}
  (hC:h.get? C=some (excClassObj nm q C N bs bm ox sn sub ab col dd k0 k1 k2 k3 k5 newId)) (he:h.get? e=some oe) (hc:oe.cls= .ref C) (hq:Q () ⟨h,g,d,t,os⟩):
  wpAny M A (checkBuiltinCall kO ⟨.ref e :: rest,[]⟩) Q E ⟨h,g,d,t,os⟩:=by
 have h1:=iE (C:=C) hB; have h2:=F.noStar
 simp only[checkBuiltinCall,F.initKind,F.initSplit,F.initRow]
 repeat (first
  |(with_reducible refine bC he ?_; rw[hc])
  |with_reducible refine bC hC ?_
  |(with_reducible refine cW hC ?_; rw[h1])
  |wp_step)
 refine wpAny_onRaise ?_
 rw[show ∀(a b:String) (n:Nat),Bind.check ⟨.positional,"*",B,.self,[⟨"args",.varPos,false⟩]⟩ a b n (List.map (fun x=>x.fst) ({pos:=Value.ref e :: rest}:Args).kw)=pure () from fun a b n=>
  check_star_args _ _ _ _ _ _]
 exact bG hq
theorem FO (F:ExcBaseFacts B Ym kO D9)(hB:bm.contains (.type B)=true){v:Value}{Q:Value->Shared->Prop}
  (hC:h.get? C=some (excClassObj nm q C N bs bm ox sn sub ab col dd k0 k1 k2 k3 k5 newId)) (x:iX h e (.ref C) iN vs) {t0:Addr} (h0:vs[0]? =some (.ref t0))
  (hq: ∀h',mS [] [e] h h'->iX h' e (.ref C) iN (vs.setIfInBounds 0 (.ref h.objs.size))->Q .none ⟨h',g,d,t,os⟩):
  wpAny (model prog w) A (call (.builtin kO) [.ref e,v]) Q E ⟨h,g,d,t,os⟩:=by
 obtain⟨oe,he,hc,VM,hv⟩:=id x
 refine Dz (E5 F.init.plain F.initEntry (Ic F hB hC he hc ?_))
 unfold Builtin.«BaseException.__init__»
 have VN:(h.push (jo [v])).get? e=some oe:=ax _ he
 have x1:iX (h.push (jo [v])) e (.ref C) iN vs:=⟨oe,VN,hc,VM,hv⟩
 have hs:=ff h0
 repeat (first
  |with_reducible refine Hb VN hv h0 ?_
  |with_reducible refine wpAny_setField VN hv hs ?_
  |wp_step)
 have bt:mS [] [e] h ((h.push (jo [v])).update e (Obj.mapFields (·.setIfInBounds 0 (Value.ref h.objs.size)))):=(uF (fr:=[]) (own:=[]) (jo [v])).trans (yx _)
 exact hq _ bt (x1.set 0 _)
end
section
variable {M:Model}{A:Around}{E:Value->Shared->Prop}{s:Shared}{env:Env}
variable {nm q:Str}{C N e:Addr}{bs bm D9:List Value}{ox:Bool}{sn:List Str}{sub:List Value}{ab:Bool}{col:Option Bool}{dd iN:Option Addr}{k0 k1 k2 k3 k5:Option Value}{newId:String}{vs:Array Value}
theorem CJ {x:Sem Value}{Q:Flow->Shared->Prop}(hB:bm.contains (.type "BaseException")=true)(hh:A.handled=none)
  (h:wpAny M A x (fun v s1=> ∃e iN vs,v= .ref e/\s1.heap.get? C=some (excClassObj nm q C N bs bm ox sn sub ab col dd k0 k1 k2 k3 k5 newId)/\iX s1.heap e (.ref C) iN vs/\vs[1]? =some .none/\E (.ref e) s1) E s):
  wpAny M A (raiseStmt env (some x) none) Q E s:=by
 have h1:=iE (C:=C) hB
 unfold raiseStmt
 refine aA (cw h (fun v s1 z=>?_) fun _ _ x=>x)
 obtain⟨e,iN,vs,rfl,hC,⟨oe,he,hc,VM,hv⟩,v1,hE⟩:=z
 obtain⟨hp,g,d,tk,os⟩:=s1
 repeat (first
  |(with_reducible refine bC he ?_; rw[hc])
  |with_reducible refine bC hC ?_
  |(with_reducible refine cW hC ?_; rw[h1])
  |with_reducible refine Hb he hv v1 ?_
  |wp_step)
 exact wpAny_raiseNew_none hh hE
theorem KZ {a:Addr}{cls:Value}{i:Nat}{v:Value}{Q:Unit->Shared->Prop}(x:iX s.heap a cls iN vs)(h:i < vs.size)
  (q: ∀h',mS [] [a] s.heap h'->iX h' a cls iN (vs.setIfInBounds i v)->Q () {s with heap:=h'}):wpAny M A (updateField a i v) Q E s:=
 nR (i:=i) (v:=v) x h fun h' b x' _=>q h' b x'
theorem vR:entryFor table "proto.unchain"=some Builtin.«proto.unchain»:=entryFor_of_tree (by kernel_rfl)
end
section
variable {prog:Program}{w:World}{A:Around}{E:Value->Shared->Prop}{s:Shared}{env:Env}
variable {nm q:Str}{C N e:Addr}{bs bm D9:List Value}{ox:Bool}{sn:List Str}{sub:List Value}{ab:Bool}{col:Option Bool}{dd iN:Option Addr}{k0 k1 k2 k3 k5:Option Value}{newId:String}{vs:Array Value}
theorem CK {x c:Sem Value}{Q:Flow->Shared->Prop}{e0:Addr}(hB:bm.contains (.type "BaseException")=true)(hh:A.handled=some (.ref e0))(hc: ∀(R:Value->Shared->Prop) (s:Shared),R .none s->wpAny (model prog w) A c R E s)
  (h:wpAny (model prog w) A x (fun v s1=> ∃e iN vs c0 d0 QS,v= .ref e/\e≠e0/\s1.heap.get? C=some (excClassObj nm q C N bs bm ox sn sub ab col dd k0 k1 k2 k3 k5 newId)/\iX s1.heap e (.ref C) iN vs/\vs[1]? =some .none/\vs.size=6/\
   iX s1.heap e0 c0 d0 QS/\QS[2]? =some .none/\ ∀h',mS [] [e] s1.heap h'->iX h' e (.ref C) iN (((vs.setIfInBounds 3 .none).setIfInBounds 4 (.bool true)).setIfInBounds 2 (.ref e0))->E (.ref e) {s1 with heap:=h'}) E s):
  wpAny (model prog w) A (raiseStmt env (some x) (some c)) Q E s:=by
 have h1:=iE (C:=C) hB
 unfold raiseStmt
 refine aA (cw h (fun v s1 z=>?_) fun _ _ x=>x)
 obtain⟨e,iN,vs,c0,d0,QS,rfl,ne,hC,xe,v1,sz,x0,c2,hE⟩:=z
 obtain⟨oe,he,qC,VM,hv⟩:=id xe
 obtain⟨hp,g,d,tk,os⟩:=s1
 have eC:e≠C:=fun q=>by
  rw[q] at he
  rw[hC] at he
  cases he
  cases hv
 repeat (first
  |(with_reducible refine bC he ?_; rw[qC])
  |with_reducible refine bC hC ?_
  |(with_reducible refine cW hC ?_; rw[h1])
  |with_reducible refine nR xe (by rw[sz]; decide) fun h2 b2 x2 _=>Stop.out ?_
  |with_reducible refine hc _ _ ?_
  |wp_step)
 have b2':mS [] [e] hp h2:=b2
 refine Stop.in ?_
 refine aA (nR (s:=⟨h2,g,d,tk,os⟩) x2 (by rw[rA,sz]; decide) fun h3 b3 x3 _=>?_)
 have b3':mS [] [e] h2 h3:=b3
 have VO:mS [] [e] hp h3:=(b2'.trans b3').mono (fun _ z=>z) (by simp)
 have Yn:h3.get? C=_:=(VO C _ hC (by simpa using eC.symm)).1 (by simp)
 have x03:iX h3 e0 c0 d0 QS:=iX.but x0 VO (by simpa using ne.symm)
 obtain⟨o3,Yo,hc3,_,hv3⟩:=id x3
 obtain⟨o0,he0,_,_,VP⟩:=id x03
 have v31:((vs.setIfInBounds 3 Value.none).setIfInBounds 4 (Value.bool true))[1]? =some Value.none:=by rw[qA (by decide),qA (by decide)]; exact v1
 repeat (first
  |(with_reducible refine bC Yo ?_; rw[hc3])
  |with_reducible refine bC Yn ?_
  |(with_reducible refine cW Yn ?_; rw[h1])
  |with_reducible refine Hb Yo hv3 v31 ?_
  |wp_step)
 have sz3:((vs.setIfInBounds 3 Value.none).setIfInBounds 4 (Value.bool true)).size=6:=by rw[rA,rA,sz]
 unfold raiseNew
 refine aA (wpAny_handled ?_)
 rw[hh]
 dsimp only
 rw[if_pos (show(Value.ref e0 != Value.ref e)=true from by simpa using ne.symm)]
 refine aA (iq (wpAny_runValue (codeAny_builtin vR ?_)))
 unfold Builtin.«proto.unchain»
 repeat (first
  |with_reducible refine Hb he0 VP c2 ?_
  |with_reducible refine aA (KZ (s:=⟨h3,g,d,tk,os⟩) x3 (by rw[sz3]; decide) fun h4 b4 x4=>Stop.out ?_)
  |wp_step)
 refine Stop.in ?_
 refine wpAny_throw (hE h4 ?_ x4)
 have b4':mS [] [e] h3 h4:=b4
 exact(VO.trans b4').mono (fun _ z=>z) (by simp)
end
open PySem.Builtin PySem.Builtin.ObjectAttr
section
variable {prog:Program}{w:World}{A:Around}{E:Value->Shared->Prop}{h:Heap}{g:Array GenState}{d:Drawn}{t:Nat}{os:OsState}
variable {nm q:Str}{C N e:Addr}{bs bm:List Value}{sn:List Str}{sub:List Value}{ab:Bool}{col:Option Bool}{dd:Option Addr}{k0 k1 k2 k3 k5:Option Value}{newId:String}{vs:Array Value}{name:Str}{v:Value}
theorem FP {tk:Tok}{Q:Fin->Shared->Prop}(hC:h.get? C=some (excClassObj nm q C N bs bm true sn sub ab col dd k0 k1 k2 k3 k5 newId))(hp: ∀self:Value,refuseLoop self "__setattr__" (.ref C :: bm)=pure ())
  (tx:JT (model prog w) h (typeLookup (.ref C) name) none) (x:iX h e (.ref C) none vs)
  (hq: ∀h' NW,mS [] [e] h h'->iX h' e (.ref C) (some h.objs.size) vs->h'.Ns1 h.objs.size (fun y=>if y=name then some v else none)->Q (.done (.ret .none)) ⟨h',g,d,NW,os⟩):
  wpAny (model prog w) A (Builtin.«object.__setattr__» ⟨[.ref e,.str name tk,v],[]⟩) Q E ⟨h,g,d,t,os⟩:=by
 obtain⟨o,hx,hc,VQ,hv⟩:=id x
 have Rt:=hp (.ref e)
 have VR: ∀{A':Around} {Q':Option Value->Shared->Prop} {E':Value->Shared->Prop},Q' none ⟨h,g,d,t,os⟩->wpAny (model prog w) A' (typeLookup (.ref C) name) Q' E' ⟨h,g,d,t,os⟩:=fun z=>tx _ _ _ _ (fun _ _ y=>y) z
 have hnc: ∀c,o.data≠ .cls c:=fun c z=>by rw[hv] at z; cases z
 unfold Builtin.«object.__setattr__»
 repeat (first
  |rw[refuse_eq]
  |rw[Rt]
  |(with_reducible refine bC hx ?_; rw[hc])
  |with_reducible refine wpAny_mroOf_exc hC ?_
  |with_reducible refine VR ?_
  |wp_step)
 rw[VQ,if_neg (by simp[typeHasDict])]
 rw[hv]
 dsimp only
 have lt:=aK hx
 have ne:e≠h.objs.size:=aX lt
 generalize hD:({cls:= .type "dict",data:= .dict #[]}:Obj)=D
 have AA:(h.push D).get? e=some o:=ax _ hx
 refine aA (wpAny_alloc' (aA (wpAny_update' AA (bG ?_))))
 generalize hU:(h.push D).update e (fun o=>{cls:=o.cls,dict:=some h.objs.size,data:=o.data,slots:=o.slots})=U
 have b1:mS [] [e] h U:=by
  rw[← hU]
  exact(uF (fr:=[]) (own:=[]) D).trans (yx _)
 have x1:iX U e (.ref C) (some h.objs.size) vs:=by
  refine⟨{cls:=o.cls,dict:=some h.objs.size,data:=o.data,slots:=o.slots},?_,hc,rfl,hv⟩
  rw[← hU]
  exact Ce _ AA (Obj.isFreed_of_fields (vs:=vs) hv)
 have gd:U.get? h.objs.size=some {cls:= .type "dict",data:= .dict #[]}:=by
  rw[← hU,← hD]
  exact(G8 _ _ _ _ ne.symm).trans (Heap.get?_push_at rfl rfl)
 have nd:U.Ns h.objs.size (fun _=>none):=⟨_,#[],_,gd,rfl,fun _ he=>absurd he (by simp),fun _=>rfl⟩
 show wpAny _ _ (storeInDict h.objs.size (.str name tk) name v) _ _ _
 unfold storeInDict newKeyGuard
 refine aA (bG (aA (wpAny_nsSet1 (s:=⟨U,g,d,t,os⟩) (Heap.Ns1.of_empty nd) fun h' hn hs=>?_)))
 obtain⟨oD,ZS,ZT,U6,U7,U8⟩:=hn.count (Within.cons name v Within.nil)
 refine aA (wpAny_lookBehind U6 (by rw[U7]; exact pastItsLine_dict (a0 U8 (by rw[cf,vD,eU]; lia))) ?_)
 wp_walk
 have lt': ∀b o',h.get? b=some o'->h'.get? b=U.get? b:=fun b o' z=>hs.2 b (aX (aK z))
 refine hq h' _ (fun b ob z n=>?_) (x1.same fun ob z=>(hs.2 e ne).trans z) hn
 obtain⟨z1,sl,z2⟩:=b1 b ob z n
 exact⟨fun n'=>(lt' b ob z).trans (z1 n'),sl,(lt' b ob z).trans z2⟩
theorem NX {M:Model}{B sa owner:String}{D9:List Value}{o:Obj}{uH:Value}{Q:Unit->Shared->Prop}(SF:StoreFacts B D9 sa owner)(ho:bm.contains (.type owner)=true)
  (hC:h.get? C=some (excClassObj nm q C N bs bm true sn sub ab col dd k0 k1 k2 k3 k5 newId)) (hx:h.get? e=some o) (hc:o.cls= .ref C) (hq:Q () ⟨h,g,d,t,os⟩):
  wpAny M A (checkBuiltinCall sa ⟨[.ref e,uH,v],[]⟩) Q E ⟨h,g,d,t,os⟩:=by
 have h1:=iE (C:=C) ho; have ha:=SF.args (.ref e) uH v
 simp only[checkBuiltinCall,SF.kind,SF.split]
 refine aA ?_
 unfold isInstance
 repeat (first
  |(with_reducible refine bC hx ?_; rw[hc])
  |(with_reducible refine cW hC ?_; rw[h1])
  |wp_step)
 cases hs:Manifest.signature? sa with
 |none=>exact bG hq
 |some sg=>
  simp only[argsOk,hs] at ha
  have h2:Bind.checkArgs sa sg ⟨[.ref e,uH,v],[]⟩=pure ():=ha
  show wpAny M A (Bind.checkArgs sa sg ⟨[.ref e,uH,v],[]⟩) Q E _
  rw[h2]
  exact bG hq
theorem K0 {B sa owner:String}{D9:List Value}{Q:Unit->Shared->Prop}(SF:StoreFacts B D9 sa owner)(ho:bm.contains (.type owner)=true)(hC:h.get? C=some (excClassObj nm q C N bs bm true sn sub ab col dd k0 k1 k2 k3 k5 newId))
  (hp: ∀self:Value,refuseLoop self "__setattr__" (.ref C :: bm)=pure ()) (sL:JT (model prog w) h (typeLookup (.ref C) "__setattr__") (some (.builtin sa))) (tx:JT (model prog w) h (typeLookup (.ref C) name) none) (x:iX h e (.ref C) none vs)
  (hq: ∀h' NW,mS [] [e] h h'->iX h' e (.ref C) (some h.objs.size) vs->h'.Ns1 h.objs.size (fun y=>if y=name then some v else none)->Q () ⟨h',g,d,NW,os⟩):
  wpAny (model prog w) A (setAttr (.ref e) name v) Q E ⟨h,g,d,t,os⟩:=by
 obtain⟨o,hx,hc,_⟩:=id x
 have f3:=SF.slot.bind (.ref e)
 have sL': ∀{tk:Nat} {A':Around} {Q':Option Value->Shared->Prop} {E':Value->Shared->Prop},Q' (some (.builtin sa)) ⟨h,g,d,tk,os⟩->wpAny (model prog w) A' (typeLookup (.ref C) "__setattr__") Q' E' ⟨h,g,d,tk,os⟩:=fun z=>sL _ _ _ _ (fun _ _ y=>y) z
 unfold setAttr callSpecial? specialOf
 repeat (any_goals (first
  |assumption
  |(with_reducible refine bC hx ?_; rw[hc])
  |with_reducible refine sL' ?_
  |wp_step))
 refine E5 SF.slot.plain SF.entry (NX SF ho hC hx hc (FP hC hp tx x fun h' NW b x' n=>?_))
 repeat (any_goals (first
  |assumption
  |wp_step))
 exact hq h' NW b x' n
end
section
variable {prog:Program}{w:World}{A:Around}{E:Value->Shared->Prop}{h:Heap}{g:Array GenState}{d:Drawn}{t:Nat}{os:OsState}
variable {nm q:Str}{C N e dx:Addr}{bs bm:List Value}{sn:List Str}{sub:List Value}{ab:Bool}{col:Option Bool}{dd:Option Addr}{k0 k1 k2 k3 k5:Option Value}{newId:String}{vs:Array Value}{name:Str}{v:Value}{mA:Str->Option Value}
theorem FQ {tk:Tok}{Q:Fin->Shared->Prop}(hC:h.get? C=some (excClassObj nm q C N bs bm true sn sub ab col dd k0 k1 k2 k3 k5 newId))(tx:JT (model prog w) h (typeLookup (.ref C) name) none)(x:iX h e (.ref C) (some dx) vs)
  (n:h.Ns dx mA) (hm:mA name=some v) (hq:Q (.done (.ret v)) ⟨h,g,d,t,os⟩):wpAny (model prog w) A (Builtin.«object.__getattribute__» ⟨[.ref e,.str name tk],[]⟩) Q E ⟨h,g,d,t,os⟩:=by
 obtain⟨o,hx,hc,VQ,hv⟩:=id x
 have VR: ∀{A':Around} {Q':Option Value->Shared->Prop} {E':Value->Shared->Prop},Q' none ⟨h,g,d,t,os⟩->wpAny (model prog w) A' (typeLookup (.ref C) name) Q' E' ⟨h,g,d,t,os⟩:=fun z=>tx _ _ _ _ (fun _ _ y=>y) z
 repeat (any_goals (first
  |assumption
  |(with_reducible refine bC hx ?_; rw[hc])
  |with_reducible refine VR ?_
  |wp_step))
 rw[hv]
 show wpAny _ _ (instanceDict e false) _ _ _
 unfold instanceDict
 refine aA (bC hx ?_)
 rw[hc]
 dsimp only
 unfold classData
 refine aA (aA (bC hC (bG ?_)))
 rw[if_neg (by simp)]
 rw[VQ]
 refine bG ?_
 show wpAny _ _ (nsGet dx name) _ _ _
 refine wpAny_nsGet n ?_
 rw[hm]
 repeat (first
  |exact hq
  |wp_step)
theorem NY {M:Model}{uH:Value}{o:Obj}{Q:Unit->Shared->Prop}(hB:bm.contains (.type "BaseException")=true)(hC:h.get? C=some (excClassObj nm q C N bs bm true sn sub ab col dd k0 k1 k2 k3 k5 newId))
  (hx:h.get? e=some o) (hc:o.cls= .ref C) (hq:Q () ⟨h,g,d,t,os⟩):wpAny M A (checkBuiltinCall "BaseException.__getattribute__" ⟨[.ref e,uH],[]⟩) Q E ⟨h,g,d,t,os⟩:=by
 have hk:builtinKind "BaseException.__getattribute__"=some .slot:=by decide +kernel
 have hs:splitId "BaseException.__getattribute__"=some ("BaseException","__getattribute__"):=by decide +kernel
 have h1:=iE (C:=C) hB; have ha:=F.args_bexc_ga (.ref e) uH
 simp only[checkBuiltinCall,hk,hs]
 refine aA ?_
 unfold isInstance
 repeat (first
  |(with_reducible refine bC hx ?_; rw[hc])
  |(with_reducible refine cW hC ?_; rw[h1])
  |wp_step)
 exact hq
theorem K1 {T:String}{expr:Bool}{Q:Value->Shared->Prop}(FB:Slot T "__getattribute__" "BaseException.__getattribute__")(hB:bm.contains (.type "BaseException")=true)(hC:h.get? C=some (excClassObj nm q C N bs bm true sn sub ab col dd k0 k1 k2 k3 k5 newId))
  (gL:JT (model prog w) h (typeLookup (.ref C) "__getattribute__") (some (.builtin "BaseException.__getattribute__"))) (kL:JT (model prog w) h (typeLookup (.ref C) "__getattr__") none) (tx:JT (model prog w) h (typeLookup (.ref C) name) none)
  (x:iX h e (.ref C) (some dx) vs) (n:h.Ns dx mA) (hm:mA name=some v) (hv:handedOut v=pure v) (hq:Q v ⟨h,g,d,t + 1,os⟩):wpAny (model prog w) A (getAttr (.ref e) name expr) Q E ⟨h,g,d,t,os⟩:=by
 obtain⟨o,hx,hc,_⟩:=id x
 have f3:=FB.bind (.ref e)
 have x0:(expr && onTheHeap (Value.builtin "BaseException.__getattribute__"))=false:=by cases expr <;> rfl
 have x2:(Value.builtin "BaseException.__getattribute__" == Value.builtin "object.__getattribute__")=false:=by decide +kernel
 have x1:(onTheHeap (Value.ref C) && Value.builtin "BaseException.__getattribute__" == Value.builtin "object.__getattribute__")=false:=by rw[x2]; rfl
 have gL': ∀{tk:Nat} {A':Around} {Q':Option Value->Shared->Prop} {E':Value->Shared->Prop},Q' (some (.builtin "BaseException.__getattribute__")) ⟨h,g,d,tk,os⟩->wpAny (model prog w) A' (typeLookup (.ref C) "__getattribute__") Q' E' ⟨h,g,d,tk,os⟩:=
  fun z=>gL _ _ _ _ (fun _ _ y=>y) z
 have kL': ∀{tk:Nat} {A':Around} {Q':Option Value->Shared->Prop} {E':Value->Shared->Prop},Q' none ⟨h,g,d,tk,os⟩->wpAny (model prog w) A' (typeLookup (.ref C) "__getattr__") Q' E' ⟨h,g,d,tk,os⟩:=fun z=>kL _ _ _ _ (fun _ _ y=>y) z
 unfold getAttr
 repeat (any_goals (first
  |assumption
  |(with_reducible refine bC hx ?_; rw[hc])
  |with_reducible refine gL' ?_
  |with_reducible refine kL' ?_
  |wp_step))
 refine E5 FB.plain F.entry_bexc_ga (NY hB hC hx hc (FQ hC tx x n hm ?_))
 repeat (any_goals (first
  |assumption
  |wp_step))
end
section
variable {M:Model}{A:Around}{E:Value->Shared->Prop}
variable {nm q:Str}{C N:Addr}{bs bm:List Value}{ox:Bool}{sn:List Str}{sub:List Value}{ab:Bool}{col:Option Bool}{dd:Option Addr}{k0 k1 k2 k3 k5:Option Value}{newId:String}
variable {nm' q':Str}{R N':Addr}{bs' VS:List Value}{Ru:Bool}{sn':List Str}{VT:List Value}{ab':Bool}{VU:Option Bool}{DS:Option Addr}{j0 j1 j2 j3 j5:Option Value}{NZ:String}
theorem xv {h:Heap}{g:Array GenState}{d:Drawn}{t:Nat}{os:OsState}{e:Addr}{iN:Option Addr}{vs:Array Value}{b:Bool}{Q:Bool->Shared->Prop}
  (hC:h.get? C=some (excClassObj nm q C N bs bm ox sn sub ab col dd k0 k1 k2 k3 k5 newId)) (hR:h.get? R=some (excClassObj nm' q' R N' bs' VS Ru sn' VT ab' VU DS j0 j1 j2 j3 j5 NZ))
  (x:iX h e (.ref C) iN vs) (uc:VS.contains (.type "BaseException")=true) (up:(Value.ref C :: bm).contains (.ref R)=b)
  (hq:Q b ⟨h,g,d,t,os⟩):wpAny M A (excMatches (.ref e) (.ref R)) Q E ⟨h,g,d,t,os⟩:=by
 obtain⟨oe,he,M9,_⟩:=x
 have VW:(Value.ref R :: VS).contains (.type "BaseException")=true:=by rw[List.contains_cons,uc,Bool.or_true]
 have f:=tc_notTuple
 unfold excMatches
 repeat (first|(with_reducible refine cW hR ?_; rw[VW])|(with_reducible refine cW hC ?_; rw[up])|(with_reducible refine bC he ?_; rw[M9])|with_reducible refine bC hR ?_|wp_step)
 cases b <;> (wp_walk; exact hq)
end
end JR
namespace L2
open PySem PySem.Spec PyProof.Rows JR
structure gU (K:PySem.W.Frag)(C R:Addr):Prop where
 obj: ∃(nm q:Str) (N:Addr) (bs bm:List Value) (sn:List Str) (sub:List Value) (ab:Bool) (col:Option Bool) (dd:Option Addr) (k0 k1 k2 k3 k5:Option Value),
  K.lookup C=some (excClassObj nm q C N bs bm true sn sub ab col dd k0 k1 k2 k3 k5 "Exception.__new__")/\
   (bm=[.type "Exception",.type "BaseException",.type "object"]/\C=R∨bm=[.ref R,.type "Exception",.type "BaseException",.type "object"])
 sa:PySem.W.findIn K (.ref C) "__setattr__"=some (some (.builtin "object.__setattr__"))
 ga:PySem.W.findIn K (.ref C) "__getattribute__"=some (some (.builtin "BaseException.__getattribute__"))
 gk:PySem.W.findIn K (.ref C) "__getattr__"=some none
 tx:PySem.W.findIn K (.ref C) "text"=some none
structure VX (h:Heap)(C R:Addr)(nm q:Str)(N:Addr)(bs bm:List Value)(sn:List Str)(sub:List Value)(ab:Bool)(col:Option Bool)(dd:Option Addr)(k0 k1 k2 k3 k5:Option Value):Prop where
 at_:h.get? C=some (excClassObj nm q C N bs bm true sn sub ab col dd k0 k1 k2 k3 k5 "Exception.__new__")
 e:bm.contains (.type "Exception")=true
 b:bm.contains (.type "BaseException")=true
 o:bm.contains (.type "object")=true
 na:bm.contains (.type "AttributeError")=false
 nn:bm.contains (.type "NameError")=false
 rf: ∀self:Value,refuseLoop self "__setattr__" (.ref C :: bm)=pure ()
 up:(Value.ref C :: bm).contains (.ref R)=true
theorem gU.on {K:PySem.W.Frag}{C R:Addr}(k:gU K C R): ∃nm q N bs bm sn sub ab col dd k0 k1 k2 k3 k5,∀h:Heap,K.In h->VX h C R nm q N bs bm sn sub ab col dd k0 k1 k2 k3 k5:=by
 obtain⟨nm,q,N,bs,bm,sn,sub,ab,col,dd,k0,k1,k2,k3,k5,l,hb⟩:=k.obj
 have pass: ∀self:Value,refuseLoop self "__setattr__" [.type "Exception",.type "BaseException",.type "object"]=pure ():=F.store_Exception.passes
 refine⟨nm,q,N,bs,bm,sn,sub,ab,col,dd,k0,k1,k2,k3,k5,fun h X=>?_⟩
 rcases hb with⟨rfl,rfl⟩|rfl
 ·exact⟨X _ _ l,by decide +kernel,by decide +kernel,by decide +kernel,by decide +kernel,by decide +kernel,fun self=>by rw[refuseLoop_ref]; exact pass self,by simp⟩
 ·exact⟨X _ _ l,iE (by decide +kernel),iE (by decide +kernel),iE (by decide +kernel),iE (by decide +kernel),iE (by decide +kernel),fun self=>by rw[refuseLoop_ref,refuseLoop_ref]; exact pass self,by simp⟩
theorem lp {K:PySem.W.Frag}{M:Model}{h:Heap}(X:K.In h){t:Value}{name:Str}{r:Option Value}(e:PySem.W.findIn K t name=some r):JT M h (typeLookup t name) r:=PySem.W.looks_findIn X e
abbrev xo (e C:Addr)(iN:Option Addr)(vs:Array Value):HO:= .ext fun h=>iX h e (.ref C) iN vs
theorem Ie {P:Program}{w:World}{H:Hp}{h:Heap}{e C:Addr}{iN:Option Addr}{vs:Array Value}(x:iX h e (.ref C) iN vs):dC P w H h e (xo e C iN vs):=by
 refine⟨x,?_,fun h1 h2 z k=>iX.same z k⟩
 obtain⟨o,z,_⟩:=x
 exact⟨o,z⟩
abbrev v0 (t:Addr):Array Value:= #[.ref t,.none,.none,.none,.bool false,.none]
section
variable {X:Cx}{pins:List (Addr×Obj)}{σ:St}{H:Hp}{s:Shared}{e C R dx:Addr}{iN:Option Addr}{vs VY:Array Value}{h':Heap}{t':Nat}
theorem Inv.CL (I:Inv X pins σ H s)(h:H e=some (xo e C iN vs)):iX s.heap e (.ref C) iN vs:=(I.cB e _ h).1
theorem Inv.N0 (I:Inv X pins σ H s)(h:H e=some (xo e C iN vs))(b:mS [] [e] s.heap h')(x:iX h' e (.ref C) iN VY):Inv X pins σ (upd H e (xo e C iN VY)) {s with heap:=h',toks:=t'}:=by
 refine I.write (x:=e) (e:=e) (by rw[h]; exact True.intro) (.inl rfl) (fun c u n z=>(b c u z (by simpa using n)).1 (by simp)) ?_ (Ie x)
 obtain⟨o,z,_⟩:=x
 exact⟨o,z⟩
theorem Inv.K2 {f:Str}{y:V}{u:Value}(I:Inv X pins σ H s)(h:H e=some (xo e C none vs))(b:mS [] [e] s.heap h')(x:iX h' e (.ref C) (some s.heap.objs.size) vs)(n:h'.Ns1 s.heap.objs.size (fun z=>if z=f then some u else none))(r:RelV y u):
  Inv X pins σ (upd (upd H s.heap.objs.size (.xd [(f,y)])) e (xo e C (some s.heap.objs.size) vs)) {s with heap:=h',toks:=t'}:=by
 have hn:H s.heap.objs.size=none:=I.cB.fresh (aB _)
 have ne:e≠s.heap.objs.size:=aL h hn
 have off: ∀c u,H c=some u->c≠s.heap.objs.size:=fun c u z=>aL z hn
 have kp: ∀c o,c≠e->s.heap.get? c=some o->h'.get? c=some o:=fun c o n z=>(b c o z (by simpa using n)).1 (by simp)
 have low: ∀c o,s.heap.get? c=some o->c≠s.heap.objs.size:=fun c o z=>aX (aK z)
 have same: ∀c,c≠e->c≠s.heap.objs.size->upd (upd H s.heap.objs.size (.xd [(f,y)])) e (xo e C (some s.heap.objs.size) vs) c=H c:=fun c n1 n2=>by rw[az n1,az n2]
 refine I.un ⟨fun c o z hc _ _=>kp c o (fun w=>by rw[w,h] at hc; cases hc) z,fun c o z hc _ _=>⟨o.slots,kp c o (fun w=>by rw[w,h] at hc; cases hc) z⟩,fun c o z hc _=>?_,fun c o z _=>?_,fun c xs z=>?_,fun c o u z=>?_,fun c ps z=>?_⟩ fun c u z=>?_
 ·rw[same c (fun w=>by rw[w,h] at hc; cases hc) (low c o z)]
  exact hc
 ·by_cases q:c=e
  ·rw[q]
   obtain⟨oe,w,_⟩:=x
   exact⟨oe,w⟩
  ·exact⟨o,kp c o q z⟩
 ·rw[same c (fun w=>by rw[w,h] at z; cases z) (off c _ z)]
  exact z
 ·rw[same c (fun w=>by rw[w,h] at z; cases z) (off c _ z)]
  exact z
 ·refine⟨#[],?_⟩
  rw[same c (fun w=>by rw[w,h] at z; cases z) (off c _ z),z]
  simp
 ·by_cases q:c=e
  ·subst q
   rw[ag] at z
   cases z
   exact Ie x
  ·rw[az q] at z
   by_cases q2:c=s.heap.objs.size
   ·subst q2
    rw[ag] at z
    cases z
    refine⟨_,n,fun g=>?_⟩
    show kZ (List.lookup g [(f,y)]) (if g=f then some u else none)
    by_cases w:g=f
    ·subst w
     rw[a7 rfl]
     simpa[List.lookup,kZ] using r
    ·rw[aO w]
     have:(g == f)=false:=by simpa using w
     simp[List.lookup,this,kZ]
   ·rw[az q2] at z
    refine(I.cB c u z).sV (fun d o hd w=>?_) (fun d w=>?_) fun d xs w=>?_
    ·refine kp d o (fun w2=>?_) w
     rcases hd with hd|hd
     ·exact q (hd▸w2)
     ·rw[w2,h] at hd
      cases hd
    ·rw[same d (fun w2=>by rw[w2,h] at w; cases w) (off d _ w)]
     exact w
    ·rw[same d (fun w2=>by rw[w2,h] at w; cases w) (off d _ w)]
     exact w
def gone (H:Hp)(a:Addr):Hp:=fun b=>if b=a then none else H b
theorem xx {a:Addr}:gone H a a=none:=by unfold gone; rw[if_pos rfl]
theorem iF {a b:Addr}(h:b≠a):gone H a b=H b:=by unfold gone; rw[if_neg h]
theorem Inv.drop {H0:Hp}{s0:Shared}{φ:Heap->Prop}(I0:Inv X pins σ H0 s0)(h0:H0 e=none)(I:Inv X pins σ H s)(h:H e=some (.ext φ)):Inv X pins σ (gone H e) s:=by
 have off: ∀c u,H c=some u->u≠ .ext φ->c≠e:=fun c u z n w=>by
  rw[w,h] at z
  cases z
  exact n rfl
 refine⟨I.ok,I.os,I.bare,⟨I.base.keep,I.base.slot,fun c o z hc hx=>?_,I.base.there,fun c xs z=>?_,fun c o u z=>?_,fun c ps z=>?_⟩,I.loc,I.cell,?_,fun x c z=>?_,fun p hp=>?_,fun c u z=>?_,I.len⟩
 ·have w:=I.base.free c o z hc hx
  rw[iF (fun q=>by rw[q,h] at w; cases w)]
  exact w
 ·rw[iF (aL (I0.base.qf c xs z) h0)]
  exact I.base.qf c xs z
 ·rw[iF (aL (I0.base.o6 c o u z) h0)]
  exact I.base.o6 c o u z
 ·obtain⟨m,w⟩:=I0.base.o7 c ps z
  obtain⟨m',w'⟩:=I.base.o7 c ps z
  exact⟨m',by rw[iF (aL w h0)]; exact w'⟩
 ·rw[iF (fun q=>by have w:=I.free; rw[q,h] at w; cases w)]
  exact I.free
 ·have w:=I.iO x c z
  rw[iF (fun q=>by rw[q,h] at w; cases w)]
  exact w
 ·obtain⟨w1,w2,w3⟩:=I.pin p hp
  refine⟨w1,?_,w3⟩
  rw[iF (fun q=>by rw[q,h] at w2; cases w2)]
  exact w2
 ·by_cases q:c=e
  ·rw[q,xx] at z
   cases z
  ·rw[iF q] at z
   refine(I.cB c u z).sV (fun d o _ w=>w) (fun d w=>?_) fun d xs w=>?_
   ·rw[iF (off d _ w (by intro z; cases z))]
    exact w
   ·rw[iF (off d _ w (by intro z; cases z))]
    exact w
end
structure ij (k:Nat)(A:Around):Prop where
 dp:A.depth + 3 * k + 5 < recursionLimit
 un:A.units + 16 * k + 200 < cLine
theorem eW.h {k:Nat}{A:Around}(r:eW k A):ij k A:=⟨r.dp,r.un⟩
theorem ij.mono {j k:Nat}{A:Around}(r:ij k A)(h:j<=k):ij j A:=⟨by have:=r.dp; lia,by have:=r.un; lia⟩
theorem ij.deeper {k:Nat}{A:Around}(r:ij (k + 1) A)(env:Env):ij k (A.deeper env):=
 ⟨by have:=r.dp; show A.depth + 1 + 3 * k + 5 < _; lia,by have:=r.un; show A.units + 3 + 16 * k + 200 < _; lia⟩
theorem ij.make {k:Nat}{A:Around}(r:ij (k + 1) A)(C:Addr)(us:List Value)(kw:List (Str×Value)):ij k (A.under (.builtin "type.__call__" ⟨.ref C :: us,kw⟩)):=
 ⟨by have:=r.dp; rw[tY]; lia,by have:=r.un; rw[tZ]; lia⟩
theorem ij.mark {k:Nat}{A:Around}(r:ij k A)(e:Option Value):ij k (A.mark e):=⟨r.dp,r.un⟩
structure Rv (P:Program)(w:World)(K:PySem.W.Frag)(mg:Str->Option Value)(base:Heap)(k:Nat)(f:Addr)(fd:FuncData)(ps:List Str)(sp:Sp):Prop where
 len: ∀vs H Q E,sp vs H Q E->vs.length=ps.length
 run: ∀(A:Around) (outer:List Env) (s:Shared) (H:Hp) (args:Args) (us:List Value) (vs:List V) (Q:VK) (E:XK),ij k A->qk P w K mg base A outer s H->BindsTo s fd args (ps.zip us)->Vals vs us->sp vs H Q E->
  codeAny (model P w) A (.call (.ref f) args) (CR rE outer P w H s Q E) s
abbrev uI (P:Program)(w:World)(K:PySem.W.Frag)(mg:Str->Option Value)(base:Heap)(N:List Str)(qual:Str)(scope:Scope)(f:Addr)(cd:Value)(A:Around)(outer:List Env)(s:Shared)(H:Hp)(E:XK):Cx:=
 {k7 rE P w K mg base N qual scope f cd A outer s H E with calm:=false}
theorem uJ {P:Program}{w:World}{K:PySem.W.Frag}{mg:Str->Option Value}{base:Heap}{N ps:List Str}{qual:Str}{scope:Scope}{f:Addr}{cd:Value}{A:Around}{outer:List Env}{s s1:Shared}{H:Hp}{E:XK}{us:List Value}{vs:List V}
  (S:aS N ps scope) (e0:qk P w K mg base A outer s H) (hl:vs.length=ps.length) (r:Vals vs us)
  (x:InCallC s s.heap.objs.size (bindL (envOfC qual scope s.heap.objs.size f cd).kindOf (ps.zip us) fun _=>none) (cellsFrom (s.heap.objs.size + 1) scope.names []) (bindC (envOfC qual scope s.heap.objs.size f cd).kindOf (ps.zip us) fun _=>none) s1):
  Inv (uI P w K mg base N qual scope f cd A outer s H E) [] (start N vs) H s1:=by
 have I:=xg (CX:=rE) (E:=E) (A:={A with handled:=none}) (K:=K) (base:=base) (P:=P) (w:=w) (mg:=mg) (N:=N) S rfl ⟨e0.frames,e0.mod,e0.bs,e0.z5,e0.lL,e0.DA,e0.cB,e0.bare⟩ hl r x
 have ok:=I.ok
 exact⟨⟨ok.mod,ok.kind,ok.glob,ok.blt,ok.above,ok.inj,ok.has,ok.JK,(fun z=>by cases z),Around.frames_deeper e0.frames,ok.GX,ok.Kh,ok.bs,ok.z5,ok.vI,ok.vJ,ok.lL,ok.DA⟩,I.os,I.bare,I.base,I.loc,I.cell,I.free,I.iO,I.pin,I.cB,I.len⟩
theorem lY {P:Program}{w:World}{K:PySem.W.Frag}{mg:Str->Option Value}{base:Heap}{k:Nat}{f:Addr}{x qual:Str}{st:Stmt}{fd:FuncData}{N ps:List Str}{sp:Sp}(F:gp K x qual st f fd)(S:aS N ps (ay st))
  (len: ∀vs H Q E,sp vs H Q E->vs.length=ps.length)
  (fW: ∀(cX:Value) (A:Around) (outer:List Env) (s:Shared) (H:Hp) (vs:List V) (Q:VK) (E:XK),ij k (A.deeper (envOfC qual (ay st) s.heap.objs.size f cX))->sp vs H Q E->
   ∃t,oG (uI P w K mg base N qual (ay st) f cX A outer s H E).DF (dD st) t/\t {nx:=fun _ H'=>Q .en H',rt:=Q} (start N vs) H):Rv P w K mg base (k + 1) f fd ps sp:=by
 obtain⟨oc,od,kV,doc,pm,an,cX,ct,Fo,rfl,lk,ra⟩:=F.ex
 refine⟨len,fun A outer s H args us vs Q E hr e0 hb r yc=>?_⟩
 have hl:=len _ _ _ _ yc
 have KX:K.In s.heap:=e0.mod.Kg.keeps fun b o e=>(e0.bs b o e).1
 have lim:s.heap.NoLimit:=e0.mod.nolimit.keeps fun b o e=>(e0.bs b o e).1
 have mI: ∀y∈ps.zip us,(ay st).names.lookup y.1=some .local∨((ay st).names.lookup y.1=some .cell/\((cellsFrom (s.heap.objs.size + 1) (ay st).names []).lookup y.1).isSome=true):=fun⟨n,v⟩ hy=>by
  rcases S.par n (oj hy).1 with q|q
  ·exact .inl q
  ·exact .inr ⟨q,kY _ _ _ (.inl q)⟩
 have dp:A.depth < recursionLimit:=by have:=hr.dp; lia
 refine codeAny_call_function dp (KX _ _ lk) rfl S.co S.gen rfl (PySem.W.codeRec_of KX ra) (hb _ _ _ _ ?_)
 refine sT S.kind mI fun env he s1 y=>?_
 subst he
 refine⟨lim.keeps y.toInCall.keep,codeAny_func ?_⟩
 obtain⟨t,ht,hq⟩:=fW cX A outer s H vs Q E (hr.deeper _) yc
 have I:Inv (uI P w K mg base N qual (ay st) f cX A outer s H E) [] (start N vs) H s1:=uJ S e0 hl r y
 refine cw (ht.DF [] s1 (start N vs) H _ I hq) (fun fl s' hs=>?_) fun e s' hs=>hs
 have fin: ∀{σ':St} {H':Hp} {v:V} {u:Value},Inv (uI P w K mg base N qual (ay st) f cX A outer s H E) [] σ' H' s'->RelV v u->Q v H'->CE outer P w H s Q u s':=
  fun{σ' H' v u} J rv q=>⟨v,H',J.os,J.bare,J.base,J.cB,rv,q⟩
 cases fl with
 |ret u=>
  obtain⟨v,σ',H',J,rv,q⟩:=hs
  exact fin J rv q
 |next=>
  obtain⟨σ',H',J,q⟩:=hs
  exact fin (v:=V.en) (u:=Value.none) J rfl q
 |brk=>
  obtain⟨_,_,_,q⟩:=hs
  exact False.elim q
 |cont=>
  obtain⟨_,_,_,q⟩:=hs
  exact False.elim q
section
variable {X:Cx}{k:Nat}{f C R:Addr}{fd:FuncData}{ps:List Str}{sp:Sp}{x:Str}{p pos apos pos':Pos}{a b o value e:Expr}{es:List Expr}{ta tb tv:TE}{t:TA}
theorem Ea {A:Around}{xe:Value->Shared->Prop}{pins:List (Addr×Obj)}{σ:St}{H:Hp}{s:Shared}{Q:VK}{us:List Value}{vs:List V}(F:Rv X.prog X.w X.K X.mg X.base k f fd ps sp)(hr:ij k A)(e0:qk X.prog X.w X.K X.mg X.base A X.stack s H)(hb:Binds X.K fd ps [])
  (I:Inv X pins σ H s) (r:Vals vs us) (h:sp vs H Q E0):wpAny (model X.prog X.w) A (call (.ref f) us) (EP X pins σ Q) xe s:=by
 have hl:(us ++ []).length=ps.length:=by rw[cu,← r.length]; exact F.len _ _ _ _ h
 have bd:=hb s us I.gN hl
 rw[cu] at bd
 refine Dz (Cd (F.run A X.stack s H ⟨us,[]⟩ us vs Q E0 hr e0 bd r h) fun r s' hq=>?_)
 cases r with
 |error e=>exact False.elim hq
 |ok fl=>
  cases fl with
  |ret u=>exact I.after hq
  |next=>exact False.elim hq
  |brk=>exact False.elim hq
  |cont=>exact False.elim hq
def N1 (K:PySem.W.Frag)(t:TA):TE:=fun σ H Q=>t σ H fun xs H2=> ∃(e C R t0:Addr) (iN:Option Addr) (vs:Array Value) (y:V),xs=[.ref e,y]/\H2 e=some (xo e C iN vs)/\gU K C R/\vs[0]? =some (.ref t0)/\ ∀t',Q .en (upd H2 e (xo e C iN (vs.setIfInBounds 0 (.ref t'))))
theorem Ig {pl:Sem Bool}(hg:Gl X "Exception")(hm:X.mg "Exception"=none)(ha:PA X (e :: es) t)
  (hs:starEach (e :: es) X.env=(false,eval e X.env) :: starEach es X.env:=by rfl) (iw:(backTo pos (starEach es X.env)).any (·.1)=false:=by rfl)
  (ht:eval (.Call (.Attribute (.Name "Exception" p) "__init__" apos) (e :: es) [] pos) X.env=(do
   let ov ← eval (.Name "Exception" p) X.env
   standAt apos.atName
   let(f,first) ← holding [ov] (getMethod ov "__init__" pl)
   callWith pos f first (backTo pos (starEach (e :: es) X.env)) (backToKw pos (keywordEach [] X.env))):=by rfl):
  PE X (.Call (.Attribute (.Name "Exception" p) "__init__" apos) (e :: es) [] pos) (N1 X.K t):=by
 intro pins s σ H Q I h
 obtain⟨m,F⟩:=I.fr
 refine vA (pl:=pl) (o8 I hg hm (u:= .type "Exception") (by rfl) ?_) ht
 refine PySem.W.method_type (v:= .builtin "Exception.__init__") F I.mod.Kg (by rfl) (by decide +kernel) (by rfl) (by rfl) ?_
 have hA:=ha pos pins {s with toks:=s.toks + 1} σ H _ (I.tok _) h
 rw[hs] at hA ⊢
 refine iQ (by show(false || (backTo pos (starEach es X.env)).any (·.1))=false; rw[iw] <;> rfl) (EZ ?_)
 refine dY hA fun us s2 ⟨vs,H2,I2,r2,e,C,R,t0,iN,ws,y,e1,e2,k,e3,q⟩=>?_
 subst e1
 obtain⟨u1,u2,rfl,ru,_⟩:=vals2 r2
 obtain rfl:u1=Value.ref e:=ru
 obtain⟨nm,qn,N,bs,bm,sn,sub,ab,col,dd,k0,k1,k2,k3,k5,c⟩:=k.on
 have c:=c _ I2.gN
 obtain⟨hp,g,d,tk,os⟩:=s2
 exact FO M0 c.e c.at_ (I2.CL e2) e3 fun h' b x'=>⟨.en,_,I2.N0 (t':=tk) e2 b x',rfl,q _⟩
def Rx (K:PySem.W.Frag)(ta tv:TE):TS:=fun D σ H=>tv σ H fun y H1=>ta σ H1 fun x H2=> ∃(e C R:Addr) (vs:Array Value),x= .ref e/\H2 e=some (xo e C none vs)/\gU K C R/\
 ∀dx,H2 dx=none->D.nx σ (upd (upd H2 dx (.xd [("text",y)])) e (xo e C (some dx) vs))
theorem K3 (ha:PE X o ta)(hv:PE X value tv)(hs:swapsWith value (some (.Attribute o "text" pos')) pos.line X.env=pure false):PS X (.Assign [.Attribute o "text" pos'] value pos) (Rx X.K ta tv):=by
 intro pins s σ H D I h
 refine MW (dY (hv pins s σ H _ I h) fun u s1 ⟨y,H1,I1,ry,q⟩=>dY (ha pins s1 σ H1 _ I1 q) fun ov s2 ⟨x,H2,I2,rx,e,C,R,vs,e1,e2,k,q2⟩=>?_) hs
 subst e1
 obtain rfl:ov=Value.ref e:=rx
 obtain⟨nm,qn,N,bs,bm,sn,sub,ab,col,dd,k0,k1,k2,k3,k5,c⟩:=k.on
 have c:=c _ I2.gN
 have hn:=I2.cB.fresh (aB s2.heap.objs.size)
 obtain⟨hp,g,d,tk,os⟩:=s2
 refine K0 PySem.F.store_Exception c.o c.at_ c.rf (lp I2.gN k.sa) (lp I2.gN k.tx) (I2.CL e2) fun h' NW b x' n=>?_
 exact⟨σ,_,I2.K2 (t':=NW) e2 b x' n ry,q2 _ hn⟩
structure Eb (K:PySem.W.Frag)(R f:Addr):Prop where
 rd:PySem.W.readsIn K R (.type "type")=true
 sp:PySem.W.specialIn K (.ref R) "__getattribute__"=some (some (.builtin "type.__getattribute__"))
 fd:PySem.W.findCls K (.ref R) (.type "type") "__init__"=some (.val (.ref f))
 kp:PySem.W.keepIn K (.ref f)=true
theorem je {pl:Sem Bool}(i:Eb X.K R f)(F:Rv X.prog X.w X.K X.mg X.base k f fd ps sp)(hr:ij k X.A)(hb:Binds X.K fd ps [])(hg:Gl X x)(hm:X.mg x=some (.ref R))(ha:PA X (e :: es) t)(ql:(x == ("__debug__":Str))=false:=by decide)
  (hs:starEach (e :: es) X.env=(false,eval e X.env) :: starEach es X.env:=by rfl) (iw:(backTo pos (starEach es X.env)).any (·.1)=false:=by rfl)
  (ht:eval (.Call (.Attribute (.Name x p) "__init__" apos) (e :: es) [] pos) X.env=(do
   let ov ← eval (.Name x p) X.env
   standAt apos.atName
   let(f,first) ← holding [ov] (getMethod ov "__init__" pl)
   callWith pos f first (backTo pos (starEach (e :: es) X.env)) (backToKw pos (keywordEach [] X.env))):=by rfl):
  PE X (.Call (.Attribute (.Name x p) "__init__" apos) (e :: es) [] pos) (ua sp [] E0 t):=by
 intro pins s σ H Q I h
 refine vA (pl:=pl) (jw I hg hm ?_ ql) ht
 refine PySem.W.method_cls I.gN i.sp (PySem.W.cls_value I.gN i.rd i.fd rfl ?_)
 refine kh (h₀:=X.base) I.ok.mod.Kg i.kp (dY (ha pos pins _ σ H _ (I.tok _) h) fun us s1 ⟨vs,H1,I1,r,q⟩=>⟨I1.gN,?_⟩) hs iw
 have q2:sp (vs ++ []) H1 Q E0:=q
 rw[cu] at q2
 exact Ea F hr I1.Hq hb I1 r q2
end
def Fly (mg:Str->Option Value)(n0:Nat)(H:Hp)(h:Heap)(a C dx:Addr):Prop:=
 ∃(vs:Array Value) (T:Addr),iX h a (.ref C) (some dx) vs/\vs[1]? =some (.ref T)/\JS h T .none/\T≠a/\n0<=a/\n0<=T/\H a=none/\H T=none/\(vs[2]? =some .none∨mg "Needed"=some (.ref C))
def mv (P:Program)(w:World)(mg:Str->Option Value):Fn:=fun outer H s E e s'=>
 ∃(a C dx:Addr) (H':Hp),e= .ref a/\s'.os=s.os/\AllBare s'.gens/\Un (Cg outer) [] H H' s.heap s'.heap/\oq P w H' s'.heap/\Fly mg s.heap.objs.size H' s'.heap a C dx/\E (.ref C) (some dx) H'
theorem Ec {fs fr own:List Addr}{H H2:Hp}{h h2 h3:Heap}(u:Un fs [] H H2 h h2)(b:mS fr own h2 h3)(ho: ∀c∈own,h.objs.size<=c)(hf: ∀c∈fr,c∈fs∨h.objs.size<=c):Un fs [] H H2 h h3 where
 keep:=fun c o z n hc hx=>(b c o (u.keep c o z n hc hx) (fun w=>absurd (aK z) (wV.mpr (ho c w)))).1 (fun w=>(hf c w).elim hc (fun q=>absurd (aK z) (wV.mpr q)))
 slot:=fun c o z n hc hx=>by
  obtain⟨sl,e⟩:=u.slot c o z n hc hx
  obtain⟨_,TY,e2⟩:=b c _ e (fun w=>absurd (aK z) (wV.mpr (ho c w)))
  exact⟨TY,e2⟩
 free:=u.free
 there:=fun c o z hx=>by
  obtain⟨o',e⟩:=u.there c o z hx
  obtain⟨_,TY,e2⟩:=b c _ e (fun w=>absurd (aK z) (wV.mpr (ho c w)))
  exact⟨_,e2⟩
 qf:=u.qf
 o6:=u.o6
 o7:=u.o7
theorem yy {P:Program}{w:World}{fr own:List Addr}{H:Hp}{h h':Heap}(k:oq P w H h)(b:mS fr own h h')(hf: ∀c∈fr,H c=none)(ho: ∀c∈own,H c=none):oq P w H h':=fun c u z=>by
 refine(k c u z).sV (fun d o hd w=>?_) (fun _ q=>q) fun _ _ q=>q
 have t: ∃u',H d=some u':=hd.elim (fun q=>⟨u,by rw[q]; exact z⟩) (fun q=>⟨_,q⟩)
 obtain⟨u',y⟩:=t
 exact(b d o w (fun q=>by rw[ho d q] at y; cases y)).1 (fun q=>by rw[hf d q] at y; cases y)
section
variable {X:Cx}{pins:List (Addr×Obj)}{σ:St}{H:Hp}{s:Shared}{h':Heap}{own:List Addr}
theorem Inv.jT {c:Addr}(I:Inv X pins σ H s)(h:s.heap.objs.size<=c):(c∈X.ex∨X.s₀.heap.objs.size<=c)/\c≠X.env.locals/\(∀x k,X.env.cells.lookup x=some k->k≠c)/\ ∀p∈X.pn ++ pins,p.1≠c:=by
 refine⟨.inr (a0 I.sz h),(aX (bf I.lt h)).symm,fun x k z=>?_,fun p hp=>?_⟩
 ·obtain⟨v,w⟩:=I.cell x k z
  exact aX (bf w.lt h)
 ·exact aX (bf (aK (I.pin p hp).1) h)
theorem Inv.but (I:Inv X pins σ H s)(b:mS (Cg X.stack) own s.heap h')
  (ho: ∀c∈own,H c=none/\(c∈X.ex∨X.s₀.heap.objs.size<=c)/\c≠X.env.locals/\(∀x k,X.env.cells.lookup x=some k->k≠c)/\ ∀p∈X.pn ++ pins,p.1≠c):Inv X pins σ H {s with heap:=h'}:=by
 refine I.DD (s':={s with heap:=h'}) (ch:=own) rfl ⟨fun c o z n hc hx=>(b c o z hx).1 hc,fun c o z n hc hx=>(b c o z hx).2,fun c o z n hx=>n,fun c o z hx=>?_,fun _ _ z=>z,fun _ _ _ z=>z,fun c ps z=>⟨#[],by rw[z]; simp⟩⟩ ?_ I.bare fun c hc=>(ho c hc).2
 ·obtain⟨_,sl,e⟩:=b c o z hx
  exact⟨_,e⟩
 ·exact yy I.cB b I.qg fun c hc=>(ho c hc).1
end
structure PM (X:Cx)(E:XK):Prop where
 pass:Passes (mv X.prog X.w X.mg) X E
 me: ∀{pins:List (Addr×Obj)} {σ:St} {H:Hp} {s:Shared} {a C dx:Addr} {vs:Array Value},Inv X pins σ H s->iX s.heap a (.ref C) (some dx) vs->vs[1]? =some .none->(vs[2]? =some .none∨X.mg "Needed"=some (.ref C))->
  X.s₀.heap.objs.size<=a->H a=none->E (.ref C) (some dx) H->X.xe (.ref a) s
 own:PassesOwn (model X.prog X.w) X.A X.env X.xe
 ownAt: ∀hd:Option Value,PassesOwnAt (model X.prog X.w) (X.A.mark hd) X.A X.env X.xe
 GX:X.stack=X.env :: X.outer
 Yp:X.env.frame=some X.env.locals
section
variable {P:Program}{w:World}{K:PySem.W.Frag}{mg:Str->Option Value}{base:Heap}{N:List Str}{qual:Str}{scope:Scope}{f:Addr}{cd:Value}{A:Around}{outer:List Env}{s:Shared}{H:Hp}{E:XK}
theorem Ry:Passes (mv P w mg) (k7 (mv P w mg) P w K mg base N qual scope f cd A outer s H E) E:=by
 rintro pins σ H1 s1 e s2 I ⟨a,C,dx,H2,rfl,ho,hg,u,cB,⟨vs,T,x,h1,ft,ne,na,nT,Ha,HT,h2⟩,q⟩
 have I2:=I.DD (ch:=[]) ho u cB hg (fun b z=>absurd z (by simp))
 have sz:s.heap.objs.size<=s1.heap.objs.size:=I.sz
 have PN:a < s2.heap.objs.size:=by
  obtain⟨o,z,_⟩:=x
  exact aK z
 show wpAny _ _ (leaving (envOfC qual scope s.heap.objs.size f cd) (.ref a)) _ _ s2
 refine NV (base:=base) (outer:=outer) (L:=s.heap.objs.size) I.ok.frames I2.stack rfl x h1 ft ne fun h3 T' b x' hT t'=>?_
 have PQ:T'≠a:=by
  rw[hT]
  exact(aX PN).symm
 refine⟨a,C,dx,H2,rfl,I2.os,I2.bare,Ec I2.base b ?_ ?_,yy cB b I2.qg ?_,⟨_,T',x',pJ (ff h1),t',PQ,a0 sz na,?_,Ha,I2.cB.fresh (iK hT.symm),?_⟩,q⟩
 ·intro c hc
  rcases aw.mp hc with rfl|hc
  ·exact a0 sz nT
  ·rw[ao.mp hc]
   exact a0 sz na
 ·intro c hc
  rcases aw.mp (I2.tT c hc) with hc|hc
  ·rw[hc]
   exact .inr (aB _)
  ·exact .inl hc
 ·intro c hc
  rcases aw.mp hc with rfl|hc
  ·exact HT
  ·rw[ao.mp hc]
   exact Ha
 ·rw[hT]
  exact I2.sz
 ·rw[qA (by decide)]
  exact h2
theorem N2:PM (k7 (mv P w mg) P w K mg base N qual scope f cd A outer s H E) E where
 pass:=Ry
 me:=by
  intro pins σ H1 s1 a C dx vs I x h1 h2 na Ha q
  have PN:a < s1.heap.objs.size:=by
   obtain⟨o,z,_⟩:=x
   exact aK z
  show wpAny _ _ (leaving (envOfC qual scope s.heap.objs.size f cd) (.ref a)) _ _ s1
  refine NU (base:=base) (outer:=outer) (L:=s.heap.objs.size) I.ok.frames I.stack rfl x h1 fun h3 T' b x' hT t'=>?_
  have PQ:T'≠a:=by
   rw[hT]
   exact(aX PN).symm
  refine⟨a,C,dx,H1,rfl,I.os,I.bare,Ec I.base b ?_ ?_,yy I.cB b I.qg ?_,⟨_,T',x',pJ (ff h1),t',PQ,na,?_,Ha,I.cB.fresh (iK hT.symm),?_⟩,q⟩
  ·intro c hc
   rw[ao.mp hc]
   exact na
  ·intro c hc
   rcases aw.mp (I.tT c hc) with hc|hc
   ·rw[hc]
    exact .inr (aB _)
   ·exact .inl hc
  ·intro c hc
   rw[ao.mp hc]
   exact Ha
  ·rw[hT]
   exact I.sz
  ·rw[qA (by decide)]
   exact h2
 own:=PassesOwn.leaving
 ownAt:=fun _=>PassesOwnAt.leaving
 GX:=rfl
 Yp:=rfl
theorem gp.Yq {x qual:Str}{st:Stmt}{f:Addr}{fd:FuncData}{N ps:List Str}{k:Nat}{sp:Sp}(F:gp K x qual st f fd)(S:aS N ps (ay st))(len: ∀vs H Q E,sp vs H Q E->vs.length=ps.length)
  (fW: ∀(cX:Value) (A:Around) (outer:List Env) (s:Shared) (H:Hp) (vs:List V) (Q:VK) (E:XK),eW k (A.deeper (envOfC qual (ay st) s.heap.objs.size f cX))->PM (k7 (mv P w mg) P w K mg base N qual (ay st) f cX A outer s H E) E->sp vs H Q E->
   ∃t,oG (k7 (mv P w mg) P w K mg base N qual (ay st) f cX A outer s H E) (dD st) t/\t {nx:=fun _ H'=>Q .en H',rt:=Q} (start N vs) H):lN P w K mg base (mv P w mg) (k + 1) f fd ps sp:=by
 obtain⟨oc,od,kV,doc,pm,an,cX,ct,Fo,rfl,lk,ra⟩:=F.ex
 exact Ht lk ra S len fun A outer s H vs Q E hr yc=>fW cX A outer s H vs Q E hr N2 yc
end
def N3 (K:PySem.W.Frag)(txt:Str):Sp:=fun vs H Q _=> ∃(e C R t0:Addr),vs=[.ref e]/\H e=some (xo e C none (v0 t0))/\gU K C R/\ ∀dx t',H dx=none->Q .en (upd (upd H dx (.xd [("text",.str txt)])) e (xo e C (some dx) (v0 t')))
def N4 (E:XK)(C:Addr)(txt:Str):TS:=fun _ _ H=> ∀dx,H dx=none->E (.ref C) (some dx) (upd H dx (.xd [("text",.str txt)]))
structure Ih (P:Program)(w:World)(K:PySem.W.Frag)(mg:Str->Option Value)(base:Heap)(k:Nat)(x:Str)(C R:Addr)(txt:Str):Prop where
 Yr:mg x=some (.ref C)
 ek:gU K C R
 kp:PySem.W.keepIn K (.ref C)=true
 init: ∃(f:Addr) (fd:FuncData),PySem.W.findIn K (.ref C) "__init__"=some (some (.ref f))/\PySem.W.typeIn K (.ref f)=some (.type "function")/\Rv P w K mg base k f fd ["self"] (N3 K txt)/\Binds K fd ["self"] []
section
variable {X:Cx}{k:Nat}{C R:Addr}{x txt:Str}{p pos gP:Pos}{E:XK}
theorem Ij (M:Ih X.prog X.w X.K X.mg X.base k x C R txt)(hr:ij (k + 1) X.A)(hg:Gl X x)(ql:(x == ("__debug__":Str))=false){pins:List (Addr×Obj)}{σ:St}{H:Hp}{s:Shared}{Q:Value->Shared->Prop}{xe:Value->Shared->Prop}(I:Inv X pins σ H s)
  (q: ∀(s2:Shared) (e dx t':Addr),s.heap.objs.size<=e->H dx=none->H e=none->dx≠e->Inv X pins σ (upd H dx (.xd [("text",.str txt)])) s2->iX s2.heap e (.ref C) (some dx) (v0 t')->Q (.ref e) s2):
  wpAny (model X.prog X.w) X.A (eval (.Call (.Name x p) [] [] gP) X.env) Q xe s:=by
 obtain⟨f,fd,hi,hf,F,hb⟩:=M.init
 refine eF (jw I hg M.Yr ?_ ql)
 refine zW I.gN M.kp ?_
 obtain⟨nm,qn,N,bs,bm,sn,sub,ab,col,dd,k0,k1,k2,k3,k5,c⟩:=M.ek.on
 have c:=c _ I.gN
 have hz:=I.cB.fresh (cZ s.heap.objs.size)
 have I1:=I.kept (t':=s.toks) (h':=s.heap.push (jo [])) (fun b u z=>ax _ z)
 have ex:iX ((s.heap.push (jo [])).push (lX C s.heap.objs.size)) (s.heap.objs.size + 1) (.ref C) none (v0 s.heap.objs.size):=⟨lX C s.heap.objs.size,by heap_get,rfl,rfl,rfl⟩
 have I2:=I1.laid (a:=s.heap.objs.size + 1) (o:=xo (s.heap.objs.size + 1) C none (v0 s.heap.objs.size)) (t':=s.toks) (h':=(s.heap.push (jo [])).push (lX C s.heap.objs.size)) (fun b u z=>ax _ z) (iK (kg _ _)) (Ie ex)
 have TJ:=PySem.W.looks_typeIn (M:=model X.prog X.w) I.gN hf
 have N5: ∃oI,s.heap.get? f=some oI/\oI.cls= .type "function":=by
  have z:=hf
  unfold PySem.W.typeIn at z
  dsimp only at z
  cases w:X.K.lookup f with
  |none=>rw[w] at z; cases z
  |some o=>
   rw[w] at z
   exact⟨o,I.gN _ _ w,aE z⟩
 obtain⟨oI,N5,Ro⟩:=N5
 have e0:=I2.Hq.make C [] []
 obtain⟨hp,g,d,tk,os⟩:=s
 refine call_exc M0 c.e c.na c.nn c.at_ (lp I.gN hi) N5 Ro ?_
 refine dY (Ea (X:=X) F (hr.make C [] []) e0 hb I2 (us:=[.ref (hp.objs.size + 1)]) (vs:=[.ref (hp.objs.size + 1)]) (Q:=fun v H'=>v= .en/\ ∃dx t',H dx=none/\dx≠hp.objs.size + 1/\H'=upd (upd (upd H (hp.objs.size + 1) (xo (hp.objs.size + 1) C none (v0 hp.objs.size))) dx (.xd [("text",.str txt)])) (hp.objs.size + 1) (xo (hp.objs.size + 1) C (some dx) (v0 t'))) (.cons rfl .nil) ?_) fun u s2 h2=>?_
 ·refine⟨_,C,R,_,rfl,ag,M.ek,fun dx t' B4=>⟨rfl,dx,t',?_⟩⟩
  have ne:dx≠hp.objs.size + 1:=fun z=>by
   rw[z,ag] at B4
   cases B4
  rw[az ne] at B4
  exact⟨B4,ne,rfl⟩
 ·obtain⟨v,H',I3,rv,rfl,dx,t',B4,ne,rfl⟩:=h2
  refine⟨rv,?_⟩
  have I4:=Inv.drop I hz I3 ag
  have eH:gone (upd (upd (upd H (hp.objs.size + 1) (xo (hp.objs.size + 1) C none (v0 hp.objs.size))) dx (.xd [("text",.str txt)])) (hp.objs.size + 1) (xo (hp.objs.size + 1) C (some dx) (v0 t'))) (hp.objs.size + 1)=upd H dx (.xd [("text",.str txt)]):=by
   funext b
   by_cases h1:b=hp.objs.size + 1
   ·rw[h1,xx,az ne.symm,hz]
   ·rw[iF h1,az h1]
    by_cases h2:b=dx
    ·rw[h2,ag,ag]
    ·rw[az h2,az h2,az h1]
  rw[eH] at I4
  exact q s2 _ dx t' (cZ _) B4 hz ne I4 (I3.CL ag)
theorem jU (T:PM X E)(M:Ih X.prog X.w X.K X.mg X.base k x C R txt)(hr:ij (k + 1) X.A)(hg:Gl X x)(hc:X.calm=true)(ql:(x == ("__debug__":Str))=false:=by decide):
  PS X (.Raise (some (.Call (.Name x p) [] [] gP)) none pos) (N4 E C txt):=by
 intro pins s σ H D I h
 rw[arm_exec_Raise]
 obtain⟨nm,qn,N,bs,bm,sn,sub,ab,col,dd,k0,k1,k2,k3,k5,c⟩:=M.ek.on
 refine aA (ir (CJ (C:=C) (nm:=nm) (q:=qn) (N:=N) (bs:=bs) (bm:=bm) (ox:=true) (sn:=sn) (sub:=sub) (ab:=ab) (col:=col) (dd:=dd) (k0:=k0) (k1:=k1) (k2:=k2) (k3:=k3) (k5:=k5) (newId:="Exception.__new__") (c _ I.gN).b (I.ok.hd hc) (aA (Ij M hr hg ql I fun s2 e dx t' he B4 hz ne I2 x2=>aA (ir (bG ?_))))))
 exact⟨e,some dx,v0 t',rfl,(c _ I2.gN).at_,x2,rfl,T.me I2 x2 rfl (.inl rfl) (a0 I.sz he) (by rw[az ne.symm]; exact hz) (h dx B4)⟩
end
abbrev Cx.vS (X:Cx)(xe:Value->Shared->Prop)(pn:List (Addr×Obj)):Cx:={X with xe:=xe,pn:=pn}
abbrev Cx.JU (X:Cx)(e:Value)(pn:List (Addr×Obj))(xe:Value->Shared->Prop):Cx:={X with A:=X.A.mark (some e),calm:=false,pn:=pn,xe:=xe}
section
variable {X:Cx}{pins z7 l:List (Addr×Obj)}{σ:St}{H:Hp}{s:Shared}{xe:Value->Shared->Prop}{E:XK}
theorem Inv.vS (I:Inv X pins σ H s)(xe:Value->Shared->Prop):Inv (X.vS xe (X.pn ++ pins)) [] σ H s:=
 have ok:=I.ok
 ⟨⟨ok.mod,ok.kind,ok.glob,ok.blt,ok.above,ok.inj,ok.has,ok.JK,ok.hd,ok.frames,ok.GX,ok.Kh,ok.bs,ok.z5,ok.vI,ok.vJ,ok.lL,ok.DA⟩,I.os,I.bare,I.base,I.loc,I.cell,I.free,I.iO,fun p hp=>I.pin p (by simpa using hp),I.cB,I.len⟩
theorem Inv.jV (I:Inv (X.vS xe (X.pn ++ pins)) z7 σ H s):Inv X pins σ H s:=
 have ok:=I.ok
 ⟨⟨ok.mod,ok.kind,ok.glob,ok.blt,ok.above,ok.inj,ok.has,ok.JK,ok.hd,ok.frames,ok.GX,ok.Kh,ok.bs,ok.z5,ok.vI,ok.vJ,ok.lL,ok.DA⟩,I.os,I.bare,I.base,I.loc,I.cell,I.free,I.iO,fun p hp=>I.pin p (cY _ hp),I.cB,I.len⟩
theorem Inv.JU (I:Inv X pins σ H s)(e:Value)(xe:Value->Shared->Prop)(h: ∀p∈l,s.heap.get? p.1=some p.2/\H p.1=none/\p.1≠X.env.locals/\p.1∉X.fs/\ ∀v,p.2.data≠ .cell v):Inv (X.JU e (X.pn ++ pins ++ l) xe) [] σ H s:=
 have ok:=I.ok
 ⟨⟨ok.mod,ok.kind,ok.glob,ok.blt,ok.above,ok.inj,ok.has,ok.JK,(fun z=>by cases z),ok.frames,ok.GX,ok.Kh,ok.bs,ok.z5,ok.vI,ok.vJ,ok.lL,ok.DA⟩,I.os,I.bare,I.base,I.loc,I.cell,I.free,I.iO,
  fun p hp=>by
   rw[cu] at hp
   exact(bg.mp hp).elim (fun z=>I.pin p z) (h p),I.cB,I.len⟩
theorem Inv.Rz (I0:Inv X pins σ H s){e:Value}{σ':St}{H':Hp}{s':Shared}(I:Inv (X.JU e (X.pn ++ pins ++ l) xe) z7 σ' H' s'):Inv X pins σ' H' s':=
 have ok:=I.ok
 ⟨⟨ok.mod,ok.kind,ok.glob,ok.blt,ok.above,ok.inj,ok.has,ok.JK,I0.ok.hd,ok.frames,ok.GX,ok.Kh,ok.bs,ok.z5,ok.vI,ok.vJ,ok.lL,ok.DA⟩,I.os,I.bare,I.base,I.loc,I.cell,I.free,I.iO,
  fun p hp=>I.pin p (cY _ (cY _ hp)),I.cB,I.len⟩
theorem SP.jV {D:Ends}{f:Flow}{s':Shared}(h:SP (X.vS xe (X.pn ++ pins)) [] D f s'):SP X pins D f s':=by
 cases f with
 |next=>obtain⟨σ',H',I,q⟩:=h; exact⟨σ',H',I.jV,q⟩
 |brk=>obtain⟨σ',H',I,q⟩:=h; exact⟨σ',H',I.jV,q⟩
 |cont=>obtain⟨σ',H',I,q⟩:=h; exact⟨σ',H',I.jV,q⟩
 |ret u=>obtain⟨v,σ',H',I,r,q⟩:=h; exact⟨v,σ',H',I.jV,r,q⟩
theorem Inv.renamed {h5:Heap}{m5:Str->Option Value}{t':Nat}(I:Inv X pins σ H s)(n5:h5.Ns X.env.locals m5)(sb:Heap.SameBut X.env.locals s.heap h5):Inv X pins (List.replicate X.N.length none) H {s with heap:=h5,toks:=t'}:=by
 have low: ∀c o,X.s₀.heap.get? c=some o->c≠X.env.locals:=fun c o z=>aX (bf (aK z) I.ok.above)
 refine⟨I.ok,I.os,I.bare,⟨fun c o z n hc hx=>(sb.2 c (low c o z)).trans (I.base.keep c o z n hc hx),fun c o z n hc hx=>?_,I.base.free,fun c o z hx=>?_,I.base.qf,I.base.o6,I.base.o7⟩,⟨m5,n5,fun i x v h1 h2 _=>?_⟩,fun x c z=>?_,I.free,I.iO,fun p hp=>?_,fun c u z=>?_,?_⟩
 ·obtain⟨sl,e⟩:=I.base.slot c o z n hc hx
  exact⟨sl,(sb.2 c (low c o z)).trans e⟩
 ·obtain⟨o',e⟩:=I.base.there c o z hx
  exact⟨o',(sb.2 c (low c o z)).trans e⟩
 ·rw[List.getElem?_replicate] at h2
  split at h2 <;> cases h2
 ·obtain⟨v,w⟩:=I.cell x c z
  exact⟨v,w.sameBut sb (I.Me x c z)⟩
 ·obtain⟨w1,w2,w3,w4⟩:=I.pin p hp
  exact⟨(sb.2 _ w3).trans w1,w2,w3,w4⟩
 ·refine(I.cB c u z).sV (fun d o hd w=>(sb.2 d (fun q=>?_)).trans w) (fun _ q=>q) fun _ _ q=>q
  rcases hd with hd|hd
  ·rw[← hd,q,I.free] at z
   cases z
  ·rw[q,I.free] at hd
   cases hd
 ·rw[iL]
theorem land (se:X.stack=X.env :: X.outer)(B0:X.env.frame=some X.env.locals){e:Value}{s':Shared}(I:Inv X pins σ H s)(c:mv X.prog X.w X.mg X.stack H s E e s'){hs:List ExceptHandler}{Q:Flow->Shared->Prop}
  (q: ∀(a C dx T:Addr) (vs:Array Value) (H':Hp) (s3:Shared),e= .ref a->Inv X pins σ H' s3->iX s3.heap a (.ref C) (some dx) vs->vs[1]? =some (.ref T)->JS s3.heap T .none->T≠a->s.heap.objs.size<=a->s.heap.objs.size<=T->H' a=none->H' T=none->
   (vs[2]? =some .none∨X.mg "Needed"=some (.ref C))->E (.ref C) (some dx) H'->wpAny (model X.prog X.w) X.A (handleBy e X.env hs) Q xe s3):
  wpAny (model X.prog X.w) X.A (noteFrame e X.env) (fun _ s2=>wpAny (model X.prog X.w) X.A (setFlight e none) (fun _ s3=>wpAny (model X.prog X.w) X.A (handleBy e X.env hs) Q xe s3) xe s2) xe s':=by
 obtain⟨a,C,dx,H2,rfl,ho,hg,u,cB,⟨vs,T,x,h1,ft,ne,na,nT,Ha,HT,h2⟩,z⟩:=c
 have I2:=I.DD (ch:=[]) ho u cB hg (fun b z=>absurd z (by simp))
 have st:=I2.stack
 rw[se] at st
 have PN:a < s'.heap.objs.size:=by
  obtain⟨o,z,_⟩:=x
  exact aK z
 have VZ:s.heap.objs.size<=s'.heap.objs.size:=a0 na (dk PN)
 refine Ms (base:=X.base) (outer:=X.outer) (by rw[I.ok.frames,se]) st B0 x h1 ft ne fun h3 T' b x3 hT t3=>?_
 have PQ:T'≠a:=by
  rw[hT]
  exact(aX PN).symm
 have Ys:H2 T'=none:=I2.cB.fresh (iK hT.symm)
 have nT':=I2.jT (iK hT.symm)
 have b':mS (Cg X.stack) [T,a] s'.heap h3:=by
  rw[se]
  exact b
 have I3:=I2.but b' (fun c hc=>by
  rcases aw.mp hc with rfl|hc
  ·exact⟨HT,I.jT nT⟩
  ·rw[ao.mp hc]
   exact⟨Ha,I.jT na⟩)
 refine uG (s:={s' with heap:=h3}) x3 (pJ (ff h1)) t3 fun h4 b4 t4 _=>?_
 have I4:=I3.but (h':=h4) (own:=[T']) (b4.mono (fun _ z=>absurd z (by simp)) (fun _ z=>z)) (fun c hc=>by
  rw[ao.mp hc]
  exact⟨Ys,nT'⟩)
 refine q a C dx T' _ H2 _ rfl I4 (x3.but b4 (by simpa using PQ.symm)) (pJ (ff h1)) t4 PQ na (by rw[hT]; exact VZ) Ha Ys ?_ z
 rw[qA (by decide)]
 exact h2
end
section
variable {X:Cx}{R:Addr}{n x:Str}{i k:Nat}{p1 p2 p3 p4 p5 pos gP:Pos}{body:List Stmt}{t:XK->TS}{E:XK}{CN:Addr}{txt:Str}
def RA (K:PySem.W.Frag)(R:Addr)(D:Ends):XK:=fun c d H'=> ∃(C dx:Addr) (txt:Str),c= .ref C/\d=some dx/\gU K C R/\H' dx=some (.xd [("text",.str txt)])/\D.rt (.str txt) H'
def K4 (K:PySem.W.Frag)(R:Addr)(t:XK->TS):TS:=fun D σ H=>t (RA K R D) D σ H
theorem FR (se:X.stack=X.env :: X.outer)(B0:X.env.frame=some X.env.locals)(hc:X.calm=true)(hN:X.N.Nodup)(hi:X.N[i]? =some n)(hl:X.env.scope.names.lookup n=some .local)(hg:Gl X x)(hm:X.mg x=some (.ref R))(kR:gU X.K R R)
  (hb: ∀(xe:Value->Shared->Prop) (pn:List (Addr×Obj)) (E:XK),Passes (mv X.prog X.w X.mg) (X.vS xe pn) E->oG (X.vS xe pn) body (t E)) (hd:(n == ("__debug__":Str))=false:=by decide) (ra:(n == ("__classdict__":Str))=false:=by decide) (hx:(x == ("__debug__":Str))=false:=by decide):
  PS X (.Try body [.ExceptHandler (some (.Name x p1)) (some n) [.Return (some (.Attribute (.Name n p2) "text" p3)) p4] p5] [] [] pos) (K4 X.K R t):=by
 intro pins s σ H D I h
 refine wpAny_Try_except (cw (hb (fun e s1=>wpAny (model X.prog X.w) X.A (noteFrame e X.env) (fun _ s2=>wpAny (model X.prog X.w) X.A (setFlight e none) (fun _ s3=>
  wpAny (model X.prog X.w) X.A (handleBy e X.env [.ExceptHandler (some (.Name x p1)) (some n) [.Return (some (.Attribute (.Name n p2) "text" p3)) p4] p5]) (SP X pins D) X.xe s3) X.xe s2) X.xe s1) (X.pn ++ pins) (RA X.K R D) ?_ [] s σ H D (I.vS _) h) (fun f s1 q=>?_) fun _ _ z=>z)
 ·rintro RB σ1 H1 s1 e s2 I1 cx
  refine land se B0 I1.jV cx fun a C dx T vs H2 s3 he I3 x3 h1 ft ne na nT Ha HT h2 z=>?_
  subst he
  obtain⟨C',dx',txt,e1,e2,ek,ed,q⟩:=z
  cases e1
  cases e2
  obtain⟨oe,V0,Pu,N6,RC⟩:=id x3
  have cC:=ek.on
  have cR:=kR.on
  obtain⟨_,_,_,_,_,_,_,_,_,_,_,_,_,_,_,cC⟩:=cC
  obtain⟨_,_,_,_,_,_,_,_,_,_,_,_,_,_,_,cR⟩:=cR
  have nw:=I1.jV.jT na
  have Im:=I3.JU (l:=[(a,oe)]) (.ref a) (fun _ _=>False) (fun p hp=>by
   rw[ao.mp hp]
   exact⟨V0,Ha,nw.2.1,I1.jV.Fb na,fun v z=>by rw[RC] at z; cases z⟩)
  refine wpAny_handleBy_cons (codeAny_handlers_test (jw Im hg hm ?_ hx)) (by intro q; cases q)
  obtain⟨hp,g,d,tk,os⟩:=s3
  refine xv (cC _ I3.gN).at_ (cR _ I3.gN).at_ x3 (cR _ I3.gN).b (cC _ I3.gN).up ?_
  refine codeAny_handlers_suite_as ?_
  refine uG x3 h1 ft fun h4 b4 t4 _=>?_
  have K5:=I1.jV.jT nT
  have I4:=Im.but (h':=h4) (own:=[T]) (b4.mono (fun _ z=>absurd z (by simp)) (fun _ z=>z)) (fun c hc=>by
   rw[ao.mp hc]
   refine⟨HT,K5.1,K5.2.1,K5.2.2.1,fun p hp=>?_⟩
   rw[cu] at hp
   rcases bg.mp hp with hp|hp
   ·exact K5.2.2.2 p hp
   ·rw[ao.mp hp]
    exact ne.symm)
  refine tU (X:=X.JU (.ref a) (X.pn ++ pins ++ [(a,oe)]) (fun _ _=>False)) (v:= .ref a) I4 hN hi (.inl hl) rfl (fun s5 I5=>?_) (.inr hl)
  have pe:PE (X.JU (.ref a) (X.pn ++ pins ++ [(a,oe)]) (fun _ _=>False)) (.Attribute (.Name n p2) "text" p3) (fun σ H Q=>σ[i]? =some (some (.ref a))/\H dx=some (.xd [("text",.str txt)])/\Q (.str txt) H):=by
   rintro Mt s6 σ6 H6 Q6 J ⟨e1,e2,q6⟩
   refine DK rfl (dY (Ci (X:=X.JU (.ref a) (X.pn ++ pins ++ [(a,oe)]) (fun _ _=>False)) hi (.inl hl) hd ra Mt s6 σ6 H6 (fun v H'=>v= .ref a/\H'=H6) J ⟨_,e1,rfl,rfl⟩) ?_)
   rintro u s7 ⟨v,H7,J7,rv,rfl,rfl⟩
   obtain rfl:u=Value.ref a:=rv
   obtain⟨w1,_⟩:=J7.pin (a,oe) (cY _ (bA _ (ao.mpr rfl)))
   obtain⟨mA,n1,rl⟩:=J7.cB dx _ e2
   have rt:=rl "text"
   have lk:List.lookup ("text":Str) [("text",V.str txt)]=some (V.str txt):=by simp[List.lookup]
   rw[lk] at rt
   cases V3:mA "text" with
   |none=>rw[V3] at rt; exact False.elim rt
   |some u7=>
    rw[V3] at rt
    obtain⟨tk7,rfl⟩: ∃tk,u7=Value.str txt tk:=rt
    obtain⟨hp7,g7,d7,t7,os7⟩:=s7
    refine K1 PySem.F.attr_Exception.ga (cC _ J7.gN).b (cC _ J7.gN).at_ (lp J7.gN ek.ga) (lp J7.gN ek.gk) (lp J7.gN ek.tx) ⟨oe,w1,Pu,N6,RC⟩ n1.ns V3 rfl ?_
    exact⟨.str txt,H7,J7.tok _,⟨_,rfl⟩,q6⟩
  have hlen:i < σ1.length:=by
   rw[I1.len]
   exact(au.mp hi).1
  refine wpAny_mono (av (a9 pe) [] s5 _ H2 {nx:=fun _ _=>False,rt:=fun v H'=>v= .str txt/\H'=H2} I5 ⟨by simp[hlen],ed,rfl,rfl⟩) (fun f s6 q6=>?_) fun _ _ z=>z.elim
  cases f with
  |next=>obtain⟨_,_,_,z⟩:=q6; exact z.elim
  |brk=>obtain⟨_,_,_,z⟩:=q6; exact z.elim
  |cont=>obtain⟨_,_,_,z⟩:=q6; exact z.elim
  |ret u=>
   obtain⟨v,σ6,H6,I6,rv,rfl,rfl⟩:=q6
   have I7:Inv X pins σ6 H6 s6:=Inv.Rz I3 I6
   obtain⟨m6,n6,_⟩:=id I7.loc
   have kd:(X.env.scope.kind == .class || (X.env.scope.kind == .module && X.env.locals != X.env.globals))=false:=by
    rw[I.ok.kind]
    rfl
   refine wpAny_nameGoes hl n6 kd fun h7 m7 n7 sb=>?_
   exact⟨.str txt,_,H6,I7.renamed n7 sb,rv,q⟩
 ·have q':=SP.jV q
  cases f with
  |next=>exact jm q'
  |brk=>exact q'
  |cont=>exact q'
  |ret u=>exact q'
def Ik (CT CN:Addr)(txt:Str)(E:XK):XK:=fun c d H'=>c= .ref CT/\ ∀dx,H' dx=none->E (.ref CN) (some dx) (upd H' dx (.xd [("text",.str txt)]))
def FT (CT CN:Addr)(txt:Str)(E:XK)(t:XK->TS):TS:=fun D σ H=>t (Ik CT CN txt E) D σ H
theorem AB {CT:Addr}{kk:_}(T:PM X E)(hc:X.calm=true)(hg:Gl X x)(hm:X.mg x=some (.ref CT))(kT:gU X.K CT R)(jc:X.mg "Needed"≠some (.ref CT))(M:Ih X.prog X.w X.K X.mg X.base k "Needed" CN R txt)(hr:ij (k + 1) X.A)(hgN:Gl X "Needed")
  (hb: ∀(xe:Value->Shared->Prop) (pn:List (Addr×Obj)) (E:XK),Passes (mv X.prog X.w X.mg) (X.vS xe pn) E->oG (X.vS xe pn) body (t E)) (hx:(x == ("__debug__":Str))=false:=by decide):
  PS X (.Try body [.ExceptHandler (some (.Name x p1)) none [.Raise (some (.Call (.Name "Needed" p2) [] [] gP)) (some (.Constant .none kk p3)) p4] p5] [] [] pos) (FT CT CN txt E t):=by
 intro pins s σ H D I h
 refine wpAny_Try_except (cw (hb (fun e s1=>wpAny (model X.prog X.w) X.A (noteFrame e X.env) (fun _ s2=>wpAny (model X.prog X.w) X.A (setFlight e none) (fun _ s3=>
  wpAny (model X.prog X.w) X.A (handleBy e X.env [.ExceptHandler (some (.Name x p1)) none [.Raise (some (.Call (.Name "Needed" p2) [] [] gP)) (some (.Constant .none kk p3)) p4] p5]) (SP X pins D) X.xe s3) X.xe s2) X.xe s1) (X.pn ++ pins) (Ik CT CN txt E) ?_ [] s σ H D (I.vS _) h) (fun f s1 q=>?_) fun _ _ z=>z)
 ·rintro RB σ1 H1 s1 e s2 I1 cx
  refine land T.GX T.Yp I1.jV cx fun a C dx T0 vs H2 s3 he I3 x3 h1 ft ne na nT Ha HT h2 z=>?_
  subst he
  obtain⟨e1,q⟩:=z
  cases e1
  have v2:vs[2]? =some .none:=h2.elim id (fun z=>absurd z jc)
  obtain⟨oe,V0,Pu,N6,RC⟩:=id x3
  obtain⟨_,_,_,_,_,_,_,_,_,_,_,_,_,_,_,cT⟩:=kT.on
  obtain⟨nm,qn,N,bs,bm,sn,sub,ab,col,dd,k0,k1,k2,k3,k5,cN⟩:=M.ek.on
  have nw:=I1.jV.jT na
  have V4: ∀p∈[(a,oe)],s3.heap.get? p.1=some p.2/\H2 p.1=none/\p.1≠X.env.locals/\p.1∉X.fs/\ ∀v,p.2.data≠ .cell v:=fun p hp=>by
   rw[ao.mp hp]
   exact⟨V0,Ha,nw.2.1,I1.jV.Fb na,fun v z=>by rw[RC] at z; cases z⟩
  have Im:=I3.JU (l:=[(a,oe)]) (.ref a) X.xe V4
  refine wpAny_handleBy_cons (codeAny_handlers_test (jw Im hg hm ?_ hx)) (by intro q; cases q)
  obtain⟨hp,g,d,tk,os⟩:=s3
  refine xv (b:=true) (cT _ I3.gN).at_ (cT _ I3.gN).at_ x3 (cT _ I3.gN).b (by simp) ?_
  refine codeAny_handlers_suite ?_
  refine uG x3 h1 ft fun h4 b4 t4 _=>?_
  have K5:=I1.jV.jT nT
  have I4:=Im.but (h':=h4) (own:=[T0]) (b4.mono (fun _ z=>absurd z (by simp)) (fun _ z=>z)) (fun c hc=>by
   rw[ao.mp hc]
   refine⟨HT,K5.1,K5.2.1,K5.2.2.1,fun p hp=>?_⟩
   rw[cu] at hp
   rcases bg.mp hp with hp|hp
   ·exact K5.2.2.2 p hp
   ·rw[ao.mp hp]
    exact ne.symm)
  refine wpAny_passesOwnAt (T.ownAt (some (.ref a))) ?_
  have ps:PS (X.JU (.ref a) (X.pn ++ pins ++ [(a,oe)]) X.xe) (.Raise (some (.Call (.Name "Needed" p2) [] [] gP)) (some (.Constant .none kk p3)) p4) (fun _ _ H=> ∀dx,H dx=none->E (.ref CN) (some dx) (upd H dx (.xd [("text",.str txt)]))):=by
   intro Mt s6 σ6 H6 D6 J h6
   rw[arm_exec_Raise]
   refine aA (ir (CK (C:=CN) (e0:=a) (nm:=nm) (q:=qn) (N:=N) (bs:=bs) (bm:=bm) (ox:=true) (sn:=sn) (sub:=sub) (ab:=ab) (col:=col) (dd:=dd) (k0:=k0) (k1:=k1) (k2:=k2) (k3:=k3) (k5:=k5) (newId:="Exception.__new__") (cN _ J.gN).b rfl (fun Rr s7 z=>aA (Constant_none (aA (ir (bG z))))) (aA (Ij (X:=X.JU (.ref a) (X.pn ++ pins ++ [(a,oe)]) X.xe) M (hr.mark _) hgN (by decide) J fun s7 e V5 t' he B4 hz ne7 I7 x7=>aA (ir (bG ?_))))))
   obtain⟨w1,_⟩:=I7.pin (a,oe) (cY _ (bA _ (ao.mpr rfl)))
   have w0:=(J.pin (a,oe) (cY _ (bA _ (ao.mpr rfl)))).1
   have nea:e≠a:=fun q=>by
    rw[q] at he
    exact absurd (aK w0) (wV.mpr he)
   refine⟨e,some V5,v0 t',.ref CT,some dx,vs,rfl,nea,(cN _ I7.gN).at_,x7,rfl,rfl,⟨oe,w1,Pu,N6,RC⟩,v2,fun h8 b8 x8=>?_⟩
   have Hz:upd H6 V5 (.xd [("text",.str txt)]) e=none:=by
    rw[az ne7.symm]
    exact hz
   have I8:=I7.but (h':=h8) (own:=[e]) (b8.mono (fun _ z=>absurd z (by simp)) (fun _ z=>z)) (fun c hc=>by
    rw[ao.mp hc]
    exact⟨Hz,J.jT he⟩)
   exact T.me (Inv.Rz I3 I8) x8 rfl (.inr M.Yr) (a0 J.sz he) Hz (h6 V5 B4)
  refine cw (av ps [] _ _ H2 {nx:=fun _ _=>False,rt:=fun _ _=>False} I4 q) (fun f s9 z=>?_) fun _ _ z=>z
  cases f with
  |next=>obtain⟨_,_,_,z⟩:=z; exact z.elim
  |brk=>obtain⟨_,_,_,z⟩:=z; exact z.elim
  |cont=>obtain⟨_,_,_,z⟩:=z; exact z.elim
  |ret u=>obtain⟨_,_,_,_,_,z⟩:=z; exact z.elim
 ·have q':=SP.jV q
  cases f with
  |next=>exact jm q'
  |brk=>exact q'
  |cont=>exact q'
  |ret u=>exact q'
end
open PySem.W
def BMain (mg:Str->Option Value)(h:Heap):Prop:= ∃bm o,mg "__builtins__"=some (.ref bm)/\bm≠builtinsNs/\bm≠mainGlobals/\h.get? bm=some o/\o.cls= .type "module"/\o.dict=some builtinsNs/\o.data= .plain
abbrev xy (c:Addr)(qual:Str):HO:= .ext fun h=>h.CodeRec (.ref c) qual
theorem Il {P:Program}{w:World}{H:Hp}{h:Heap}{c:Addr}{qual:Str}(x:h.CodeRec (.ref c) qual):dC P w H h c (xy c qual):=by
 refine⟨x,?_,fun h1 h2 z k=>?_⟩
 ·obtain⟨c',o,vs,t,e,g,_⟩:=x
  cases e
  exact⟨o,g⟩
 ·obtain⟨c',o,vs,t,e,g,r⟩:=z
  cases e
  exact⟨c,o,vs,t,rfl,k o g,r⟩
def Tb (H:Hp)(P:Addr)(pos:Pos)(qual:Str):Prop:= ∃ps:Array Value,H P=some (.mz ps)/\TriplesOk ps.toList/\(codeAmong pos ps.toList=none∨ ∃c',codeAmong pos ps.toList=some (.ref c')/\H c'=some (xy c' qual))
section
variable {X:Cx}{pins:List (Addr×Obj)}{σ:St}{H:Hp}{s:Shared}{c P:Addr}{params:Arguments}{body:Expr}{scope:Scope}{pos:Pos}{Q:Value->Shared->Prop}{xe:Value->Shared->Prop}
theorem BMain.at {mg:Str->Option Value}{h h':Heap}(B:BMain mg h)(k: ∀b o,h.get? b=some o->h'.get? b=some o){ps:Array Value}(hP:h'.get? P=some (tabObj ps)):h'.BuiltinsAt mg P:=by
 obtain⟨bm,o,b1,b2,b3,b4,b5,b6,b7⟩:=B
 refine⟨bm,o,b1,b2,b3,fun z=>?_,k _ _ b4,b5,b6,b7⟩
 have e:=k _ _ b4
 rw[z,hP] at e
 cases e
 cases b5
theorem Io (I:Inv X pins σ H s)(B:BMain X.mg X.base)(Ed:X.env.code= .ref c)(C:CodeHd X.base c P)(tb:Tb H P pos (X.env.qual ++ "<lambda>"))(N7:defaultsOf params X.env=([],[]))(qC:closureFor scope X.env=pure [])
  (q: ∀(f c':Addr) (Ee:Value) (H':Hp) (s':Shared),Inv X pins σ H' s'->Frame [P] H H'->Tb H' P pos (X.env.qual ++ "<lambda>")->H' f=none->s'.heap.get? f=some (kla_obj "<lambda>" (X.env.qual ++ "<lambda>") params body scope [] ((X.mg "__name__").getD .none) c' Ee)->
   H' c'=some (xy c' (X.env.qual ++ "<lambda>"))->s.heap.objs.size<=f->Q (.ref f) s'):wpAny (model X.prog X.w) X.A (eval (.Lambda params body scope pos) X.env) Q xe s:=by
 obtain⟨ps,hP,ht,hc⟩:=tb
 have T1:s.heap.get? P=some (tabObj ps):=I.cB P _ hP
 have hg:s.heap.Ns mainGlobals X.mg:=I.mod.glob.keeps I.bk
 have hgP:mainGlobals≠P:=fun z=>by
  obtain⟨o,es,ep,e,hd,_⟩:=hg
  rw[z,T1] at e
  cases e
  cases hd
 have hB:=B.at I.bk T1
 refine kla_eval N7 ?_
 rcases hc with hn|⟨c',hf,T2⟩
 ·refine kla_makeFunction qC I.ok.glob hg Ed (C.keeps I.bk) T1 ht hn hgP hB fun c' Ee h' tk hx NM iU V6 PR=>?_
  have V7:H c'=none:=I.cB.fresh NM
  have cP:c'≠P:=fun z=>by rw[z,hP] at V7; cases V7
  have lt: ∀b o,s.heap.get? b=some o->b≠c':=fun b o z=>aX (bf (aK z) NM)
  have same: ∀b,b≠P->b≠c'->upd (upd H P (.mz (ps ++ #[rawInt pos.line,rawInt pos.col,.ref c']))) c' (xy c' (X.env.qual ++ "<lambda>")) b=H b:=fun b n1 n2=>by rw[az n2,az n1]
  have K6: ∀b u,H b=some u->u≠ .mz ps->b≠P:=fun b u z n w=>by
   rw[w,hP] at z
   cases z
   exact n rfl
  have FU: ∀b u,H b=some u->b≠c':=fun b u z=>aL z V7
  generalize TZ:kla_obj "<lambda>" (X.env.qual ++ "<lambda>") params body scope [] ((X.mg "__name__").getD .none) c' Ee=ob
  have hf:(h'.push ob).get? h'.objs.size=some ob:=by
   rw[← TZ]
   exact bN _ rfl
  have kp: ∀b o,b≠P->s.heap.get? b=some o->(h'.push ob).get? b=some o:=fun b o n z=>ax _ (hx b o n z)
  have RD:(h'.push ob).get? P=some (tabObj (ps ++ #[rawInt pos.line,rawInt pos.col,.ref c'])):=ax _ PR
  have I2:Inv X pins σ (upd (upd H P (.mz (ps ++ #[rawInt pos.line,rawInt pos.col,.ref c']))) c' (xy c' (X.env.qual ++ "<lambda>"))) {s with heap:=h'.push ob,toks:=tk}:=by
   refine I.un ⟨fun b o z n _ _=>kp b o (fun w=>by rw[w,hP] at n; cases n) z,fun b o z n _ _=>⟨o.slots,kp b o (fun w=>by rw[w,hP] at n; cases n) z⟩,fun b o z n _=>?_,fun b o z _=>?_,fun b xs z=>?_,fun b o u z=>?_,fun b qs z=>?_⟩ fun b u z=>?_
   ·rw[same b (fun w=>by rw[w,hP] at n; cases n) (lt b o z)]
    exact n
   ·by_cases w:b=P
    ·rw[w]
     exact⟨_,RD⟩
    ·exact⟨o,kp b o w z⟩
   ·rw[same b (K6 b _ z (by intro w; cases w)) (FU b _ z)]
    exact z
   ·rw[same b (K6 b _ z (by intro w; cases w)) (FU b _ z)]
    exact z
   ·by_cases w:b=P
    ·rw[w] at z ⊢
     rw[hP] at z
     cases z
     exact⟨_,by rw[az cP.symm,ag]⟩
    ·exact⟨#[],by rw[same b w (FU b _ z),z]; simp⟩
   ·by_cases w:b=c'
    ·subst w
     rw[ag] at z
     cases z
     exact Il (V6.push ob)
    ·rw[az w] at z
     by_cases w2:b=P
     ·subst w2
      rw[ag] at z
      cases z
      exact RD
     ·rw[az w2] at z
      refine(I.cB b u z).sV (fun d o hd y=>kp d o (fun w3=>?_) y) (fun d y=>?_) fun d xs y=>?_
      ·rcases hd with hd|hd
       ·exact w2 (hd▸w3)
       ·rw[w3,hP] at hd
        cases hd
      ·rw[same d (K6 d _ y (by intro w; cases w)) (FU d _ y)]
       exact y
      ·rw[same d (K6 d _ y (by intro w; cases w)) (FU d _ y)]
       exact y
  have Kj:H h'.objs.size=none:=I.cB.fresh (a0 NM (dk iU))
  refine q h'.objs.size c' Ee _ _ I2 (fun b o nb z=>?_) ⟨ps ++ #[rawInt pos.line,rawInt pos.col,.ref c'],by rw[az cP.symm,ag],?_,.inr ⟨c',?_,ag⟩⟩ ?_ (by rw[TZ]; exact hf) ag (a0 NM (dk iU))
  ·rw[same b (fun w=>nb (by rw[w]; exact ao.mpr rfl)) (FU b _ z)]
   exact z
  ·rw[Array.toList_append]
   exact TriplesOk_snoc _ _ _ _ ht
  ·rw[Array.toList_append]
   exact codeAmong_snoc _ ht hn
  ·rw[same _ (fun w=>by rw[w,hP] at Kj; cases Kj) (pV iU)]
   exact Kj
 ·refine kla_makeFunctionHit qC I.ok.glob hg Ed (C.keeps I.bk) T1 ht hf hB fun Ee h' tk hk hsz=>?_
  have I2:=(I.kept (t':=tk) (h':=h'.push (kla_obj "<lambda>" (X.env.qual ++ "<lambda>") params body scope [] ((X.mg "__name__").getD .none) c' Ee)) fun b u z=>ax _ (hk b u z))
  exact q h'.objs.size c' Ee H _ I2 Frame.refl ⟨ps,hP,ht,.inr ⟨c',hf,T2⟩⟩ (I.cB.fresh hsz) (bN _ rfl) T2 hsz
theorem Iq {A:Around}{name qual:Str}{pm Ee:Value}{f c':Addr}{N ps:List Str}{us:List Value}{vs:List V}{t:TE}{R:VK}(I:Inv X pins σ H s)(e0:qk X.prog X.w X.K X.mg X.base A X.stack s H)(T3:A.depth < recursionLimit)
  (ho:s.heap.get? f=some (kla_obj name qual params body scope [] pm c' Ee)) (ra:s.heap.CodeRec (.ref c') qual) (S:aS N ps scope) (hb:bindArgs (kla_fn name qual params body scope [] pm (.ref c') Ee) ⟨us,[]⟩=pure (ps.zip us)) (hl:vs.length=ps.length) (r:Vals vs us)
  (fW:PE (uI X.prog X.w X.K X.mg X.base N qual scope f (.ref c') A X.stack s H E0).DF body t) (h:t (start N vs) H R):wpAny (model X.prog X.w) A (call (.ref f) us) (EP X pins σ R) xe s:=by
 have lim:s.heap.NoLimit:=I.nolimit
 have mI: ∀y∈ps.zip us,scope.names.lookup y.1=some .local∨(scope.names.lookup y.1=some .cell/\((cellsFrom (s.heap.objs.size + 1) scope.names []).lookup y.1).isSome=true):=fun⟨n,v⟩ hy=>by
  rcases S.par n (oj hy).1 with q|q
  ·exact .inl q
  ·exact .inr ⟨q,kY _ _ _ (.inl q)⟩
 refine Dz (kla_callFunE T3 ho rfl S.co S.gen rfl ra ?_)
 rw[hb]
 refine bG ?_
 refine sT S.kind mI fun env he s1 y=>?_
 subst he
 refine⟨lim.keeps y.toInCall.keep,kla_codeExpr ?_⟩
 have J:Inv (uI X.prog X.w X.K X.mg X.base N qual scope f (.ref c') A X.stack s H E0) [] (start N vs) H s1:=uJ S e0 hl r y
 refine cw (fW [] s1 (start N vs) H R (J.tV _) h) (fun v s' hs=>?_) fun e s' hs=>hs.elim
 obtain⟨v',H',J',rv,q'⟩:=hs
 exact I.after ⟨v',H',J'.os,J'.bare,J'.base,J'.cB,rv,q'⟩
end
section
variable {X:Cx}{pins:List (Addr×Obj)}{σ:St}{H:Hp}{s:Shared}
theorem Inv.RE {D:Addr}{o:HO}(I:Inv X pins σ H s)(hn:H D=none)(ok:dC X.prog X.w (upd H D o) s.heap D o)(nw:(D∈X.ex∨X.s₀.heap.objs.size<=D)/\D≠X.env.locals/\(∀x k,X.env.cells.lookup x=some k->k≠D)/\ ∀p∈X.pn ++ pins,p.1≠D)
  (hx:X.s₀.heap.objs.size<=D):Inv X pins σ (upd H D o) s:=by
 have off: ∀b u,H b=some u->b≠D:=fun b u z=>aL z hn
 have low: ∀b ob,X.s₀.heap.get? b=some ob->b≠D:=fun b ob z=>aX (bf (aK z) hx)
 refine⟨I.ok,I.os,I.bare,⟨I.base.keep,I.base.slot,fun b ob z n hb=>?_,I.base.there,fun b xs z=>?_,fun b ob u z=>?_,fun b ps z=>?_⟩,I.loc,I.cell,?_,fun x k z=>?_,fun p hp=>?_,fun b u z=>?_,I.len⟩
 ·rw[az (low b ob z)]
  exact I.base.free b ob z n hb
 ·have w:=I.base.qf b xs z
  rw[az (off b _ w)]
  exact w
 ·have w:=I.base.o6 b ob u z
  rw[az (off b _ w)]
  exact w
 ·obtain⟨m,w⟩:=I.base.o7 b ps z
  exact⟨m,by rw[az (off b _ w)]; exact w⟩
 ·rw[az nw.2.1.symm]
  exact I.free
 ·rw[az (nw.2.2.1 x k z)]
  exact I.iO x k z
 ·obtain⟨w1,w2,w3⟩:=I.pin p hp
  exact⟨w1,by rw[az (nw.2.2.2 p hp)]; exact w2,w3⟩
 ·by_cases q:b=D
  ·subst q
   rw[ag] at z
   cases z
   exact ok
  ·rw[az q] at z
   exact(I.cB b u z).sV (fun _ _ _ w=>w) (fun d w=>by rw[az (off d _ w)]; exact w) fun d xs w=>by rw[az (off d _ w)]; exact w
theorem Frame.sql {K:PySem.W.Frag}{fp:List Addr}{H H':Hp}{a:Addr}{xs:List V}(f:Frame fp H H')(h:bL K H a xs)(ha: ∀o,H a=some o->a∉fp):bL K H' a xs:=by
 rcases h with(h|⟨o,h⟩)|h
 ·exact .inl (.inl (f _ _ (ha _ h) h))
 ·exact .inl (.inr ⟨o,f _ _ (ha _ h) h⟩)
 ·exact .inr h
theorem Tb.upd {P:Addr}{pos:Pos}{qual:Str}{p:Addr}{o:HO}(t:Tb H P pos qual)(hp:H p=none):Tb (upd H p o) P pos qual:=by
 obtain⟨ps,h1,h2,h3⟩:=t
 refine⟨ps,by rw[az (aL h1 hp)]; exact h1,h2,?_⟩
 rcases h3 with h3|⟨c',h3,h4⟩
 ·exact .inl h3
 ·exact .inr ⟨c',h3,by rw[az (aL h4 hp)]; exact h4⟩
theorem Frame.new {fp:List Addr}{H H':Hp}{p:Addr}{o:HO}(f:Frame fp H H')(hp:H' p=none):Frame fp H (L2.upd H' p o):=fun b u hb z=>by
 have w:=f b u hb z
 rw[az (aL w hp)]
 exact w
end
def Mu (K:PySem.W.Frag)(P:Addr)(pos:Pos)(qual:Str)(N:List Str)(tb:TE)(Q:VK)(x:V)(H1:Hp):Prop:= ∃(a:Addr) (xs:List V) (ts:List (List Int)) (key:List Int->Int),x= .ref a/\bL K H1 a xs/\xs.length < 64/\ts.length=xs.length/\Tb H1 P pos qual/\
 (∀t∈ts,t≠[])/\(∀t∈ts,∀u∈ts,HT.lexLt t u=decide (key t < key u))/\
 (∀i,i < xs.length-> ∀H2,Frame [P] H1 H2-> ∀R:VK,(∀p,H2 p=none->R (.ref p) (upd H2 p (.tup ((ts.getD i []).map V.int))))->tb (start N [xs.getD i .en]) H2 R)/\
 ∀(D:Addr) (p:List Nat) (H2:Hp),p.Perm (List.range xs.length)->p.Pairwise (fun i j=>key (ts.getD i [])<=key (ts.getD j []))->Frame [P] H1 H2->Tb H2 P pos qual->H1 D=none->H2 D=some (.lst (p.map fun i=>xs.getD i .en))->Q (.ref D) H2
def Ir (K:PySem.W.Frag)(P:Addr)(pos:Pos)(qual:Str)(N:List Str)(ta tb:TE):TE:=fun σ H Q=>ta σ H (Mu K P pos qual N tb Q)
theorem hX.snoc {H:Hp}: ∀{ts:List (List Int)} {xs:List V} {t:List Int} {p:Addr},hX H ts xs->H p=some (.tup (t.map V.int))->hX H (ts ++ [t]) (xs ++ [.ref p])
 |_,_,_,p,.nil,h=> .cons ⟨p,rfl,h⟩ .nil
 |_,_,_,p,.cons a r,h=> .cons a (hX.snoc r h)
theorem take_succ_getD {α:Type}{l:List α}{i:Nat}{d:α}(h:i < l.length):l.take (i + 1)=l.take i ++ [l.getD i d]:=by
 rw[zO,af h,ai,af h]
 rfl
section
variable {X:Cx}{c P:Addr}{params:Arguments}{body e:Expr}{scope:Scope}{p pos Iu QE:Pos}{ta tb:TE}{N:List Str}{y:Str}
theorem uK (hg:Gl X "sorted")(hm:X.mg "sorted"=none)(B:BMain X.mg X.base)(Ed:X.env.code= .ref c)(C:CodeHd X.base c P)(hr:eW 1 X.A)(S:aS N [y] scope)
  (fW: ∀(f c':Addr) (A:Around) (s:Shared) (H:Hp),PE (uI X.prog X.w X.K X.mg X.base N (X.env.qual ++ "<lambda>") scope f (.ref c') A X.stack s H E0).DF body tb) (ha:PE X e ta)
  (hb: ∀(pm Ee u:Value) (c':Addr),bindArgs (kla_fn "<lambda>" (X.env.qual ++ "<lambda>") params body scope [] pm (.ref c') Ee) ⟨[u],[]⟩=pure ([y].zip [u]):=by intros; rfl)
  (N7:defaultsOf params X.env=([],[]):=by rfl) (qC:closureFor scope X.env=pure []:=by rfl)
  (he:backTo pos (starEach [e] X.env)=(false,eval e X.env) :: backTo pos (starEach [] X.env):=by rfl)
  (hs:starEach [e] X.env=(false,eval e X.env) :: starEach [] X.env:=by rfl) (Cu:(backTo pos (starEach [e] X.env)).any (·.1)=false:=by rfl):
  PE X (.Call (.Name "sorted" p) [e] [⟨some "key",.Lambda params body scope Iu,QE⟩] pos) (Ir X.K P Iu (X.env.qual ++ "<lambda>") N ta tb):=by
 intro pins s σ H Q I h
 refine eF (o8 I hg hm (u:= .builtin "sorted") (by rfl) ?_)
 refine PyProof.Rows.callWith_kw (dY ((aa ha ak hs) pos pins s σ H (fun vs H1=>match vs with|[x]=>Mu X.K P Iu (X.env.qual ++ "<lambda>") N tb Q x H1|_=>False) I h) fun us s1 h1=>?_) he Cu rfl rfl
 obtain⟨vs,H1,I1,rv,q1⟩:=h1
 cases vs with
 |nil=>exact q1.elim
 |cons x vs=>
 cases vs with
 |cons _ _=>exact q1.elim
 |nil=>
 obtain⟨a,xs,ts,key,rfl,hS,BZ,iU,Yt,jc,Hl,hbd,fin⟩:=q1
 obtain⟨u,rfl,ru⟩:=vals1 rv
 obtain rfl:u=Value.ref a:=ru
 show wpAny _ _ (evalAll [(do let v ← eval (.Lambda params body scope Iu) X.env; standAt pos; pure v)]) _ _ s1
 refine wpAny_evalAll_cons (aA (Io I1 B Ed C Yt N7 qC fun f c' Ee H2 s2 I2 Yu tb2 Kj N5 T2 hle=>aA (ir (bG (wpAny_evalAll_nil ?_)))))
 show wpAny _ _ (call (.builtin "sorted") [.ref a] [(Str.ofString "key",.ref f)]) _ _ s2
 have aP: ∀o,H1 a=some o->a∉[P]:=fun o z w=>by
  obtain⟨ps,hP,_⟩:=Yt
  have w':=ao.mp w
  rcases hS with(hS|⟨_,hS⟩)|⟨ob,_,_,hK,qC,_⟩
  ·rw[w',hP] at hS; cases hS
  ·rw[w',hP] at hS; cases hS
  ·have e1:=I1.gN _ _ hK
   have e2:s1.heap.get? P=some _:=I1.cB P _ hP
   rw[w',e2] at e1
   cases e1
   cases qC
 have N8:=Yu.sql hS aP
 obtain⟨cm,V8,pl,hz⟩:=I2.list N8
 have hl:=V8.length
 have lf:f < s2.heap.objs.size:=aK N5
 have VZ:s1.heap.objs.size<=s2.heap.objs.size:=a0 hle (dk lf)
 refine sortedK pl.isList (by lia) fun D kS e1 h' kp d1 k1 Yv PU T4=>?_
 have I3:=I2.kept (t':=s2.toks) kp
 have HD:H2 D=none:=I2.cB.fresh PU
 have HK:H2 kS=none:=I2.cB.fresh T4
 have Mv:=I2.jT PU
 have N9:=I2.jT T4
 have nwf:=I1.jT hle
 have fD:f≠D:=aX (bf lf PU)
 have fK:f≠kS:=aX (bf lf T4)
 have dp:X.A.in1.in1.depth < recursionLimit:=hr.depth
 generalize RF:kla_obj "<lambda>" (X.env.qual ++ "<lambda>") params body scope [] ((X.mg "__name__").getD .none) c' Ee=PV at N5
 have loop: ∀(r:List Value) (i:Nat) (ks:List Value) (bc:List V) (Hi:Hp) (si:Shared),r=cm.drop i->i<=xs.length->Inv X (pins ++ [(f,PV),(D,seqObj "list" #[] e1)]) σ Hi si->(∃e,si.heap.get? kS=some (seqObj "list" ks.toArray e))->Hi kS=none->
   Frame [P] H1 Hi->Tb Hi P Iu (X.env.qual ++ "<lambda>")->Hi c'=some (xy c' (X.env.qual ++ "<lambda>"))->hX Hi (ts.take i) bc->Vals bc ks->
   sD X.prog X.w X.A.in1.in1 kS (.ref f) (FK X.prog X.w X.A.in1.in1 D kS e1 cm (fun s'=>EP X pins σ Q (.ref D) s')) r ks si:=by
  intro r
  induction r with
  |nil=>
   intro i ks bc Hi si hr hi Ii hk K7 T5 V9 T6 hT rk
   have ei:i=xs.length:=by
    have:=c8 List.length hr
    rw[vD,mm] at this
    lia
   have Oa:hX Hi ts bc:=by rwa [ei,← iU,bb] at hT
   have lk:bc.length=xs.length:=by have:=Oa.length; lia
   have lk2:=rk.length
   obtain⟨w1,w2,_⟩:=Ii.pin (D,seqObj "list" #[] e1) (List.mem_append_right _ (List.mem_append_right _ (by simp)))
   refine⟨tuples' true,fun i=>key (ts.getD i []),Yv,w1,fun h2 Q' q'=>?_,fun a b C ha hb q'=>?_,fun pr h5 n RG hUp hsz hD5 Mw=>?_⟩
   ·obtain⟨fs,f1,f2,f3⟩:=rH Ii (fun _ _ z=>z) Oa rk jc
    refine kat_kind (T:= .type "int") f1 (by lia) (fun v hv=>?_) rfl q'
    obtain⟨n,t,rfl⟩:=f3 v hv
    exact Looks.of_pure rfl
   ·obtain⟨p1,g1,g2⟩:=Oa.get (i:=a) (by lia)
    obtain⟨p2,g3,g4⟩:=Oa.get (i:=b) (by lia)
    have v1:=jE rk a
    have v2:=jE rk b
    rw[g1] at v1
    rw[g3] at v2
    have v1':ks.getD a Value.none= .ref p1:=v1
    have v2':ks.getD b Value.none= .ref p2:=v2
    rw[v1',v2']
    obtain⟨o1,VE,n1,FF,hc1,lU,Q9⟩:=Ii.tupI g2
    obtain⟨o2,Fq,n2,PH,KO,hd2,Ra⟩:=Ii.tupI g4
    refine kat_lt FF lU PH hd2 ?_
    have l1:=Q9.length
    have l2:=Ra.length
    have m1:ts.getD a []∈ts:=by rw[ai,af (show a < ts.length by lia)]; exact bJ _
    have m2:ts.getD b []∈ts:=by rw[ai,af (show b < ts.length by lia)]; exact bJ _
    have kx:=mN (prog:=X.prog) (w:=X.w) (A:=X.A.in1.in1) (b:=true) (Q:=C) (s:=si) 0 Q9 Ra (by rw[Hl _ m1 _ m2]; exact q')
    rw[br,br,l1,l2]
    exact kx
   ·have In:=Ii.i9
    have bt:mS (Cg X.stack) [D,kS] si.heap h5:=fun b o z nb=>by
     have n1:b≠D:=fun w=>nb (by simp[w])
     have n2:b≠kS:=fun w=>nb (by simp[w])
     have e:=(Mw b n1 n2).trans z
     exact⟨fun _=>e,o.slots,e⟩
    have I5:=In.but bt (fun cc hc=>by
     rcases aw.mp hc with rfl|hc
     ·exact⟨w2,Mv⟩
     ·rw[ao.mp hc]
      exact⟨K7,N9⟩)
    have mO:=RG.size
    have I6:=I5.RE (D:=D) (o:= .lst (pr.toList.map fun i=>xs.getD i .en)) w2 ⟨by rw[ae,oo,mO]; exact a0 (iK hl.symm) hz,_,n,rG V8 pr.toList,hD5⟩ Mv (a0 I2.sz PU)
    refine⟨.ref D,_,I6,rfl,fin D pr.toList _ ?_ ?_ (T5.new w2) (V9.upd w2) (I1.cB.fresh (a0 VZ PU)) ag⟩
    ·have:=RG.list
     rwa [← hl] at this
    ·exact sq mO hUp
  |cons v r ih=>
   intro i ks bc Hi si hr hi Ii hk K7 T5 V9 T6 hT rk
   have yo:i < xs.length:=by
    have:=c8 List.length hr
    rw[cf,mm] at this
    lia
   have hv:v=cm.getD i Value.none/\r=cm.drop (i + 1):=by
    rw[M3 (by lia)] at hr
    injection hr with h1 h2
    refine⟨?_,h2⟩
    rw[h1,ai,af (by lia)]
    rfl
   obtain⟨hv,Wa⟩:=hv
   obtain⟨ek,hk⟩:=hk
   have Ip:Inv X (pins ++ [(f,PV),(D,seqObj "list" #[] e1)] ++ [(kS,seqObj "list" ks.toArray ek)]) σ Hi si:=Ii.tG fun p hp=>by
    rcases bg.mp hp with hp|hp
    ·exact Ii.pin p (bA _ hp)
    ·rw[ao.mp hp]
     exact⟨hk,K7,N9.2.1,I2.Fb T4,fun v z=>by cases z⟩
   have Wb:si.heap.get? f=some PV:=(Ip.pin (f,PV) (List.mem_append_right _ (List.mem_append_left _ (List.mem_append_right _ (by simp))))).1
   have ra:si.heap.CodeRec (.ref c') (X.env.qual ++ "<lambda>"):=(Ip.cB c' _ T6).1
   have Yw:=jE V8 i
   rw[← hv] at Yw
   show wpAny _ _ (call (.ref f) [v]) _ _ si
   refine cw (Iq (us:=[v]) (vs:=[xs.getD i .en]) (R:=fun y H'=> ∃p,y= .ref p/\Hi p=none/\H'=upd Hi p (.tup ((ts.getD i []).map V.int))) (xe:=fun _ _=>False) Ip Ip.Hq.in1.in1 dp (by rw[Wb,← RF]) ra S (hb _ _ _ _) rfl (.cons Yw .nil) (fW _ _ _ _ _)
    (hbd i yo Hi T5 _ fun p hp=>⟨p,rfl,hp,rfl⟩)) (fun u s5 h5=>?_) fun _ _ z=>z
   obtain⟨y,H5,I5,ry,pp,rfl,JV,rfl⟩:=h5
   obtain rfl:u=Value.ref pp:=ry
   obtain⟨z1,z2,_⟩:=I5.pin (kS,seqObj "list" ks.toArray ek) (List.mem_append_right _ (List.mem_append_right _ (by simp)))
   refine⟨ek,z1,fun h6 cc sb hk6=>?_⟩
   have I6:Inv X (pins ++ [(f,PV),(D,seqObj "list" #[] e1)]) σ _ _:=Inv.i9 I5
   have I7:=I6.turned (t':=s5.toks) (it:=kS) (h':=h6) (fun b o n z=>(sb.2 b n).trans z) z2 N9.2.1 N9.1 N9.2.2.1 (fun p hp=>by
    rcases bg.mp hp with hp|hp
    ·exact N9.2.2.2 p (cY _ hp)
    ·rcases bg.mp hp with hp|hp
     ·exact N9.2.2.2 p (bA _ hp)
     ·rcases aw.mp hp with rfl|hp
      ·exact fK
      ·rw[ao.mp hp]
       exact Yv)
   have cpp:c'≠pp:=aL T6 JV
   refine ih (i + 1) (ks ++ [.ref pp]) (bc ++ [.ref pp]) _ _ Wa yo I7 ⟨cc,hk6⟩ z2 (T5.new JV) (V9.upd JV) (by rw[az cpp]; exact T6) ?_ (rk.append (show Vals [V.ref pp] [Value.ref pp] from .cons rfl .nil))
   rw[take_succ_getD (d:=[]) (by lia)]
   exact hX.snoc (hT.mono fun b xs z=>by rw[az (aL z JV)]; exact z) ag
 have Ip:Inv X (pins ++ [(f,PV),(D,seqObj "list" #[] e1)]) σ H2 {s2 with heap:=h'}:=I3.tG fun p hp=>by
  rcases bg.mp hp with hp|hp
  ·exact I3.pin p (bA _ hp)
  ·rcases aw.mp hp with rfl|hp
   ·exact⟨kp _ _ N5,Kj,nwf.2.1,I1.Fb hle,fun v z=>by rw[← RF] at z; cases z⟩
   ·rw[ao.mp hp]
    exact⟨d1,HD,Mv.2.1,I2.Fb PU,fun v z=>by cases z⟩
 exact loop cm 0 [] [] H2 _ rfl (bB _) Ip ⟨0,k1⟩ HK Yu tb2 T2 .nil .nil
end
theorem FV {P:Program}{w:World}{K:PySem.W.Frag}{mg mb:Str->Option Value}{CX:Fn}{k:Nat}{fa a:Addr}{fd:FuncData}{x:Str}{sp:Sp}{s₁:Shared}{vs:List Value}{ns:List Int}{cps:List (Addr×Addr)}
  (KX:K.In s₁.heap) (Yx:s₁.heap.Ns mainGlobals mg) (hb:s₁.heap.Ns builtinsNs mb) (hbb: ∀x:Str,x≠"__name__"->mb x=bootBuiltins x) (Wc:s₁.heap.NoLimit) (hg:s₁.gens= #[])
  (ha:s₁.heap.get? a=some {cls:= .type "list",data:= .seq vs.toArray}) (hi:IntsAre vs ns) (hl:ns.length<=sizeLine) (hr:eW k callerA)
  (bm:BMain mg s₁.heap) (PR: ∀cp∈cps,s₁.heap.get? cp.2=some (tabObj #[])) (RH: ∀cp∈cps,codeHdIn K cp.1 cp.2=true/\K.lookup cp.2=none)
  (F: ∀base:Heap,K.In base->base.Ns mainGlobals mg->BMain mg base->lN P w K mg base CX k fa fd [x] sp) (RI: ∀(s:Shared) (u:Value),BindsTo s fd ⟨[u],[]⟩ [(x,u)])
  (yc: ∀H:Hp,(∀cp∈cps,H cp.2=some (.mz #[]))->bL K H a (ns.map V.int)->sp [.ref a] H (fun v _=>v= .bl true) fun _ _ _=>False)
  (hCX: ∀H e s',CX [] H s₁ (fun _ _ _=>False) e s'->False):
  codeAny (model P w) callerA (.call (.ref fa) ⟨[.ref a],[]⟩) (fun r s'=>r= .ok (.ret (.bool true))/\OldK s₁.heap s'.heap/\s'.os=s₁.os/\AllBare s'.gens) s₁:=by
 have rv:=xm hi
 have RJ:=hi.length
 have aT: ∀cp∈cps,cp.2≠a:=fun cp hc z=>by
  have e:=PR cp hc
  rw[z,ha] at e
  cases e
 have core: ∀H:Hp,(∀b,H b=none∨(b=a/\H b=some (.BX {cls:= .type "list",data:= .seq vs.toArray} (.lst (ns.map V.int)))/\K.lookup a=none)∨ ∃cp∈cps,b=cp.2/\H b=some (.mz #[]))->(∀cp∈cps,H cp.2=some (.mz #[]))->bL K H a (ns.map V.int)->
   codeAny (model P w) callerA (.call (.ref fa) ⟨[.ref a],[]⟩) (fun r s'=>r= .ok (.ret (.bool true))/\OldK s₁.heap s'.heap/\s'.os=s₁.os/\AllBare s'.gens) s₁:=by
  intro H hO hT hS
  have cB:oq P w H s₁.heap:=fun b u z=>by
   rcases hO b with w|⟨rfl,w,_⟩|⟨cp,hc,rfl,w⟩
   ·rw[z] at w; cases w
   ·rw[z] at w
    cases w
    exact⟨ha,by rw[ae]; exact hl,vs,_,rv,ha⟩
   ·rw[z] at w
    cases w
    exact PR cp hc
  have yz: ∀{b:Addr} {o:Obj},s₁.heap.get? b=some o->H b=none->(vH s₁.heap H).get? b=some o:=fun e n=>Hc e n
  have Yy: ∀{b:Addr} {o:Obj},s₁.heap.get? b=some o->((∃es ep,o.data= .dict es ep)∨o.data= .plain)->H b=none:=fun{b o} e d=>by
   rcases hO b with w|⟨rfl,w,_⟩|⟨cp,hc,rfl,w⟩
   ·exact w
   ·rw[ha] at e
    cases e
    rcases d with⟨es,ep,d⟩|d <;> cases d
   ·rw[PR cp hc] at e
    cases e
    rcases d with⟨es,ep,d⟩|d <;> cases d
  have T7: ∀{b:Addr} {m:Str->Option Value},s₁.heap.Ns b m->(vH s₁.heap H).Ns b m:=fun{b m} ⟨o,es,ep,e,d,r⟩=>⟨o,es,ep,yz e (Yy e (.inl ⟨es,ep,d⟩)),d,r⟩
  have Yz:K.In (vH s₁.heap H):=fun b o e=>yz (KX b o e) (by
   rcases hO b with w|⟨rfl,w,hk⟩|⟨cp,hc,rfl,w⟩
   ·exact w
   ·rw[hk] at e; cases e
   ·rw[(RH cp hc).2] at e; cases e)
  have hBb:BMain mg (vH s₁.heap H):=by
   obtain⟨b,o,b1,b2,b3,b4,b5,b6,b7⟩:=bm
   exact⟨b,o,b1,b2,b3,yz b4 (Yy b4 (.inr b7)),b5,b6,b7⟩
  have hM:Mod K mg (vH s₁.heap H):=⟨Yz,T7 Yx,⟨mb,T7 hb,hbb⟩,let⟨mc,h1,h2⟩:=Wc; ⟨mc,T7 h1,h2⟩⟩
  have e0:qk P w K mg (vH s₁.heap H) callerA [] s₁ H:=⟨rfl,hM,fun b o e=>Kf e,Nat.le_of_eq (E9 _ _),trivial,fun b hb=>absurd (show b∈([]:List Addr) from hb) (by simp),cB,.of_eq hg⟩
  refine Cd ((F _ Yz (T7 Yx) hBb).run callerA [] s₁ H ⟨[.ref a],[]⟩ [.ref a] [.ref a] _ _ hr e0 (RI s₁ (.ref a)) (.cons rfl .nil) (yc H hT hS)) fun r s' h=>?_
  cases r with
  |error e=>exact(hCX H e s' h).elim
  |ok fl=>
   cases fl with
   |next=>exact False.elim h
   |brk=>exact False.elim h
   |cont=>exact False.elim h
   |ret u=>
    obtain⟨v,H',os,bare,un,RK,r',q⟩:=h
    have q':v= .bl true:=q
    subst q'
    obtain rfl:u=Value.bool true:=r'
    have old: ∀b o,s₁.heap.get? b=some o->asItWas s₁.heap s'.heap b o:=fun b o e=>by
     rcases hO b with z|⟨rfl,z,_⟩|⟨cp,hc,rfl,z⟩
     ·exact .inl (un.keep b o e z (by intro w; exact absurd (show b∈([]:List Addr) from w) (by simp)) (by simp))
     ·have z2:=un.o6 b _ _ z
      obtain⟨e2,_⟩:=RK b _ z2
      rw[ha] at e
      cases e
      exact .inl e2
     ·obtain⟨more,z2⟩:=un.o7 _ _ z
      have e2:s'.heap.get? cp.2=some (tabObj (#[] ++ more)):=RK _ _ z2
      have e1:=PR cp hc
      rw[e1] at e
      cases e
      obtain⟨oc,ws,_,_,_,_,_,_,_,c1,c2,c3,c4,_⟩:=codeHd_of_K KX (RH cp hc).1
      exact .inr (.inl ⟨⟨cp.1,oc,ws,c1,c2,c3,c4⟩,rfl,#[],more,rfl,e2⟩)
    refine⟨rfl,⟨old,fun b o e=>?_⟩,os,bare⟩
    exact un.there b o e (by simp)
 cases hk:K.lookup a with
 |some o=>
  have e:=KX a o hk
  rw[ha] at e
  cases e
  refine core (fun b=>if b∈cps.map (·.2) then some (.mz #[]) else none) (fun b=>?_) (fun cp hc=>if_pos (List.mem_map.mpr ⟨cp,hc,rfl⟩)) (.inr ⟨_,vs.toArray,_,hk,rfl,rfl,rfl,by rw[List.size_toArray,RJ]; exact hl,by simpa using rv⟩)
  by_cases hb:b∈cps.map (·.2)
  ·obtain⟨cp,hc,rfl⟩:=bK.mp hb
   exact .inr (.inr ⟨cp,hc,rfl,a7 hb⟩)
  ·exact .inl (aO hb)
 |none=>
  have na:a∉cps.map (·.2):=fun h=>by
   obtain⟨cp,hc,z⟩:=bK.mp h
   exact aT cp hc z
  refine core (fun b=>if b=a then some (.BX {cls:= .type "list",data:= .seq vs.toArray} (.lst (ns.map V.int))) else if b∈cps.map (·.2) then some (.mz #[]) else none) (fun b=>?_) (fun cp hc=>?_) (.inl (.inr ⟨{cls:= .type "list",data:= .seq vs.toArray},a7 rfl⟩))
  ·by_cases h1:b=a
   ·exact .inr (.inl ⟨h1,by rw[a7 h1],hk⟩)
   ·by_cases hb:b∈cps.map (·.2)
    ·obtain⟨cp,hc,rfl⟩:=bK.mp hb
     exact .inr (.inr ⟨cp,hc,rfl,by rw[aO h1,a7 hb]⟩)
    ·exact .inl (by rw[aO h1,aO hb])
  ·show(if cp.2=a then _ else if cp.2∈cps.map (·.2) then _ else _)=_
   rw[aO (aT cp hc),a7 (bK.mpr ⟨cp,hc,rfl⟩)]
theorem Iv {l:PySem.W.OpenLaw}{n k:Nat}{q:Program}{loose:List Str}{XP:(Str->Option Value)->Heap->Prop}{YP:World->Heap->Prop}{d:DefRec}{K:Params->PySem.W.Frag}{ts:List Addr}{sp:PySem.W.Frag->List (Addr×Addr)->Sp}{x:Str}
  (hn:l.most=some n) (TH:n<=sizeLine) (Vr:d.params.defaults=[]) (hr:eW k callerA)
  (hY: ∀(w:World) (h:Heap),YP w h->(K w.params).In h/\ ∀P∈ts,h.get? P=some (tabObj #[]))
  (F: ∀(w:World) (mg:Str->Option Value) (fa:Addr) (h:Heap),(K w.params).In h->h.Ns mainGlobals mg->mg d.name=some (.ref fa)->
   ∃(fd:FuncData) (cps:List (Addr×Addr)),(∀cp∈cps,cp.2∈ts)/\(∀cp∈cps,codeHdIn (K w.params) cp.1 cp.2=true/\(K w.params).lookup cp.2=none)/\(∀(s:Shared) (u:Value),BindsTo s fd ⟨[u],[]⟩ [(x,u)])/\
    ∀base:Heap,(K w.params).In base->base.Ns mainGlobals mg->BMain mg base->lN l.prog w (K w.params) mg base rE k fa fd [x] (sp (K w.params) cps))
  (yc: ∀(K:PySem.W.Frag) (cps:List (Addr×Addr)) (H:Hp) (a:Addr) (ns:List Int),ns.length<=n->(∀cp∈cps,H cp.2=some (.mz #[]))->bL K H a (ns.map V.int)->sp K cps [.ref a] H (fun v _=>v= .bl true) fun _ _ _=>False):
  PySem.W.WalkO q loose XP YP l.row.toRowW d [] (fun f vs=>PySem.call f vs):=by
 refine X8.Ao hn Vr fun w s₀ s₁ mg mb fa o pm cd doc a vs ns G Y ho hd ra QT ND hints hlen hg=>?_
 obtain⟨KX,hT⟩:=hY w _ Y
 obtain⟨fd,cps,h1,h2,hb,hF⟩:=F w mg fa _ KX G.T.g QT
 obtain⟨bm,ob,b1,b2,b3,b4,b5,b6⟩:=G.T.bmain
 have b7:bm≠mainGlobals:=fun z=>by
  obtain⟨o',es,ep,e,Fc,_⟩:=G.T.g
  rw[z,e] at b3
  cases b3
  rw[Fc] at b6
  cases b6
 exact FV KX G.T.g G.T.b G.T.builtins G.T.nolimit hg ND hints (a0 hlen TH) hr ⟨bm,ob,b1,b2,b7,b3,b4,b5,b6⟩ (fun cp hc=>hT _ (h1 cp hc)) h2 hF hb (fun H hO hS=>yc _ cps H a ns hlen hO hS) fun H e s' z=>z
section
variable {X:Cx}{x:Str}{k n:Nat}{ps:List Str}{sp:Sp}{e:Expr}{es:List Expr}{t:TA}{p pos:Pos}
theorem fc (C:fe X.prog X.w X.K X.mg X.base x k ps sp)(hr:eW n X.A)(ha:PA X (e :: es) t)(hle:k<=n:=by decide)(hg:Gl X x:=by rfl)(ql:(x == ("__debug__":Str))=false:=by decide)
  (he:starEach (e :: es) X.env=(false,eval e X.env) :: starEach es X.env:=by rfl) (iw:(backTo pos (starEach es X.env)).any (·.1)=false:=by rfl):PE X (.Call (.Name x p) (e :: es) [] pos) (ua sp [] E0 t):=Q0 C (hr.mono hle) hg ha ql he iw
theorem sv (i:Nat){te:TE}{pos':Pos}(hN:X.N.Nodup)(he:PE X e te)(hi:X.N[i]? =some x:=by rfl)(hx:Loc X.env.scope x:=by first|exact Or.inl rfl|exact Or.inr rfl)(hs:swapsWith e (some (.Name x pos')) pos.line X.env=pure false:=by rfl)(hf:X.fn x=true∨X.env.scope.names.lookup x=some .local:=by first|exact .inl rfl|exact .inr rfl|assumption):
  PS X (.Assign [.Name x pos'] e pos) (Km te (Ac i)):=Nf hN hi hx he hs hf
theorem gn (i:Nat)(hN:X.N.Nodup)(hi:X.N[i]? =some x:=by rfl)(hx:Loc X.env.scope x:=by first|exact Or.inl rfl|exact Or.inr rfl)(hf:X.fn x=true∨X.env.scope.names.lookup x=some .local:=by first|exact .inl rfl|exact .inr rfl|assumption):PG X (.Name x pos) (Ac i):=eG hN hi hx hf
theorem xl {a b:Expr}{ta tb:TE}(ha:PE X a ta)(hb:PE X b tb)(hs:yf b:=by exact fun _ _=>rfl):PE X (.Subscript a b pos) (Pz (Np X.K) ta tb):=js yg ha hb hs
theorem xt {a b:Expr}{ta tb:TE}(ha:PE X a ta)(hb:PE X b tb)(hs:yf b:=by exact fun _ _=>rfl):PE X (.Subscript a b pos) (Pz (Nq X.K) ta tb):=js Cr ha hb hs
end
theorem Df.fM {P:Program}{w:World}{K:PySem.W.Frag}{mg:Str->Option Value}{base:Heap}{x:Str}{st:Stmt}{N ps:List Str}{k:Nat}{sp:Sp}(D:Df K mg x st)(S:aS N ps (ay st))
  (fW: ∀(f:Addr) (cX:Value) (A:Around) (outer:List Env) (s:Shared) (H:Hp) (vs:List V) (Q:VK) (E:XK),eW k (A.deeper (envOfC x (ay st) s.heap.objs.size f cX))->sp vs H Q E->
   ∃t,oG (k7 rE P w K mg base N x (ay st) f cX A outer s H E).DF (dD st) t/\t {nx:=fun _ H'=>Q .en H',rt:=Q} (start N vs) H)
  (hb: ∀(kV doc pm:Value) (an:Option Addr) (cX ct:Value) (us:List Value),us.length=ps.length->bindArgs (PySem.W.fnOf x x (gH st) (dD st) (ay st) .none kV doc pm an cX ct) ⟨us,[]⟩=pure (ps.zip us):=by intro _ _ _ _ _ _ us hl; rcases us with _|⟨_,_|⟨_,_|⟨_,_|⟨_,_|⟨_,_|⟨_,_|⟨_,_⟩⟩⟩⟩⟩⟩⟩ <;> first|(cases hl; done)|rfl)
  (len: ∀vs H Q E,sp vs H Q E->vs.length=ps.length:=by intro _ _ _ _ h; repeat (first|(obtain⟨rfl,_⟩:=h; rfl; done)|obtain⟨_,h⟩:=h)):fe P w K mg base x (k + 1) ps sp:=D.Z8 S hb len fW
end L2
namespace eN
open PySem L2 PyProof.Rows JR
seal L2.oG L2.PS L2.PE L2.PT L2.PW L2.PA L2.PC L2.PG L2.JL L2.PI L2.Kz L2.JN L2.PO L2.ou L2.Mi L2.iu L2.Hv L2.Nn
def top (i:Nat):Stmt:=PySem.Challenge.pw_spikebook_k06_whole_never_twice.main.body.getD i (.Pass ⟨0,0,0,0⟩)
structure Txt (K:PySem.W.Frag)(mg:Str->Option Value):Prop where
 CM:Df K mg "place_of" (top 1)
 Ob:Df K mg "fits" (top 15)
 vT:Df K mg "counts_from" (top 16)
 FW:Df K mg "bills_in_order" (top 17)
 CO:Df K mg "credits_in_order" (top 18)
 K8:Df K mg "alike" (top 20)
 vU:Df K mg "first_alike" (top 21)
 yA:Df K mg "shared_out" (top 22)
 CP:Df K mg "parts_of" (top 23)
 uL:Df K mg "check_amount" (top 26)
 vV:Df K mg "row_of_fits" (top 27)
 Oc:Df K mg "done" (top 30)
 yB:Df K mg "done_again" (top 31)
 CQ:Df K mg "settings" (top 33)
 yC:Df K mg "answers_in" (top 34)
 AD:Df K mg "answer_of" (top 35)
 FX:Df K mg "owed_at" (top 36)
 FY:Df K mg "free_at" (top 37)
 uM:Df K mg "remaining_at" (top 38)
 vW:Df K mg "counting_at" (top 39)
 AE:Df K mg "counts_at" (top 40)
 FZ:Df K mg "ages_at" (top 41)
 AF:Df K mg "_law_room" (top 43)
 AG:Df K mg "_law_draw" (top 44)
 yD:Df K mg "_law_whole" (top 45)
 yE:Df K mg "_law_alike" (top 46)
 vX:Df K mg "_law_people" (top 47)
 vY:Df K mg "_law_penned" (top 48)
 vZ:Df K mg "_law_chosen" (top 49)
 yF:Df K mg "_law_hasty" (top 50)
 v7:Df K mg "_law_due_in" (top 51)
 yG:Df K mg "_law_deeds" (top 52)
 yH:Df K mg "_law_begun" (top 53)
 AH:Df K mg "_law_goes" (top 54)
 CS:Df K mg "_law_put" (top 55)
 uN:Df K mg "_law_in_turn" (top 56)
 yI:Df K mg "_law_swept" (top 57)
 wa:Df K mg "_law_barred" (top 58)
 yJ:Df K mg "_law_enter" (top 59)
 wb:Df K mg "_law_worked" (top 60)
 yK:Df K mg "_law_tells" (top 61)
 AI:Df K mg "_law_done" (top 62)
 oy:Df K mg "_law_gone_through" (top 63)
 YA:Df K mg "law" (top 64)
 eT:mg "len"=none
 dF:mg "isinstance"=none
 xA:mg "int"=none
 Od:mg "bool"=none
 Ef:mg "str"=none
 rN:mg "list"=none
 tL:mg "tuple"=none
 nS:mg "range"=none
 AJ:mg "min"=none
 RL:mg "max"=none
 Iw:mg "sum"=none
 uO:mg "sorted"=none
 jf:mg "enumerate"=none
 Oe:mg "dict"=none
 AK:mg "Exception"=none
end eN
namespace L2
open PySem PySem.Spec PySem.W PyProof.Rows JR
structure Wd (P:Program)(w:World)(K:PySem.W.Frag)(mg:Str->Option Value)(base:Heap)(k:Nat)(fa:Addr)(sp:Sp):Prop where
 ex: ∃(fd:FuncData) (ps:List Str),lN P w K mg base rE k fa fd ps sp/\PySem.W.keepIn K (.ref fa)=true/\Binds K fd ps []
theorem fe.YB {P:Program}{w:World}{K:PySem.W.Frag}{mg:Str->Option Value}{base:Heap}{x:Str}{k:Nat}{ps:List Str}{sp:Sp}(C:fe P w K mg base x k ps sp): ∃fa,mg x=some (.ref fa)/\Wd P w K mg base k fa sp:=by
 obtain⟨f,fd,F,hm,hk,hb⟩:=C.ex
 exact⟨f,hm,⟨fd,ps,F,hk,hb⟩⟩
section
variable {X:Cx}{x:Str}{i k:Nat}{e:Expr}{es:List Expr}{t:TA}{p pos:Pos}
def Of (P:Program)(w:World)(K:PySem.W.Frag)(mg:Str->Option Value)(base:Heap)(k i:Nat)(t:TA):TE:=fun σ H Q=> ∃fa sp,σ[i]? =some (some (.ref fa))/\Wd P w K mg base k fa sp/\t σ H fun vs H1=>sp vs H1 Q E0
theorem Og (hr:eW k X.A)(hN:X.N[i]? =some x)(hv:Qi X.env.scope x)(ha:PA X (e :: es) t)(hd:(x == ("__debug__":Str))=false:=by decide)(ra:(x == ("__classdict__":Str))=false:=by decide)
  (he:starEach (e :: es) X.env=(false,eval e X.env) :: starEach es X.env:=by rfl) (iw:(backTo pos (starEach es X.env)).any (·.1)=false:=by rfl):PE X (.Call (.Name x p) (e :: es) [] pos) (Of X.prog X.w X.K X.mg X.base k i t):=by
 rintro pins s σ H Q I ⟨fa,sp,e1,⟨fd,ps,F,hk,hb⟩,h⟩
 refine eF (dY (Ci hN hv hd ra pins s σ H (fun v H'=>v= .ref fa/\H'=H) I ⟨_,e1,rfl,rfl⟩) ?_)
 rintro u s1 ⟨v,H1,I1,rv,rfl,rfl⟩
 obtain rfl:u=Value.ref fa:=rv
 refine kh (h₀:=X.base) I.ok.mod.Kg hk (dY (ha pos pins s1 σ H1 _ I1 h) fun us s2 ⟨vs,H2,I2,r,q⟩=>⟨I2.gN,?_⟩) he iw
 exact yb F hr hb .nil mL I2 r (by rw[cu]; exact q)
end
theorem AL {X:Cx}:iu X (.type "dict") (fun xs H Q=> ∃a bc,xs=[.ref a]/\H a=some (.dK bc)/\ ∀p,H p=none->Q (.ref p) (upd H p (.dK bc))):=by
 intro pins s σ H xs us Q I r h
 obtain⟨a,bc,rfl,e,q⟩:=h
 obtain⟨u,rfl,ru⟩:=vals1 r
 cases ru
 exact HG I (.inl e) fun p s' hp I'=>⟨.ref p,_,I',rfl,q p hp⟩
def Eg (P:Program)(w:World)(d:Addr)(bc:List (Key×V))(φ:Heap->Prop):Prop:=(∀(H:Hp) (h:Heap),φ h->dC P w H h d (.dK bc))/\ ∀q:Str,φ≠fun h=>h.CodeRec (.ref d) q
def RM (P:Program)(w:World)(td:TE)(g:TG)(tb:TS):TS:=fun D σ H=>td σ H fun v H1=> ∃d bc,v= .ref d/\H1 d=some (.dK bc)/\ ∀φ,Eg P w d bc φ->
 ∃W:Nat->Nat->St->Hp->Prop,(∃m,W 0 m σ (upd H1 d (.ext φ)))/\ ∀i m σ' H',W i m σ' H'->H' d=some (.ext φ)/\((bc.length<=i/\D.nx σ' (upd H' d (.dK bc)))∨
  ∃x,(bc.map (·.2))[i]? =some x/\ ∃N:St->Hp->Prop,(∀KH GY,N KH GY-> ∃m',m' < m/\W (i + 1) m' KH GY)/\g x σ' H' fun σ2 H2=>tb {D with nx:=N,ct:=N,bk:=fun _ _=>False} σ2 H2)
theorem K9 {X:Cx}{tg o:Expr}{apos gP pos:Pos}{body:List Stmt}{td:TE}{g:TG}{tb:TS}(hp:PassesOwn (model X.prog X.w) X.A X.env X.xe)(hc:X.calm=true)(ho:PE X o td)(hg:PG X tg g)(hb:oG X body tb)
  (uc:attributeBase o "values" X.env (eval o X.env)=eval o X.env:=by rfl) (Aj:(apos.endLine == gP.line)=true:=by rfl)
  (hs: ∀x,foldedSetIterable (.Call (.Attribute o "values" apos) [] [] gP) X.env x=pure x:=by intro _; rfl):PS X (.For tg (.Call (.Attribute o "values" apos) [] [] gP) body [] pos) (RM X.prog X.w td g tb):=by
 intro pins s σ H D I h
 refine wpAny_For (wpAny_Call_method0_late uc Aj (dY (ho pins s σ H _ I h) ?_)) hs
 rintro u s1 ⟨v,H1,I1,rv,d,bc,rfl,ed,h⟩
 obtain rfl:u=Value.ref d:=rv
 obtain⟨hz,hd,vs,rel,dd⟩:=DR I1.cB ed
 refine⟨"dict","dict.values",PySem.F.plainAttrs_dict,Pr,PySem.F.type_dict_values,dd.typeIs,dd.mapOf.noDict,iQ rfl (PySem.evalArgs_none ?_)⟩
 refine call_meetsIn Pr dd.typeIs PySem.F.entry_dict_values (PySem.F.args_dict_values_1 _) (meets_dict_values (dU X.prog X.w) d hd) ⟨⟨vs,dd⟩,?_⟩
 have I2:=I1.kept (t':=s1.toks) (h':=s1.heap.push {cls:= .type "dict_values",data:= .fields #[.ref d]}) (fun b ob e=>ax _ e)
 obtain⟨ep,da⟩:=dd.dictAt
 obtain⟨od,es,N6,r⟩:=id da
 have We: ∀h:Heap,h.get? d=some od->h.DictAt (dU X.prog X.w) d vs ep:=fun h e=>⟨od,es,e,r⟩
 have YC:Eg X.prog X.w d bc (fun h=>h.get? d=some od):=⟨fun H h e=>⟨hz,hd,vs,rel,⟨od,es,ep,e,r⟩⟩,fun q z=>by
  have z1:(s1.heap.get? d=some od)=s1.heap.CodeRec (.ref d) q:=congrFun z s1.heap
  obtain⟨c,o,VY,t,e1,e2,e3,_⟩:=Eq.mp z1 N6
  cases e1
  rw[N6] at e2
  cases e2
  rw[r.2.1] at e3
  cases e3⟩
 obtain⟨W,⟨m0,w0⟩,turn⟩:=h _ YC
 generalize YD:s1.heap.push {cls:= .type "dict_values",data:= .fields #[.ref d]}=h2 at I2
 have hv2:h2.IsValuesView s1.heap.objs.size d:=by
  rw[← YD]
  exact⟨_,bN _ rfl,rfl,rfl⟩
 have RN:h2.get? d=some od:=by
  rw[← YD]
  exact ax _ N6
 refine wpAny_pyIter_values (knd:=dU X.prog X.w) hv2 (We _ RN) ?_
 have I3:=I2.kept (t':=s1.toks) (h':=h2.push {cls:= .type "dict_valueiterator",data:= .fields #[.ref d,.int 0 0,.int vs.length 0,.int ep 0]}) (fun b ob e=>ax _ e)
 have Oh:(h2.push {cls:= .type "dict_valueiterator",data:= .fields #[.ref d,.int 0 0,.int vs.length 0,.int ep 0]}).IsValIter h2.objs.size d 0 vs.length ep:=⟨_,bN _ rfl,rfl,rfl⟩
 have La:(h2.push {cls:= .type "dict_valueiterator",data:= .fields #[.ref d,.int 0 0,.int vs.length 0,.int ep 0]}).get? d=some od:=ax _ RN
 have B0:H1 h2.objs.size=none:=I2.cB.fresh (aB _)
 have jc:d≠h2.objs.size:=aL ed B0
 have Wf:=I2.Fe (aB _) B0
 generalize h2.push {cls:= .type "dict_valueiterator",data:= .fields #[.ref d,.int 0 0,.int vs.length 0,.int ep 0]}=h3 at I3 Oh La
 generalize h2.objs.size=it at Oh B0 jc Wf
 have I4:Inv X pins σ (upd H1 d (.ext fun h=>h.get? d=some od)) {s1 with heap:=h3}:=by
  refine I3.write (x:=d) (e:=d) (t':=s1.toks) (h':=h3) (by rw[ed]; exact True.intro) (.inl rfl) (fun _ _ _ q=>q) ⟨od,La⟩ ?_
  exact⟨La,⟨od,La⟩,fun h1 h2 q k=>k od q⟩
 have fit:upd H1 d (.ext fun h=>h.get? d=some od) it=none:=by
  rw[az jc.symm]
  exact B0
 have RJ:vs.length=bc.length:=(aW rel).symm
 refine codeAny_forLoop_any (fun n s'=> ∃i σ' H',Inv X pins σ' H' s'/\s'.heap.IsValIter it d i vs.length ep/\H' it=none/\W i n σ' H') ?_ m0 ⟨0,σ,_,I4,Oh,fit,w0⟩
 rintro n s5 ⟨i,σ5,H5,I5,YE,Py,w5⟩
 obtain⟨e5,tn⟩:=turn i n σ5 H5 w5
 have Wg:s5.heap.get? d=some od:=(I5.cB d _ e5).1
 have f5:tW X pins H5 it:=⟨Py,Wf.2⟩
 obtain⟨f0,f1,f2,f3,f4,f6⟩:=f5
 rcases tn with⟨hle,qn⟩|⟨x,hx,N,hN,step⟩
 ·refine dS hp (wpAny_pyNext_values_end (knd:=dU X.prog X.w) (I5.ok.hd hc) YE (We _ Wg) (by rw[qd]; lia) fun h6 eb=>?_)
  have I6:Inv X pins σ5 H5 {s5 with heap:=h6}:=I5.turned (t':=s5.toks) (fun b o hb e=>eb b o hb e) f0 f1 f3 f4 f6
  have YF:h6.get? d=some od:=eb d od jc Wg
  have I7:=I6.write (x:=d) (e:=d) (t':=s5.toks) (h':=h6) (o:= .dK bc) (by rw[e5]; exact True.intro) (.inl rfl) (fun _ _ _ q=>q) ⟨od,YF⟩ (YC.1 _ _ YF)
  exact jm ⟨σ5,_,I7,qn⟩
 ·rw[aD] at hx
  obtain⟨kv,T8,rfl⟩:=bH.mp hx
  obtain⟨ku,hku,e1,ru⟩:=bO rel T8
  obtain⟨k1,u⟩:=ku
  refine dS hp (wpAny_pyNext_values_item (knd:=dU X.prog X.w) YE (We _ Wg) hku fun h6 it6 sb=>?_)
  have I6:Inv X pins σ5 H5 {s5 with heap:=h6}:=I5.turned (t':=s5.toks) (fun b o hb e=>(sb.2 b hb).trans e) f0 f1 f3 f4 f6
  obtain⟨oi,FF,PH,Wh⟩:=id it6
  refine dS hp (DG (s:={s5 with heap:=h6}) FF PH Wh (by decide +kernel) ?_)
  have I6':Inv X (pins ++ pj [it] h6) σ5 H5 {s5 with heap:=h6}:=I6.pinned (fun b hb=>by rw[ao.mp hb]; exact⟨Py,Wf.2⟩) (fun b hb=>by
   rw[ao.mp hb]
   exact⟨oi,FF,fun v z=>by rw[Wh] at z; cases z⟩)
  refine dS hp (dY (hg _ _ σ5 H5 kv.2 u _ I6' ru step) fun _ s7 ⟨σ7,H7,I7,q7⟩=>?_)
  refine dS hp (dY (hb _ s7 σ7 H7 _ I7 q7) fun f s8 q8=>?_)
  have again: ∀{σ8:St} {H8:Hp},Inv X (pins ++ pj [it] h6) σ8 H8 s8->N σ8 H8-> ∃m,m < n/\ ∃i σ' H',Inv X pins σ' H' s8/\s8.heap.IsValIter it d i vs.length ep/\H' it=none/\W i m σ' H':=fun{σ8 H8} I8 n8=>by
   obtain⟨m',hm,w8⟩:=hN σ8 H8 n8
   have pn:=I8.pin (it,oi) (List.mem_append_right _ (List.mem_append_right _ (jM (by simp) FF)))
   exact⟨m',hm,i + 1,σ8,H8,I8.i9,⟨oi,pn.1,PH,Wh⟩,pn.2.1,w8⟩
  cases f with
  |next=>obtain⟨σ8,H8,I8,n8⟩:=q8; exact again I8 n8
  |cont=>obtain⟨σ8,H8,I8,n8⟩:=q8; exact again I8 n8
  |brk=>obtain⟨σ8,H8,I8,q8⟩:=q8; exact q8.elim
  |ret v=>obtain⟨x8,σ8,H8,I8,r8,q8⟩:=q8; exact⟨x8,σ8,H8,I8.i9,r8,q8⟩
theorem Iy {P:Program}{w:World}{td:TE}{g:TG}{tb:TS}{D:Ends}{σ:St}{H1:Hp}{d:Addr}{bc:List (Key×V)}(ed:H1 d=some (.dK bc))
  (h: ∀φ,Eg P w d bc φ-> ∃Pv:Nat->St->Hp->Prop,Pv 0 σ (upd H1 d (.ext φ))/\(∀i σ' H',Pv i σ' H'->H' d=some (.ext φ))/\(∀i x σ' H',(bc.map (·.2))[i]? =some x->Pv i σ' H'->g x σ' H' fun σ2 H2=>tb {D with nx:=Pv (i + 1),ct:=Pv (i + 1),bk:=fun _ _=>False} σ2 H2)/\
   ∀σ' H',Pv bc.length σ' H'->D.nx σ' (upd H' d (.dK bc))):
  ∃d' Iz,V.ref d= .ref d'/\H1 d'=some (.dK Iz)/\ ∀φ,Eg P w d' Iz φ->
 ∃W:Nat->Nat->St->Hp->Prop,(∃m,W 0 m σ (upd H1 d' (.ext φ)))/\ ∀i m σ' H',W i m σ' H'->H' d'=some (.ext φ)/\((Iz.length<=i/\D.nx σ' (upd H' d' (.dK Iz)))∨
  ∃x,(Iz.map (·.2))[i]? =some x/\ ∃N:St->Hp->Prop,(∀KH GY,N KH GY-> ∃m',m' < m/\W (i + 1) m' KH GY)/\g x σ' H' fun σ2 H2=>tb {D with nx:=N,ct:=N,bk:=fun _ _=>False} σ2 H2):=by
 refine⟨d,bc,rfl,ed,fun φ hφ=>?_⟩
 obtain⟨Pv,p0,pk,ps,pe⟩:=h φ hφ
 refine⟨fun i m σ' H'=>m=bc.length - i/\i<=bc.length/\Pv i σ' H',⟨bc.length,by simp,Nat.zero_le _,p0⟩,?_⟩
 rintro i m σ' H' ⟨rfl,hi,p⟩
 refine⟨pk i σ' H' p,?_⟩
 by_cases iU:i < bc.length
 ·have hg:(bc.map (·.2))[i]? =some bc[i].2:=by rw[aD,af iU]; rfl
  exact .inr ⟨_,hg,Pv (i + 1),fun KH GY p'=>⟨bc.length - (i + 1),by lia,rfl,iU,p'⟩,ps i _ σ' H' hg p⟩
 ·have e:i=bc.length:=by lia
  subst e
  exact .inl ⟨aB _,pe σ' H' p⟩
theorem mT {α:Type}(f:α->Int): ∀(l2 l1:List α),l1.Perm l2->l1.Pairwise (fun a b=>f a<=f b)->l2.Pairwise (fun a b=>f a < f b)->l1=l2
 |[],l1,p,_,_=>List.Perm.eq_nil p
 |b :: l2,[],p,_,_=>absurd p.length_eq (by simp)
 |b :: l2,a :: l1,p,h1,h2=>by
  rw[fb] at h1 h2
  have hb:b∈a :: l1:=p.mem_iff.mpr bw
  have e:a=b:=by
   rcases aw.mp (p.mem_iff.mp (bw (a:=a) (l:=l1))) with e|ha
   ·exact e
   ·rcases aw.mp hb with e|hb
    ·exact e.symm
    ·have z1:=h1.1 b hb
     have z2:=h2.1 a ha
     lia
  subst e
  rw[mT f l2 l1 (List.Perm.cons_inv p) h1.2 h2.2]
theorem Lb {x y:Int×Nat}(hx:x.2 < 1000)(hy:y.2 < 1000)(h:sY x=sY y):x.2=y.2:=by
 unfold sY at h
 lia
theorem AM {l:List (Int×Nat)}(h: ∀x∈l,x.2 < 1000)(nd:(l.map (·.2)).Nodup):(fL l).Pairwise (fun a b=>sY a < sY b):=by
 have p:=dE l
 have T9:((fL l).map (·.2)).Nodup:=(p.map (·.2)).nodup_iff.mpr nd
 have h': ∀x∈fL l,x.2 < 1000:=fun x hx=>h x (p.mem_iff.mp hx)
 have le:=uu l
 generalize fL l=m at T9 h' le
 induction m with
 |nil=>exact .nil
 |cons a m ih=>
  rw[fb] at le ⊢
  rw[c9,eh] at T9
  refine⟨fun b hb=>?_,ih T9.2 (fun x hx=>h' x (aU _ hx)) le.2⟩
  have z:=le.1 b hb
  have n:sY a≠sY b:=fun e=>T9.1 (by
   rw[Lb (h' a bw) (h' b (aU _ hb)) e]
   exact bK.mpr ⟨b,hb,rfl⟩)
  lia
def uP (t:List Int):Int:=t.getD 0 0 * 1000 + t.getD 1 0
theorem uQ {x y:Int×Nat}{u v:List Int}(hx:x.2 < 1000)(hy:y.2 < 1000)(h:x.2=y.2->u=v/\x=y)(hs:HT.lexLt u u=false):HT.lexLt (x.1 :: (x.2:Int) :: u) (y.1 :: (y.2:Int) :: v)=decide (uP (x.1 :: (x.2:Int) :: u) < uP (y.1 :: (y.2:Int) :: v)):=by
 show _ =decide (x.1 * 1000 + (x.2:Int) < y.1 * 1000 + (y.2:Int))
 rw[HT.pq]
 by_cases c:x.1=y.1
 ·rw[a7 c,HT.pq]
  by_cases d:x.2=y.2
  ·rw[a7 (by lia),← (h d).1,hs,bI (by lia)]
  ·rw[aO (by lia)]
   exact mq.mpr (by lia)
 ·rw[aO c]
  exact mq.mpr (by lia)
theorem AN {ks:List (Int×Nat)}{g:Int×Nat->List Int}{us:List (List Int)}(h: ∀x∈ks,x.2 < 1000)(nd:(ks.map (·.2)).Nodup)(hg: ∀x∈ks,uP (g x)=sY x)(p:us.Perm (ks.map g))(le:us.Pairwise (fun t u=>uP t<=uP u)):us=(fL ks).map g:=by
 refine mT uP _ _ (p.trans ((dE ks).map g).symm) le ?_
 rw[rm]
 refine(AM h nd).imp_of_mem fun{a b} ha hb z=>?_
 rw[hg a ((dE ks).mem_iff.mp ha),hg b ((dE ks).mem_iff.mp hb)]
 exact z
theorem dr.tk {H H':Hp}{sd:Addr}{S:Bk}{f:fG}(h:dr H sd S f)(k:Frame f.fp H H'):cK H H':=fun b xs e=>k b _ (fun hb=>by
 obtain⟨ms,m1,_⟩:=h.hm
 unfold fG.fp at hb
 rcases aw.mp hb with rfl|hb
 ·rw[h.hb] at e; cases e
 ·rcases aw.mp hb with rfl|hb
  ·rw[h.hc] at e; cases e
  ·rcases aw.mp hb with rfl|hb
   ·rw[m1] at e; cases e
   ·have rows: ∀(rs:List Rw) (ps:List Addr),eX H rs ps->b∈ps->False:=fun rs ps hr hp=>by
     obtain⟨i,hi⟩:=xY hp
     have iU:i < rs.length:=by
      rw[hr.length]
      exact(au.mp hi).1
     obtain⟨q,e1,e2⟩:=hr.at iU
     rw[e1] at hi
     cases hi
     rw[e2] at e
     cases e
    rcases bg.mp hb with hb|hb
    ·exact rows _ _ h.rb hb
    ·exact rows _ _ h.rc hb) e
theorem Frame.lZ {fp:List Addr}{H1 H2 H3:Hp}(a:aG H1 H2)(b:Frame fp H2 H3):Frame fp H1 H3:=fun x o hx e=>b x o hx (a x o e)
theorem Frame.cS {fp:List Addr}{H1 H2 H3:Hp}(a:Frame fp H1 H2)(b:aG H2 H3):Frame fp H1 H3:=fun x o hx e=>b x o (a x o hx e)
theorem Frame.tr {fp:List Addr}{H1 H2 H3:Hp}(a:Frame fp H1 H2)(b:Frame fp H2 H3):Frame fp H1 H3:=fun x o hx e=>b x o hx (a x o hx e)
def JP.dt:JP->Dt
 | .int i=> .int i
 | .txt s=> .str s
 | .sets l=> .lst (l.map fun t=> .tup [.int t.1,.int t.2.1,.int t.2.2])
 | .pairs l=> .lst (l.map fun t=> .tup [.int t.1,.int t.2])
 | .ints l=> .lst (l.map Dt.int)
theorem gO.Ua {H:Hp}: ∀{ms:List (Nat×Nat×Int)} {vs:List V},gO H ms vs->iJ H (ms.map fun t=> .tup [.int t.1,.int t.2.1,.int t.2.2]) vs
 |_,_,.nil=>dW.mpr rfl
 |_,_,.cons ⟨p,e,q⟩ t=>by
  subst e
  exact bX.mpr ⟨_,_,rfl,fX q (bX.mpr ⟨_,_,rfl,eB.mpr rfl,bX.mpr ⟨_,_,rfl,eB.mpr rfl,bX.mpr ⟨_,_,rfl,eB.mpr rfl,dW.mpr rfl⟩⟩⟩),gO.Ua t⟩
def fG.il (f:fG)(p:Addr):fG:={f with iD:=f.iD ++ [p]}
def fG.fR (f:fG)(p:Addr):fG:={f with cps:=f.cps ++ [p]}
theorem fG.IA (f:fG)(p:Addr):(f.il p).fp.Perm (p :: f.fp):=by
 show(f.pb :: f.pc :: f.pm :: ((f.iD ++ [p]) ++ f.cps)).Perm (p :: f.pb :: f.pc :: f.pm :: (f.iD ++ f.cps))
 have h:((f.iD ++ [p]) ++ f.cps).Perm (p :: (f.iD ++ f.cps)):=by
  rw[gE]
  exact List.perm_middle
 exact(((h.cons f.pm).trans (List.Perm.swap _ _ _)).cons f.pc |>.trans (List.Perm.swap _ _ _)).cons f.pb |>.trans (List.Perm.swap _ _ _)
theorem fG.Eh (f:fG)(p:Addr):(f.fR p).fp.Perm (p :: f.fp):=by
 show(f.pb :: f.pc :: f.pm :: (f.iD ++ (f.cps ++ [p]))).Perm (p :: f.pb :: f.pc :: f.pm :: (f.iD ++ f.cps))
 have h:(f.iD ++ (f.cps ++ [p])).Perm (p :: (f.iD ++ f.cps)):=by
  rw[← gE]
  exact List.perm_append_singleton _ _
 exact(((h.cons f.pm).trans (List.Perm.swap _ _ _)).cons f.pc |>.trans (List.Perm.swap _ _ _)).cons f.pb |>.trans (List.Perm.swap _ _ _)
theorem dr.off {H:Hp}{sd D:Addr}{S:Bk}{f:fG}(h:dr H sd S f)(n:H D=none):D∉f.fp:=fun z=>by
 obtain⟨ms,m1,_⟩:=h.hm
 have rows: ∀(rs:List Rw) (ps:List Addr),eX H rs ps->D∈ps->False:=fun rs ps hr hp=>by
  obtain⟨i,hi⟩:=xY hp
  have iU:i < rs.length:=by
   rw[hr.length]
   exact(au.mp hi).1
  obtain⟨q,e1,e2⟩:=hr.at iU
  rw[e1] at hi
  cases hi
  rw[n] at e2
  cases e2
 unfold fG.fp at z
 rcases aw.mp z with rfl|z
 ·have:=h.hb; rw[n] at this; cases this
 rcases aw.mp z with rfl|z
 ·have:=h.hc; rw[n] at this; cases this
 rcases aw.mp z with rfl|z
 ·rw[n] at m1; cases m1
 rcases bg.mp z with z|z
 ·exact rows _ _ h.rb z
 ·exact rows _ _ h.rc z
section
variable {H:Hp}{sd pr:Addr}{S:Bk}{f:fG}{r:Rw}
theorem dr.il (h:dr H sd S f)(n:H pr=none):dr (upd (upd H pr (.lst r.vs)) f.pb (.lst (f.iD.map V.ref ++ [.ref pr]))) sd (S.il r) (f.il pr):=by
 have s1:aG H (upd H pr (.lst r.vs)):=aG.new n
 have h1:=h.same s1
 have g1:upd H pr (.lst r.vs) pr=some (.lst r.vs):=ag
 have np:=h.off n
 have Lc:sd≠pr:=aL h.dict n
 generalize upd H pr (.lst r.vs)=H1 at s1 h1 g1
 obtain⟨d1,d2,d3,d4,d5,d6,d7⟩:=fG.Rg h.nd
 obtain⟨ms,m1,m2⟩:=h1.hm
 have es:sd≠f.pb:=fun z=>h.ns (by rw[z]; simp[fG.fp])
 have ep:pr≠f.pb:=fun z=>np (by rw[z]; simp[fG.fp])
 refine⟨by rw[az es]; exact h1.dict,?_,by rw[show(f.il pr).pc=f.pc from rfl,az d1.symm]; exact h1.hc,⟨ms,by rw[show(f.il pr).pm=f.pm from rfl,az d2.symm]; exact m1,m2.mono (gu h1.hb)⟩,?_,?_,?_,?_⟩
 ·show upd H1 f.pb _ f.pb=some (.lst ((f.iD ++ [pr]).map V.ref))
  rw[ag,aQ]; rfl
 ·exact cL (h1.rb.ig fun z=>(d4 _ z).1 rfl) (by rw[az ep]; exact g1)
 ·exact h1.rc.ig fun z=>(d5 _ z).1 rfl
 ·exact(f.IA pr).nodup_iff.mpr (eh.mpr ⟨np,h.nd⟩)
 ·intro z
  rcases aw.mp ((f.IA pr).mem_iff.mp z) with z|z
  ·exact Lc z
  ·exact h.ns z
theorem dr.fR (h:dr H sd S f)(n:H pr=none):dr (upd (upd H pr (.lst r.vs)) f.pc (.lst (f.cps.map V.ref ++ [.ref pr]))) sd (S.fR r) (f.fR pr):=by
 have s1:aG H (upd H pr (.lst r.vs)):=aG.new n
 have h1:=h.same s1
 have g1:upd H pr (.lst r.vs) pr=some (.lst r.vs):=ag
 have np:=h.off n
 have Lc:sd≠pr:=aL h.dict n
 generalize upd H pr (.lst r.vs)=H1 at s1 h1 g1
 obtain⟨d1,d2,d3,d4,d5,d6,d7⟩:=fG.Rg h.nd
 obtain⟨ms,m1,m2⟩:=h1.hm
 have es:sd≠f.pc:=fun z=>h.ns (by rw[z]; simp[fG.fp])
 have ep:pr≠f.pc:=fun z=>np (by rw[z]; simp[fG.fp])
 refine⟨by rw[az es]; exact h1.dict,by rw[show(f.fR pr).pb=f.pb from rfl,az d1]; exact h1.hb,?_,⟨ms,by rw[show(f.fR pr).pm=f.pm from rfl,az d3.symm]; exact m1,m2.mono (gu h1.hc)⟩,?_,?_,?_,?_⟩
 ·show upd H1 f.pc _ f.pc=some (.lst ((f.cps ++ [pr]).map V.ref))
  rw[ag,aQ]; rfl
 ·exact h1.rb.ig fun z=>(d4 _ z).2.1 rfl
 ·exact cL (h1.rc.ig fun z=>(d5 _ z).2.1 rfl) (by rw[az ep]; exact g1)
 ·exact(f.Eh pr).nodup_iff.mpr (eh.mpr ⟨np,h.nd⟩)
 ·intro z
  rcases aw.mp ((f.Eh pr).mem_iff.mp z) with z|z
  ·exact Lc z
  ·exact h.ns z
end
structure dZ where
 dQ:Addr
 d8:Addr
 work:Addr
 book:Addr
 refusal:Addr
 jW:Addr
 pK:Addr
 jI:Addr
 iG:Addr
 tooEarly:Addr
 tooMuch:Addr
 jJ:Addr
 iY:Addr
def eu (H:Hp)(p C:Addr)(fs:List (Str×V)):Prop:= ∃dx,H p=some (.ins C dx fs)
theorem eu.same {H H':Hp}{p C:Addr}{fs:List (Str×V)}(h:eu H p C fs)(s:aG H H'):eu H' p C fs:=let⟨dx,e⟩:=h; ⟨dx,s _ _ e⟩
theorem eu.frame {H H':Hp}{p C:Addr}{fs:List (Str×V)}{fp:List Addr}(h:eu H p C fs)(s:Frame fp H H')(n:p∉fp):eu H' p C fs:=let⟨dx,e⟩:=h; ⟨dx,s _ _ n e⟩
def sE (c:Int):V:=if c= -1 then .en else .int c
def fv (i:Nat)(r:Rw):List (Str×V):=[("number",.int i),("who",.str r.aN),("day",.int r.a),("due",.int r.b),("amount",.int r.c)]
def eY (i:Nat)(r:Rw):List (Str×V):=[("number",.int i),("who",.str r.aN),("day",.int r.a),("amount",.int r.b),("only",sE r.c)]
section
variable (i:Nat)(r:Rw)
theorem lq:(fv i r).lookup ("number":Str)=some (V.int i):=by rfl
theorem CU:(fv i r).lookup ("who":Str)=some (V.str r.aN):=by rfl
theorem Oi:(fv i r).lookup ("day":Str)=some (V.int r.a):=by rfl
theorem IB:(fv i r).lookup ("due":Str)=some (V.int r.b):=by rfl
theorem nU:(eY i r).lookup ("number":Str)=some (V.int i):=by rfl
theorem IC:(eY i r).lookup ("who":Str)=some (V.str r.aN):=by rfl
theorem ID:(eY i r).lookup ("day":Str)=some (V.int r.a):=by rfl
theorem Ld:(eY i r).lookup ("only":Str)=some (sE r.c):=by rfl
end
structure eL where
 pb:Addr
 pc:Addr
 pl:Addr
 pf:Addr
 pm:Addr
 iD:List Addr
 cps:List Addr
def eL.fp (f:eL):List Addr:=[f.pb,f.pc,f.pl,f.pf,f.pm]
def lu (f:eL):List (Str×V):=[("bills",.ref f.pb),("all_credits",.ref f.pc),("lefts",.ref f.pl),("frees",.ref f.pf),("made",.ref f.pm)]
theorem jg (f:eL):(lu f).lookup ("bills":Str)=some (V.ref f.pb):=by rfl
theorem hJ (f:eL):(lu f).lookup ("all_credits":Str)=some (V.ref f.pc):=by rfl
theorem lx (f:eL):(lu f).lookup ("lefts":Str)=some (V.ref f.pl):=by rfl
theorem ly (f:eL):(lu f).lookup ("frees":Str)=some (V.ref f.pf):=by rfl
theorem yL (f:eL):(lu f).lookup ("made":Str)=some (V.ref f.pm):=by rfl
def gv (H:Hp)(C:Addr)(fs:Nat->Rw->List (Str×V))(rows:List Rw)(ps:List Addr):Prop:=ps.length=rows.length/\ ∀i p,ps[i]? =some p->eu H p C (fs i (rows.getD i default))
theorem gv.keep {H H':Hp}{C:Addr}{fs:Nat->Rw->List (Str×V)}{rows:List Rw}{ps:List Addr}(h:gv H C fs rows ps)(k: ∀p dx gs,H p=some (.ins C dx gs)->H' p=some (.ins C dx gs)):gv H' C fs rows ps:=
 ⟨h.1,fun i p e=>let⟨dx,z⟩:=h.2 i p e; ⟨dx,k _ _ _ z⟩⟩
theorem gv.get {H:Hp}{C:Addr}{fs:Nat->Rw->List (Str×V)}{rows:List Rw}{ps:List Addr}(h:gv H C fs rows ps){i:Nat}(hi:i < rows.length): ∃p,ps[i]? =some p/\eu H p C (fs i (rows.getD i default)):=by
 have iU:i < ps.length:=by rw[h.1]; exact hi
 exact⟨ps[i],af iU,h.2 i _ (af iU)⟩
theorem gv.rows {H:Hp}{C:Addr}{fs:Nat->Rw->List (Str×V)}{rows iA:List Rw}{ps:List Addr}(h:gv H C fs rows ps)(hl:iA.length=rows.length)(e: ∀i,fs i (iA.getD i default)=fs i (rows.getD i default)):gv H C fs iA ps:=
 ⟨h.1.trans hl.symm,fun i p z=>by rw[e]; exact h.2 i p z⟩
theorem gv.add {H:Hp}{C p:Addr}{fs:Nat->Rw->List (Str×V)}{rows:List Rw}{r:Rw}{ps:List Addr}(h:gv H C fs rows ps)(n:eu H p C (fs rows.length r)):gv H C fs (rows ++ [r]) (ps ++ [p]):=by
 refine⟨by rw[aF,aF,h.1]; rfl,fun i q e=>?_⟩
 by_cases hi:i < ps.length
 ·rw[MZ hi] at e
  rw[getD_snoc (by rw[← h.1]; exact hi)]
  exact h.2 i q e
 ·rw[o4 (by lia)] at e
  have e0:i - ps.length=0:=by
   have:=(au.mp e).1
   simp at this
   lia
  rw[e0] at e
  obtain rfl:p=q:=by simpa using e
  obtain rfl:i=rows.length:=by have:=h.1; lia
  rw[getD_last]
  exact n
structure dG (A:dZ)(H:Hp)(pw:Addr)(S:Bk)(f:eL):Prop where
 obj:eu H pw A.work (lu f)
 hb:H f.pb=some (.lst (f.iD.map V.ref))
 hc:H f.pc=some (.lst (f.cps.map V.ref))
 hl:H f.pl=some (.lst (S.aC.map fun r=>V.int r.d))
 hf:H f.pf=some (.lst (S.credits.map fun r=>V.int r.d))
 hm: ∃ms,H f.pm=some (.lst ms)/\gO H S.made ms
 rb:gv H A.dQ fv S.aC f.iD
 rc:gv H A.d8 eY S.credits f.cps
 nd:f.fp.Nodup
section
variable {A:dZ}{H H':Hp}{pw:Addr}{S:Bk}{f:eL}
theorem dG.lists (h:dG A H pw S f): ∀p∈f.fp,∃xs,H p=some (.lst xs):=fun p hp=>by
 obtain⟨ms,m1,_⟩:=h.hm
 simp only[eL.fp,List.mem_cons,List.not_mem_nil,or_false] at hp
 rcases hp with rfl|rfl|rfl|rfl|rfl
 ·exact⟨_,h.hb⟩
 ·exact⟨_,h.hc⟩
 ·exact⟨_,h.hl⟩
 ·exact⟨_,h.hf⟩
 ·exact⟨_,m1⟩
theorem dG.off (h:dG A H pw S f){p:Addr}(n: ∀xs,H p≠some (.lst xs)):p∉f.fp:=fun z=>by
 obtain⟨xs,e⟩:=h.lists p z
 exact n xs e
theorem dG.new (h:dG A H pw S f){p:Addr}(n:H p=none):p∉f.fp:=h.off fun xs e=>by rw[n] at e; cases e
theorem dG.ins (h:dG A H pw S f){p C:Addr}{fs:List (Str×V)}(n:eu H p C fs):p∉f.fp:=h.off fun xs e=>by
 obtain⟨dx,z⟩:=n
 rw[z] at e
 cases e
theorem dG.tk (h:dG A H pw S f)(k:Frame f.fp H H'):cK H H':=fun b xs e=>k b _ (h.off fun ys z=>by rw[e] at z; cases z) e
theorem dG.objs (h:dG A H pw S f)(k:Frame f.fp H H'):eu H' pw A.work (lu f)/\gv H' A.dQ fv S.aC f.iD/\gv H' A.d8 eY S.credits f.cps:=by
 have go: ∀{p C:Addr} {dx:Addr} {gs:List (Str×V)},H p=some (.ins C dx gs)->H' p=some (.ins C dx gs):=fun e=>k _ _ (h.off fun ys z=>by rw[e] at z; cases z) e
 exact⟨let⟨dx,e⟩:=h.obj; ⟨dx,go e⟩,h.rb.keep fun _ _ _ e=>go e,h.rc.keep fun _ _ _ e=>go e⟩
theorem dG.same (h:dG A H pw S f)(s:aG H H'):dG A H' pw S f:=by
 obtain⟨o1,o2,o3⟩:=h.objs (s.frame (fp:=f.fp))
 obtain⟨ms,m1,m2⟩:=h.hm
 exact⟨o1,s _ _ h.hb,s _ _ h.hc,s _ _ h.hl,s _ _ h.hf,⟨ms,s _ _ m1,m2.mono s.tk⟩,o2,o3,h.nd⟩
theorem eL.ne (h:f.fp.Nodup):f.pb≠f.pc/\f.pb≠f.pl/\f.pb≠f.pf/\f.pb≠f.pm/\f.pc≠f.pl/\f.pc≠f.pf/\f.pc≠f.pm/\f.pl≠f.pf/\f.pl≠f.pm/\f.pf≠f.pm:=by
 simp only[eL.fp,List.nodup_cons,List.mem_cons,List.not_mem_nil,or_false,not_or] at h
 obtain⟨⟨h1,h2,h3,h4⟩,⟨h5,h6,h7⟩,⟨h8,h9⟩,Rh,_⟩:=h
 exact⟨h1,h2,h3,h4,h5,h6,h7,h8,h9,Rh⟩
theorem xB {rows:List Rw}{i:Nat}{x:Int}:(rows.set i ((rows.getD i default).less x)).map (fun r=>V.int r.d)=(rows.map fun r=>V.int r.d).set i (.int ((rows.getD i default).d - x)):=by
 rw[vF]; rfl
theorem dG.put (h:dG A H pw S f){c b:Nat}{x:Int}{ms:List V}{p:Addr}(hc:c < S.credits.length)(hb:b < S.aC.length)(m1:H f.pm=some (.lst ms))(m2:gO H S.made ms)(np:H p=none):
  dG A (upd (upd (upd (upd H f.pf (.lst ((S.credits.map fun r=>V.int r.d).set c (.int ((S.cr c).d - x))))) f.pl (.lst ((S.aC.map fun r=>V.int r.d).set b (.int ((S.bl b).d - x))))) p (.tup [.int c,.int b,.int x])) f.pm (.lst (ms ++ [.ref p]))) pw (S.put c b x) f/\
  Frame f.fp H (upd (upd (upd (upd H f.pf (.lst ((S.credits.map fun r=>V.int r.d).set c (.int ((S.cr c).d - x))))) f.pl (.lst ((S.aC.map fun r=>V.int r.d).set b (.int ((S.bl b).d - x))))) p (.tup [.int c,.int b,.int x])) f.pm (.lst (ms ++ [.ref p]))):=by
 obtain⟨e1,e2,e3,e4,e5,e6,e7,e8,e9,Mx⟩:=eL.ne h.nd
 have pf: ∀q∈f.fp,q≠p:=fun q hq z=>h.new np (z▸hq)
 have i1:f.pb∈f.fp:=by simp[eL.fp]
 have i2:f.pc∈f.fp:=by simp[eL.fp]
 have i3:f.pl∈f.fp:=by simp[eL.fp]
 have i4:f.pf∈f.fp:=by simp[eL.fp]
 have i5:f.pm∈f.fp:=by simp[eL.fp]
 have t3: ∀(G:Hp) (q:Addr),q≠f.pf->q≠f.pl->q≠p->q≠f.pm-> ∀(a b c d:HO),upd (upd (upd (upd G f.pf a) f.pl b) p c) f.pm d q=G q:=fun G q h1 h2 h3 h4 a b c d=>by
  rw[az h4,az h3,az h2,az h1]
 have F:Frame f.fp H (upd (upd (upd (upd H f.pf (.lst ((S.credits.map fun r=>V.int r.d).set c (.int ((S.cr c).d - x))))) f.pl (.lst ((S.aC.map fun r=>V.int r.d).set b (.int ((S.bl b).d - x))))) p (.tup [.int c,.int b,.int x])) f.pm (.lst (ms ++ [.ref p]))):=fun q o hq e=>by
  rw[t3 H q (fun z=>hq (z▸i4)) (fun z=>hq (z▸i3)) (aL e np) (fun z=>hq (z▸i5))]
  exact e
 refine⟨?_,F⟩
 obtain⟨o1,o2,o3⟩:=h.objs F
 have tk:=h.tk F
 refine⟨o1,by rw[t3 H _ e3 e2 (pf _ i1) e4]; exact h.hb,by rw[t3 H _ e6 e5 (pf _ i2) e7]; exact h.hc,?_,?_,⟨_,ag,?_⟩,?_,?_,h.nd⟩
 ·rw[az e9,az (pf _ i3),ag]
  show _ =some (HO.lst ((S.aC.set b ((S.aC.getD b default).less x)).map fun r=>V.int r.d))
  rw[xB]; rfl
 ·rw[az Mx,az (pf _ i4),az e8.symm,ag]
  show _ =some (HO.lst ((S.credits.set c ((S.credits.getD c default).less x)).map fun r=>V.int r.d))
  rw[xB]; rfl
 ·refine cL (m2.mono tk) ⟨p,rfl,?_⟩
  rw[az (pf _ i5).symm,ag]
 ·refine o2.rows dI fun i=>?_
  show fv i ((S.put c b x).bl i)=fv i (S.bl i)
  rw[mP hb]
  split
  ·rename_i z; subst z; rfl
  ·rfl
 ·refine o3.rows dI fun i=>?_
  show eY i ((S.put c b x).cr i)=eY i (S.cr i)
  rw[pE hc]
  split
  ·rename_i z; subst z; rfl
  ·rfl
end
end L2
namespace eN
open PySem L2 PyProof.Rows JR
def Le:Stmt->List Stmt
 | .ClassDef _ _ _ b _ _ _ _ _ _ _=>b
 |_=>[]
def mem (i j:Nat):Stmt:=(Le (top i)).getD j (.Pass ⟨0,0,0,0⟩)
structure jz (K:PySem.W.Frag)(mg:Str->Option Value)(A:dZ):Prop where
 fS:mg "Refusal"=some (.ref A.refusal)
 CV:gU K A.refusal A.refusal
 Oj:PySem.W.keepIn K (.ref A.refusal)=true
 gw: ∃f fd,gp K "__init__" "Refusal.__init__" (mem 3 0) f fd/\Eb K A.refusal f
 AO:mg "NoCredit"=some (.ref A.jW)
 sF:gU K A.jW A.refusal
 AQ:PySem.W.keepIn K (.ref A.jW)=true
 AR: ∃f fd,gp K "__init__" "NoCredit.__init__" (mem 4 0) f fd/\PySem.W.findIn K (.ref A.jW) "__init__"=some (some (.ref f))/\PySem.W.typeIn K (.ref f)=some (.type "function")
 F6:mg "NoBill"=some (.ref A.pK)
 xC:gU K A.pK A.refusal
 F9:PySem.W.keepIn K (.ref A.pK)=true
 Ga: ∃f fd,gp K "__init__" "NoBill.__init__" (mem 5 0) f fd/\PySem.W.findIn K (.ref A.pK) "__init__"=some (some (.ref f))/\PySem.W.typeIn K (.ref f)=some (.type "function")
 yM:mg "NotTheirs"=some (.ref A.jI)
 qD:gU K A.jI A.refusal
 yN:PySem.W.keepIn K (.ref A.jI)=true
 yO: ∃f fd,gp K "__init__" "NotTheirs.__init__" (mem 6 0) f fd/\PySem.W.findIn K (.ref A.jI) "__init__"=some (some (.ref f))/\PySem.W.typeIn K (.ref f)=some (.type "function")
 AS:mg "NoAmount"=some (.ref A.iG)
 kB:gU K A.iG A.refusal
 AU:PySem.W.keepIn K (.ref A.iG)=true
 AV: ∃f fd,gp K "__init__" "NoAmount.__init__" (mem 7 0) f fd/\PySem.W.findIn K (.ref A.iG) "__init__"=some (some (.ref f))/\PySem.W.typeIn K (.ref f)=some (.type "function")
 AW:mg "TooEarly"=some (.ref A.tooEarly)
 sG:gU K A.tooEarly A.refusal
 AX:PySem.W.keepIn K (.ref A.tooEarly)=true
 AY: ∃f fd,gp K "__init__" "TooEarly.__init__" (mem 8 0) f fd/\PySem.W.findIn K (.ref A.tooEarly) "__init__"=some (some (.ref f))/\PySem.W.typeIn K (.ref f)=some (.type "function")
 uR:mg "TooMuch"=some (.ref A.tooMuch)
 pL:gU K A.tooMuch A.refusal
 CW:PySem.W.keepIn K (.ref A.tooMuch)=true
 CY: ∃f fd,gp K "__init__" "TooMuch.__init__" (mem 9 0) f fd/\PySem.W.findIn K (.ref A.tooMuch) "__init__"=some (some (.ref f))/\PySem.W.typeIn K (.ref f)=some (.type "function")
 yP:mg "NoSetting"=some (.ref A.jJ)
 qE:gU K A.jJ A.refusal
 yQ:PySem.W.keepIn K (.ref A.jJ)=true
 yR: ∃f fd,gp K "__init__" "NoSetting.__init__" (mem 10 0) f fd/\PySem.W.findIn K (.ref A.jJ) "__init__"=some (some (.ref f))/\PySem.W.typeIn K (.ref f)=some (.type "function")
 xD:mg "Needed"=some (.ref A.iY)
 xE:gU K A.iY A.refusal
 Gb:PySem.W.keepIn K (.ref A.iY)=true
 Gd: ∃f fd,gp K "__init__" "Needed.__init__" (mem 11 0) f fd/\PySem.W.findIn K (.ref A.iY) "__init__"=some (some (.ref f))/\PySem.W.typeIn K (.ref f)=some (.type "function")
 Lf:mg "Bill"=some (.ref A.dQ)
 d9:vK K A.dQ
 eO:cq K A.dQ "number"
 kC:cq K A.dQ "who"
 mU:cq K A.dQ "day"
 mV:cq K A.dQ "due"
 mW:cq K A.dQ "amount"
 Lg: ∃f fd,gp K "__init__" "Bill.__init__" (mem 13 0) f fd/\Mk K A.dQ f
 Ge:mg "Credit"=some (.ref A.d8)
 df:vK K A.d8
 eM:cq K A.d8 "number"
 kP:cq K A.d8 "who"
 i7:cq K A.d8 "day"
 lz:cq K A.d8 "amount"
 jX:cq K A.d8 "only"
 Gf: ∃f fd,gp K "__init__" "Credit.__init__" (mem 14 0) f fd/\Mk K A.d8 f
 Lh:mg "Work"=some (.ref A.work)
 bE:vK K A.work
 dX:cq K A.work "bills"
 cH:cq K A.work "all_credits"
 fz:cq K A.work "lefts"
 fA:cq K A.work "frees"
 jA:cq K A.work "made"
 Li: ∃f fd,gp K "__init__" "Work.__init__" (mem 25 0) f fd/\Mk K A.work f
 qF: ∃f fd,gp K "tell_bill" "Work.tell_bill" (mem 25 1) f fd/\Meth K A.work "tell_bill" f
 mX: ∃f fd,gp K "tell_payment" "Work.tell_payment" (mem 25 2) f fd/\Meth K A.work "tell_payment" f
 qG: ∃f fd,gp K "tell_note" "Work.tell_note" (mem 25 3) f fd/\Meth K A.work "tell_note" f
 oz: ∃f fd,gp K "tell_credit" "Work.tell_credit" (mem 25 4) f fd/\Meth K A.work "tell_credit" f
 oA: ∃f fd,gp K "set_by_hand" "Work.set_by_hand" (mem 25 5) f fd/\Meth K A.work "set_by_hand" f
 wc: ∃f fd,gp K "sweep" "Work.sweep" (mem 25 6) f fd/\Meth K A.work "sweep" f
 qH: ∃f fd,gp K "one_round" "Work.one_round" (mem 25 7) f fd/\Meth K A.work "one_round" f
 AZ: ∃f fd,gp K "put" "Work.put" (mem 25 8) f fd/\Meth K A.work "put" f
 qI: ∃f fd,gp K "credit_at" "Work.credit_at" (mem 25 9) f fd/\Meth K A.work "credit_at" f
 sZ: ∃f fd,gp K "bill_at" "Work.bill_at" (mem 25 10) f fd/\Meth K A.work "bill_at" f
 Lj:mg "Book"=some (.ref A.book)
 eE:vK K A.book
 gI:cq K A.book "kept"
 fT:cq K A.book "work"
 Lk: ∃f fd,gp K "__init__" "Book.__init__" (mem 29 0) f fd/\Mk K A.book f
 CZ: ∃f fd,gp K "do" "Book.do" (mem 29 1) f fd/\Meth K A.book "do" f
 yS: ∃f fd,gp K "undo" "Book.undo" (mem 29 2) f fd/\Meth K A.book "undo" f
 rO: ∃f fd,gp K "in_force" "Book.in_force" (mem 29 3) f fd/\Meth K A.book "in_force" f
end eN
namespace L2
open PySem PySem.Spec PySem.W PyProof.Rows JR
structure gW (CX:Fn)(P:Program)(w:World)(K:PySem.W.Frag)(mg:Str->Option Value)(base:Heap)(C:Addr)(m:Str)(k:Nat)(ps:List Str)(sp:Sp):Prop where
 ex: ∃(f:Addr) (fd:FuncData),vK K C/\Meth K C m f/\lN P w K mg base CX k f fd ps sp/\Binds K fd ps []
structure uS (P:Program)(w:World)(K:PySem.W.Frag)(mg:Str->Option Value)(base:Heap)(x:Str)(k:Nat)(ps:List Str)(sp:Sp):Prop where
 ex: ∃(f:Addr) (fd:FuncData),lN P w K mg base (mv P w mg) k f fd ps sp/\mg x=some (.ref f)/\PySem.W.keepIn K (.ref f)=true/\Binds K fd ps []
structure tf (P:Program)(w:World)(K:PySem.W.Frag)(mg:Str->Option Value)(base:Heap)(x:Str)(C:Addr)(k:Nat)(ps:List Str)(sp:Sp):Prop where
 ex: ∃(f:Addr) (fd:FuncData),Mk K C f/\lN P w K mg base rE k f fd ps sp/\Binds K fd ps []/\mg x=some (.ref C)
section
variable {X:Cx}{CX:Fn}{C:Addr}{x m:Str}{k:Nat}{ps:List Str}{sp:Sp}{o e:Expr}{es:List Expr}{ta:TE}{t:TA}{p pos apos:Pos}{E:XK}
theorem mY {pl:Sem Bool}(M:gW CX X.prog X.w X.K X.mg X.base C m k ps sp)(hr:eW k X.A)(hx:Passes CX X E)(he:PE X o ta)(ha:PA X (e :: es) t)
  (se:starEach (e :: es) X.env=(false,eval e X.env) :: starEach es X.env:=by rfl) (iw:(backTo pos (starEach es X.env)).any (·.1)=false:=by rfl)
  (ht:eval (.Call (.Attribute o m apos) (e :: es) [] pos) X.env=(do
   let ov ← eval o X.env
   standAt apos.atName
   let(f,first) ← holding [ov] (getMethod ov m pl)
   callWith pos f first (backTo pos (starEach (e :: es) X.env)) (backToKw pos (keywordEach [] X.env))):=by rfl):
  PE X (.Call (.Attribute o m apos) (e :: es) [] pos) (Mj C m sp [] E ta t):=by
 obtain⟨f,fd,hc,hm,F,hb⟩:=M.ex
 exact Kq he hc hm F hr hb .nil hx ha se iw ht
theorem rP (M:uS X.prog X.w X.K X.mg X.base x k ps sp)(hr:eW k X.A)(hg:Gl X x)(hx:Passes (mv X.prog X.w X.mg) X E)(ha:PA X (e :: es) t)(ql:(x == ("__debug__":Str))=false:=by decide)
  (he:starEach (e :: es) X.env=(false,eval e X.env) :: starEach es X.env:=by rfl) (iw:(backTo pos (starEach es X.env)).any (·.1)=false:=by rfl):PE X (.Call (.Name x p) (e :: es) [] pos) (ua sp [] E t):=by
 obtain⟨f,fd,F,hm,hk,hb⟩:=M.ex
 exact DN F hr hg hm hk hb .nil hx ha ql he iw
theorem RO (M:tf X.prog X.w X.K X.mg X.base x C k ps sp)(hr:eW (k + 1) X.A)(hg:Gl X x)(ha:PA X (e :: es) t)(ql:(x == ("__debug__":Str))=false:=by decide)
  (he:starEach (e :: es) X.env=(false,eval e X.env) :: starEach es X.env:=by rfl) (iw:(backTo pos (starEach es X.env)).any (·.1)=false:=by rfl):PE X (.Call (.Name x p) (e :: es) [] pos) (DM C sp [] E0 t):=by
 obtain⟨f,fd,hk,F,hb,hm⟩:=M.ex
 exact Kr hk F hr hg hm hb .nil mL ha ql he iw
theorem IE (M:tf X.prog X.w X.K X.mg X.base x C k ps sp)(hr:eW (k + 1) X.A)(hg:Gl X x)(ql:(x == ("__debug__":Str))=false:=by decide):PE X (.Call (.Name x p) [] [] pos) (DM C sp [] E0 Ho):=by
 obtain⟨f,fd,hk,F,hb,hm⟩:=M.ex
 exact Hs hk F hr hg hm hb .nil mL ql
end
section
variable {P:Program}{w:World}{K:PySem.W.Frag}{mg:Str->Option Value}{base:Heap}{C:Addr}{x m qual:Str}{st:Stmt}{N ps:List Str}{k:Nat}{sp:Sp}
theorem Ll (D: ∃f fd,gp K m qual st f fd/\Meth K C m f)(hc:vK K C)(S:aS N ps (ay st))
  (fW: ∀(f:Addr) (cX:Value) (A:Around) (outer:List Env) (s:Shared) (H:Hp) (vs:List V) (Q:VK) (E:XK),eW k (A.deeper (envOfC qual (ay st) s.heap.objs.size f cX))->sp vs H Q E->
   ∃t,oG (k7 rE P w K mg base N qual (ay st) f cX A outer s H E).DF (dD st) t/\t {nx:=fun _ H'=>Q .en H',rt:=Q} (start N vs) H)
  (hb: ∀(kV doc pm:Value) (an:Option Addr) (cX ct:Value) (us:List Value),us.length=ps.length->bindArgs (PySem.W.fnOf m qual (gH st) (dD st) (ay st) .none kV doc pm an cX ct) ⟨us,[]⟩=pure (ps.zip us):=by intro _ _ _ _ _ _ us hl; rcases us with _|⟨_,_|⟨_,_|⟨_,_|⟨_,_|⟨_,_|⟨_,_|⟨_,_⟩⟩⟩⟩⟩⟩⟩ <;> first|(cases hl; done)|rfl)
  (len: ∀vs H Q E,sp vs H Q E->vs.length=ps.length:=by intro _ _ _ _ h; repeat (first|(obtain⟨rfl,_⟩:=h; rfl; done)|obtain⟨_,h⟩:=h)):gW rE P w K mg base C m (k + 1) ps sp:=by
 obtain⟨f,fd,F,hm⟩:=D
 exact⟨f,fd,hc,hm,F.ok S len (fW f),F.binds hb⟩
theorem qJ (D: ∃f fd,gp K m qual st f fd/\Meth K C m f)(hc:vK K C)(S:aS N ps (ay st))
  (fW: ∀(f:Addr) (cX:Value) (A:Around) (outer:List Env) (s:Shared) (H:Hp) (vs:List V) (Q:VK) (E:XK),eW k (A.deeper (envOfC qual (ay st) s.heap.objs.size f cX))->PM (k7 (mv P w mg) P w K mg base N qual (ay st) f cX A outer s H E) E->sp vs H Q E->
   ∃t,oG (k7 (mv P w mg) P w K mg base N qual (ay st) f cX A outer s H E) (dD st) t/\t {nx:=fun _ H'=>Q .en H',rt:=Q} (start N vs) H)
  (hb: ∀(kV doc pm:Value) (an:Option Addr) (cX ct:Value) (us:List Value),us.length=ps.length->bindArgs (PySem.W.fnOf m qual (gH st) (dD st) (ay st) .none kV doc pm an cX ct) ⟨us,[]⟩=pure (ps.zip us):=by intro _ _ _ _ _ _ us hl; rcases us with _|⟨_,_|⟨_,_|⟨_,_|⟨_,_|⟨_,_|⟨_,_|⟨_,_⟩⟩⟩⟩⟩⟩⟩ <;> first|(cases hl; done)|rfl)
  (len: ∀vs H Q E,sp vs H Q E->vs.length=ps.length:=by intro _ _ _ _ h; repeat (first|(obtain⟨rfl,_⟩:=h; rfl; done)|obtain⟨_,h⟩:=h)):gW (mv P w mg) P w K mg base C m (k + 1) ps sp:=by
 obtain⟨f,fd,F,hm⟩:=D
 exact⟨f,fd,hc,hm,F.Yq S len (fW f),F.binds hb⟩
theorem Ol (D:Df K mg x st)(S:aS N ps (ay st))
  (fW: ∀(f:Addr) (cX:Value) (A:Around) (outer:List Env) (s:Shared) (H:Hp) (vs:List V) (Q:VK) (E:XK),eW k (A.deeper (envOfC x (ay st) s.heap.objs.size f cX))->PM (k7 (mv P w mg) P w K mg base N x (ay st) f cX A outer s H E) E->sp vs H Q E->
   ∃t,oG (k7 (mv P w mg) P w K mg base N x (ay st) f cX A outer s H E) (dD st) t/\t {nx:=fun _ H'=>Q .en H',rt:=Q} (start N vs) H)
  (hb: ∀(kV doc pm:Value) (an:Option Addr) (cX ct:Value) (us:List Value),us.length=ps.length->bindArgs (PySem.W.fnOf x x (gH st) (dD st) (ay st) .none kV doc pm an cX ct) ⟨us,[]⟩=pure (ps.zip us):=by intro _ _ _ _ _ _ us hl; rcases us with _|⟨_,_|⟨_,_|⟨_,_|⟨_,_|⟨_,_|⟨_,_|⟨_,_⟩⟩⟩⟩⟩⟩⟩ <;> first|(cases hl; done)|rfl)
  (len: ∀vs H Q E,sp vs H Q E->vs.length=ps.length:=by intro _ _ _ _ h; repeat (first|(obtain⟨rfl,_⟩:=h; rfl; done)|obtain⟨_,h⟩:=h)):uS P w K mg base x (k + 1) ps sp:=by
 obtain⟨f,fd,F,hm⟩:=D.ex
 exact⟨f,fd,F.Yq S len (fW f),hm,F.kp,F.binds hb⟩
theorem Lm (D: ∃f fd,gp K "__init__" qual st f fd/\Mk K C f)(hm:mg x=some (.ref C))(S:aS N ps (ay st))
  (fW: ∀(f:Addr) (cX:Value) (A:Around) (outer:List Env) (s:Shared) (H:Hp) (vs:List V) (Q:VK) (E:XK),eW k (A.deeper (envOfC qual (ay st) s.heap.objs.size f cX))->sp vs H Q E->
   ∃t,oG (k7 rE P w K mg base N qual (ay st) f cX A outer s H E).DF (dD st) t/\t {nx:=fun _ H'=>Q .en H',rt:=Q} (start N vs) H)
  (hb: ∀(kV doc pm:Value) (an:Option Addr) (cX ct:Value) (us:List Value),us.length=ps.length->bindArgs (PySem.W.fnOf "__init__" qual (gH st) (dD st) (ay st) .none kV doc pm an cX ct) ⟨us,[]⟩=pure (ps.zip us):=by intro _ _ _ _ _ _ us hl; rcases us with _|⟨_,_|⟨_,_|⟨_,_|⟨_,_|⟨_,_|⟨_,_|⟨_,_⟩⟩⟩⟩⟩⟩⟩ <;> first|(cases hl; done)|rfl)
  (len: ∀vs H Q E,sp vs H Q E->vs.length=ps.length:=by intro _ _ _ _ h; repeat (first|(obtain⟨rfl,_⟩:=h; rfl; done)|obtain⟨_,h⟩:=h)):tf P w K mg base x C (k + 1) ps sp:=by
 obtain⟨f,fd,F,hk⟩:=D
 exact⟨f,fd,hk,F.ok S len (fW f),F.binds hb,hm⟩
end
end L2
namespace eN
open PySem L2 PyProof.Rows JR
seal L2.oG L2.PS L2.PE L2.PT L2.PW L2.PA L2.PC L2.PG L2.JL L2.PI L2.Kz L2.JN L2.PO L2.ou L2.Mi L2.iu L2.Hv L2.Nn
section
variable {P:Program}{w:World}{K:PySem.W.Frag}{mg:Str->Option Value}{base:Heap}
theorem Gg {H:Hp}{e dx:Addr}{a b c:HO}(h:dx≠e):upd (upd (upd H e a) dx b) e c=upd (upd H dx b) e c:=by
 funext q
 by_cases h1:q=e
 ·rw[h1,ag,ag]
 ·rw[az h1,az h1]
  by_cases h2:q=dx
  ·rw[h2,ag,ag]
  ·rw[az h2,az h2,az h1]
def RP (K:PySem.W.Frag):Sp:=fun vs H Q _=> ∃(e C R t0:Addr) (txt:Str),vs=[.ref e,.str txt]/\H e=some (xo e C none (v0 t0))/\gU K C R/\ ∀dx t',H dx=none->Q .en (upd (upd H dx (.xd [("text",.str txt)])) e (xo e C (some dx) (v0 t')))
theorem C0:aS ["self","text"] ["self","text"] (ay (mem 3 0)):={}
theorem gx (T:Txt K mg){f:Addr}{fd:FuncData}(F:gp K "__init__" "Refusal.__init__" (mem 3 0) f fd):Rv P w K mg base 1 f fd ["self","text"] (RP K):=by
 refine lY (k:=0) F C0 (fun vs H Q E h=>?_) (fun cX A outer s H vs Q E hr h=>?_)
 ·obtain⟨e,C,R,t0,txt,rfl,_⟩:=h
  rfl
 ·obtain⟨e,C,R,t0,txt,rfl,he,ek,k⟩:=h
  refine⟨_,(ah (bM (Ig rfl T.AK (aa (pv 0) (aa (pv 1) ak)))) (av (K3 (pv 0) (pv 1) rfl))),?_⟩
  refine⟨_,rfl,_,rfl,e,C,R,t0,none,v0 t0,_,rfl,he,ek,rfl,fun t'=>?_⟩
  refine⟨_,rfl,_,rfl,e,C,R,v0 t',rfl,ag,ek,fun dx IF=>?_⟩
  have ne:dx≠e:=fun z=>by rw[z,ag] at IF; cases IF
  rw[az ne] at IF
  have q:=k dx t' IF
  rw[← Gg (a:=xo e C none (v0 t')) ne] at q
  exact q
theorem A0:aS ["self"] ["self"] (ay (mem 4 0)):={}
theorem A1 (T:Txt K mg){A:dZ}(G:jz K mg A):Ih P w K mg base 2 "NoCredit" A.jW A.refusal "no credit":=by
 obtain⟨f,fd,F,hi,ht⟩:=G.AR
 obtain⟨f0,Om,F0,ik⟩:=G.gw
 refine⟨G.AO,G.sF,G.AQ,f,fd,hi,ht,?_,F.binds (fun _ _ _ _ _ _ us hl=>match us,hl with|[_],_=>rfl)⟩
 refine lY (k:=1) F A0 (fun vs H Q E h=>?_) (fun cX A' outer s H vs Q E hr h=>?_)
 ·obtain⟨e,C,R,t0,rfl,_⟩:=h
  rfl
 ·obtain⟨e,C,R,t0,rfl,he,ek,k⟩:=h
  refine⟨_,(av (bM (je ik (gx T F0) hr (F0.binds (fun _ _ _ _ _ _ us hl=>match us,hl with|[_,_],_=>rfl)) rfl G.fS (aa (pv 0) (aa aR ak))))),?_⟩
  exact⟨_,rfl,e,C,R,t0,_,rfl,he,ek,fun dx t' n=>k dx t' n⟩
theorem Gh:aS ["self"] ["self"] (ay (mem 5 0)):={}
theorem Gi (T:Txt K mg){A:dZ}(G:jz K mg A):Ih P w K mg base 2 "NoBill" A.pK A.refusal "no bill":=by
 obtain⟨f,fd,F,hi,ht⟩:=G.Ga
 obtain⟨f0,Om,F0,ik⟩:=G.gw
 refine⟨G.F6,G.xC,G.F9,f,fd,hi,ht,?_,F.binds (fun _ _ _ _ _ _ us hl=>match us,hl with|[_],_=>rfl)⟩
 refine lY (k:=1) F Gh (fun vs H Q E h=>?_) (fun cX A' outer s H vs Q E hr h=>?_)
 ·obtain⟨e,C,R,t0,rfl,_⟩:=h
  rfl
 ·obtain⟨e,C,R,t0,rfl,he,ek,k⟩:=h
  refine⟨_,(av (bM (je ik (gx T F0) hr (F0.binds (fun _ _ _ _ _ _ us hl=>match us,hl with|[_,_],_=>rfl)) rfl G.fS (aa (pv 0) (aa aR ak))))),?_⟩
  exact⟨_,rfl,e,C,R,t0,_,rfl,he,ek,fun dx t' n=>k dx t' n⟩
theorem yT:aS ["self"] ["self"] (ay (mem 6 0)):={}
theorem yU (T:Txt K mg){A:dZ}(G:jz K mg A):Ih P w K mg base 2 "NotTheirs" A.jI A.refusal "not theirs":=by
 obtain⟨f,fd,F,hi,ht⟩:=G.yO
 obtain⟨f0,Om,F0,ik⟩:=G.gw
 refine⟨G.yM,G.qD,G.yN,f,fd,hi,ht,?_,F.binds (fun _ _ _ _ _ _ us hl=>match us,hl with|[_],_=>rfl)⟩
 refine lY (k:=1) F yT (fun vs H Q E h=>?_) (fun cX A' outer s H vs Q E hr h=>?_)
 ·obtain⟨e,C,R,t0,rfl,_⟩:=h
  rfl
 ·obtain⟨e,C,R,t0,rfl,he,ek,k⟩:=h
  refine⟨_,(av (bM (je ik (gx T F0) hr (F0.binds (fun _ _ _ _ _ _ us hl=>match us,hl with|[_,_],_=>rfl)) rfl G.fS (aa (pv 0) (aa aR ak))))),?_⟩
  exact⟨_,rfl,e,C,R,t0,_,rfl,he,ek,fun dx t' n=>k dx t' n⟩
theorem A2:aS ["self"] ["self"] (ay (mem 7 0)):={}
theorem A3 (T:Txt K mg){A:dZ}(G:jz K mg A):Ih P w K mg base 2 "NoAmount" A.iG A.refusal "no amount":=by
 obtain⟨f,fd,F,hi,ht⟩:=G.AV
 obtain⟨f0,Om,F0,ik⟩:=G.gw
 refine⟨G.AS,G.kB,G.AU,f,fd,hi,ht,?_,F.binds (fun _ _ _ _ _ _ us hl=>match us,hl with|[_],_=>rfl)⟩
 refine lY (k:=1) F A2 (fun vs H Q E h=>?_) (fun cX A' outer s H vs Q E hr h=>?_)
 ·obtain⟨e,C,R,t0,rfl,_⟩:=h
  rfl
 ·obtain⟨e,C,R,t0,rfl,he,ek,k⟩:=h
  refine⟨_,(av (bM (je ik (gx T F0) hr (F0.binds (fun _ _ _ _ _ _ us hl=>match us,hl with|[_,_],_=>rfl)) rfl G.fS (aa (pv 0) (aa aR ak))))),?_⟩
  exact⟨_,rfl,e,C,R,t0,_,rfl,he,ek,fun dx t' n=>k dx t' n⟩
theorem A4:aS ["self"] ["self"] (ay (mem 8 0)):={}
theorem A5 (T:Txt K mg){A:dZ}(G:jz K mg A):Ih P w K mg base 2 "TooEarly" A.tooEarly A.refusal "too early":=by
 obtain⟨f,fd,F,hi,ht⟩:=G.AY
 obtain⟨f0,Om,F0,ik⟩:=G.gw
 refine⟨G.AW,G.sG,G.AX,f,fd,hi,ht,?_,F.binds (fun _ _ _ _ _ _ us hl=>match us,hl with|[_],_=>rfl)⟩
 refine lY (k:=1) F A4 (fun vs H Q E h=>?_) (fun cX A' outer s H vs Q E hr h=>?_)
 ·obtain⟨e,C,R,t0,rfl,_⟩:=h
  rfl
 ·obtain⟨e,C,R,t0,rfl,he,ek,k⟩:=h
  refine⟨_,(av (bM (je ik (gx T F0) hr (F0.binds (fun _ _ _ _ _ _ us hl=>match us,hl with|[_,_],_=>rfl)) rfl G.fS (aa (pv 0) (aa aR ak))))),?_⟩
  exact⟨_,rfl,e,C,R,t0,_,rfl,he,ek,fun dx t' n=>k dx t' n⟩
theorem C1:aS ["self"] ["self"] (ay (mem 9 0)):={}
theorem C2 (T:Txt K mg){A:dZ}(G:jz K mg A):Ih P w K mg base 2 "TooMuch" A.tooMuch A.refusal "too much":=by
 obtain⟨f,fd,F,hi,ht⟩:=G.CY
 obtain⟨f0,Om,F0,ik⟩:=G.gw
 refine⟨G.uR,G.pL,G.CW,f,fd,hi,ht,?_,F.binds (fun _ _ _ _ _ _ us hl=>match us,hl with|[_],_=>rfl)⟩
 refine lY (k:=1) F C1 (fun vs H Q E h=>?_) (fun cX A' outer s H vs Q E hr h=>?_)
 ·obtain⟨e,C,R,t0,rfl,_⟩:=h
  rfl
 ·obtain⟨e,C,R,t0,rfl,he,ek,k⟩:=h
  refine⟨_,(av (bM (je ik (gx T F0) hr (F0.binds (fun _ _ _ _ _ _ us hl=>match us,hl with|[_,_],_=>rfl)) rfl G.fS (aa (pv 0) (aa aR ak))))),?_⟩
  exact⟨_,rfl,e,C,R,t0,_,rfl,he,ek,fun dx t' n=>k dx t' n⟩
theorem yV:aS ["self"] ["self"] (ay (mem 10 0)):={}
theorem yW (T:Txt K mg){A:dZ}(G:jz K mg A):Ih P w K mg base 2 "NoSetting" A.jJ A.refusal "no setting":=by
 obtain⟨f,fd,F,hi,ht⟩:=G.yR
 obtain⟨f0,Om,F0,ik⟩:=G.gw
 refine⟨G.yP,G.qE,G.yQ,f,fd,hi,ht,?_,F.binds (fun _ _ _ _ _ _ us hl=>match us,hl with|[_],_=>rfl)⟩
 refine lY (k:=1) F yV (fun vs H Q E h=>?_) (fun cX A' outer s H vs Q E hr h=>?_)
 ·obtain⟨e,C,R,t0,rfl,_⟩:=h
  rfl
 ·obtain⟨e,C,R,t0,rfl,he,ek,k⟩:=h
  refine⟨_,(av (bM (je ik (gx T F0) hr (F0.binds (fun _ _ _ _ _ _ us hl=>match us,hl with|[_,_],_=>rfl)) rfl G.fS (aa (pv 0) (aa aR ak))))),?_⟩
  exact⟨_,rfl,e,C,R,t0,_,rfl,he,ek,fun dx t' n=>k dx t' n⟩
theorem Gj:aS ["self"] ["self"] (ay (mem 11 0)):={}
theorem Gk (T:Txt K mg){A:dZ}(G:jz K mg A):Ih P w K mg base 2 "Needed" A.iY A.refusal "needed":=by
 obtain⟨f,fd,F,hi,ht⟩:=G.Gd
 obtain⟨f0,Om,F0,ik⟩:=G.gw
 refine⟨G.xD,G.xE,G.Gb,f,fd,hi,ht,?_,F.binds (fun _ _ _ _ _ _ us hl=>match us,hl with|[_],_=>rfl)⟩
 refine lY (k:=1) F Gj (fun vs H Q E h=>?_) (fun cX A' outer s H vs Q E hr h=>?_)
 ·obtain⟨e,C,R,t0,rfl,_⟩:=h
  rfl
 ·obtain⟨e,C,R,t0,rfl,he,ek,k⟩:=h
  refine⟨_,(av (bM (je ik (gx T F0) hr (F0.binds (fun _ _ _ _ _ _ us hl=>match us,hl with|[_,_],_=>rfl)) rfl G.fS (aa (pv 0) (aa aR ak))))),?_⟩
  exact⟨_,rfl,e,C,R,t0,_,rfl,he,ek,fun dx t' n=>k dx t' n⟩
def oK (rc rb:Rw)(b:Nat):Bool:=if rc.c= -1 then decide (rc.aN=rb.aN) else decide (rc.c=(b:Int))
def EX (E:XK)(C:Addr)(txt:Str)(H:Hp):Prop:= ∀(dx:Addr) (H':Hp),aG H H'->H dx=none->H' dx=some (.xd [("text",.str txt)])->E (.ref C) (some dx) H'
theorem EX.at {E:XK}{C dx:Addr}{txt:Str}{H:Hp}(h:EX E C txt H)(n:H dx=none):E (.ref C) (some dx) (upd H dx (.xd [("text",.str txt)])):=h dx _ (aG.new n) n ag
def tM (A:dZ):Sp:=fun vs H Q E=> ∃a:Int,vs=[.int a]/\(1<=a->Q .en H)/\(a < 1->EX E A.iG "no amount" H)
theorem tj:aS ["amount"] ["amount"] (ay (top 26)):={}
theorem jY (T:Txt K mg){A:dZ}(G:jz K mg A):uS P w K mg base "check_amount" 4 ["amount"] (tM A):=by
 refine Ol (k:=3) T.uL tj (fun f cX A' outer s H vs Q E hr me h=>?_)
 ·obtain⟨a,rfl,k1,k2⟩:=h
  refine⟨_,(av (bV (a8 jN (pv 0) aj (ba _)) (av (jU me (A3 T G) hr.h rfl rfl)) bp)),?_⟩
  refine⟨_,rfl,_,_,rfl,rfl,_,rfl,cI (fun z=>?_) (fun z=>?_)⟩
  ·exact fun dx n=>(k2 (aZ z)).at n
  ·exact k1 (by have: ¬ a < 1:=fun q=>z (aM q); lia)
def C3 (A:dZ):Sp:=fun vs H Q _=> ∃(p q:Addr) (c b:Nat) (rc rb:Rw),vs=[.ref p,.ref q]/\eu H p A.d8 (eY c rc)/\eu H q A.dQ (fv b rb)/\Q (.bl (oK rc rb b)) H
theorem Ln:aS ["credit","bill"] ["credit","bill"] (ay (top 15)):={}
theorem IG (T:Txt K mg){A:dZ}(G:jz K mg A):fe P w K mg base "fits" 1 ["credit","bill"] (C3 A):=by
 refine T.Ob.fM (k:=0) Ln (fun f cX A' outer s H vs Q E hr h=>?_)
 ·obtain⟨p,q,c,b,rc,rb,rfl,⟨dp,hp⟩,⟨dq,hq⟩,k⟩:=h
  refine⟨_,(ah (bV (xZ (Hd (b9 (pv 0) rfl)))
(av (a9 (eQ dg (b9 (pv 0) rfl) (b9 (pv 1) rfl) (ba _))))
bp)
(av (a9 (eQ dg (b9 (pv 0) rfl) (b9 (pv 1) rfl) (ba _))))),?_⟩
  have fo:=Ld c rc
  refine⟨_,rfl,p,_,dp,_,_,rfl,hp,G.df,G.jX,fo,?_⟩
  by_cases z:rc.c= -1
  ·have e:sE rc.c= .en:=a7 z
   refine⟨true,by rw[e]; rfl,fC ?_⟩
   refine⟨_,rfl,p,_,dp,_,_,rfl,hp,G.df,G.kP,IC c rc,_,rfl,q,_,dq,_,_,rfl,hq,G.d9,G.kC,CU b rb,rfl,?_⟩
   have e2:oK rc rb b=decide (V.str rc.aN=V.str rb.aN):=by
    unfold oK
    rw[a7 z]
    exact mq.mpr ⟨fun h=>by rw[h],fun h=>by injection h⟩
   rw[e2] at k
   exact k
  ·have e:sE rc.c= .int rc.c:=aO z
   refine⟨false,by rw[e]; rfl,cg ?_⟩
   rw[e] at fo
   refine⟨_,rfl,p,_,dp,_,_,rfl,hp,G.df,G.jX,fo,_,rfl,q,_,dq,_,_,rfl,hq,G.d9,G.eO,lq b rb,rfl,?_⟩
   have e2:oK rc rb b=decide (V.int rc.c=V.int (b:Int)):=by
    unfold oK
    rw[aO z]
    exact mq.mpr ⟨fun h=>by rw[h],fun h=>by injection h⟩
   rw[e2] at k
   exact k
def IH (A:dZ):Sp:=fun vs H Q _=> ∃(p q:Addr) (c b:Nat) (rc rb:Rw),vs=[.ref p,.ref q]/\eu H p A.d8 (eY c rc)/\eu H q A.dQ (fv b rb)/\Q (.int (if rb.a > rc.a then rb.a else rc.a)) H
theorem uT:aS ["credit","bill"] ["credit","bill"] (ay (top 16)):={}
theorem we (T:Txt K mg){A:dZ}(G:jz K mg A):fe P w K mg base "counts_from" 1 ["credit","bill"] (IH A):=by
 refine T.vT.fM (k:=0) uT (fun f cX A' outer s H vs Q E hr h=>?_)
 ·obtain⟨p,q,c,b,rc,rb,rfl,⟨dp,hp⟩,⟨dq,hq⟩,k⟩:=h
  refine⟨_,(av (a9 (bo (Fh rfl) (by rfl) T.RL boot_max (aa (b9 (pv 0) rfl) (aa (b9 (pv 1) rfl) ak))))),?_⟩
  exact⟨_,rfl,p,_,dp,_,_,rfl,hp,G.df,G.i7,ID c rc,_,rfl,q,_,dq,_,_,rfl,hq,G.d9,G.mU,Oi b rb,_,_,rfl,k⟩
theorem getD_at {α:Type}{xs:List α}{d:α}{i:Nat}(h:i < xs.length):xs.getD i d=xs[i]:=by rw[ai,af h]; rfl
theorem mZ {g:Int->V}{xs:List Int}{i:Nat}(h:i < xs.length):tH (xs.map g) (i:Int)=some (g (xs.getD i 0)):=by
 rw[getD_at h]
 exact cJ (by rw[aD,af h]; rfl)
theorem nV {n j:Nat}(h:j < n):Kt n (j:Int)=some j:=by
 unfold Kt
 rw[if_pos (by lia),if_pos (by lia)]; simp
theorem f7 {H H':Hp}(s:aG H H'): ∀b xs,H b=some (.tup xs)->H' b=some (.tup xs):=fun b xs e=>s _ _ e
theorem l9 {α:Type}{xs:List α}{m:Nat}(h:m < xs.length):xs.take (m + 1)=xs.take m ++ [xs[m]]:=by
 rw[zO,af h]; rfl
theorem RQ (cs:List Int)(lo hi:Option Int): ∃ds:List Int,qp (cs.map V.int) lo hi=ds.map V.int/\ds.length<=cs.length:=by
 unfold qp
 refine⟨_,by rw[← List.map_drop,← List.map_take],?_⟩
 rw[bz,mm]
 lia
theorem yX (x m:Int)(h:0 < m): ∃n:Nat,x % m=(n:Int)/\(n:Int) < m:=by
 have h1:=km x (show m≠0 by lia)
 have h2:=pX x h
 exact⟨(x % m).toNat,by lia,by lia⟩
theorem kE {α:Type}{g:α->V}{xs:List α}{m:Int}{x:Int}(hm:m=(xs.length:Int))(h:0 < m): ∃y∈xs,tH (xs.map g) (x % m)=some (g y):=by
 obtain⟨n,e,hn⟩:=yX x m h
 have hl:n < xs.length:=by lia
 exact⟨xs[n],bJ _,by rw[e]; exact cJ (by rw[aD,af hl]; rfl)⟩
def II:Sp:=fun vs H Q _=> ∃n p m:Int,vs=[.int n,.int p,.int m]/\0 < p/\0 < m/\ ∀r,0<=r->r < m->Q (.int r) H
theorem yY:aS ["_law_number","_law_prime","_law_many"] ["_law_number","_law_prime","_law_many"] (ay (top 44)):={}
theorem A6 (T:Txt K mg):fe P w K mg base "_law_draw" 1 ["_law_number","_law_prime","_law_many"] II:=by
 refine T.AG.fM (k:=0) yY (fun f cX A outer s H vs Q E hr h=>?_)
 ·obtain⟨n,p,m,rfl,hp,hm,k⟩:=h
  refine⟨_,(av (a9 (aV cy (aV cy (aV lM (pv 0) aj) (pv 1)) (pv 2)))),?_⟩
  refine⟨_,rfl,_,_,rfl,rfl,.inr ⟨by decide,by decide⟩,_,rfl,_,_,rfl,rfl,hp,_,rfl,_,_,rfl,rfl,hm,?_⟩
  exact k _ (km _ (by lia)) (pX _ hm)
def A7 (K:PySem.W.Frag):Sp:=fun vs H Q _=> ∃(a:Addr) (cs:List Int),vs=[.ref a]/\bL K H a (cs.map V.int)/\ ∀(pn:Addr) (names:List Str) (H':Hp),aG H H'->H' pn=some (.lst (names.map V.str))->names≠[]->names.length<=6->Q (.ref pn) H'
theorem m8:aS ["_law_cells","_law_spot","_law_made"] ["_law_cells"] (ay (top 47)):={}
theorem wg (T:Txt K mg):fe P w K mg base "_law_people" 1 ["_law_cells"] (A7 K):=by
 refine T.vX.fM (k:=0) m8 (fun f cX A outer s H vs Q E hr h=>?_)
 ·obtain⟨a,cs,rfl,hS,k⟩:=h
  have nd:=m8.nd
  refine⟨_,(ah (sv 1 nd (aV cy (aV jx (bo (rJ rfl) (by rfl) T.Iw boot_sum (aa (qo tI (pv 0) ye (qm aj)) ak)) aj) aj))
(ah (sv 2 nd (bW (aa (bW (aa aR (aa aR (aa aR ak)))) (aa (bW (aa aR (aa aR (aa aR ak)))) ak))))
(ah (bM (fk aJ aH aI bU (pv 2) (aa (bW (aa (aV yq aR aj) (aa (aV tX (aV tX (aV yq aR (pv 1)) aR) (aV yq aR (aV eV aj (pv 1)))) (aa aR ak)))) ak)))
(av (a9 (xl (aV lP (pv 2) (bW (aa (bW (aa aR (aa aR (aa aR (aa aR (aa aR (aa aR ak))))))) ak))) (aV cy (aV jx (bo (rJ rfl) (by rfl) T.Iw boot_sum (aa (qo tI (pv 0) ye (qm aj)) ak)) aj) aj))))))),?_⟩
  refine⟨_,rfl,_,rfl,a,_,rfl,hS,fun p1 n1=>?_⟩
  obtain⟨ds,ed,_⟩:=RQ cs none (some 1)
  rw[ed]
  have s1:aG H (upd H p1 (.lst (ds.map V.int))):=aG.new n1
  refine⟨p1,ds,rfl,bL.of ag,_,_,rfl,rfl,⟨by decide,by decide⟩,_,_,rfl,rfl,(by show(0:Int) < 60; decide),?_⟩
  obtain⟨sp,Ub,yc⟩:=yX (ds.sum / 28) 60 (by decide)
  show _
  generalize upd H p1 (.lst (ds.map V.int))=H1 at s1 ⊢
  refine⟨(by show 3<=sizeLine; decide),fun p2 n2=>⟨(by show 3<=sizeLine; decide),fun p3 n3=>⟨(by show 2<=sizeLine; decide),fun p4 n4=>?_⟩⟩⟩
  have t2:=aG.new (o:= .lst [V.str "ann",.str "",.str "bo"]) n2
  have t3:=aG.new (o:= .lst [V.str "ann",.str "ann lee",.str "Ann"]) n3
  have t4:=aG.new (o:= .lst [V.ref p2,.ref p3]) n4
  have s4:=((s1.trans t2).trans t3).trans t4
  have g2:=(t3.trans t4) _ _ (ag (H:=H1) (a:=p2) (o:= .lst [V.str "ann",.str "",.str "bo"]))
  have g3:=t4 _ _ (ag (H:=upd H1 p2 (.lst [V.str "ann",.str "",.str "bo"])) (a:=p3) (o:= .lst [V.str "ann",.str "ann lee",.str "Ann"]))
  have g4:=ag (H:=upd (upd H1 p2 (.lst [V.str "ann",.str "",.str "bo"])) p3 (.lst [V.str "ann",.str "ann lee",.str "Ann"])) (a:=p4) (o:= .lst [V.ref p2,.ref p3])
  have m4:H p4=none:=((s1.trans t2).trans t3).free n4
  generalize upd (upd (upd H1 p2 (.lst [V.str "ann",.str "",.str "bo"])) p3 (.lst [V.str "ann",.str "ann lee",.str "Ann"])) p4 (.lst [V.ref p2,.ref p3])=H4 at s4 g2 g3 g4 ⊢
  clear t2 t3 t4
  refine⟨_,rfl,.inl ⟨rfl,_,bL.of g4⟩,?_⟩
  refine⟨_,_,rfl,rfl,rfl,(by decide),(by decide),fun z1 hz1=>?_⟩
  refine⟨_,rfl,_,_,rfl,rfl,rfl,(by rw[Ub]; lia),(by rw[Ub]; lia),fun z2 hz2=>?_⟩
  refine⟨_,_,rfl,rfl,dk (i6 (by show z2.length + 1<=_; lia)),?_⟩
  refine⟨_,rfl,_,_,rfl,rfl,_,_,rfl,rfl,rfl,(by rw[Ub]; lia),(by rw[Ub]; lia),fun z3 hz3=>?_⟩
  refine⟨_,_,rfl,rfl,dk (i6 (by
   have:(z2 ++ ("y":Str)).length=z2.length + 1:=by
    show(z2.cps ++ _).size=_
    rw[Array.size_append]; rfl
   rw[this]; lia)),?_⟩
  refine⟨(by show 3<=sizeLine; decide),fun p5 n5=>?_⟩
  generalize (z2 ++ ("y":Str)) ++ z3=z4
  have t5:=aG.new (o:= .lst [V.str z1,.str z4,.str " ~"]) n5
  refine⟨p4,_,_,rfl,rfl,t5 _ _ g4,(by show 2 < sizeLine; decide),?_⟩
  have s5:aG H (upd (upd H4 p5 (.lst [V.str z1,.str z4,.str " ~"])) p4 (.lst ([V.ref p2,.ref p3] ++ [.ref p5]))):=(s4.trans t5).dj m4
  have Wi:p2≠p4:=fun e=>by rw[e,g4] at g2; cases g2
  have Wj:p3≠p4:=fun e=>by rw[e,g4] at g3; cases g3
  have Wk:p5≠p4:=(aL g4 n5).symm
  have j2:upd (upd H4 p5 (.lst [V.str z1,.str z4,.str " ~"])) p4 (.lst ([V.ref p2,.ref p3] ++ [.ref p5])) p2=some (.lst [V.str "ann",.str "",.str "bo"]):=by rw[az Wi]; exact t5 _ _ g2
  have j3:upd (upd H4 p5 (.lst [V.str z1,.str z4,.str " ~"])) p4 (.lst ([V.ref p2,.ref p3] ++ [.ref p5])) p3=some (.lst [V.str "ann",.str "ann lee",.str "Ann"]):=by rw[az Wj]; exact t5 _ _ g3
  have j5:upd (upd H4 p5 (.lst [V.str z1,.str z4,.str " ~"])) p4 (.lst ([V.ref p2,.ref p3] ++ [.ref p5])) p5=some (.lst [V.str z1,.str z4,.str " ~"]):=by rw[az Wk]; exact ag
  have j4:upd (upd H4 p5 (.lst [V.str z1,.str z4,.str " ~"])) p4 (.lst ([V.ref p2,.ref p3] ++ [.ref p5])) p4=some (.lst ([V.ref p2,.ref p3] ++ [.ref p5])):=ag
  generalize upd (upd H4 p5 (.lst [V.str z1,.str z4,.str " ~"])) p4 (.lst ([V.ref p2,.ref p3] ++ [.ref p5]))=H5 at s5 j2 j3 j4 j5 ⊢
  clear t5
  refine⟨_,rfl,?_⟩
  refine⟨(by show 6<=sizeLine; decide),fun p6 n6=>⟨(by show 1<=sizeLine; decide),fun p7 n7=>?_⟩⟩
  have t6:=aG.new (o:= .lst [V.str "ann",.str "",.str "bo",.str "Cy ~",.str "ann ",.str "dee"]) n6
  have t7:=aG.new (o:= .lst [V.ref p6]) n7
  have YG:=t6.trans t7
  have j6:=t7 _ _ (ag (H:=H5) (a:=p6) (o:= .lst [V.str "ann",.str "",.str "bo",.str "Cy ~",.str "ann ",.str "dee"]))
  refine⟨p4,p7,_,_,rfl,rfl,YG _ _ j4,ag,(by show 4<=sizeLine; decide),fun p8 n8=>?_⟩
  have t8:=aG.new (o:= .lst (([V.ref p2,.ref p3] ++ [.ref p5]) ++ [.ref p6])) n8
  have YH:=YG.trans t8
  have s8:=s5.trans YH
  refine⟨_,rfl,_,rfl,a,_,rfl,s8.seq hS,fun p9 n9=>?_⟩
  rw[ed]
  have t9:=aG.new (o:= .lst (ds.map V.int)) n9
  refine⟨p9,ds,rfl,bL.of ag,_,_,rfl,rfl,⟨by decide,by decide⟩,_,_,rfl,rfl,(by show(0:Int) < 4; decide),?_⟩
  obtain⟨r,er,Wl⟩:=yX (ds.sum / 7) 4 (by decide)
  have Wm:r < 4:=by lia
  have fin: ∀(pn:Addr) (names:List Str),H5 pn=some (.lst (names.map V.str))∨upd (upd H5 p6 (.lst [V.str "ann",.str "",.str "bo",.str "Cy ~",.str "ann ",.str "dee"])) p7 (.lst [V.ref p6]) pn=some (.lst (names.map V.str))->names≠[]->names.length<=6->Q (.ref pn) _:=fun pn names h h1 h2=>
   k pn names _ (s8.trans t9) (by
    rcases h with h|h
    ·exact(YH.trans t9) _ _ h
    ·exact(t8.trans t9) _ _ h) h1 h2
  have Uc:=t9 _ _ (ag (H:=upd (upd H5 p6 (.lst [V.str "ann",.str "",.str "bo",.str "Cy ~",.str "ann ",.str "dee"])) p7 (.lst [V.ref p6])) (a:=p8) (o:= .lst (([V.ref p2,.ref p3] ++ [.ref p5]) ++ [.ref p6])))
  match r,Wm,er with
  |0,_,er=>exact⟨p8,_,_,.ref p2,rfl,rfl,bL.of Uc,by show tH _ (ds.sum / 7 % 4)=_; rw[er]; rfl,fin p2 [_,_,_] (.inl j2) (by simp) (by simp)⟩
  |1,_,er=>exact⟨p8,_,_,.ref p3,rfl,rfl,bL.of Uc,by show tH _ (ds.sum / 7 % 4)=_; rw[er]; rfl,fin p3 [_,_,_] (.inl j3) (by simp) (by simp)⟩
  |2,_,er=>exact⟨p8,_,_,.ref p5,rfl,rfl,bL.of Uc,by show tH _ (ds.sum / 7 % 4)=_; rw[er]; rfl,fin p5 [_,_,_] (.inl j5) (by simp) (by simp)⟩
  |3,_,er=>exact⟨p8,_,_,.ref p6,rfl,rfl,bL.of Uc,by show tH _ (ds.sum / 7 % 4)=_; rw[er]; rfl,fin p6 [_,_,_,_,_,_] (.inr j6) (by simp) (by simp)⟩
  |r + 4,h,_=>lia
theorem at4 (a b c d x:Int): ∃y,tH [V.int a,V.int b,V.int c,V.int d] (x % 4)=some (V.int y):=by
 obtain⟨y,_,h⟩:=kE (g:=V.int) (xs:=[a,b,c,d]) (m:=4) (x:=x) rfl (by decide)
 exact⟨y,h⟩
theorem YI (a b c x:Int): ∃y,(y=a∨y=b∨y=c)/\tH [V.int a,V.int b,V.int c] (x % 3)=some (V.int y):=by
 obtain⟨y,hy,h⟩:=kE (g:=V.int) (xs:=[a,b,c]) (m:=3) (x:=x) rfl (by decide)
 exact⟨y,by simpa using hy,h⟩
theorem A8 {x:Int}(h:x<=1000000000):x<=uE:=D5 (lJ h (by decide +kernel))
theorem Wn (a b x:Int): ∃y,(y=a∨y=b)/\tH [V.int a,V.int b] (x % 2)=some (V.int y):=by
 obtain⟨y,hy,h⟩:=kE (g:=V.int) (xs:=[a,b]) (m:=2) (x:=x) rfl (by decide)
 exact⟨y,by simpa using hy,h⟩
def A9 (K:PySem.W.Frag):Sp:=fun vs H Q _=> ∃(a:Addr) (cs:List Int) (i:Nat),vs=[.ref a,.int i]/\bL K H a (cs.map V.int)/\i < cs.length/\ ∀(p:Addr) (aN:Str) (day dO:Int) (H':Hp),aG H H'->H' p=some (.tup [.str aN,.int day,.int dO])->day<=uE->Q (.ref p) H'
theorem m9:aS ["_law_cells","_law_k","_law_cell","_law_rest","_law_names","_law_who","_law_day","_law_amount"] ["_law_cells","_law_k"] (ay (top 48)):={}
theorem wj (T:Txt K mg):fe P w K mg base "_law_penned" 2 ["_law_cells","_law_k"] (A9 K):=by
 have wm:fe P w K mg base "_law_people" 1 ["_law_cells"] (A7 K):=wg T
 have ng:fe P w K mg base "_law_draw" 1 ["_law_number","_law_prime","_law_many"] II:=A6 T
 refine T.vY.fM (k:=1) m9 (fun f cX A outer s H vs Q E hr h=>?_)
 ·obtain⟨a,cs,i,rfl,hS,hi,k⟩:=h
  have nd:=m9.nd
  refine⟨_,(ah (sv 2 nd (xl (pv 0) (pv 1)))
(ah (sv 3 nd (aV jx (pv 2) aj))
(ah (sv 4 nd (fc wm hr (aa (pv 0) ak)))
(ah (sv 5 nd (xl (pv 4) (aV cy (aV dM (pv 3) (pv 1)) (bo bq (by rfl) T.eT bu (aa (pv 4) ak)))))
(ah (sv 6 nd (aV eV (fc ng hr (aa (aV dM (pv 2) (aV lM aj (pv 1))) (aa aj (aa aj ak)))) aj))
(ah (sv 7 nd (aV dM aj (fc ng hr (aa (aV dM (pv 2) (aV lM aj (pv 1))) (aa aj (aa aj ak))))))
(jy (bV (a8 dg (aV cy (pv 2) aj) aj (ba _))
(av (sv 7 nd (aV dM aj (aV lM (fc ng hr (aa (aV dM (pv 2) (aV lM aj (pv 1))) (aa aj (aa aj ak)))) aj))))
bp)
(jy (bV (a8 dg (aV cy (pv 2) aj) aj (ba _))
(av (sv 7 nd (aV dM aj (aV cy (pv 2) (aV eV (aV KJ (aV jn aj aj) (aV jn aj aj)) aj)))))
bp)
(jy (bV (a8 dg (aV cy (pv 2) aj) aj (ba _))
(av (sv 7 nd (xl (bW (aa aj (aa (oH kM aj) (aa (aV jn aj aj) (aa (aV eV aj (aV cy (pv 2) (aV jn aj aj))) ak))))) (aV cy (pv 3) aj))))
bp)
(jy (bV (a8 dg (aV cy (pv 2) aj) aj (ba _))
(av (sv 6 nd (xl (bW (aa (aV jn aj aj) (aa (oH kM (aV jn aj aj)) (aa (aV eV (aV cy (pv 2) aj) aj) ak)))) (aV cy (pv 3) aj))))
bp)
(jy (bV (a8 dg (aV cy (pv 2) aj) aj (ba _))
(av (sv 6 nd (aV lM (aV cy (pv 2) (aV jn aj aj)) (xl (bW (aa aj (aa (oH kM aj) ak))) (aV cy (pv 1) aj)))))
bp)
(av (a9 (dB (aa (pv 5) (aa (pv 6) (aa (pv 7) ak))))))))))))))))),?_⟩
  refine⟨_,rfl,_,rfl,a,_,_,.int (cs.getD i 0),rfl,rfl,hS,mZ hi,?_⟩
  generalize cs.getD i 0=cell
  refine⟨_,rfl,_,_,rfl,rfl,⟨by decide,by decide⟩,?_⟩
  refine⟨_,rfl,a,cs,rfl,hS,fun pn names H1 s1 Oo hn0 hn6=>?_⟩
  have Ud:0 < names.length:=List.length_pos_iff.mpr hn0
  obtain⟨aN,_,RS⟩:=kE (g:=V.str) (xs:=names) (m:=((names.map V.str).length:Int)) (x:=cell / 16 + (i:Int)) (by rw[ae]) (by rw[ae]; lia)
  refine⟨_,rfl,_,rfl,_,rfl,_,_,rfl,rfl,_,rfl,pn,_,rfl,.inl (bL.of Oo),_,_,rfl,rfl,(by rw[ae]; show(0:Int) < _; lia),pn,_,_,.str aN,rfl,rfl,bL.of Oo,RS,?_⟩
  refine⟨_,rfl,_,rfl,_,_,rfl,rfl,.inl ⟨by decide,by decide⟩,_,_,rfl,rfl,_,_,_,rfl,by decide,by decide,fun r1 _ My=>⟨_,_,rfl,rfl,?_⟩⟩
  refine⟨_,rfl,_,rfl,_,_,rfl,rfl,.inl ⟨by decide,by decide⟩,_,_,rfl,rfl,_,_,_,rfl,by decide,by decide,fun r2 _ _=>⟨_,_,rfl,rfl,?_⟩⟩
  refine⟨fun σ' H'=> ∃day dO:Int,σ'=[some (.ref a),some (.int i),some (.int cell),some (.int (cell / 16)),some (.ref pn),some (.str aN),some (.int day),some (.int dO)]/\aG H H'/\day<=uE,?_,?_⟩
  ·refine⟨_,rfl,_,_,rfl,rfl,(by show(0:Int) < 7; decide),rfl,_,rfl,cI (fun c=>?_) (fun c=>⟨_,_,rfl,s1,A8 (by lia)⟩)⟩
   refine⟨_,rfl,_,rfl,_,_,rfl,rfl,.inl ⟨by decide,by decide⟩,_,_,rfl,rfl,_,_,_,rfl,by decide,by decide,fun r3 _ _=>⟨_,_,rfl,rfl,.inr ⟨by decide,by decide⟩,_,_,rfl,rfl,?_⟩⟩
   exact⟨_,_,rfl,s1,A8 (by lia)⟩
  rintro σ' H2 ⟨day,dO,rfl,s2,oB⟩
  clear Oo RS s1
  refine⟨fun σ' H'=> ∃day dO:Int,σ'=[some (.ref a),some (.int i),some (.int cell),some (.int (cell / 16)),some (.ref pn),some (.str aN),some (.int day),some (.int dO)]/\aG H H'/\day<=uE,?_,?_⟩
  ·refine⟨_,rfl,_,_,rfl,rfl,(by show(0:Int) < 41; decide),rfl,_,rfl,cI (fun c=>?_) (fun c=>⟨_,_,rfl,s2,oB⟩)⟩
   refine⟨_,rfl,_,_,rfl,rfl,⟨by decide,by decide,by decide⟩,_,_,rfl,rfl,⟨by decide,by decide,by decide⟩,_,_,rfl,rfl,⟨by decide +kernel,by decide +kernel⟩,_,_,rfl,rfl,_,_,rfl,rfl,(by show(0:Int) < _; decide +kernel),_,_,rfl,rfl,?_⟩
   exact⟨_,_,rfl,s2,oB⟩
  rintro σ' H3 ⟨day,dO,rfl,s3,oB⟩
  refine⟨fun σ' H'=> ∃day dO:Int,σ'=[some (.ref a),some (.int i),some (.int cell),some (.int (cell / 16)),some (.ref pn),some (.str aN),some (.int day),some (.int dO)]/\aG H H'/\day<=uE,?_,?_⟩
  ·refine⟨_,rfl,_,_,rfl,rfl,(by show(0:Int) < 41; decide),rfl,_,rfl,cI (fun c=>?_) (fun c=>⟨_,_,rfl,s3,oB⟩)⟩
   refine⟨_,rfl,_,_,rfl,rfl,⟨by decide,by decide,by decide⟩,_,rfl,_,_,rfl,rfl,⟨by decide,by decide,by decide⟩,_,_,rfl,rfl,(by show(0:Int) < _; decide +kernel),_,_,rfl,rfl,(by show 4<=sizeLine; decide),fun p4 n4=>?_⟩
   obtain⟨y,hy⟩:=at4 0 (-1) (10 ^ (12:Int).toNat) (0 - cell % 10 ^ (60:Int).toNat) (cell / 16)
   refine⟨_,rfl,_,_,rfl,rfl,(by show(0:Int) < 4; decide),p4,_,_,.int y,rfl,rfl,bL.of ag,hy,?_⟩
   exact⟨_,_,rfl,s3.trans (aG.new n4),oB⟩
  rintro σ' H4 ⟨day,dO,rfl,s4,oB⟩
  refine⟨fun σ' H'=> ∃day dO:Int,σ'=[some (.ref a),some (.int i),some (.int cell),some (.int (cell / 16)),some (.ref pn),some (.str aN),some (.int day),some (.int dO)]/\aG H H'/\day<=uE,?_,?_⟩
  ·refine⟨_,rfl,_,_,rfl,rfl,(by show(0:Int) < 43; decide),rfl,_,rfl,cI (fun c=>?_) (fun c=>⟨_,_,rfl,s4,oB⟩)⟩
   refine⟨_,_,rfl,rfl,⟨by decide,by decide,by decide⟩,_,_,rfl,rfl,⟨by decide,by decide,by decide⟩,_,rfl,_,rfl,_,_,rfl,rfl,(by show(0:Int) < 2001; decide),_,_,rfl,rfl,(by show 3<=sizeLine; decide),fun p4 n4=>?_⟩
   obtain⟨y,hy3,hy⟩:=YI (10 ^ (9:Int).toNat) (-(10 ^ (9:Int).toNat)) (cell % 2001 - 1000) (cell / 16)
   refine⟨_,rfl,_,_,rfl,rfl,(by show(0:Int) < 3; decide),p4,_,_,.int y,rfl,rfl,bL.of ag,hy,?_⟩
   refine⟨_,_,rfl,s4.trans (aG.new n4),?_⟩
   rcases hy3 with rfl|rfl|rfl
   ·exact A8 (by decide +kernel)
   ·exact A8 (by decide +kernel)
   ·exact A8 (by lia)
  rintro σ' H5 ⟨day,dO,rfl,s5,oB⟩
  refine⟨fun σ' H'=> ∃day dO:Int,σ'=[some (.ref a),some (.int i),some (.int cell),some (.int (cell / 16)),some (.ref pn),some (.str aN),some (.int day),some (.int dO)]/\aG H H'/\day<=uE,?_,?_⟩
  ·refine⟨_,rfl,_,_,rfl,rfl,(by show(0:Int) < 43; decide),rfl,_,rfl,cI (fun c=>?_) (fun c=>⟨_,_,rfl,s5,oB⟩)⟩
   refine⟨_,rfl,_,_,rfl,rfl,⟨by decide,by decide,by decide⟩,_,_,rfl,rfl,(by show(0:Int) < _; decide +kernel),_,rfl,(by show 2<=sizeLine; decide),fun p4 n4=>?_⟩
   obtain⟨y,Wo,hy⟩:=Wn 1 (-1) (i:Int)
   refine⟨_,rfl,_,_,rfl,rfl,(by show(0:Int) < 2; decide),p4,_,_,.int y,rfl,rfl,bL.of ag,hy,_,_,rfl,rfl,.inr (by rcases Wo with rfl|rfl <;> exact⟨by decide,by decide⟩),?_⟩
   refine⟨_,_,rfl,s5.trans (aG.new n4),?_⟩
   have m1:0<=cell % 10 ^ (60:Int).toNat:=km _ (by decide +kernel)
   have m2:cell % 10 ^ (60:Int).toNat < 10 ^ 60:=pX _ (by decide +kernel)
   have m3:(0:Int)<=10 ^ 60:=by decide +kernel
   refine D5 ?_
   generalize (10:Int) ^ 60=b60 at m2 m3 ⊢
   rcases Wo with rfl|rfl <;> lia
  rintro σ' H6 ⟨day,dO,rfl,s6,oB⟩
  refine⟨_,rfl,_,rfl,_,rfl,(by show 3<=sizeLine; decide),fun p n=>?_⟩
  exact k p aN day dO _ (s6.trans (aG.new n)) ag oB
theorem f9 {H:Hp}{a:Addr}{o o':HO}:upd (upd H a o) a o'=upd H a o':=by
 funext b
 by_cases h:b=a
 ·rw[h,ag,ag]
 ·rw[az h,az h,az h]
theorem pl {f:Str}{v:V}{fs:List (Str×V)}{n:Nat}(h:fs.length<=n):(eD f v fs).length<=n + 1:=a0 (mF f v fs) (Nat.add_le_add_right h 1)
theorem Ba:([]:List (Str×V)).length<=0:=aB _
theorem lt1000 {fs:List (Str×V)}{n:Nat}(h:fs.length<=n)(k:n < 1000):fs.length < 1000:=pW h k
theorem IJ (n:Nat)(r:Rw):eD "amount" (.int r.c) (eD "due" (.int r.b) (eD "day" (.int r.a) (eD "who" (.str r.aN) (eD "number" (.int n) []))))=fv n r:=by rfl
theorem IK (n:Nat)(r:Rw):eD "only" (sE r.c) (eD "amount" (.int r.b) (eD "day" (.int r.a) (eD "who" (.str r.aN) (eD "number" (.int n) []))))=eY n r:=by rfl
def Ei (A:dZ):Sp:=fun vs H Q _=> ∃(x dx:Addr) (n:Nat) (r:Rw),vs=[.ref x,.int n,.str r.aN,.int r.a,.int r.b,.int r.c]/\H x=some (.ins A.dQ dx [])/\Q .en (upd H x (.ins A.dQ dx (fv n r)))
theorem Lo:aS ["self","number","who","day","due","amount"] ["self","number","who","day","due","amount"] (ay (mem 13 0)):={}
theorem Oq {A:dZ}(G:jz K mg A):tf P w K mg base "Bill" A.dQ 1 ["self","number","who","day","due","amount"] (Ei A):=by
 refine Lm (k:=0) G.Lg G.Lf Lo (fun f cX A' outer s H vs Q E hr h=>?_)
 ·obtain⟨x,dx,n,r,rfl,hx,k⟩:=h
  refine⟨_,(ah (fQ (pv 0) (pv 1) rfl)
(ah (fQ (pv 0) (pv 2) rfl)
(ah (fQ (pv 0) (pv 3) rfl)
(ah (fQ (pv 0) (pv 4) rfl)
(av (fQ (pv 0) (pv 5) rfl)))))),?_⟩
  refine⟨_,rfl,_,rfl,x,_,dx,_,rfl,hx,G.d9,G.eO,lt1000 Ba (by decide),?_⟩
  refine⟨_,rfl,_,rfl,x,_,dx,_,rfl,ag,G.d9,G.kC,lt1000 (pl Ba) (by decide),?_⟩
  refine⟨_,rfl,_,rfl,x,_,dx,_,rfl,ag,G.d9,G.mU,lt1000 (pl (pl Ba)) (by decide),?_⟩
  refine⟨_,rfl,_,rfl,x,_,dx,_,rfl,ag,G.d9,G.mV,lt1000 (pl (pl (pl Ba))) (by decide),?_⟩
  refine⟨_,rfl,_,rfl,x,_,dx,_,rfl,ag,G.d9,G.mW,lt1000 (pl (pl (pl (pl Ba)))) (by decide),?_⟩
  rw[f9,f9,f9,f9,IJ]
  exact k
def Ej (A:dZ):Sp:=fun vs H Q _=> ∃(x dx:Addr) (n:Nat) (r:Rw),vs=[.ref x,.int n,.str r.aN,.int r.a,.int r.b,sE r.c]/\H x=some (.ins A.d8 dx [])/\Q .en (upd H x (.ins A.d8 dx (eY n r)))
theorem Gm:aS ["self","number","who","day","amount","only"] ["self","number","who","day","amount","only"] (ay (mem 14 0)):={}
theorem IL {A:dZ}(G:jz K mg A):tf P w K mg base "Credit" A.d8 1 ["self","number","who","day","amount","only"] (Ej A):=by
 refine Lm (k:=0) G.Gf G.Ge Gm (fun f cX A' outer s H vs Q E hr h=>?_)
 ·obtain⟨x,dx,n,r,rfl,hx,k⟩:=h
  refine⟨_,(ah (fQ (pv 0) (pv 1) rfl)
(ah (fQ (pv 0) (pv 2) rfl)
(ah (fQ (pv 0) (pv 3) rfl)
(ah (fQ (pv 0) (pv 4) rfl)
(av (fQ (pv 0) (pv 5) rfl)))))),?_⟩
  refine⟨_,rfl,_,rfl,x,_,dx,_,rfl,hx,G.df,G.eM,lt1000 Ba (by decide),?_⟩
  refine⟨_,rfl,_,rfl,x,_,dx,_,rfl,ag,G.df,G.kP,lt1000 (pl Ba) (by decide),?_⟩
  refine⟨_,rfl,_,rfl,x,_,dx,_,rfl,ag,G.df,G.i7,lt1000 (pl (pl Ba)) (by decide),?_⟩
  refine⟨_,rfl,_,rfl,x,_,dx,_,rfl,ag,G.df,G.lz,lt1000 (pl (pl (pl Ba))) (by decide),?_⟩
  refine⟨_,rfl,_,rfl,x,_,dx,_,rfl,ag,G.df,G.jX,lt1000 (pl (pl (pl (pl Ba)))) (by decide),?_⟩
  rw[f9,f9,f9,f9,IK]
  exact k
def C4 (A:dZ):Sp:=fun vs H Q _=> ∃(pw:Addr) (S:Bk) (f:eL) (c b:Nat) (x:Int),vs=[.ref pw,.int c,.int b,.int x]/\dG A H pw S f/\c < S.credits.length/\b < S.aC.length/\S.made.length < sizeLine/\ ∀H',Frame f.fp H H'->dG A H' pw (S.put c b x) f->Q .en H'
theorem Bb:aS ["self","credit_number","bill_number","amount"] ["self","credit_number","bill_number","amount"] (ay (mem 25 8)):={}
theorem Lp {rows:List Rw}{i:Nat}(h:i < rows.length):tH (rows.map fun r=>V.int r.d) (i:Int)=some (.int (rows.getD i default).d):=cJ (by
 rw[aD,ai,af h]; rfl)
theorem Mz {A:dZ}(G:jz K mg A):gW rE P w K mg base A.work "put" 1 ["self","credit_number","bill_number","amount"] (C4 A):=by
 refine Ll (k:=0) G.AZ G.bE Bb (fun f cX A' outer s H vs Q E hr h=>?_)
 ·obtain⟨pw,S,g,c,b,x,rfl,hW,hc,hb,hz,k⟩:=h
  obtain⟨dw,hw⟩:=hW.obj
  obtain⟨ms,m1,m2⟩:=hW.hm
  obtain⟨e1,e2,e3,e4,e5,e6,e7,e8,e9,Mx⟩:=eL.ne hW.nd
  have nw: ∀q∈g.fp,pw≠q:=fun q hq z=>hW.ins hW.obj (z▸hq)
  have w3:=nw g.pl (by simp[eL.fp])
  have w4:=nw g.pf (by simp[eL.fp])
  refine⟨_,(ah (kK (aV eV (xl (b9 (pv 0) rfl) (pv 1)) (pv 3)) (mE (b9 (pv 0) rfl) (pv 1) set_list))
(ah (kK (aV eV (xl (b9 (pv 0) rfl) (pv 2)) (pv 3)) (mE (b9 (pv 0) rfl) (pv 2) set_list))
(av (bM (fk aJ aH aI bU (b9 (pv 0) rfl) (aa (dB (aa (pv 1) (aa (pv 2) (aa (pv 3) ak)))) ak)))))),?_⟩
  refine⟨_,rfl,pw,_,dw,_,_,rfl,hw,G.bE,G.fA,ly g,_,rfl,g.pf,_,_,_,rfl,rfl,bL.of hW.hf,Lp hc,_,rfl,_,_,rfl,rfl,?_⟩
  refine⟨_,rfl,pw,_,dw,_,_,rfl,hw,G.bE,G.fA,ly g,_,rfl,g.pf,_,_,c,rfl,rfl,hW.hf,nV (by rw[ae]; exact hc),?_⟩
  have RT:upd H g.pf (.lst ((S.credits.map fun r=>V.int r.d).set c (.int ((S.cr c).d - x)))) pw=some (.ins A.work dw (lu g)):=by rw[az w4]; exact hw
  have RU:upd H g.pf (.lst ((S.credits.map fun r=>V.int r.d).set c (.int ((S.cr c).d - x)))) g.pl=some (.lst (S.aC.map fun r=>V.int r.d)):=by rw[az e8]; exact hW.hl
  refine⟨_,rfl,pw,_,dw,_,_,rfl,RT,G.bE,G.fz,lx g,_,rfl,g.pl,_,_,_,rfl,rfl,bL.of RU,Lp hb,_,rfl,_,_,rfl,rfl,?_⟩
  refine⟨_,rfl,pw,_,dw,_,_,rfl,RT,G.bE,G.fz,lx g,_,rfl,g.pl,_,_,b,rfl,rfl,RU,nV (by rw[ae]; exact hb),?_⟩
  have MA:upd (upd H g.pf (.lst ((S.credits.map fun r=>V.int r.d).set c (.int ((S.cr c).d - x))))) g.pl (.lst ((S.aC.map fun r=>V.int r.d).set b (.int ((S.bl b).d - x)))) pw=some (.ins A.work dw (lu g)):=by rw[az w3]; exact RT
  have Wq:upd (upd H g.pf (.lst ((S.credits.map fun r=>V.int r.d).set c (.int ((S.cr c).d - x))))) g.pl (.lst ((S.aC.map fun r=>V.int r.d).set b (.int ((S.bl b).d - x)))) g.pm=some (.lst ms):=by rw[az e9.symm,az Mx.symm]; exact m1
  refine⟨_,rfl,pw,_,dw,_,_,rfl,MA,G.bE,G.jA,yL g,.inl ⟨rfl,_,bL.of Wq⟩,_,rfl,_,rfl,_,rfl,(by show 3<=sizeLine; decide),fun p8 n8=>?_⟩
  have n8':H p8=none:=by
   by_cases z1:p8=g.pl
   ·rw[z1,ag] at n8; cases n8
   ·rw[az z1] at n8
    by_cases z2:p8=g.pf
    ·rw[z2,ag] at n8; cases n8
    ·rw[az z2] at n8; exact n8
  refine⟨g.pm,ms,_,rfl,rfl,aG.new n8 _ _ Wq,by rw[← aW m2]; exact hz,?_⟩
  obtain⟨W,F⟩:=hW.put (x:=x) hc hb m1 m2 n8'
  exact k _ F W
end
end eN
namespace L2
open PySem PySem.Spec PySem.W PyProof.Rows
section
variable {A:dZ}{H H':Hp}{pw x:Addr}{S:Bk}{f:eL}{r:Rw}
def eL.il (f:eL)(p:Addr):eL:={f with iD:=f.iD ++ [p]}
def eL.fR (f:eL)(p:Addr):eL:={f with cps:=f.cps ++ [p]}
theorem dG.il (h:dG A H pw S f)(hx:eu H x A.dQ (fv S.aC.length r)):
  dG A (upd (upd H f.pb (.lst (f.iD.map V.ref ++ [.ref x]))) f.pl (.lst ((S.aC.map fun r=>V.int r.d) ++ [.int r.d]))) pw (S.il r) (f.il x)/\Frame f.fp H (upd (upd H f.pb (.lst (f.iD.map V.ref ++ [.ref x]))) f.pl (.lst ((S.aC.map fun r=>V.int r.d) ++ [.int r.d]))):=by
 obtain⟨e1,e2,e3,e4,e5,e6,e7,e8,e9,Mx⟩:=eL.ne h.nd
 have F:Frame f.fp H (upd (upd H f.pb (.lst (f.iD.map V.ref ++ [.ref x]))) f.pl (.lst ((S.aC.map fun r=>V.int r.d) ++ [.int r.d]))):=(Frame.upd (by simp[eL.fp])).tr (Frame.upd (by simp[eL.fp]))
 refine⟨?_,F⟩
 obtain⟨o1,o2,o3⟩:=h.objs F
 have tk:=h.tk F
 obtain⟨ms,m1,m2⟩:=h.hm
 have t: ∀q,q≠f.pb->q≠f.pl->upd (upd H f.pb (.lst (f.iD.map V.ref ++ [.ref x]))) f.pl (.lst ((S.aC.map fun r=>V.int r.d) ++ [.int r.d])) q=H q:=fun q z1 z2=>by rw[az z2,az z1]
 refine⟨o1,?_,?_,?_,?_,⟨ms,?_,m2.mono tk⟩,o2.add (hx.frame F (h.ins hx)),o3,h.nd⟩
 ·show upd (upd H f.pb _) f.pl _ f.pb=some (.lst ((f.iD ++ [x]).map V.ref))
  rw[az e2,ag,aQ]; rfl
 ·exact(t f.pc e1.symm e5).trans h.hc
 ·show upd (upd H f.pb _) f.pl _ f.pl=some (.lst ((S.aC ++ [r]).map fun r=>V.int r.d))
  rw[ag,aQ]; rfl
 ·exact(t f.pf e3.symm e8.symm).trans h.hf
 ·exact(t f.pm e4.symm e9.symm).trans m1
theorem dG.fR (h:dG A H pw S f)(hx:eu H x A.d8 (eY S.credits.length r)):
  dG A (upd (upd H f.pc (.lst (f.cps.map V.ref ++ [.ref x]))) f.pf (.lst ((S.credits.map fun r=>V.int r.d) ++ [.int r.d]))) pw (S.fR r) (f.fR x)/\Frame f.fp H (upd (upd H f.pc (.lst (f.cps.map V.ref ++ [.ref x]))) f.pf (.lst ((S.credits.map fun r=>V.int r.d) ++ [.int r.d]))):=by
 obtain⟨e1,e2,e3,e4,e5,e6,e7,e8,e9,Mx⟩:=eL.ne h.nd
 have F:Frame f.fp H (upd (upd H f.pc (.lst (f.cps.map V.ref ++ [.ref x]))) f.pf (.lst ((S.credits.map fun r=>V.int r.d) ++ [.int r.d]))):=(Frame.upd (by simp[eL.fp])).tr (Frame.upd (by simp[eL.fp]))
 refine⟨?_,F⟩
 obtain⟨o1,o2,o3⟩:=h.objs F
 have tk:=h.tk F
 obtain⟨ms,m1,m2⟩:=h.hm
 have t: ∀q,q≠f.pc->q≠f.pf->upd (upd H f.pc (.lst (f.cps.map V.ref ++ [.ref x]))) f.pf (.lst ((S.credits.map fun r=>V.int r.d) ++ [.int r.d])) q=H q:=fun q z1 z2=>by rw[az z2,az z1]
 refine⟨o1,?_,?_,?_,?_,⟨ms,?_,m2.mono tk⟩,o2,o3.add (hx.frame F (h.ins hx)),h.nd⟩
 ·exact(t f.pb e1 e3).trans h.hb
 ·show upd (upd H f.pc _) f.pf _ f.pc=some (.lst ((f.cps ++ [x]).map V.ref))
  rw[az e6,ag,aQ]; rfl
 ·exact(t f.pl e5.symm e8).trans h.hl
 ·show upd (upd H f.pc _) f.pf _ f.pf=some (.lst ((S.credits ++ [r]).map fun r=>V.int r.d))
  rw[ag,aQ]; rfl
 ·exact(t f.pm e7.symm Mx.symm).trans m1
end
end L2
namespace eN
open PySem L2 PyProof.Rows JR
seal L2.oG L2.PS L2.PE L2.PT L2.PW L2.PA L2.PC L2.PG L2.JL L2.PI L2.Kz L2.JN L2.PO L2.ou L2.Mi L2.iu L2.Hv L2.Nn
section
variable {P:Program}{w:World}{K:PySem.W.Frag}{mg:Str->Option Value}{base:Heap}
def Lq (A:dZ)(K:PySem.W.Frag)(E:XK)(t:Str)(H:Hp):Prop:= ∀C,gU K C A.refusal->(t="too much"->C=A.tooMuch)->EX E C t H
def MB (A:dZ)(K:PySem.W.Frag):Sp:=fun vs H Q E=> ∃(pw:Addr) (S:Bk) (f:eL) (n:Int),vs=[.ref pw,.int n]/\dG A H pw S f/\(qa n S.credits.length-> ∀p,eu H p A.d8 (eY n.toNat (S.cr n.toNat))->Q (.ref p) H)/\(¬ qa n S.credits.length->Lq A K E "no credit" H)
def IM (A:dZ)(K:PySem.W.Frag):Sp:=fun vs H Q E=> ∃(pw:Addr) (S:Bk) (f:eL) (n:Int),vs=[.ref pw,.int n]/\dG A H pw S f/\(qa n S.aC.length-> ∀p,eu H p A.dQ (fv n.toNat (S.bl n.toNat))->Q (.ref p) H)/\(¬ qa n S.aC.length->Lq A K E "no bill" H)
theorem qK:aS ["self","number"] ["self","number"] (ay (mem 25 9)):={}
theorem Bc (T:Txt K mg){A:dZ}(G:jz K mg A):gW (mv P w mg) P w K mg base A.work "credit_at" 4 ["self","number"] (MB A K):=by
 refine qJ (k:=3) G.qI G.bE qK (fun f cX A' outer s H vs Q E hr me h=>?_)
 ·obtain⟨pw,S,g,n,rfl,hW,k1,k2⟩:=h
  obtain⟨dw,hw⟩:=hW.obj
  have hlen:(g.cps.map V.ref).length=S.credits.length:=by rw[ae]; exact hW.rc.1
  refine⟨_,(ah (bV (PW.pt (pw_or (a8 jN (pv 1) aj (ba _)) (pw_or1 (a8 Ad (pv 1) (bo bq (by rfl) T.eT bu (aa (b9 (pv 0) rfl) ak)) (ba _)))))
(av (jU me (A1 T G) (hr.h.mono (by decide)) rfl rfl))
bp)
(av (a9 (xl (b9 (pv 0) rfl) (pv 1))))),?_⟩
  have no: ¬ qa n S.credits.length-> ∀dx,H dx=none->E (.ref A.jW) (some dx) (upd H dx (.xd [("text",.str "no credit")])):=fun z dx hd=>(k2 z A.jW G.sF (fun q=>absurd q (by decide +kernel))).at hd
  refine⟨_,rfl,_,_,rfl,rfl,_,rfl,cI (fun z=>fC (no fun q=>?_)) (fun z=>?_)⟩
  ·have z':n < 0:=aZ z
   have:=q.1
   lia
  have z1: ¬ n < 0:=fun q=>z (aM q)
  refine⟨_,rfl,_,rfl,pw,_,dw,_,_,rfl,hw,G.bE,G.cH,hJ g,g.pc,_,rfl,.inl (bL.of hW.hc),_,_,rfl,rfl,_,rfl,cI (fun z=>no fun q=>?_) (fun z=>?_)⟩
  ·have z':((g.cps.map V.ref).length:Int)<=n:=aZ z
   have:=q.2
   lia
  have z2: ¬ ((g.cps.map V.ref).length:Int)<=n:=fun q=>z (aM q)
  have jH:qa n S.credits.length:=⟨by lia,by lia⟩
  obtain⟨c,rfl⟩:=cA jH.1
  have hc:c < S.credits.length:=by have:=jH.2; lia
  obtain⟨p,Wr,xk⟩:=hW.rc.get hc
  refine⟨_,rfl,pw,_,dw,_,_,rfl,hw,G.bE,G.cH,hJ g,_,rfl,g.pc,_,_,.ref p,rfl,rfl,bL.of hW.hc,cJ (by rw[aD,Wr]; rfl),?_⟩
  exact k1 jH p xk
theorem tq:aS ["self","number"] ["self","number"] (ay (mem 25 10)):={}
theorem xF (T:Txt K mg){A:dZ}(G:jz K mg A):gW (mv P w mg) P w K mg base A.work "bill_at" 4 ["self","number"] (IM A K):=by
 refine qJ (k:=3) G.sZ G.bE tq (fun f cX A' outer s H vs Q E hr me h=>?_)
 ·obtain⟨pw,S,g,n,rfl,hW,k1,k2⟩:=h
  obtain⟨dw,hw⟩:=hW.obj
  have hlen:(g.iD.map V.ref).length=S.aC.length:=by rw[ae]; exact hW.rb.1
  refine⟨_,(ah (bV (PW.pt (pw_or (a8 jN (pv 1) aj (ba _)) (pw_or1 (a8 Ad (pv 1) (bo bq (by rfl) T.eT bu (aa (b9 (pv 0) rfl) ak)) (ba _)))))
(av (jU me (Gi T G) (hr.h.mono (by decide)) rfl rfl))
bp)
(av (a9 (xl (b9 (pv 0) rfl) (pv 1))))),?_⟩
  have no: ¬ qa n S.aC.length-> ∀dx,H dx=none->E (.ref A.pK) (some dx) (upd H dx (.xd [("text",.str "no bill")])):=fun z dx hd=>(k2 z A.pK G.xC (fun q=>absurd q (by decide +kernel))).at hd
  refine⟨_,rfl,_,_,rfl,rfl,_,rfl,cI (fun z=>fC (no fun q=>?_)) (fun z=>?_)⟩
  ·have z':n < 0:=aZ z
   have:=q.1
   lia
  have z1: ¬ n < 0:=fun q=>z (aM q)
  refine⟨_,rfl,_,rfl,pw,_,dw,_,_,rfl,hw,G.bE,G.dX,jg g,g.pb,_,rfl,.inl (bL.of hW.hb),_,_,rfl,rfl,_,rfl,cI (fun z=>no fun q=>?_) (fun z=>?_)⟩
  ·have z':((g.iD.map V.ref).length:Int)<=n:=aZ z
   have:=q.2
   lia
  have z2: ¬ ((g.iD.map V.ref).length:Int)<=n:=fun q=>z (aM q)
  have jH:qa n S.aC.length:=⟨by lia,by lia⟩
  obtain⟨c,rfl⟩:=cA jH.1
  have hc:c < S.aC.length:=by have:=jH.2; lia
  obtain⟨p,Wr,xk⟩:=hW.rb.get hc
  refine⟨_,rfl,pw,_,dw,_,_,rfl,hw,G.bE,G.dX,jg g,_,rfl,g.pb,_,_,.ref p,rfl,rfl,bL.of hW.hb,cJ (by rw[aD,Wr]; rfl),?_⟩
  exact k1 jH p xk
def RV (A:dZ)(Q:VK)(H:Hp)(pw:Addr)(f:eL)(S':Bk)(v:V):Prop:= ∀f' H',f'.fp=f.fp->Frame f.fp H H'->dG A H' pw S' f'->Q v H'
def yZ (A:dZ)(K:PySem.W.Frag):Sp:=fun vs H Q E=> ∃(pw:Addr) (S:Bk) (f:eL) (aN:Str) (day dO only:Int),vs=[.ref pw,.str aN,.int day,.int dO,sE only]/\dG A H pw S f/\S.credits.length<=900/\
 (1<=dO->RV A Q H pw f (S.fR ⟨aN,day,dO,only,dO⟩) (.int S.credits.length))/\(dO < 1->Lq A K E "no amount" H)
theorem jt:aS ["self","who","day","amount","only","number"] ["self","who","day","amount","only"] (ay (mem 25 4)):={}
theorem lA {H:Hp}{x dx C:Addr}{fs:List (Str×V)}(nx:H x=none)(nd:H dx=none)(ne:dx≠x):aG H (upd (upd H dx (.own x)) x (.ins C dx fs)):=(aG.new nd).trans (aG.new (by rw[az ne.symm]; exact nx))
theorem oM (T:Txt K mg){A:dZ}(G:jz K mg A):gW (mv P w mg) P w K mg base A.work "tell_credit" 5 ["self","who","day","amount","only"] (yZ A K):=by
 have gy:uS P w K mg base "check_amount" 4 ["amount"] (tM A):=jY T G
 have IP:tf P w K mg base "Credit" A.d8 1 ["self","number","who","day","amount","only"] (Ej A):=IL G
 refine qJ (k:=4) G.oz G.bE jt (fun f cX A' outer s H vs Q E hr me h=>?_)
 ·obtain⟨pw,S,g,aN,day,dO,only,rfl,hW,hl,k1,k2⟩:=h
  have nd:=jt.nd
  obtain⟨dw,hw⟩:=hW.obj
  have hlen:(g.cps.map V.ref).length=S.credits.length:=by rw[ae]; exact hW.rc.1
  refine⟨_,(ah (bM (rP gy (hr.mono (by decide)) rfl me.pass (aa (pv 3) ak)))
(ah (sv 5 nd (bo bq (by rfl) T.eT bu (aa (b9 (pv 0) rfl) ak)))
(ah (bM (fk aJ aH aI bU (b9 (pv 0) rfl) (aa (RO IP (hr.mono (by decide)) rfl (aa (pv 5) (aa (pv 1) (aa (pv 2) (aa (pv 3) (aa (pv 4) ak)))))) ak)))
(ah (bM (fk aJ aH aI bU (b9 (pv 0) rfl) (aa (pv 3) ak)))
(av (a9 (pv 5))))))),?_⟩
  refine⟨_,rfl,dO,rfl,fun h1=>?_,fun h2=>k2 h2 A.iG G.kB (fun q=>absurd q (by decide +kernel))⟩
  refine⟨_,rfl,pw,_,dw,_,_,rfl,hw,G.bE,G.cH,hJ g,g.pc,_,rfl,.inl (bL.of hW.hc),?_⟩
  refine⟨_,rfl,pw,_,dw,_,_,rfl,hw,G.bE,G.cH,hJ g,.inl ⟨rfl,_,bL.of hW.hc⟩,_,rfl,_,rfl,_,rfl,_,rfl,_,rfl,fun x dx nx IF ne=>?_⟩
  refine⟨x,dx,(g.cps.map V.ref).length,⟨aN,day,dO,only,dO⟩,rfl,ag,rfl,?_⟩
  rw[f9,hlen]
  have s1:=lA (C:=A.d8) (fs:=eY S.credits.length ⟨aN,day,dO,only,dO⟩) nx IF ne
  have hx:eu (upd (upd H dx (.own x)) x (.ins A.d8 dx (eY S.credits.length ⟨aN,day,dO,only,dO⟩))) x A.d8 (eY S.credits.length ⟨aN,day,dO,only,dO⟩):=⟨dx,ag⟩
  generalize upd (upd H dx (.own x)) x (.ins A.d8 dx (eY S.credits.length ⟨aN,day,dO,only,dO⟩))=H3 at s1 hx
  have y0:=hW.same s1
  obtain⟨W4,F4⟩:=y0.fR hx
  refine⟨g.pc,_,_,rfl,rfl,y0.hc,bh (by lia),?_⟩
  have ew:pw≠g.pc:=fun z=>y0.ins y0.obj (z▸(by simp[eL.fp]))
  obtain⟨e1,e2,e3,e4,e5,e6,e7,e8,e9,Mx⟩:=eL.ne y0.nd
  refine⟨_,rfl,pw,_,dw,_,_,rfl,(by rw[az ew]; exact s1 _ _ hw),G.bE,G.fA,ly g,.inl ⟨rfl,_,bL.of (by rw[az e6.symm]; exact y0.hf)⟩,_,rfl,g.pf,_,_,rfl,rfl,(by rw[az e6.symm]; exact y0.hf),bh (by rw[ae]; lia),?_⟩
  refine⟨_,rfl,?_⟩
  exact k1 h1 (g.fR x) _ rfl (F4.lZ s1) W4
def Ek (A:dZ)(K:PySem.W.Frag):Sp:=fun vs H Q E=> ∃(pw:Addr) (S:Bk) (f:eL) (aN:Str) (day zQ dO:Int),vs=[.ref pw,.str aN,.int day,.int zQ,.int dO]/\dG A H pw S f/\S.aC.length<=900/\
 (S.bar (.dQ aN day zQ dO)=""->RV A Q H pw f (S.enter (.dQ aN day zQ dO)) (.int S.aC.length))/\(S.bar (.dQ aN day zQ dO)≠""->Lq A K E (S.bar (.dQ aN day zQ dO)) H)
theorem kF:aS ["self","who","day","due","amount","number"] ["self","who","day","due","amount"] (ay (mem 25 1)):={}
theorem Bd (T:Txt K mg){A:dZ}(G:jz K mg A):gW (mv P w mg) P w K mg base A.work "tell_bill" 5 ["self","who","day","due","amount"] (Ek A K):=by
 have gy:uS P w K mg base "check_amount" 4 ["amount"] (tM A):=jY T G
 have Ot:tf P w K mg base "Bill" A.dQ 1 ["self","number","who","day","due","amount"] (Ei A):=Oq G
 refine qJ (k:=4) G.qF G.bE kF (fun f cX A' outer s H vs Q E hr me h=>?_)
 ·obtain⟨pw,S,g,aN,day,zQ,dO,rfl,hW,hl,k1,k2⟩:=h
  have nd:=kF.nd
  obtain⟨dw,hw⟩:=hW.obj
  have oC:S.bar (.dQ aN day zQ dO)=(if dO < 1 then("no amount":Str) else if zQ < day then("too early":Str) else("":Str)):=rfl
  rw[oC] at k1 k2
  have hlen:(g.iD.map V.ref).length=S.aC.length:=by rw[ae]; exact hW.rb.1
  refine⟨_,(ah (bM (rP gy (hr.mono (by decide)) rfl me.pass (aa (pv 4) ak)))
(ah (bV (a8 jN (pv 3) (pv 2) (ba _))
(av (jU me (A5 T G) (hr.h.mono (by decide)) rfl rfl))
bp)
(ah (sv 5 nd (bo bq (by rfl) T.eT bu (aa (b9 (pv 0) rfl) ak)))
(ah (bM (fk aJ aH aI bU (b9 (pv 0) rfl) (aa (RO Ot (hr.mono (by decide)) rfl (aa (pv 5) (aa (pv 1) (aa (pv 2) (aa (pv 3) (aa (pv 4) ak)))))) ak)))
(ah (bM (fk aJ aH aI bU (b9 (pv 0) rfl) (aa (pv 4) ak)))
(av (a9 (pv 5)))))))),?_⟩
  refine⟨_,rfl,dO,rfl,fun h1=>?_,fun h2=>?_⟩
  ·have n1': ¬ dO < 1:=by lia
   rw[aO n1'] at k1 k2
   refine⟨_,rfl,_,rfl,_,_,rfl,rfl,_,rfl,cI (fun z=>?_) (fun z=>?_)⟩
   ·have z':zQ < day:=aZ z
    rw[a7 z'] at k2
    exact fun dx n=>(k2 (by decide +kernel) A.tooEarly G.sG (fun q=>absurd q (by decide +kernel))).at n
   have z': ¬ zQ < day:=fun q=>z (aM q)
   rw[aO z'] at k1
   refine⟨_,rfl,pw,_,dw,_,_,rfl,hw,G.bE,G.dX,jg g,g.pb,_,rfl,.inl (bL.of hW.hb),?_⟩
   refine⟨_,rfl,pw,_,dw,_,_,rfl,hw,G.bE,G.dX,jg g,.inl ⟨rfl,_,bL.of hW.hb⟩,_,rfl,_,rfl,_,rfl,_,rfl,_,rfl,fun x dx nx IF ne=>?_⟩
   refine⟨x,dx,(g.iD.map V.ref).length,⟨aN,day,zQ,dO,dO⟩,rfl,ag,rfl,?_⟩
   rw[f9,hlen]
   have s1:=lA (C:=A.dQ) (fs:=fv S.aC.length ⟨aN,day,zQ,dO,dO⟩) nx IF ne
   have hx:eu (upd (upd H dx (.own x)) x (.ins A.dQ dx (fv S.aC.length ⟨aN,day,zQ,dO,dO⟩))) x A.dQ (fv S.aC.length ⟨aN,day,zQ,dO,dO⟩):=⟨dx,ag⟩
   generalize upd (upd H dx (.own x)) x (.ins A.dQ dx (fv S.aC.length ⟨aN,day,zQ,dO,dO⟩))=H3 at s1 hx
   have y0:=hW.same s1
   obtain⟨W4,F4⟩:=y0.il hx
   refine⟨g.pb,_,_,rfl,rfl,y0.hb,bh (by lia),?_⟩
   have ew:pw≠g.pb:=fun z=>y0.ins y0.obj (z▸(by simp[eL.fp]))
   obtain⟨e1,e2,e3,e4,e5,e6,e7,e8,e9,Mx⟩:=eL.ne y0.nd
   refine⟨_,rfl,pw,_,dw,_,_,rfl,(by rw[az ew]; exact s1 _ _ hw),G.bE,G.fz,lx g,.inl ⟨rfl,_,bL.of (by rw[az e2.symm]; exact y0.hl)⟩,_,rfl,g.pl,_,_,rfl,rfl,(by rw[az e2.symm]; exact y0.hl),bh (by rw[ae]; lia),?_⟩
   refine⟨_,rfl,?_⟩
   exact k1 rfl (g.il x) _ rfl (F4.lZ s1) W4
  ·rw[a7 h2] at k2
   exact k2 (by decide +kernel) A.iG G.kB (fun q=>absurd q (by decide +kernel))
theorem ni (g:eL):(lu g).lookup ("tell_credit":Str)=none:=by rfl
theorem uU (g:eL):(lu g).lookup ("bill_at":Str)=none:=by rfl
theorem y1 (g:eL):(lu g).lookup ("credit_at":Str)=none:=by rfl
theorem IQ (g:eL):(lu g).lookup ("put":Str)=none:=by rfl
def El (A:dZ)(K:PySem.W.Frag):Sp:=fun vs H Q E=> ∃(pw:Addr) (S:Bk) (f:eL) (aN:Str) (day dO:Int),vs=[.ref pw,.str aN,.int day,.int dO]/\dG A H pw S f/\S.credits.length<=900/\
 (S.bar (.pZ aN day dO)=""->RV A Q H pw f (S.enter (.pZ aN day dO)) (.int S.credits.length))/\(S.bar (.pZ aN day dO)≠""->Lq A K E (S.bar (.pZ aN day dO)) H)
theorem nj:aS ["self","who","day","amount"] ["self","who","day","amount"] (ay (mem 25 2)):={}
theorem uV (T:Txt K mg){A:dZ}(G:jz K mg A):gW (mv P w mg) P w K mg base A.work "tell_payment" 6 ["self","who","day","amount"] (El A K):=by
 have kQ:gW (mv P w mg) P w K mg base A.work "tell_credit" 5 ["self","who","day","amount","only"] (yZ A K):=oM T G
 refine qJ (k:=5) G.mX G.bE nj (fun f cX A' outer s H vs Q E hr me h=>?_)
 ·obtain⟨pw,S,g,aN,day,dO,rfl,hW,hl,k1,k2⟩:=h
  obtain⟨dw,hw⟩:=hW.obj
  have oC:S.bar (.pZ aN day dO)=(if dO < 1 then("no amount":Str) else("":Str)):=rfl
  rw[oC] at k1 k2
  refine⟨_,(av (a9 (mY kQ (hr.mono (by decide)) me.pass (pv 0) (aa (pv 1) (aa (pv 2) (aa (pv 3) (aa Cj ak))))))),?_⟩
  refine⟨_,rfl,pw,dw,_,rfl,hw,ni g,_,rfl,_,rfl,_,rfl,pw,S,g,aN,day,dO,-1,rfl,hW,hl,fun h1=>?_,fun h2=>?_⟩
  ·rw[aO (by lia)] at k1
   exact k1 rfl
  ·rw[a7 h2] at k2
   exact k2 (by decide +kernel)
def Em (A:dZ)(K:PySem.W.Frag):Sp:=fun vs H Q E=> ∃(pw:Addr) (S:Bk) (f:eL) (b day dO:Int),vs=[.ref pw,.int b,.int day,.int dO]/\dG A H pw S f/\S.credits.length<=900/\
 (S.bar (.note b day dO)=""->RV A Q H pw f (S.enter (.note b day dO)) (.int S.credits.length))/\(S.bar (.note b day dO)≠""->Lq A K E (S.bar (.note b day dO)) H)
theorem kG:aS ["self","bill_number","day","amount","bill"] ["self","bill_number","day","amount"] (ay (mem 25 3)):={}
theorem Be (T:Txt K mg){A:dZ}(G:jz K mg A):gW (mv P w mg) P w K mg base A.work "tell_note" 6 ["self","bill_number","day","amount"] (Em A K):=by
 have kQ:gW (mv P w mg) P w K mg base A.work "tell_credit" 5 ["self","who","day","amount","only"] (yZ A K):=oM T G
 have rQ:gW (mv P w mg) P w K mg base A.work "bill_at" 4 ["self","number"] (IM A K):=xF T G
 refine qJ (k:=5) G.qG G.bE kG (fun f cX A' outer s H vs Q E hr me h=>?_)
 ·obtain⟨pw,S,g,b,day,dO,rfl,hW,hl,k1,k2⟩:=h
  have nd:=kG.nd
  obtain⟨dw,hw⟩:=hW.obj
  rw[uA] at k1 k2
  refine⟨_,(ah (sv 4 nd (mY rQ (hr.mono (by decide)) me.pass (pv 0) (aa (pv 1) ak)))
(av (a9 (mY kQ (hr.mono (by decide)) me.pass (pv 0) (aa (b9 (pv 4) rfl) (aa (pv 2) (aa (pv 3) (aa (pv 1) ak)))))))),?_⟩
  refine⟨_,rfl,pw,dw,_,rfl,hw,uU g,_,rfl,pw,S,g,b,rfl,hW,fun jH p hp=>?_,fun hn=>?_⟩
  ·obtain⟨dp,RW⟩:=hp
   have zb: ¬ ¬ qa b S.aC.length:=fun z=>z jH
   rw[aO zb] at k1 k2
   have ho:sE b=V.int b:=aO (fun z=>by have:=jH.1; lia)
   refine⟨_,rfl,pw,dw,_,rfl,hw,ni g,_,rfl,p,_,dp,_,_,rfl,RW,G.d9,G.kC,CU _ _,_,rfl,_,rfl,_,rfl,pw,S,g,(S.bl b.toNat).aN,day,dO,b,(by rw[ho]; rfl),hW,hl,fun h1=>?_,fun h2=>?_⟩
   ·rw[aO (by lia)] at k1
    exact k1 rfl
   ·rw[a7 h2] at k2
    exact k2 (by decide +kernel)
  ·rw[a7 hn] at k2
   exact k2 (by decide +kernel)
theorem xG {S:Bk}{n c b:Nat}(wf:WF S n)(hc:c < S.credits.length)(hb:b < S.aC.length):oK (S.cr c) (S.bl b) b=S.dR c b:=by
 unfold oK Bk.dR
 by_cases z:(S.cr c).c= -1
 ·rw[a7 z,aM z,Bool.true_or,Bool.and_true]
 ·rw[aO z,bI z,Bool.false_or]
  rcases wf.o c hc with q|⟨b',e1,e2,e3⟩
  ·exact absurd q z
  ·by_cases y:(S.cr c).c=(b:Int)
   ·have:b'=b:=by lia
    subst this
    rw[aM y,aM e3]; rfl
   ·rw[bI y,Bool.and_false]
def MC (A:dZ)(K:PySem.W.Frag):Sp:=fun vs H Q E=> ∃(pw:Addr) (S:Bk) (f:eL) (n:Nat) (ci bi dO:Int),vs=[.ref pw,.int ci,.int bi,.int dO]/\dG A H pw S f/\WF S n/\S.made.length < sizeLine/\
 (S.bar (.set ci bi dO)=""->RV A Q H pw f (S.enter (.set ci bi dO)) (.int dO))/\(S.bar (.set ci bi dO)≠""->Lq A K E (S.bar (.set ci bi dO)) H)
theorem ju:aS ["self","credit_number","bill_number","amount","credit","bill"] ["self","credit_number","bill_number","amount"] (ay (mem 25 5)):={}
theorem wo (T:Txt K mg){A:dZ}(G:jz K mg A):gW (mv P w mg) P w K mg base A.work "set_by_hand" 5 ["self","credit_number","bill_number","amount"] (MC A K):=by
 have Bf:gW (mv P w mg) P w K mg base A.work "credit_at" 4 ["self","number"] (MB A K):=Bc T G
 have rQ:gW (mv P w mg) P w K mg base A.work "bill_at" 4 ["self","number"] (IM A K):=xF T G
 have IS:gW rE P w K mg base A.work "put" 1 ["self","credit_number","bill_number","amount"] (C4 A):=Mz G
 have C5:fe P w K mg base "fits" 1 ["credit","bill"] (C3 A):=IG T G
 have gy:uS P w K mg base "check_amount" 4 ["amount"] (tM A):=jY T G
 refine qJ (k:=4) G.oA G.bE ju (fun f cX A' outer s H vs Q E hr me h=>?_)
 ·obtain⟨pw,S,g,n,ci,bi,dO,rfl,hW,wf,hz,k1,k2⟩:=h
  have nd:=ju.nd
  obtain⟨dw,hw⟩:=hW.obj
  rw[yw] at k1 k2
  refine⟨_,(ah (sv 4 nd (mY Bf (hr.mono (by decide)) me.pass (pv 0) (aa (pv 1) ak)))
(ah (sv 5 nd (mY rQ (hr.mono (by decide)) me.pass (pv 0) (aa (pv 2) ak)))
(ah (bV (jL (gg (fc C5 hr (aa (pv 4) (aa (pv 5) ak)))))
(av (jU me (yU T G) (hr.h.mono (by decide)) rfl rfl))
bp)
(ah (bM (rP gy (hr.mono (by decide)) rfl me.pass (aa (pv 3) ak)))
(ah (bV (PW.pt (pw_or (a8 jr (pv 3) (xl (b9 (pv 0) rfl) (pv 1)) (ba _)) (pw_or1 (a8 jr (pv 3) (xl (b9 (pv 0) rfl) (pv 2)) (ba _)))))
(av (jU me (C2 T G) (hr.h.mono (by decide)) rfl rfl))
bp)
(ah (bM (mY IS (hr.mono (by decide)) mL (pv 0) (aa (pv 1) (aa (pv 2) (aa (pv 3) ak)))))
(av (a9 (pv 3))))))))),?_⟩
  refine⟨_,rfl,pw,dw,_,rfl,hw,y1 g,_,rfl,pw,S,g,ci,rfl,hW,fun ic p hp=>?_,fun hn=>?_⟩
  case refine_2=>
   rw[a7 hn] at k2
   exact k2 (by decide +kernel)
  have zc: ¬ ¬ qa ci S.credits.length:=fun z=>z ic
  rw[aO zc] at k1 k2
  refine⟨_,rfl,pw,dw,_,rfl,hw,uU g,_,rfl,pw,S,g,bi,rfl,hW,fun ib q hq=>?_,fun hn=>?_⟩
  case refine_2=>
   rw[a7 hn] at k2
   exact k2 (by decide +kernel)
  have zb: ¬ ¬ qa bi S.aC.length:=fun z=>z ib
  rw[aO zb] at k1 k2
  obtain⟨c,rfl⟩:=cA ic.1
  obtain⟨b,rfl⟩:=cA ib.1
  have hc:c < S.credits.length:=by have:=ic.2; lia
  have hb:b < S.aC.length:=by have:=ib.2; lia
  rw[eI] at hp hq k1 k2
  rw[eI] at k1 k2
  have hfg:=xG wf hc hb
  refine⟨_,rfl,_,rfl,p,q,c,b,_,_,rfl,hp,hq,_,rfl,?_⟩
  rw[hfg]
  refine cI (fun z=>?_) (fun z=>?_)
  ·have z':S.dR c b=false:=by simpa using z
   rw[a7 z'] at k2
   exact fun dx nn=>(k2 (by decide +kernel) A.jI G.qD (fun q=>absurd q (by decide +kernel))).at nn
  have zg: ¬ S.dR c b=false:=by simpa using z
  rw[aO zg] at k1 k2
  refine⟨_,rfl,dO,rfl,fun h1=>?_,fun h2=>?_⟩
  case refine_2=>
   rw[a7 h2] at k2
   exact k2 (by decide +kernel) A.iG G.kB (fun q=>absurd q (by decide +kernel))
  rw[aO (by lia: ¬ dO < 1)] at k1 k2
  have RX:fE (S.cr c).d (S.bl b).d < dO-> ∀dx,H dx=none->E (.ref A.tooMuch) (some dx) (upd H dx (.xd [("text",.str "too much")])):=fun z dx nn=>by
   rw[a7 z] at k2
   exact(k2 (by decide +kernel) A.tooMuch G.pL (fun _=>rfl)).at nn
  refine⟨_,rfl,_,rfl,pw,_,dw,_,_,rfl,hw,G.bE,G.fA,ly g,_,rfl,g.pf,_,_,_,rfl,rfl,bL.of hW.hf,Lp hc,_,_,rfl,rfl,_,rfl,cI (fun z=>fC (RX ?_)) (fun z=>?_)⟩
  ·have z':(S.cr c).d < dO:=aZ z
   unfold fE
   split <;> lia
  have z1: ¬ (S.cr c).d < dO:=fun q=>z (aM q)
  refine⟨_,rfl,_,rfl,pw,_,dw,_,_,rfl,hw,G.bE,G.fz,lx g,_,rfl,g.pl,_,_,_,rfl,rfl,bL.of hW.hl,Lp hb,_,_,rfl,rfl,_,rfl,cI (fun z=>RX ?_) (fun z=>?_)⟩
  ·have z':(S.bl b).d < dO:=aZ z
   unfold fE
   split <;> lia
  have z2: ¬ (S.bl b).d < dO:=fun q=>z (aM q)
  have zm: ¬ fE (S.cr c).d (S.bl b).d < dO:=by
   unfold fE
   split <;> lia
  rw[aO zm] at k1
  refine⟨_,rfl,pw,dw,_,rfl,hw,IQ g,_,rfl,_,rfl,_,rfl,pw,S,g,c,b,dO,rfl,hW,hc,hb,hz,fun H2 F2 W2=>?_⟩
  exact⟨_,rfl,k1 rfl g H2 rfl F2 W2⟩
def En:Sp:=fun vs H Q _=>vs=[]/\ ∀(sd:Addr) (f:fG) (H':Hp),aG H H'->dr H' sd Bk.new f->H sd=none->(∀b∈f.fp,H b=none)->Q (.ref sd) H'
theorem wq:aS [] [] (ay (top 53)):={}
theorem qL (T:Txt K mg):fe P w K mg base "_law_begun" 1 [] En:=by
 refine T.yH.fM (k:=0) wq (fun f cX A outer s H vs Q E hr h=>?_)
 ·obtain⟨rfl,k⟩:=h
  refine⟨_,(av (a9 (KD (ug aR (bW ak) (ug aR (bW ak) (ug aR (bW ak) KC))) (by rfl) rfl (by simp) (by decide)))),?_⟩
  intro sd Lc
  refine⟨bB _,fun pb nb=>⟨bB _,fun pc nc=>⟨bB _,fun pm nm=>?_⟩⟩⟩
  have t0:=aG.new (o:= .dK []) Lc
  have t1:=aG.new (o:= .lst []) nb
  have t2:=aG.new (o:= .lst []) nc
  have t3:=aG.new (o:= .lst []) nm
  have g0:=((t1.trans t2).trans t3) _ _ (ag (H:=H) (a:=sd) (o:= .dK []))
  have gb:=(t2.trans t3) _ _ (ag (H:=upd H sd (.dK [])) (a:=pb) (o:= .lst []))
  have gc:=t3 _ _ (ag (H:=upd (upd H sd (.dK [])) pb (.lst [])) (a:=pc) (o:= .lst []))
  have gm:=ag (H:=upd (upd (upd H sd (.dK [])) pb (.lst [])) pc (.lst [])) (a:=pm) (o:= .lst [])
  have nb0:=t0.free nb
  have nc0:=(t0.trans t1).free nc
  have nm0:=((t0.trans t1).trans t2).free nm
  have e1:sd≠pb:=aL ag nb
  have e2:sd≠pc:=aL (t1 _ _ ag) nc
  have e3:sd≠pm:=aL ((t1.trans t2) _ _ ag) nm
  have e4:pb≠pc:=aL ag nc
  have e5:pb≠pm:=aL (t2 _ _ ag) nm
  have e6:pc≠pm:=aL ag nm
  have s3:=((t0.trans t1).trans t2).trans t3
  generalize upd (upd (upd (upd H sd (.dK [])) pb (.lst [])) pc (.lst [])) pm (.lst [])=H3 at g0 gb gc gm s3 ⊢
  refine⟨g0,[(Sum.inr "bills",.ref pb),(Sum.inr "credits",.ref pc),(Sum.inr "made",.ref pm)],rfl,(by show 3<=15; lia),?_⟩
  refine k sd ⟨pb,pc,pm,[],[]⟩ _ (s3.dj Lc) ⟨?_,by rw[az e1.symm]; exact gb,by rw[az e2.symm]; exact gc,⟨[],by rw[az e3.symm]; exact gm,.nil⟩,.nil,.nil,?_,?_⟩ Lc ?_
  ·rw[ag,NS]; rfl
  ·simp[fG.fp,e4,e5,e6]
  ·simp[fG.fp,e1,e2,e3]
  ·intro b hb
   simp only[fG.fp,List.append_nil,List.mem_cons,List.not_mem_nil,or_false] at hb
   rcases hb with rfl|rfl|rfl
   ·exact nb0
   ·exact nc0
   ·exact nm0
def C6:Sp:=fun vs H Q _=> ∃(sd:Addr) (S:Bk) (f:fG) (c b:Nat),vs=[.ref sd,.int c,.int b]/\dr H sd S f/\c < S.credits.length/\b < S.aC.length/\ ∀H',aG H H'->Q (.bl (S.dR c b)) H'
theorem qM:aS ["_law_state","_law_credit","_law_bill","_law_one"] ["_law_state","_law_credit","_law_bill"] (ay (top 54)):={}
theorem nu (T:Txt K mg):fe P w K mg base "_law_goes" 1 ["_law_state","_law_credit","_law_bill"] C6:=by
 refine T.AH.fM (k:=0) qM (fun f cX A outer s H vs Q E hr h=>?_)
 ·obtain⟨sd,S,g,c,b,rfl,hB,hc,hb,k⟩:=h
  have hu:=kz hr
  have nd:=qM.nd
  obtain⟨p,_,ap,hp⟩:=hB.lc hc
  obtain⟨q,_,aq,hq⟩:=hB.lb hb
  refine⟨_,(ah (sv 3 nd (xl (cO hu (pv 0) aR (fun _ _=>rfl)) (pv 1)))
(av (a9 (o9 (eQ dg (xl (pv 3) aj) (xl (xl (cO hu (pv 0) aR (fun _ _=>rfl)) (pv 2)) aj) (ba _)) (mC (eQ nP (xl (pv 3) aj) (bW (aa (oH kM aj) (aa (pv 2) ak))) (by rfl))))))),?_⟩
  refine⟨_,rfl,sd,_,rfl,hB.gC,_,rfl,g.pc,_,_,.ref p,rfl,rfl,bL.of hB.hc,ap,?_⟩
  refine⟨_,rfl,p,_,_,.str (S.cr c).aN,rfl,rfl,bL.of hp,rfl,_,rfl,sd,_,rfl,hB.gB,_,rfl,g.pb,_,_,.ref q,rfl,rfl,bL.of hB.hb,aq,q,_,_,.str (S.bl b).aN,rfl,rfl,bL.of hq,rfl,rfl,_,rfl,cI (fun d=>?_) (fun d=>?_)⟩
  ·have d':(S.cr c).aN=(S.bl b).aN:=by have:=aZ d; injection this
   refine⟨_,rfl,p,_,_,.int (S.cr c).c,rfl,rfl,bL.of hp,rfl,_,rfl,_,rfl,(by show 2<=sizeLine; decide),fun p9 n9=>?_⟩
   refine⟨p9,_,rfl,.inl (bL.of ag),rfl,rfl,?_⟩
   have e:S.dR c b=vM (V.int (S.cr c).c) [V.int (-1),V.int (b:Int)]:=by
    unfold Bk.dR
    rw[aM d',Bool.true_and]
    rw[oh]
    simp[vM,Ku]
    lia
   have q9:=k _ (aG.new (o:= .lst [V.int (-1),V.int (b:Int)]) n9)
   rw[e] at q9
   exact q9
  ·have d': ¬ (S.cr c).aN=(S.bl b).aN:=fun z=>d (aM (by rw[z]))
   have e:S.dR c b=false:=by
    unfold Bk.dR
    rw[bI d',MU]
   have q9:=k H (aG.refl _)
   rw[e] at q9
   exact q9
theorem jB {A:Hp->Prop}{H H':Hp}(e:H=H')(h:A H'):A H:=e▸h
def Eo:Sp:=fun vs H Q _=> ∃(sd:Addr) (S:Bk) (f:fG) (c b:Nat) (x:Int),vs=[.ref sd,.int c,.int b,.int x]/\dr H sd S f/\c < S.credits.length/\b < S.aC.length/\S.made.length < sizeLine/\ ∀H',Frame f.fp H H'->dr H' sd (S.put c b x) f->Q .en H'
theorem sH:aS ["_law_state","_law_credit","_law_bill","_law_amount"] ["_law_state","_law_credit","_law_bill","_law_amount"] (ay (top 55)):={}
theorem uW (T:Txt K mg):fe P w K mg base "_law_put" 1 ["_law_state","_law_credit","_law_bill","_law_amount"] Eo:=by
 refine T.CS.fM (k:=0) sH (fun f cX A outer s H vs Q E hr h=>?_)
 ·obtain⟨sd,S,g,c,b,x,rfl,hB,hc,hb,hz,k⟩:=h
  have hu:=kz hr
  have nd:=sH.nd
  obtain⟨p,pi,ap,hp⟩:=hB.lc hc
  refine⟨_,(ah (kK (aV eV (xl (xl (cO hu (pv 0) aR (fun _ _=>rfl)) (pv 1)) aj) (pv 3)) (mE (xl (cO hu (pv 0) aR (fun _ _=>rfl)) (pv 1)) aj set_list))
(ah (kK (aV eV (xl (xl (cO hu (pv 0) aR (fun _ _=>rfl)) (pv 2)) aj) (pv 3)) (mE (xl (cO hu (pv 0) aR (fun _ _=>rfl)) (pv 2)) aj set_list))
(av (bM (fk aJ aH aI bU (cO hu (pv 0) aR (fun _ _=>rfl)) (aa (dB (aa (pv 1) (aa (pv 2) (aa (pv 3) ak)))) ak)))))),?_⟩
  refine⟨_,rfl,sd,_,rfl,hB.gC,_,rfl,g.pc,_,_,.ref p,rfl,rfl,bL.of hB.hc,ap,p,_,_,.int (S.cr c).d,rfl,rfl,bL.of hp,rfl,_,rfl,_,_,rfl,rfl,?_⟩
  refine⟨_,rfl,sd,_,rfl,hB.gC,_,rfl,g.pc,_,_,.ref p,rfl,rfl,bL.of hB.hc,ap,p,_,4,4,rfl,rfl,hp,rfl,?_⟩
  have B1:=hB.setC (r:=(S.cr c).less x) pi ⟨_,hp⟩
  have F1:Frame g.fp H (upd H p (.lst ((S.cr c).less x).vs)):=Frame.upd (by have:=List.mem_of_getElem? pi; simp[fG.fp,this])
  refine jB (H':=upd H p (.lst ((S.cr c).less x).vs)) rfl ?_
  generalize upd H p (.lst ((S.cr c).less x).vs)=H1 at B1 F1 ⊢
  obtain⟨q,qi,aq,hq⟩:=B1.lb (b:=b) hb
  change H1 q=some (.lst (S.bl b).vs) at hq
  refine⟨_,rfl,sd,_,rfl,B1.gB,_,rfl,g.pb,_,_,.ref q,rfl,rfl,bL.of B1.hb,aq,q,_,_,.int (S.bl b).d,rfl,rfl,bL.of hq,rfl,_,rfl,_,_,rfl,rfl,?_⟩
  refine⟨_,rfl,sd,_,rfl,B1.gB,_,rfl,g.pb,_,_,.ref q,rfl,rfl,bL.of B1.hb,aq,q,_,4,4,rfl,rfl,hq,rfl,?_⟩
  have B2:=B1.setB (r:=(S.bl b).less x) qi ⟨_,hq⟩
  have F2:Frame g.fp H1 (upd H1 q (.lst ((S.bl b).less x).vs)):=Frame.upd (by have:=List.mem_of_getElem? qi; simp[fG.fp,this])
  refine jB (H':=upd H1 q (.lst ((S.bl b).less x).vs)) rfl ?_
  generalize upd H1 q (.lst ((S.bl b).less x).vs)=H2 at B2 F2 ⊢
  obtain⟨ms,m1,m2⟩:=B2.hm
  refine⟨_,rfl,sd,_,rfl,B2.gM,.inl ⟨rfl,_,bL.of m1⟩,_,rfl,_,rfl,_,rfl,(by show 3<=sizeLine; decide),fun p8 n8=>?_⟩
  have t8:=aG.new (o:= .tup [V.int c,.int b,.int x]) n8
  refine⟨g.pm,ms,_,rfl,rfl,t8 _ _ m1,?_,?_⟩
  ·rw[← aW m2]
   exact hz
  ·refine k _ ((F1.tr F2).tr ((t8.frame).tr (Frame.upd (by simp[fG.fp])))) ?_
   exact(B2.same t8).VI (t:=(c,b,x)) (t8 _ _ m1) (m2.mono t8.tk) ag
def Ep (x:Int×Nat):List Int:=[x.1,(x.2:Int)]
def Bg (rows:List Rw)(aN:Str)(key:Rw->Int)(i:Nat):List (Int×Nat):=
 ((List.range i).filter fun k=>decide ((rows.getD k default).aN=aN) && decide (0 < (rows.getD k default).d)).map fun k=>(key (rows.getD k default),k)
theorem Lr {rows:List Rw}{aN:Str}{key:Rw->Int}{i:Nat}(h:(rows.getD i default).aN=aN)(h2:0 < (rows.getD i default).d):Bg rows aN key (i + 1)=Bg rows aN key i ++ [(key (rows.getD i default),i)]:=by
 unfold Bg
 rw[vG,gf,aQ]
 congr 1
 rw[cM (by rw[aM h,aM h2]; rfl)]
 rfl
theorem Ou {rows:List Rw}{aN:Str}{key:Rw->Int}{i:Nat}(h: ¬ ((rows.getD i default).aN=aN/\0 < (rows.getD i default).d)):Bg rows aN key (i + 1)=Bg rows aN key i:=by
 unfold Bg
 rw[List.range_succ,List.filter_append,List.map_append,List.filter_cons_of_neg (by simpa using h)]
 simp
theorem Ov {rows:List Rw}{aN:Str}{key:Rw->Int}{i:Nat}: ∀x∈Bg rows aN key i,x.2 < i:=by
 intro x hx
 obtain⟨k,hk,rfl⟩:=bK.mp hx
 exact cV.mp (fO.mp hk).1
theorem Ow {rows:List Rw}{aN:Str}{key:Rw->Int}{i:Nat}:((Bg rows aN key i).map (·.2)).Nodup:=by
 unfold Bg
 rw[fF]
 have e:((fun x:Int×Nat=>x.2) ∘ fun k=>(key (rows.getD k default),k))=id:=rfl
 rw[e,Kd]
 exact tF.filter _
theorem y2 {rows:List Rw}{aN:Str}{key:Rw->Int}{i:Nat}:(Bg rows aN key i).length<=i:=by
 unfold Bg
 rw[ae]
 exact a0 (a6 _ _) (by rw[dv]; exact aB _)
theorem y3 {x y:Str}(d:decide (V.str x=V.str y)=true):x=y:=by
 have:=aZ d
 injection this
theorem uX {x y:Str}(d: ¬ decide (V.str x=V.str y)=true): ¬ x=y:=fun z=>d (aM (by rw[z]))
theorem nW: ∀{l:List (Int×Nat)} {x y:Int×Nat},(l.map (·.2)).Nodup->x∈l->y∈l->x.2=y.2->x=y
 |[],_,_,_,h,_,_=>by cases h
 |z :: l,x,y,nd,hx,hy,e=>by
  rw[c9,eh] at nd
  rcases aw.mp hx with AA|AA
  ·rcases aw.mp hy with B6|B6
   ·rw[AA,B6]
   ·exact absurd (bK.mpr ⟨y,B6,by rw[← e,AA]⟩) nd.1
  ·rcases aw.mp hy with B6|B6
   ·exact absurd (bK.mpr ⟨x,AA,by rw[e,B6]⟩) nd.1
   ·exact nW nd.2 AA B6 e
def Bh:Sp:=fun vs H Q _=> ∃(p:Addr) (ps:List Addr) (rows:List Rw) (aN:Str) (Gn:Int) (key:Rw->Int),vs=[.ref p,.str aN,.int Gn]/\H p=some (.lst (ps.map V.ref))/\eX H rows ps/\rows.length < 64/\(∀r:Rw,tH r.vs Gn=some (.int (key r)))/\
 ∀D H',aG H H'->H D=none->H' D=some (.lst ((inTurn rows aN key).map fun(k:Nat)=>V.int (k:Int)))->Q (.ref D) H'
theorem mf:aS ["_law_rows","_law_who","_law_spot","_law_keys","_law_k"] ["_law_rows","_law_who","_law_spot"] (ay (top 56)):={}
theorem uY (T:Txt K mg):fe P w K mg base "_law_in_turn" 1 ["_law_rows","_law_who","_law_spot"] Bh:=by
 refine T.uN.fM (k:=0) mf (fun f cX A outer s H vs Q E hr h=>?_)
 ·obtain⟨p,ps,rows,aN,Gn,key,rfl,hp,hR,hl,hk,k⟩:=h
  have nd:=mf.nd
  have hlen:=hR.length
  refine⟨_,(ah (sv 3 nd (bW ak))
(ah (fH bT rfl (jD rfl T.nS (aa (bo bq (by rfl) T.eT bu (aa (pv 0) ak)) ak)) (gn 4 nd)
(av (bV (PW.pt (pw_and (a8 dg (xl (xl (pv 0) (pv 4)) aj) (pv 1) (ba _)) (pw_and1 (a8 jr (xl (xl (pv 0) (pv 4)) aj) aj (ba _)))))
(av (bM (fk aJ aH aI bU (pv 3) (aa (dB (aa (xl (xl (pv 0) (pv 4)) (pv 2)) (aa (pv 4) ak))) ak))))
bp)))
(av (a9 (ja (tn:=["_law_key"]) (cn:=[]) (cj:=[]) rfl (yk (by decide +kernel) (by decide +kernel) rfl (by decide +kernel)) (dz (bo yp (by rfl) T.uO boot_sorted (aa (pv 3) ak))) (fun _ _ _ _=>(eG (i:=0) (show(["_law_key"]:List Str).Nodup by decide +kernel) rfl (Or.inl rfl))) (fun _ _ _ _=>lQ) (fun _ _ _ _=>(js (tK (K:=K) rfl) (pv 0) aj (fun _ _=>rfl)))))))),?_⟩
  refine⟨bB _,fun pk nk=>?_⟩
  have s1:aG H (upd H pk (.lst [])):=aG.new nk
  refine⟨_,rfl,p,_,rfl,.inl (bL.of (s1 _ _ hp)),((ps.map V.ref).length:Int),rfl,by lia,by rw[ae]; lia,?_⟩
  rw[eI]
  refine k4 (lo:=0) (n:=(ps.map V.ref).length) (fun i σ H2=> ∃(xs:List V) (x4:Option V),σ=[some (.ref p),some (.str aN),some (.int Gn),some (.ref pk),x4]/\aG H H2/\H2 pk=some (.lst xs)/\hX H2 ((Bg rows aN key i).map Ep) xs)
   ⟨[],none,rfl,s1,ag,.nil⟩ ?_ ?_
  ·rintro i σ H2 hi ⟨xs,x4,rfl,s2,hx,hT⟩
   rw[lK]
   have yo:i < rows.length:=by rw[ae] at hi; lia
   obtain⟨r,ri,My⟩:=hR.at yo
   have ar:tH (ps.map V.ref) (i:Int)=some (.ref r):=cJ (by rw[aD,ri]; rfl)
   have xk:=s2 _ _ hp
   have Er:=s2 _ _ My
   have Ws:xs.length<=i:=by
    have:=aW hT
    rw[ae] at this
    have:=y2 (rows:=rows) (aN:=aN) (key:=key) (i:=i)
    lia
   have no: ¬ ((rows.getD i default).aN=aN/\0 < (rows.getD i default).d)-> ∃(xs:List V) (x4:Option V),[some (V.ref p),some (.str aN),some (.int Gn),some (.ref pk),some (.int (i:Int))]=[some (.ref p),some (.str aN),some (.int Gn),some (.ref pk),x4]/\aG H H2/\H2 pk=some (.lst xs)/\hX H2 ((Bg rows aN key (i + 1)).map Ep) xs:=fun n=>
    ⟨xs,_,rfl,s2,hx,by rw[Ou n]; exact hT⟩
   generalize Ox:rows.getD i default=row at Er no
   refine⟨_,rfl,_,rfl,p,_,_,.ref r,rfl,rfl,bL.of xk,ar,r,_,_,.str row.aN,rfl,rfl,bL.of Er,rfl,_,rfl,rfl,_,rfl,cI (fun d1=>?_) (fun d1=>cg (no fun z=>uX d1 z.1))⟩
   refine⟨_,rfl,_,rfl,p,_,_,.ref r,rfl,rfl,bL.of xk,ar,r,_,_,.int row.d,rfl,rfl,bL.of Er,rfl,_,_,rfl,rfl,_,rfl,cI (fun d2=>?_) (fun d2=>no fun z=>d2 (aM z.2))⟩
   have RY:=y3 d1
   have Wt:0 < row.d:=aZ d2
   refine⟨_,rfl,.inl ⟨rfl,_,bL.of hx⟩,_,rfl,_,rfl,p,_,_,.ref r,rfl,rfl,bL.of xk,ar,_,rfl,r,_,_,.int (key row),rfl,rfl,bL.of Er,hk row,_,rfl,(by show 2<=sizeLine; decide),fun p8 n8=>?_⟩
   have t8:=aG.new (o:= .tup [V.int (key row),.int (i:Int)]) n8
   refine⟨pk,xs,_,rfl,rfl,t8 _ _ hx,bh (by lia),xs ++ [.ref p8],_,rfl,(s2.trans t8).dj nk,ag,?_⟩
   rw[Lr (by rw[Ox]; exact RY) (by rw[Ox]; exact Wt),aQ,Ox]
   exact hX.snoc (hT.mono (t8.tk.trans (gu (t8 _ _ hx)))) (dP (t8 _ _ hx) _ _ ag)
  ·rintro σ H2 ⟨xs,x4,rfl,s2,hx,hT⟩
   have Ws:=aW hT
   have YJ:=y2 (rows:=rows) (aN:=aN) (key:=key) (i:=(ps.map V.ref).length)
   have G0:=Ov (rows:=rows) (aN:=aN) (key:=key) (i:=(ps.map V.ref).length)
   have mO:(ps.map V.ref).length=rows.length:=by rw[ae]; lia
   have hle: ∀x∈Bg rows aN key (ps.map V.ref).length,x.2 < 1000:=fun x hx=>by have:=G0 x hx; lia
   have jH:inTurn rows aN key=(fL (Bg rows aN key (ps.map V.ref).length)).map (·.2):=by rw[mO]; rfl
   have hnd:=Ow (rows:=rows) (aN:=aN) (key:=key) (i:=(ps.map V.ref).length)
   generalize Bg rows aN key (ps.map V.ref).length=ks at hT Ws YJ hle jH hnd
   rw[ae] at Ws
   refine⟨_,rfl,pk,xs,_,uP,rfl,bL.of hx,(by lia),hT,(fun t ht=>?_),(fun t ht u hu=>?_),fun D ys us nD Oa perm le=>?_⟩
   ·obtain⟨x,_,rfl⟩:=bK.mp ht
    simp[Ep]
   ·obtain⟨x,AA,rfl⟩:=bK.mp ht
    obtain⟨y,B6,rfl⟩:=bK.mp hu
    refine uQ (hle x AA) (hle y B6) (fun e=>⟨rfl,?_⟩) rfl
    exact nW hnd AA B6 e
   ·have Vk:=AN hle hnd (fun x _=>rfl) perm le
    subst Vk
    have tD:=aG.new (o:= .lst ys) nD
    refine⟨D,rfl,⟨_,bL.of ag⟩,?_⟩
    have JW:=Oa.mono tD.tk
    generalize PX:upd H2 D (.lst ys)=H3 at tD JW
    have hD3:H3 D=some (.lst ys):=by rw[← PX]; exact ag
    have s3:=s2.trans tD
    clear PX Oa perm le hT
    have YK:=aW JW
    refine eo (K:=K) (a:=D) (xs:=ys) (fun D' i σ H6=>H3 D'=none/\ ∃v,σ=[v]/\aG H3 H6/\H6 D'=some (.lst (((fL ks).take i).map fun x=>V.int (x.2:Int)))) (fun D' wt=>⟨wt,none,rfl,aG.new wt,ag⟩) (fun D' i σ H6 _ ⟨_,_,_,t3,_⟩=>bL.of (t3 _ _ hD3)) ?_ ?_
    ·rintro D' i x σ H6 MD ⟨wt,v,rfl,t3,ip⟩
     have hi:i < (fL ks).length:=by
      have:=(au.mp MD).1
      rw[ae] at YK
      lia
     have g0:((fL ks).map Ep)[i]? =some (Ep (fL ks)[i]):=by rw[aD,af hi]; rfl
     obtain⟨v',hv,pp,e1,JV⟩:=bO JW g0
     rw[MD] at hv
     obtain rfl:x=v':=aE hv
     subst e1
     have mH:=l9 hi
     have RZ:=t3 _ _ JV
     generalize (fL ks)[i]=z at RZ mH
     have IT:((fL ks).take i).length<=100:=by
      rw[bz]
      have:=(dE ks).length_eq
      lia
     refine⟨_,rfl,pp,_,_,.int (z.2:Int),rfl,rfl,cG.of RZ,rfl,_,ip,bh (by rw[ae]; lia),wt,_,rfl,t3.dj wt,?_⟩
     rw[ag,mH,aQ]
     rfl
    ·rintro D' σ H6 wt ⟨_,v,rfl,t3,ip⟩
     refine k D' H6 (s3.trans t3) (s3.free wt) ?_
     rw[ip,jH,fF,YK.symm,ae,bb]
     rfl
theorem sI {α β:Type}{F:α->β->Prop}: ∀{l₁:List α} {l₂:List β} (n:Nat),Paired F l₁ l₂->Paired F (l₁.drop n) (l₂.drop n)
 |_,_,0,h=>by rwa [List.drop_zero,List.drop_zero]
 |_,_,_ + 1,.nil=> .nil
 |_,_,n + 1,.cons _ t=>by rw[List.drop_succ_cons,List.drop_succ_cons]; exact sI n t
theorem Gp (xs:List V)(n:Nat)(h:n<=xs.length):qp xs (some (n:Int)) none=xs.drop n:=by
 unfold qp
 rw[HT.Hu,HT.yd,Nat.min_eq_left h,List.take_of_length_le]
 rw[mm]
 exact aB _
structure y4 (H0:Hp)(sd:Addr)(S:Bk)(f:fG)(H2:Hp)(S2:Bk)(m:Nat):Prop where
 fr:Frame f.fp H0 H2
 bk:dr H2 sd S2 f
 bl:S2.aC.length=S.aC.length
 cl:S2.credits.length=S.credits.length
 ml:S2.made.length<=S.made.length + m
theorem y4.put {H0:Hp}{sd:Addr}{S:Bk}{f:fG}{H2 H':Hp}{S2:Bk}{m c b:Nat}{x:Int}(I:y4 H0 sd S f H2 S2 m)(fr:Frame f.fp H2 H')(bk:dr H' sd (S2.put c b x) f):y4 H0 sd S f H' (S2.put c b x) (m + 1):=by
 refine⟨I.fr.tr fr,bk,?_,?_,?_⟩
 ·show(S2.aC.set _ _).length=_
  rw[dI]; exact I.bl
 ·show(S2.credits.set _ _).length=_
  rw[dI]; exact I.cl
 ·show(S2.made ++ [_]).length<=_
  rw[aF]
  have:=I.ml
  simp
  lia
theorem y4.up {H0:Hp}{sd:Addr}{S:Bk}{f:fG}{H2:Hp}{S2:Bk}{m n:Nat}(I:y4 H0 sd S f H2 S2 m)(h:m<=n):y4 H0 sd S f H2 S2 n:=⟨I.fr,I.bk,I.bl,I.cl,a0 I.ml (by lia)⟩
theorem y4.from {H0 H1:Hp}{sd:Addr}{S:Bk}{f:fG}{H2:Hp}{S2:Bk}{m:Nat}(I:y4 H0 sd S f H2 S2 m)(s:aG H2 H1):y4 H1 sd S f H1 S2 m:=⟨Frame.refl,I.bk.same s,I.bl,I.cl,I.ml⟩
theorem y4.back {H0 H1:Hp}{sd:Addr}{S:Bk}{f:fG}{H2 H3:Hp}{S2 S3:Bk}{m n:Nat}(I:y4 H0 sd S f H2 S2 m)(s:aG H2 H1)(J:y4 H1 sd S f H3 S3 n):y4 H0 sd S f H3 S3 n:=⟨(I.fr.cS s).tr J.fr,J.bk,J.bl,J.cl,J.ml⟩
theorem _root_.L2.dr.tN {H:Hp}{sd D:Addr}{S:Bk}{f:fG}(h:dr H sd S f)(n:H D=none):D∉f.fp:=fun z=>by
 obtain⟨ms,m1,_⟩:=h.hm
 have rows: ∀(rs:List Rw) (ps:List Addr),eX H rs ps->D∈ps->False:=fun rs ps hr hp=>by
  obtain⟨i,hi⟩:=xY hp
  have iU:i < rs.length:=by
   rw[hr.length]
   exact(au.mp hi).1
  obtain⟨q,e1,e2⟩:=hr.at iU
  rw[e1] at hi
  cases hi
  rw[n] at e2
  cases e2
 unfold fG.fp at z
 rcases aw.mp z with rfl|z
 ·have:=h.hb; rw[n] at this; cases this
 rcases aw.mp z with rfl|z
 ·have:=h.hc; rw[n] at this; cases this
 rcases aw.mp z with rfl|z
 ·rw[n] at m1; cases m1
 rcases bg.mp z with z|z
 ·exact rows _ _ h.rb z
 ·exact rows _ _ h.rc z
theorem jS (rows:List Rw)(aN:Str)(key:Rw->Int):(inTurn rows aN key).length<=rows.length:=by
 have e:inTurn rows aN key=(fL (Bg rows aN key rows.length)).map (·.2):=rfl
 rw[e,ae,(dE _).length_eq]
 exact y2
theorem lB {α β:Type}(g:β->α->β)(l:List α)(s:β){i:Nat}{x:α}(h:l[i]? =some x):(l.take (i + 1)).foldl g s=g ((l.take i).foldl g s) x:=by
 rw[E2,h,rn]
 rfl
theorem _root_.L2.Frame.free {fp:List Addr}{H H':Hp}{p:Addr}(a:Frame fp H H')(h:p∉fp)(n:H' p=none):H p=none:=by
 cases e:H p with
 |none=>rfl
 |some o=>have:=a p o h e; rw[n] at this; cases this
def Es:Sp:=fun vs H Q _=> ∃(sd:Addr) (S:Bk) (f:fG) (aN:Str),vs=[.ref sd,.str aN]/\dr H sd S f/\S.credits.length < 64/\S.aC.length < 64/\S.made.length + 10000 < sizeLine/\
 ∀D ms H',Frame f.fp H H'->dr H' sd (S.iB aN) f->H D=none->H' D=some (.lst ms)->gO H' ((S.iB aN).made.drop S.made.length) ms->Q (.ref D) H'
theorem oN:aS ["_law_state","_law_who","_law_many","_law_exact","_law_credit","_law_bill","_law_free","_law_left"] ["_law_state","_law_who"] (ay (top 57)):={}
theorem y6 (T:Txt K mg):fe P w K mg base "_law_swept" 2 ["_law_state","_law_who"] Es:=by
 have nv:fe P w K mg base "_law_in_turn" 1 ["_law_rows","_law_who","_law_spot"] Bh:=uY T
 have jh:fe P w K mg base "_law_goes" 1 ["_law_state","_law_credit","_law_bill"] C6:=nu T
 have pM:fe P w K mg base "_law_put" 1 ["_law_state","_law_credit","_law_bill","_law_amount"] Eo:=uW T
 refine T.yI.fM (k:=1) oN (fun f cX A outer s H vs Q E hr h=>?_)
 ·obtain⟨sd,S,g,aN,rfl,hB,qC,Ls,IU,k⟩:=h
  have hu:=kz hr
  have nd:=oN.nd
  obtain⟨ms,m1,m2⟩:=hB.hm
  have Wu:S.made.length=ms.length:=aW m2
  refine⟨_,(ah (sv 2 nd (bo bq (by rfl) T.eT bu (aa (cO hu (pv 0) aR (fun _ _=>rfl)) ak)))
(ah (fH bT rfl (dz (bW (aa mB (aa mB ak)))) (gn 3 nd)
(av (fH bT rfl (dz (fc nv hr (aa (cO hu (pv 0) aR (fun _ _=>rfl)) (aa (pv 1) (aa aj ak))))) (gn 4 nd)
(av (fH bT rfl (dz (fc nv hr (aa (cO hu (pv 0) aR (fun _ _=>rfl)) (aa (pv 1) (aa aj ak))))) (gn 5 nd)
(ah (sv 6 nd (xl (xl (cO hu (pv 0) aR (fun _ _=>rfl)) (pv 4)) aj))
(ah (sv 7 nd (xl (xl (cO hu (pv 0) aR (fun _ _=>rfl)) (pv 5)) aj))
(av (bV (PW.pt (pw_and (a8 jr (pv 6) aj (ba _)) (pw_and1 (gg (fc jh hr (aa (pv 0) (aa (pv 4) (aa (pv 5) ak))))))))
(av (bV (PW.pt (pw_or (a8 dg (pv 6) (pv 7) (ba _)) (pw_or1 (jL (gg (pv 3))))))
(av (bM (fc pM hr (aa (pv 0) (aa (pv 4) (aa (pv 5) (aa (bo (rC rfl) (by rfl) T.AJ boot_min (aa (pv 6) (aa (pv 7) ak))) ak)))))))
bp))
bp)))))))))
(av (a9 (qo tI (cO hu (pv 0) aR (fun _ _=>rfl)) (qm (pv 2)) ye))))),?_⟩
  refine⟨_,rfl,sd,_,rfl,hB.gM,g.pm,_,rfl,.inl (bL.of m1),?_⟩
  refine⟨(by show 2<=sizeLine; decide),fun pl nl=>⟨pl,rfl,⟨_,bL.of ag⟩,?_⟩⟩
  have s1:aG H (upd H pl (.lst ([true,false].map V.bl))):=aG.new nl
  have Wv:=hB.tN nl
  have iw:upd H pl (.lst ([true,false].map V.bl)) pl=some (.lst ([true,false].map V.bl)):=ag
  have ME:=hB.same s1
  refine jB (H':=upd H pl (.lst ([true,false].map V.bl))) rfl ?_
  generalize upd H pl (.lst ([true,false].map V.bl))=H1 at s1 iw ME
  refine gR (K:=K) (a:=pl) (xs:=[true,false].map V.bl) (fun i σ H2=> ∃x3 x4 x5 x6 x7:Option V,σ=[some (.ref sd),some (.str aN),some (.int (ms.length:Int)),x3,x4,x5,x6,x7]/\y4 H1 sd S g H2 (([true,false].take i).foldl (bS aN) S) (i * 4096))
   ⟨none,none,none,none,none,rfl,Frame.refl,ME,rfl,rfl,Nat.le_add_right _ _⟩ (fun i σ H2 _ ⟨_,_,_,_,_,_,I⟩=>bL.of (I.fr _ _ Wv iw)) ?_ ?_
  ·rintro i x σ H2 hx ⟨x3,x4,x5,x6,x7,rfl,I⟩
   rw[aD] at hx
   obtain⟨ex,hex,rfl⟩:=bH.mp hx
   have hi:i < 2:=(au.mp hex).1
   rw[lB (bS aN) [true,false] S hex]
   generalize ([true,false].take i).foldl (bS aN) S=S1 at I ⊢
   have c1:=I.cl
   have b1:=I.bl
   refine⟨_,rfl,sd,_,rfl,I.bk.gC,_,rfl,g.pc,g.cps,S1.credits,aN,1,(·.a),rfl,I.bk.hc,I.bk.rc,by lia,(fun _=>rfl),fun D1 H3 t3 n3 Gq=>?_⟩
   have D1f:=I.bk.tN n3
   have I3:=I.from t3
   refine⟨D1,rfl,⟨_,bL.of Gq⟩,?_⟩
   have hcs:(inTurn S1.credits aN (·.a)).length<=63:=by have:=jS S1.credits aN (·.a); lia
   have YL: ∀c∈inTurn S1.credits aN (·.a),c < S.credits.length:=fun c hc=>by have:=(cE.mp hc).1; lia
   have X9:bS aN S1 ex=(inTurn S1.credits aN (·.a)).foldl (bZ aN ex) S1:=rfl
   rw[X9]
   generalize inTurn S1.credits aN (·.a)=cs at Gq hcs YL
   refine gR (K:=K) (a:=D1) (xs:=cs.map fun(k:Nat)=>V.int (k:Int)) (fun j σ H4=> ∃x4 x5 x6 x7:Option V,σ=[some (.ref sd),some (.str aN),some (.int (ms.length:Int)),some (.bl ex),x4,x5,x6,x7]/\y4 H3 sd S g H4 ((cs.take j).foldl (bZ aN ex) S1) (i * 4096 + j * 64))
    ⟨_,_,_,_,rfl,I3.up (by lia)⟩ (fun j σ H4 _ ⟨_,_,_,_,_,J⟩=>bL.of (J.fr _ _ D1f Gq)) ?_ ?_
   ·rintro j x σ H4 hx ⟨x4,x5,x6,x7,rfl,J⟩
    rw[aD] at hx
    obtain⟨c,hc,rfl⟩:=bH.mp hx
    have abb:=YL c (gA hc)
    have hj:j < cs.length:=(au.mp hc).1
    rw[lB (bZ aN ex) cs S1 hc]
    generalize (cs.take j).foldl (bZ aN ex) S1=S2 at J ⊢
    have b2:=J.bl
    refine⟨_,rfl,sd,_,rfl,J.bk.gB,_,rfl,g.pb,g.iD,S2.aC,aN,2,(·.b),rfl,J.bk.hb,J.bk.rb,by lia,(fun _=>rfl),fun D2 H5 t5 n5 Gr=>?_⟩
    have D2f:=J.bk.tN n5
    have J5:=J.from t5
    refine⟨D2,rfl,⟨_,bL.of Gr⟩,?_⟩
    have hbs:(inTurn S2.aC aN (·.b)).length<=63:=by have:=jS S2.aC aN (·.b); lia
    have KL: ∀b∈inTurn S2.aC aN (·.b),b < S.aC.length:=fun b hb=>by have:=(cE.mp hb).1; lia
    have ra:bZ aN ex S2 c=(inTurn S2.aC aN (·.b)).foldl (bP ex c) S2:=rfl
    rw[ra]
    generalize inTurn S2.aC aN (·.b)=bs at Gr hbs KL
    refine gR (K:=K) (a:=D2) (xs:=bs.map fun(k:Nat)=>V.int (k:Int)) (fun l σ H6=> ∃x5 x6 x7:Option V,σ=[some (.ref sd),some (.str aN),some (.int (ms.length:Int)),some (.bl ex),some (.int (c:Int)),x5,x6,x7]/\y4 H5 sd S g H6 ((bs.take l).foldl (bP ex c) S2) (i * 4096 + j * 64 + l))
     ⟨_,_,_,rfl,J5.up (by lia)⟩ (fun l σ H6 _ ⟨_,_,_,_,L⟩=>bL.of (L.fr _ _ D2f Gr)) ?_ ?_
    ·rintro l x σ H6 hx ⟨x5,x6,x7,rfl,L⟩
     rw[aD] at hx
     obtain⟨b,hb,rfl⟩:=bH.mp hx
     have abe:=KL b (gA hb)
     have hl:l < bs.length:=(au.mp hb).1
     rw[lB (bP ex c) bs S2 hb]
     generalize (bs.take l).foldl (bP ex c) S2=S3 at L ⊢
     have b3:=L.bl
     have c3:=L.cl
     have m3:=L.ml
     obtain⟨p,_,ap,hp⟩:=L.bk.lc (b:=c) (by lia)
     obtain⟨q,_,aq,hq⟩:=L.bk.lb (b:=b) (by lia)
     have no: ¬ (0 < (S3.cr c).d/\S3.dR c b=true/\((S3.cr c).d=(S3.bl b).d∨ex=false))-> ∀H7,aG H6 H7-> ∃x5 x6 x7:Option V,[some (V.ref sd),some (.str aN),some (.int (ms.length:Int)),some (.bl ex),some (.int (c:Int)),some (.int (b:Int)),some (.int (S3.cr c).d),some (.int (S3.bl b).d)]=[some (.ref sd),some (.str aN),some (.int (ms.length:Int)),some (.bl ex),some (.int (c:Int)),x5,x6,x7]/\y4 H5 sd S g H7 (bP ex c S3 b) (i * 4096 + j * 64 + (l + 1)):=fun n H7 t7=>by
      refine⟨_,_,_,rfl,?_⟩
      unfold bP
      rw[aO n]
      exact(L.back t7 (L.from t7)).up (by lia)
     refine⟨_,rfl,sd,_,rfl,L.bk.gC,_,rfl,g.pc,_,_,.ref p,rfl,rfl,bL.of L.bk.hc,ap,p,_,_,.int (S3.cr c).d,rfl,rfl,bL.of hp,rfl,?_⟩
     refine⟨_,rfl,sd,_,rfl,L.bk.gB,_,rfl,g.pb,_,_,.ref q,rfl,rfl,bL.of L.bk.hb,aq,q,_,_,.int (S3.bl b).d,rfl,rfl,bL.of hq,rfl,?_⟩
     refine⟨_,rfl,_,_,rfl,rfl,_,rfl,cI (fun d1=>?_) (fun d1=>cg (no (fun z=>d1 (aM z.1)) _ (aG.refl _)))⟩
     have RY:0 < (S3.cr c).d:=aZ d1
     refine⟨_,rfl,_,rfl,_,rfl,sd,S3,g,c,b,rfl,L.bk,by lia,by lia,fun H7 t7=>⟨_,rfl,cI (fun d2=>?_) (fun d2=>no (fun z=>d2 z.2.1) _ t7)⟩⟩
     have L7:=L.bk.same t7
     have R0:((S3.cr c).d=(S3.bl b).d∨ex=false)-> ∀H',Frame g.fp H7 H'->dr H' sd (S3.put c b (fE (S3.cr c).d (S3.bl b).d)) g-> ∃x5 x6 x7:Option V,[some (V.ref sd),some (.str aN),some (.int (ms.length:Int)),some (.bl ex),some (.int (c:Int)),some (.int (b:Int)),some (.int (S3.cr c).d),some (.int (S3.bl b).d)]=[some (.ref sd),some (.str aN),some (.int (ms.length:Int)),some (.bl ex),some (.int (c:Int)),x5,x6,x7]/\y4 H5 sd S g H' (bP ex c S3 b) (i * 4096 + j * 64 + (l + 1)):=fun z H' PL Ww=>by
      refine⟨_,_,_,rfl,?_⟩
      unfold bP
      rw[a7 ⟨RY,d2,z⟩]
      exact(L.put (t7.frame.tr PL) Ww).up (by lia)
     have Et:((S3.cr c).d=(S3.bl b).d∨ex=false)->Eo [.ref sd,.int (c:Int),.int (b:Int),.int (if(S3.bl b).d < (S3.cr c).d then(S3.bl b).d else(S3.cr c).d)] H7 (fun _ H'=> ∃x5 x6 x7:Option V,[some (V.ref sd),some (.str aN),some (.int (ms.length:Int)),some (.bl ex),some (.int (c:Int)),some (.int (b:Int)),some (.int (S3.cr c).d),some (.int (S3.bl b).d)]=[some (.ref sd),some (.str aN),some (.int (ms.length:Int)),some (.bl ex),some (.int (c:Int)),x5,x6,x7]/\y4 H5 sd S g H' (bP ex c S3 b) (i * 4096 + j * 64 + (l + 1))) (fun _ _ _=>False):=fun z=>
      ⟨sd,S3,g,c,b,_,rfl,L7,by lia,by lia,by lia,fun H' PL Ww=>R0 z H' PL Ww⟩
     refine⟨_,rfl,_,rfl,rfl,_,rfl,cI (fun d3=>fC ?_) (fun d3=>?_)⟩
     ·have d3':(S3.cr c).d=(S3.bl b).d:=by have:=aZ d3; injection this
      exact⟨_,rfl,_,rfl,_,rfl,_,rfl,_,rfl,_,_,rfl,Et (.inl d3')⟩
     ·refine⟨_,rfl,_,rfl,cI (fun d4=>?_) (fun d4=>no (fun z=>?_) _ t7)⟩
      ·have d4':ex=false:=by simpa using d4
       exact⟨_,rfl,_,rfl,_,rfl,_,rfl,_,rfl,_,_,rfl,Et (.inr d4')⟩
      ·rcases z.2.2 with z|z
       ·exact d3 (aM (by rw[z]))
       ·exact d4 (by rw[z]; rfl)
    ·rintro σ H6 ⟨x5,x6,x7,rfl,L⟩
     rw[ae,bb] at L
     exact⟨_,_,_,_,rfl,(J.back t5 L).up (by lia)⟩
   ·rintro σ H4 ⟨x4,x5,x6,x7,rfl,J⟩
    rw[ae,bb] at J
    exact⟨_,_,_,_,_,rfl,(I.back t3 J).up (by lia)⟩
  ·rintro σ H2 ⟨x3,x4,x5,x6,x7,rfl,I⟩
   have Vu:([true,false].take ([true,false].map V.bl).length).foldl (bS aN) S=S.iB aN:=rfl
   rw[Vu] at I
   obtain⟨MF,k1,k2⟩:=I.bk.hm
   refine⟨_,rfl,sd,_,rfl,I.bk.gM,_,rfl,_,rfl,g.pm,MF,rfl,bL.of k1,fun p np=>?_⟩
   have tp:=aG.new (o:= .lst (qp MF (some (ms.length:Int)) none)) np
   have hle:ms.length<=MF.length:=by
    have e0:=aW k2
    obtain⟨_,l,e1,_⟩:=qz S aN
    rw[e1,aF] at e0
    lia
   refine k p (MF.drop ms.length) _ ((s1.frame.tr I.fr).cS tp) (I.bk.same tp) ?_ ?_ ?_
   ·exact s1.free (Frame.free I.fr (I.bk.tN np) np)
   ·rw[ag,Gp _ _ hle]
   ·rw[Wu]
    exact sI _ (k2.mono tp.tk)
def y7 (A:dZ):Sp:=fun vs H Q _=> ∃(x dx:Addr),vs=[.ref x]/\H x=some (.ins A.work dx [])/\ ∀f H',Frame [x] H H'->dG A H' x Bk.new f->(∀b∈f.fp,H b=none)->Q .en H'
theorem IV (f:eL):eD "made" (.ref f.pm) (eD "frees" (.ref f.pf) (eD "lefts" (.ref f.pl) (eD "all_credits" (.ref f.pc) (eD "bills" (.ref f.pb) []))))=lu f:=by rfl
theorem Bi {H Hk:Hp}{x dx p C:Addr}{fs:List (Str×V)}{f:Str}(F:Frame [x] H Hk)(hx:Hk x=some (.ins C dx fs))(n:Hk p=none):p≠x/\H p=none/\Frame [x] H (upd (upd Hk p (.lst [])) x (.ins C dx (eD f (.ref p) fs)))/\
  upd (upd Hk p (.lst [])) x (.ins C dx (eD f (.ref p) fs)) x=some (.ins C dx (eD f (.ref p) fs))/\upd (upd Hk p (.lst [])) x (.ins C dx (eD f (.ref p) fs)) p=some (.lst [])/\
  (∀q o,q≠x->Hk q=some o->upd (upd Hk p (.lst [])) x (.ins C dx (eD f (.ref p) fs)) q=some o/\q≠p):=by
 have ne:p≠x:=(aL hx n).symm
 refine⟨ne,F.free (by simpa using ne) n,(F.tr (aG.new n).frame).tr (Frame.upd (by simp)),ag,by rw[az ne,ag],fun q o hq e=>⟨?_,aL e n⟩⟩
 rw[az hq]
 exact aG.new n _ _ e
theorem Lu:aS ["self"] ["self"] (ay (mem 25 0)):={}
theorem IW {A:dZ}(G:jz K mg A):tf P w K mg base "Work" A.work 1 ["self"] (y7 A):=by
 refine Lm (k:=0) G.Li G.Lh Lu (fun f cX A' outer s H vs Q E hr h=>?_)
 ·obtain⟨x,dx,rfl,hx,k⟩:=h
  refine⟨_,(ah (fQ (pv 0) (bW ak) rfl)
(ah (fQ (pv 0) (bW ak) rfl)
(ah (fQ (pv 0) (bW ak) rfl)
(ah (fQ (pv 0) (bW ak) rfl)
(av (fQ (pv 0) (bW ak) rfl)))))),?_⟩
  have F0:Frame [x] H H:=Frame.refl
  refine⟨bB _,fun p1 n1=>⟨_,rfl,x,_,dx,_,rfl,aG.new n1 _ _ hx,G.bE,G.dX,lt1000 Ba (by decide),?_⟩⟩
  obtain⟨ne1,f1,F1,x1,g1,t1⟩:=Bi (f:="bills") F0 hx n1
  generalize hH1:upd (upd H p1 (.lst [])) x (.ins A.work dx (eD "bills" (.ref p1) _))=H1 at F1 x1 g1
  clear hH1 t1
  refine⟨bB _,fun p2 n2=>⟨_,rfl,x,_,dx,_,rfl,aG.new n2 _ _ x1,G.bE,G.cH,lt1000 (pl Ba) (by decide),?_⟩⟩
  obtain⟨ne2,f2,F2,x2,g2,t2⟩:=Bi (f:="all_credits") F1 x1 n2
  obtain⟨g1,R3⟩:=t2 p1 _ ne1 g1
  generalize TK:upd (upd H1 p2 (.lst [])) x (.ins A.work dx (eD "all_credits" (.ref p2) _))=H2 at F2 x2 g1 g2
  clear TK t2
  refine⟨bB _,fun p3 n3=>⟨_,rfl,x,_,dx,_,rfl,aG.new n3 _ _ x2,G.bE,G.fz,lt1000 (pl (pl Ba)) (by decide),?_⟩⟩
  obtain⟨ne3,f3,F3,x3,g3,t3⟩:=Bi (f:="lefts") F2 x2 n3
  obtain⟨g1,R4⟩:=t3 p1 _ ne1 g1
  obtain⟨g2,R5⟩:=t3 p2 _ ne2 g2
  generalize PX:upd (upd H2 p3 (.lst [])) x (.ins A.work dx (eD "lefts" (.ref p3) _))=H3 at F3 x3 g1 g2 g3
  clear PX t3
  refine⟨bB _,fun p4 n4=>⟨_,rfl,x,_,dx,_,rfl,aG.new n4 _ _ x3,G.bE,G.fA,lt1000 (pl (pl (pl Ba))) (by decide),?_⟩⟩
  obtain⟨ne4,f4,F4,x4,g4,t4⟩:=Bi (f:="frees") F3 x3 n4
  obtain⟨g1,R6⟩:=t4 p1 _ ne1 g1
  obtain⟨g2,R7⟩:=t4 p2 _ ne2 g2
  obtain⟨g3,R8⟩:=t4 p3 _ ne3 g3
  generalize hH4:upd (upd H3 p4 (.lst [])) x (.ins A.work dx (eD "frees" (.ref p4) _))=H4 at F4 x4 g1 g2 g3 g4
  clear hH4 t4
  refine⟨bB _,fun p5 n5=>⟨_,rfl,x,_,dx,_,rfl,aG.new n5 _ _ x4,G.bE,G.jA,lt1000 (pl (pl (pl (pl Ba)))) (by decide),?_⟩⟩
  obtain⟨ne5,f5,F5,x5,g5,t5⟩:=Bi (f:="made") F4 x4 n5
  obtain⟨g1,R9⟩:=t5 p1 _ ne1 g1
  obtain⟨g2,Sa⟩:=t5 p2 _ ne2 g2
  obtain⟨g3,Sb⟩:=t5 p3 _ ne3 g3
  obtain⟨g4,Sd⟩:=t5 p4 _ ne4 g4
  refine k ⟨p1,p2,p3,p4,p5,[],[]⟩ _ F5 ⟨⟨dx,?_⟩,g1,g2,g3,g4,⟨[],g5,.nil⟩,⟨rfl,fun i p e=>by simp at e⟩,⟨rfl,fun i p e=>by simp at e⟩,?_⟩ ?_
  ·rw[x5]
   exact c8 (fun z=>some (HO.ins A.work dx z)) (IV ⟨p1,p2,p3,p4,p5,[],[]⟩)
  ·simp[eL.fp,R3,R4,R6,R9,R5,R7,Sa,R8,Sb,Sd]
  ·intro b hb
   simp only[eL.fp,List.mem_cons,List.not_mem_nil,or_false] at hb
   rcases hb with rfl|rfl|rfl|rfl|rfl
   ·exact f1
   ·exact f2
   ·exact f3
   ·exact f4
   ·exact f5
def iH (A:dZ)(H:Hp)(S:Bk)(bs:List Nat)(qs:List Addr):Prop:=Paired (fun(b:Nat) q=>eu H q A.dQ (fv b (S.bl b))) bs qs
def gJ (A:dZ)(H:Hp)(S:Bk)(cs:List Nat)(qs:List Addr):Prop:=Paired (fun(c:Nat) q=>eu H q A.d8 (eY c (S.cr c))) cs qs
theorem iH.same {A:dZ}{H H':Hp}{S:Bk}{bs:List Nat}{qs:List Addr}(h:iH A H S bs qs)(s:aG H H'):iH A H' S bs qs:=Paired.iS h fun _ _ z=>z.same s
theorem gJ.same {A:dZ}{H H':Hp}{S:Bk}{bs:List Nat}{qs:List Addr}(h:gJ A H S bs qs)(s:aG H H'):gJ A H' S bs qs:=Paired.iS h fun _ _ z=>z.same s
def MG (A:dZ):Sp:=fun vs H Q _=> ∃(p pt:Addr) (S:Bk) (c:Nat) (bs:List Nat) (qs:List Addr),vs=[.ref p,.ref pt]/\eu H p A.d8 (eY c (S.cr c))/\H pt=some (.lst (qs.map V.ref))/\iH A H S bs qs/\bs.length<=100/\
 ∀D H',aG H H'->H D=none->H' D=some (.lst ((bs.map fun b=>oK (S.cr c) (S.bl b) b).map V.bl))->Q (.ref D) H'
theorem uZ:aS ["credit","bills"] ["credit","bills"] (ay (top 27)):={}
theorem wu (T:Txt K mg){A:dZ}(G:jz K mg A):fe P w K mg base "row_of_fits" 2 ["credit","bills"] (MG A):=by
 have C5:fe P w K mg base "fits" 1 ["credit","bill"] (C3 A):=IG T G
 refine T.vV.fM (k:=1) uZ (fun f cX A' outer s H vs Q E hr h=>?_)
 ·obtain⟨p,pt,S,c,bs,qs,rfl,hp,B7,hB,hl,k⟩:=h
  have hlen:=aW hB
  refine⟨_,(av (a9 (ja (tn:=["bill"]) (cn:=["credit"]) (cj:=[0]) rfl (i0 (by rfl) (by decide +kernel) rfl (by decide +kernel) (by rfl) [(".0",.local),("bill",.local),("fits",.globalImplicit),("credit",.cell)] (by rfl) (by decide +kernel) rfl (Or.inl rfl) (Or.inl rfl)) (dz (pv 1)) (fun _ _ _ _=>(eG (i:=0) (show(["bill","credit"]:List Str).Nodup by decide +kernel) rfl (Or.inl rfl))) (fun _ _ _ _=>lQ) (fun _ _ _ _=>(fc C5 hr (aa (pv 1) (aa (pv 0) ak))))))),?_⟩
  refine⟨_,rfl,pt,rfl,⟨_,bL.of B7⟩,?_⟩
  refine eo (K:=K) (a:=pt) (xs:=qs.map V.ref) (fun D i σ H6=>H D=none/\ ∃v,σ=[v,some (.ref p)]/\aG H H6/\H6 D=some (.lst (((bs.take i).map fun b=>oK (S.cr c) (S.bl b) b).map V.bl))) (fun D hD=>⟨hD,none,rfl,aG.new hD,ag⟩) (fun D i σ H6 _ ⟨_,_,_,t3,_⟩=>bL.of (t3 _ _ B7)) ?_ ?_
  ·rintro D i x σ H6 hx ⟨hD,v,rfl,t3,ip⟩
   rw[aD] at hx
   obtain⟨q,hq,rfl⟩:=bH.mp hx
   have hi:i < bs.length:=by have:=(au.mp hq).1; lia
   obtain⟨q',sj,lC⟩:=bO hB (af hi)
   rw[hq] at sj
   obtain rfl:q=q':=aE sj
   have mH:=l9 hi
   generalize bs[i]=b at lC mH
   refine⟨_,rfl,_,rfl,p,q,c,b,_,_,rfl,hp.same t3,lC.same t3,_,ip,bh (by rw[ae,ae,bz]; lia),hD,_,rfl,t3.dj hD,?_⟩
   rw[ag,mH,aQ,aQ]
   rfl
  ·rintro D σ H6 hD ⟨_,v,rfl,t3,ip⟩
   refine k D H6 t3 hD ?_
   rw[ip,ae,← hlen,bb]
def bD.vs:bD->List V
 | .dQ w d u a=>[.str "bill",.str w,.int d,.int u,.int a]
 | .pZ w d a=>[.str "pay",.str w,.int d,.int a]
 | .note b d a=>[.str "note",.int b,.int d,.int a]
 | .set c b a=>[.str "set",.int c,.int b,.int a]
 | .fJ w=>[.str "sweep",.str w]
 | .iM n=>[.str "undo",.int n]
 | .ask o w d=>[.str (if o then "owed" else "free"),.str w,.int d]
 | .iy _ _ _=>[]
theorem jC {x y:Str}(h:x≠y):V.bl (decide (V.str x=V.str y))=V.bl false:=c8 V.bl (bI fun z=>h (by injection z))
theorem zR (x:Str):V.bl (decide (V.str x=V.str x))=V.bl true:=c8 V.bl (aM rfl)
theorem Se {x y:Str}(h:x≠y):V.bl (!decide (V.str x=V.str y))=V.bl true:=by rw[show decide (V.str x=V.str y)=false from bI fun z=>h (by injection z)]; rfl
theorem YM (x:Str):V.bl (!decide (V.str x=V.str x))=V.bl false:=by rw[show decide (V.str x=V.str x)=true from aM rfl]; rfl
theorem u0 {x:Int}{n:Nat}{ta tc:TE}{σ:L2.St}{H:Hp}{Q:Bool->Hp->Prop}(ha: ∀R:VK,R (.int x) H->ta σ H R)(hc: ∀R:VK,R (.int (n:Int)) H->tc σ H R)(q:Q (decide (qa x n)) H):
  Hh (Hj (JM fun i j=> .bl (decide (i<=j))) (JM fun i j=> .bl (decide (i < j))) (tC (.int 0)) ta tc) σ H Q:=by
 refine ha _ ⟨_,_,rfl,rfl,_,rfl,cI (fun d=>hc _ ⟨_,_,rfl,rfl,_,rfl,?_⟩) (fun d=>⟨_,rfl,?_⟩)⟩
 ·have d':(0:Int)<=x:=aZ d
  have e:decide (qa x n)=decide (x < (n:Int)):=mq.mpr ⟨fun z=>z.2,fun z=>⟨d',z⟩⟩
  rw[e] at q
  exact q
 ·have d': ¬ (0:Int)<=x:=fun z=>d (aM z)
  have e:decide (qa x n)=false:=bI fun z=>d' z.1
  rw[e] at q
  exact q
def Bj:Sp:=fun vs H Q _=> ∃(sd pd:Addr) (S:Bk) (f:fG) (d:bD),vs=[.ref sd,.ref pd]/\dr H sd S f/\H pd=some (.tup (bD.vs d))/\d.tells=true/\ ∀H',aG H H'->Q (.str (S.bar d)) H'
theorem ny:aS ["_law_state","_law_deed","_law_word","_law_spot"] ["_law_state","_law_deed"] (ay (top 58)):={}
theorem wx (T:Txt K mg):fe P w K mg base "_law_barred" 2 ["_law_state","_law_deed"] Bj:=by
 have jh:fe P w K mg base "_law_goes" 1 ["_law_state","_law_credit","_law_bill"] C6:=nu T
 refine T.wa.fM (k:=1) ny (fun f cX A outer s H vs Q E hr h=>?_)
 ·obtain⟨sd,pd,S,g,d,rfl,hB,hd,ht,k⟩:=h
  have hu:=kz hr
  have nd:=ny.nd
  refine⟨_,(ah (sv 2 nd (xt (pv 1) aj))
(ah (sv 3 nd (fZ k6 (by rfl) T.xA boot_int (aa (eQ dg (pv 2) aR (ba _)) ak)))
(ah (bV (PW.pt (pw_and (a8 dg (pv 3) aj (ba _)) (pw_and1 (jL (Ae wZ jN aj (xt (pv 1) aj) (bo bq (by rfl) T.eT bu (aa (cO hu (pv 0) aR (fun _ _=>rfl)) ak)))))))
(av (a9 aR))
bp)
(ah (bV (PW.pt (pw_and (a8 nP (pv 2) (bW (aa aR (aa aR ak))) (by rfl)) (pw_and1 (jL (Ae wZ jN aj (xt (pv 1) (aV dM aj (pv 3))) (bo bq (by rfl) T.eT bu (aa (cO hu (pv 0) aR (fun _ _=>rfl)) ak)))))))
(av (a9 aR))
bp)
(ah (bV (PW.pt (pw_and (a8 dg (pv 2) aR (ba _)) (pw_and1 (jL (gg (fc jh hr (aa (pv 0) (aa (xt (pv 1) aj) (aa (xt (pv 1) aj) ak)))))))))
(av (a9 aR))
bp)
(ah (bV (PW.pt (pw_and (a8 sf (pv 2) aR (ba _)) (pw_and1 (a8 jN (xt (pv 1) (oH kM aj)) aj (ba _)))))
(av (a9 aR))
bp)
(ah (bV (PW.pt (pw_and (a8 dg (pv 2) aR (ba _)) (pw_and1 (a8 jN (xt (pv 1) aj) (xt (pv 1) aj) (ba _)))))
(av (a9 aR))
bp)
(ah (bV (a8 dg (pv 2) aR (ba _))
(av (bV (a8 jr (xt (pv 1) aj) (bo (rC rfl) (by rfl) T.AJ boot_min (aa (xl (xl (cO hu (pv 0) aR (fun _ _=>rfl)) (xt (pv 1) aj)) aj) (aa (xl (xl (cO hu (pv 0) aR (fun _ _=>rfl)) (xt (pv 1) aj)) aj) ak))) (ba _))
(av (a9 aR))
bp))
bp)
(av (a9 aR)))))))))),?_⟩
  have kk: ∀(t:Str) (H':Hp),S.bar d=t->aG H H'->Q (.str t) H':=fun t H' e z=>e▸k H' z
  clear k
  cases d with
  |iM n=>cases ht
  |ask o w d=>cases ht
  |iy w d l=>cases ht
  |dQ wh dy du am=>
   refine⟨_,rfl,pd,_,_,.str "bill",rfl,rfl,cG.of hd,rfl,_,rfl,rfl,.inr ⟨false,(by rw[jC (show("bill":Str)≠"set" by decide +kernel)]),?_⟩⟩
   refine⟨_,rfl,rfl,false,c8 V.bl (by decide +kernel),cg (cg ?_)⟩
   refine⟨_,rfl,(by show 2<=sizeLine; decide),fun p9 n9=>⟨p9,_,rfl,.inl (bL.of ag),rfl,rfl,false,c8 V.bl (by decide +kernel),cg (cg ?_)⟩⟩
   have s9:=aG.new (o:= .lst [V.str "set",.str "note"]) n9
   have Bl:=s9 _ _ hd
   refine jB (H':=upd H p9 (.lst [V.str "set",.str "note"])) rfl ?_
   generalize upd H p9 (.lst [V.str "set",.str "note"])=H9 at s9 Bl
   refine⟨_,rfl,rfl,false,jC (show("bill":Str)≠"set" by decide +kernel),cg (cg ?_)⟩
   refine⟨_,rfl,rfl,true,Se (show("bill":Str)≠"sweep" by decide +kernel),fC ⟨_,rfl,_,rfl,pd,_,_,.int am,rfl,rfl,cG.of Bl,rfl,_,_,rfl,rfl,_,rfl,cI (fun z=>?_) (fun z=>?_)⟩⟩
   ·have z':am < 1:=aZ z
    exact kk _ _ (a7 z') s9
   have z1: ¬ am < 1:=fun q=>z (aM q)
   refine⟨_,rfl,rfl,true,zR _,fC ⟨_,rfl,pd,_,_,.int du,rfl,rfl,cG.of Bl,rfl,_,rfl,pd,_,_,.int dy,rfl,rfl,cG.of Bl,rfl,_,_,rfl,rfl,_,rfl,cI (fun z=>?_) (fun z=>?_)⟩⟩
   ·have z':du < dy:=aZ z
    exact kk _ _ ((aO z1).trans (a7 z')) s9
   have z2: ¬ du < dy:=fun q=>z (aM q)
   refine⟨_,rfl,rfl,false,jC (show("bill":Str)≠"set" by decide +kernel),cg ?_⟩
   exact kk _ _ ((aO z1).trans (aO z2)) s9
  |pZ wh dy am=>
   refine⟨_,rfl,pd,_,_,.str "pay",rfl,rfl,cG.of hd,rfl,_,rfl,rfl,.inr ⟨false,(by rw[jC (show("pay":Str)≠"set" by decide +kernel)]),?_⟩⟩
   refine⟨_,rfl,rfl,false,c8 V.bl (by decide +kernel),cg (cg ?_)⟩
   refine⟨_,rfl,(by show 2<=sizeLine; decide),fun p9 n9=>⟨p9,_,rfl,.inl (bL.of ag),rfl,rfl,false,c8 V.bl (by decide +kernel),cg (cg ?_)⟩⟩
   have s9:=aG.new (o:= .lst [V.str "set",.str "note"]) n9
   have Bl:=s9 _ _ hd
   refine jB (H':=upd H p9 (.lst [V.str "set",.str "note"])) rfl ?_
   generalize upd H p9 (.lst [V.str "set",.str "note"])=H9 at s9 Bl
   refine⟨_,rfl,rfl,false,jC (show("pay":Str)≠"set" by decide +kernel),cg (cg ?_)⟩
   refine⟨_,rfl,rfl,true,Se (show("pay":Str)≠"sweep" by decide +kernel),fC ⟨_,rfl,_,rfl,pd,_,_,.int am,rfl,rfl,cG.of Bl,rfl,_,_,rfl,rfl,_,rfl,cI (fun z=>?_) (fun z=>?_)⟩⟩
   ·have z':am < 1:=aZ z
    exact kk _ _ (a7 z') s9
   have z1: ¬ am < 1:=fun q=>z (aM q)
   refine⟨_,rfl,rfl,false,jC (show("pay":Str)≠"bill" by decide +kernel),cg (cg ?_)⟩
   refine⟨_,rfl,rfl,false,jC (show("pay":Str)≠"set" by decide +kernel),cg ?_⟩
   exact kk _ _ (aO z1) s9
  |fJ wh=>
   refine⟨_,rfl,pd,_,_,.str "sweep",rfl,rfl,cG.of hd,rfl,_,rfl,rfl,.inr ⟨false,(by rw[jC (show("sweep":Str)≠"set" by decide +kernel)]),?_⟩⟩
   refine⟨_,rfl,rfl,false,c8 V.bl (by decide +kernel),cg (cg ?_)⟩
   refine⟨_,rfl,(by show 2<=sizeLine; decide),fun p9 n9=>⟨p9,_,rfl,.inl (bL.of ag),rfl,rfl,false,c8 V.bl (by decide +kernel),cg (cg ?_)⟩⟩
   have s9:=aG.new (o:= .lst [V.str "set",.str "note"]) n9
   refine jB (H':=upd H p9 (.lst [V.str "set",.str "note"])) rfl ?_
   generalize upd H p9 (.lst [V.str "set",.str "note"])=H9 at s9
   refine⟨_,rfl,rfl,false,jC (show("sweep":Str)≠"set" by decide +kernel),cg (cg ?_)⟩
   refine⟨_,rfl,rfl,false,YM _,cg (cg ?_)⟩
   refine⟨_,rfl,rfl,false,jC (show("sweep":Str)≠"bill" by decide +kernel),cg (cg ?_)⟩
   refine⟨_,rfl,rfl,false,jC (show("sweep":Str)≠"set" by decide +kernel),cg ?_⟩
   exact kk _ _ rfl s9
  |note bi dy am=>
   refine⟨_,rfl,pd,_,_,.str "note",rfl,rfl,cG.of hd,rfl,_,rfl,rfl,.inr ⟨false,(by rw[jC (show("note":Str)≠"set" by decide +kernel)]),?_⟩⟩
   refine⟨_,rfl,rfl,false,c8 V.bl (by decide +kernel),cg (cg ?_)⟩
   refine⟨_,rfl,(by show 2<=sizeLine; decide),fun p9 n9=>⟨p9,_,rfl,.inl (bL.of ag),rfl,rfl,true,c8 V.bl (by decide +kernel),fC ?_⟩⟩
   have s9:=aG.new (o:= .lst [V.str "set",.str "note"]) n9
   have Bl:=s9 _ _ hd
   have B9:=hB.same s9
   generalize upd H p9 (.lst [V.str "set",.str "note"])=H9 at s9 Bl B9
   have hlen:g.iD.length=S.aC.length:=B9.rb.length.symm
   refine u0 (x:=bi) (n:=S.aC.length) (fun R q=>⟨_,rfl,_,rfl,_,_,rfl,rfl,pd,_,_,.int bi,rfl,rfl,cG.of Bl,rfl,q⟩) (fun R q=>⟨_,rfl,sd,_,rfl,B9.gB,g.pb,_,rfl,.inl (bL.of B9.hb),by rw[ae,hlen]; exact q⟩) (cI (fun z=>?_) (fun z=>?_))
   ·have z': ¬ qa bi S.aC.length:=by simpa using z
    exact kk _ _ (a7 z') s9
   have z0: ¬ ¬ qa bi S.aC.length:=by simpa using z
   refine⟨_,rfl,rfl,false,jC (show("note":Str)≠"set" by decide +kernel),cg (cg ?_)⟩
   refine⟨_,rfl,rfl,true,Se (show("note":Str)≠"sweep" by decide +kernel),fC ⟨_,rfl,_,rfl,pd,_,_,.int am,rfl,rfl,cG.of Bl,rfl,_,_,rfl,rfl,_,rfl,cI (fun z=>?_) (fun z=>?_)⟩⟩
   ·have z':am < 1:=aZ z
    exact kk _ _ ((aO z0).trans (a7 z')) s9
   have z1: ¬ am < 1:=fun q=>z (aM q)
   refine⟨_,rfl,rfl,false,jC (show("note":Str)≠"bill" by decide +kernel),cg (cg ?_)⟩
   refine⟨_,rfl,rfl,false,jC (show("note":Str)≠"set" by decide +kernel),cg ?_⟩
   exact kk _ _ ((aO z0).trans (aO z1)) s9
  |set ci bi am=>
   have YN:g.cps.length=S.credits.length:=hB.rc.length.symm
   refine⟨_,rfl,pd,_,_,.str "set",rfl,rfl,cG.of hd,rfl,_,rfl,rfl,.inr ⟨true,(by rw[zR]),?_⟩⟩
   refine⟨_,rfl,rfl,true,c8 V.bl (by decide +kernel),fC ?_⟩
   refine u0 (x:=ci) (n:=S.credits.length) (fun R q=>⟨_,rfl,pd,_,_,.int ci,rfl,rfl,cG.of hd,rfl,q⟩) (fun R q=>⟨_,rfl,sd,_,rfl,hB.gC,g.pc,_,rfl,.inl (bL.of hB.hc),by rw[ae,YN]; exact q⟩) (cI (fun z=>?_) (fun z=>?_))
   ·have z': ¬ qa ci S.credits.length:=by simpa using z
    exact kk _ _ (a7 z') (aG.refl _)
   have zc: ¬ ¬ qa ci S.credits.length:=by simpa using z
   refine⟨_,rfl,(by show 2<=sizeLine; decide),fun p9 n9=>⟨p9,_,rfl,.inl (bL.of ag),rfl,rfl,true,c8 V.bl (by decide +kernel),fC ?_⟩⟩
   have s9:=aG.new (o:= .lst [V.str "set",.str "note"]) n9
   have Bl:=s9 _ _ hd
   have B9:=hB.same s9
   generalize upd H p9 (.lst [V.str "set",.str "note"])=H9 at s9 Bl B9
   have hlen:g.iD.length=S.aC.length:=B9.rb.length.symm
   refine u0 (x:=bi) (n:=S.aC.length) (fun R q=>⟨_,rfl,_,rfl,_,_,rfl,rfl,pd,_,_,.int bi,rfl,rfl,cG.of Bl,rfl,q⟩) (fun R q=>⟨_,rfl,sd,_,rfl,B9.gB,g.pb,_,rfl,.inl (bL.of B9.hb),by rw[ae,hlen]; exact q⟩) (cI (fun z=>?_) (fun z=>?_))
   ·have z': ¬ qa bi S.aC.length:=by simpa using z
    exact kk _ _ ((aO zc).trans (a7 z')) s9
   have zb: ¬ ¬ qa bi S.aC.length:=by simpa using z
   have ic:=E4.mp zc
   have ib:=E4.mp zb
   obtain⟨c,rfl⟩:=cA ic.1
   obtain⟨b,rfl⟩:=cA ib.1
   have hc:c < S.credits.length:=by have:=ic.2; lia
   have hb:b < S.aC.length:=by have:=ib.2; lia
   refine⟨_,rfl,rfl,true,zR _,fC ⟨_,rfl,_,rfl,pd,_,_,.int (c:Int),rfl,rfl,cG.of Bl,rfl,_,rfl,pd,_,_,.int (b:Int),rfl,rfl,cG.of Bl,rfl,sd,S,g,c,b,rfl,B9,hc,hb,fun H10 IX=>⟨_,rfl,cI (fun z=>?_) (fun z=>?_)⟩⟩⟩
   ·have z':S.dR c b=false:=by simpa using z
    exact kk _ _ ((if_neg zc).trans ((if_neg zb).trans (if_pos (by simpa using z')))) (s9.trans IX)
   have zg: ¬ S.dR (c:Int).toNat (b:Int).toNat=false:=by simpa using z
   have Lv:=IX _ _ Bl
   have PY:=B9.same IX
   have Bm:=s9.trans IX
   refine⟨_,rfl,rfl,true,Se (show("set":Str)≠"sweep" by decide +kernel),fC ⟨_,rfl,_,rfl,pd,_,_,.int am,rfl,rfl,cG.of Lv,rfl,_,_,rfl,rfl,_,rfl,cI (fun z=>?_) (fun z=>?_)⟩⟩
   ·have z':am < 1:=aZ z
    exact kk _ _ ((aO zc).trans ((aO zb).trans ((aO zg).trans (a7 z')))) Bm
   have z1: ¬ am < 1:=fun q=>z (aM q)
   refine⟨_,rfl,rfl,false,jC (show("set":Str)≠"bill" by decide +kernel),cg (cg ?_)⟩
   obtain⟨p,_,ap,hp⟩:=PY.lc hc
   obtain⟨q,_,aq,hq⟩:=PY.lb hb
   refine⟨_,rfl,rfl,true,zR _,fC ?_⟩
   refine⟨_,rfl,pd,_,_,.int am,rfl,rfl,cG.of Lv,rfl,_,rfl,sd,_,rfl,PY.gC,_,rfl,pd,_,_,.int (c:Int),rfl,rfl,cG.of Lv,rfl,g.pc,_,_,.ref p,rfl,rfl,bL.of PY.hc,ap,p,_,_,.int (S.cr c).d,rfl,rfl,bL.of hp,rfl,?_⟩
   refine⟨_,rfl,sd,_,rfl,PY.gB,_,rfl,pd,_,_,.int (b:Int),rfl,rfl,cG.of Lv,rfl,g.pb,_,_,.ref q,rfl,rfl,bL.of PY.hb,aq,q,_,_,.int (S.bl b).d,rfl,rfl,bL.of hq,rfl,_,_,rfl,_,_,rfl,rfl,_,rfl,cI (fun z=>?_) (fun z=>?_)⟩
   ·have z':fE (S.cr (c:Int).toNat).d (S.bl (b:Int).toNat).d < am:=aZ z
    exact kk _ _ ((aO zc).trans ((aO zb).trans ((aO zg).trans ((aO z1).trans (a7 z'))))) Bm
   ·have z': ¬ fE (S.cr (c:Int).toNat).d (S.bl (b:Int).toNat).d < am:=fun q=>z (aM q)
    exact kk _ _ ((aO zc).trans ((aO zb).trans ((aO zg).trans ((aO z1).trans (aO z'))))) Bm
def Oy (H:Hp)(f f':fG):Prop:= ∀x∈f'.fp,x∈f.fp∨H x=none
def Wx (Q:VK)(H:Hp)(sd:Addr)(S:Bk)(f:fG)(d:bD):Prop:=
 ∀v f' H',Frame f.fp H H'->dr H' sd (S.enter d) f'->Oy H f f'->Rp H' (S.KR d).dt v->Q v H'
def zd:Sp:=fun vs H Q _=> ∃(sd pd:Addr) (S:Bk) (f:fG) (d:bD),vs=[.ref sd,.ref pd]/\dr H sd S f/\H pd=some (.tup (bD.vs d))/\d.tells=true/\S.credits.length < 64/\S.aC.length < 64/\S.made.length + 10000 < sizeLine/\
 (S.bar d≠""-> ∀H',aG H H'->Q (.str (S.bar d)) H')/\(S.bar d=""->Wx Q H sd S f d)
theorem oO:aS ["_law_state","_law_deed","_law_text","_law_who"] ["_law_state","_law_deed"] (ay (top 59)):={}
theorem qN (T:Txt K mg):fe P w K mg base "_law_enter" 3 ["_law_state","_law_deed"] zd:=by
 have wy:fe P w K mg base "_law_barred" 2 ["_law_state","_law_deed"] Bj:=wx T
 have pM:fe P w K mg base "_law_put" 1 ["_law_state","_law_credit","_law_bill","_law_amount"] Eo:=uW T
 have ze:fe P w K mg base "_law_swept" 2 ["_law_state","_law_who"] Es:=y6 T
 refine T.yJ.fM (k:=2) oO (fun f cX A outer s H vs Q E hr h=>?_)
 ·obtain⟨sd,pd,S,g,d,rfl,hB,hd,ht,qC,Ls,IU,kn,ky⟩:=h
  have hu:=kz hr
  have nd:=oO.nd
  refine⟨_,(ah (sv 2 nd (fc wy hr (aa (pv 0) (aa (pv 1) ak))))
(ah (bV (a8 sf (pv 2) aR (ba _))
(av (a9 (pv 2)))
bp)
(ah (bV (a8 dg (xt (pv 1) aj) aR (ba _))
(ah (bM (fk aJ aH aI bU (cO hu (pv 0) aR (fun _ _=>rfl)) (aa (bW (aa (xt (pv 1) aj) (aa (xt (pv 1) aj) (aa (xt (pv 1) aj) (aa (xt (pv 1) aj) (aa (xt (pv 1) aj) ak)))))) ak)))
(av (a9 (aV eV (bo bq (by rfl) T.eT bu (aa (cO hu (pv 0) aR (fun _ _=>rfl)) ak)) aj))))
bp)
(ah (bV (a8 dg (xt (pv 1) aj) aR (ba _))
(ah (bM (fk aJ aH aI bU (cO hu (pv 0) aR (fun _ _=>rfl)) (aa (bW (aa (xt (pv 1) aj) (aa (xt (pv 1) aj) (aa (xt (pv 1) aj) (aa (oH kM aj) (aa (xt (pv 1) aj) ak)))))) ak)))
(av (a9 (aV eV (bo bq (by rfl) T.eT bu (aa (cO hu (pv 0) aR (fun _ _=>rfl)) ak)) aj))))
bp)
(ah (bV (a8 dg (xt (pv 1) aj) aR (ba _))
(ah (sv 3 nd (xl (xl (cO hu (pv 0) aR (fun _ _=>rfl)) (xt (pv 1) aj)) aj))
(ah (bM (fk aJ aH aI bU (cO hu (pv 0) aR (fun _ _=>rfl)) (aa (bW (aa (pv 3) (aa (xt (pv 1) aj) (aa (xt (pv 1) aj) (aa (xt (pv 1) aj) (aa (xt (pv 1) aj) ak)))))) ak)))
(av (a9 (aV eV (bo bq (by rfl) T.eT bu (aa (cO hu (pv 0) aR (fun _ _=>rfl)) ak)) aj)))))
bp)
(ah (bV (a8 dg (xt (pv 1) aj) aR (ba _))
(ah (bM (fc pM hr (aa (pv 0) (aa (xt (pv 1) aj) (aa (xt (pv 1) aj) (aa (xt (pv 1) aj) ak))))))
(av (a9 (xt (pv 1) aj))))
bp)
(av (a9 (fc ze hr (aa (pv 0) (aa (xt (pv 1) aj) ak))))))))))),?_⟩
  refine⟨_,rfl,_,rfl,sd,pd,S,g,d,rfl,hB,hd,ht,fun H1 s1=>?_⟩
  by_cases oC:S.bar d=""
  case neg=>exact⟨_,rfl,rfl,true,Se oC,fC ⟨_,rfl,kn oC H1 s1⟩⟩
  refine⟨_,rfl,rfl,false,(by rw[oC]; exact YM _),cg ?_⟩
  have B1:=hB.same s1
  have lU:=s1 _ _ hd
  have Sf: ∀v f' H',Frame g.fp H1 H'->dr H' sd (S.enter d) f'->Oy H1 g f'->Rp H' (S.KR d).dt v->Q v H':=fun v f' H' fr b fi r=>ky oC v f' H' (fr.lZ s1) b (fun x hx=>(fi x hx).elim .inl fun z=> .inr (s1.free z)) r
  clear ky kn
  have lb:=B1.rb.length
  have lc:=B1.rc.length
  cases d with
  |iM n=>cases ht
  |ask o w d=>cases ht
  |iy w d l=>cases ht
  |dQ wh dy du am=>
   refine⟨_,rfl,pd,_,_,.str "bill",rfl,rfl,cG.of lU,rfl,rfl,true,zR _,fC ?_⟩
   refine⟨_,rfl,sd,_,rfl,B1.gB,.inl ⟨rfl,_,bL.of B1.hb⟩,_,rfl,pd,_,_,.str wh,rfl,rfl,cG.of lU,rfl,_,rfl,pd,_,_,.int dy,rfl,rfl,cG.of lU,rfl,_,rfl,pd,_,_,.int du,rfl,rfl,cG.of lU,rfl,_,rfl,pd,_,_,.int am,rfl,rfl,cG.of lU,rfl,_,rfl,pd,_,_,.int am,rfl,rfl,cG.of lU,rfl,(by show 5<=sizeLine; decide),fun pr nr=>?_⟩
   have t1:=aG.new (o:= .lst (Rw.vs ⟨wh,dy,du,am,am⟩)) nr
   refine⟨g.pb,_,_,rfl,rfl,t1 _ _ B1.hb,bh (by rw[ae]; lia),?_⟩
   have B2:=B1.il (r:=⟨wh,dy,du,am,am⟩) nr
   have F2:Frame g.fp H1 (upd (upd H1 pr (.lst (Rw.vs ⟨wh,dy,du,am,am⟩))) g.pb (.lst (g.iD.map V.ref ++ [.ref pr]))):=t1.frame.tr (Frame.upd (by simp[fG.fp]))
   refine jB (H':=upd (upd H1 pr (.lst (Rw.vs ⟨wh,dy,du,am,am⟩))) g.pb (.lst (g.iD.map V.ref ++ [.ref pr]))) rfl ?_
   generalize upd (upd H1 pr (.lst (Rw.vs ⟨wh,dy,du,am,am⟩))) g.pb (.lst (g.iD.map V.ref ++ [.ref pr]))=H2 at B2 F2
   refine⟨_,rfl,sd,_,rfl,B2.gB,_,_,rfl,.inl (bL.of B2.hb),_,_,rfl,rfl,?_⟩
   refine Sf _ (g.il pr) H2 F2 B2 (fun x hx=>?_) (eB.mpr ?_)
   ·rcases aw.mp ((g.IA pr).mem_iff.mp hx) with rfl|hx
    ·exact .inr nr
    ·exact .inl hx
   ·show V.int _ =V.int (S.aC.length:Int)
    congr 1
    rw[ae]
    show((g.iD ++ [pr]).length:Int) - 1=_
    rw[aF,lb]
    simp
  |pZ wh dy am=>
   refine⟨_,rfl,pd,_,_,.str "pay",rfl,rfl,cG.of lU,rfl,rfl,false,jC (show("pay":Str)≠"bill" by decide +kernel),cg ?_⟩
   refine⟨_,rfl,pd,_,_,.str "pay",rfl,rfl,cG.of lU,rfl,rfl,true,zR _,fC ?_⟩
   refine⟨_,rfl,sd,_,rfl,B1.gC,.inl ⟨rfl,_,bL.of B1.hc⟩,_,rfl,pd,_,_,.str wh,rfl,rfl,cG.of lU,rfl,_,rfl,pd,_,_,.int dy,rfl,rfl,cG.of lU,rfl,_,rfl,pd,_,_,.int am,rfl,rfl,cG.of lU,rfl,_,rfl,_,rfl,pd,_,_,.int am,rfl,rfl,cG.of lU,rfl,(by show 5<=sizeLine; decide),fun pr nr=>?_⟩
   have t1:=aG.new (o:= .lst (Rw.vs ⟨wh,dy,am,-1,am⟩)) nr
   refine⟨g.pc,_,_,rfl,rfl,t1 _ _ B1.hc,bh (by rw[ae]; lia),?_⟩
   have B2:=B1.fR (r:=⟨wh,dy,am,-1,am⟩) nr
   have F2:Frame g.fp H1 (upd (upd H1 pr (.lst (Rw.vs ⟨wh,dy,am,-1,am⟩))) g.pc (.lst (g.cps.map V.ref ++ [.ref pr]))):=t1.frame.tr (Frame.upd (by simp[fG.fp]))
   refine jB (H':=upd (upd H1 pr (.lst (Rw.vs ⟨wh,dy,am,-1,am⟩))) g.pc (.lst (g.cps.map V.ref ++ [.ref pr]))) rfl ?_
   generalize upd (upd H1 pr (.lst (Rw.vs ⟨wh,dy,am,-1,am⟩))) g.pc (.lst (g.cps.map V.ref ++ [.ref pr]))=H2 at B2 F2
   refine⟨_,rfl,sd,_,rfl,B2.gC,_,_,rfl,.inl (bL.of B2.hc),_,_,rfl,rfl,?_⟩
   refine Sf _ (g.fR pr) H2 F2 B2 (fun x hx=>?_) (eB.mpr ?_)
   ·rcases aw.mp ((g.Eh pr).mem_iff.mp hx) with rfl|hx
    ·exact .inr nr
    ·exact .inl hx
   ·show V.int _ =V.int (S.credits.length:Int)
    congr 1
    rw[ae]
    show((g.cps ++ [pr]).length:Int) - 1=_
    rw[aF,lc]
    simp
  |note bi dy am=>
   obtain⟨ib,ia⟩:=nQ oC
   obtain⟨b,rfl⟩:=cA ib.1
   have hb:b < S.aC.length:=by have:=ib.2; lia
   obtain⟨q,_,aq,hq⟩:=B1.lb hb
   refine⟨_,rfl,pd,_,_,.str "note",rfl,rfl,cG.of lU,rfl,rfl,false,jC (show("note":Str)≠"bill" by decide +kernel),cg ?_⟩
   refine⟨_,rfl,pd,_,_,.str "note",rfl,rfl,cG.of lU,rfl,rfl,false,jC (show("note":Str)≠"pay" by decide +kernel),cg ?_⟩
   refine⟨_,rfl,pd,_,_,.str "note",rfl,rfl,cG.of lU,rfl,rfl,true,zR _,fC ?_⟩
   refine⟨_,rfl,sd,_,rfl,B1.gB,_,rfl,pd,_,_,.int (b:Int),rfl,rfl,cG.of lU,rfl,g.pb,_,_,.ref q,rfl,rfl,bL.of B1.hb,aq,q,_,_,.str (S.bl b).aN,rfl,rfl,bL.of hq,rfl,?_⟩
   refine⟨_,rfl,sd,_,rfl,B1.gC,.inl ⟨rfl,_,bL.of B1.hc⟩,_,rfl,_,rfl,pd,_,_,.int dy,rfl,rfl,cG.of lU,rfl,_,rfl,pd,_,_,.int am,rfl,rfl,cG.of lU,rfl,_,rfl,pd,_,_,.int (b:Int),rfl,rfl,cG.of lU,rfl,_,rfl,pd,_,_,.int am,rfl,rfl,cG.of lU,rfl,(by show 5<=sizeLine; decide),fun pr nr=>?_⟩
   have t1:=aG.new (o:= .lst (Rw.vs ⟨(S.bl b).aN,dy,am,b,am⟩)) nr
   refine⟨g.pc,_,_,rfl,rfl,t1 _ _ B1.hc,bh (by rw[ae]; lia),?_⟩
   have B2:=B1.fR (r:=⟨(S.bl b).aN,dy,am,b,am⟩) nr
   have F2:Frame g.fp H1 (upd (upd H1 pr (.lst (Rw.vs ⟨(S.bl b).aN,dy,am,b,am⟩))) g.pc (.lst (g.cps.map V.ref ++ [.ref pr]))):=t1.frame.tr (Frame.upd (by simp[fG.fp]))
   refine jB (H':=upd (upd H1 pr (.lst (Rw.vs ⟨(S.bl b).aN,dy,am,b,am⟩))) g.pc (.lst (g.cps.map V.ref ++ [.ref pr]))) rfl ?_
   generalize upd (upd H1 pr (.lst (Rw.vs ⟨(S.bl b).aN,dy,am,b,am⟩))) g.pc (.lst (g.cps.map V.ref ++ [.ref pr]))=H2 at B2 F2
   refine⟨_,rfl,sd,_,rfl,B2.gC,_,_,rfl,.inl (bL.of B2.hc),_,_,rfl,rfl,?_⟩
   refine Sf _ (g.fR pr) H2 F2 B2 (fun x hx=>?_) (eB.mpr ?_)
   ·rcases aw.mp ((g.Eh pr).mem_iff.mp hx) with rfl|hx
    ·exact .inr nr
    ·exact .inl hx
   ·show V.int _ =V.int (S.credits.length:Int)
    congr 1
    rw[ae]
    show((g.cps ++ [pr]).length:Int) - 1=_
    rw[aF,lc]
    simp
  |set ci bi am=>
   obtain⟨ic,ib,_,_,_,_⟩:=lh oC
   obtain⟨c,rfl⟩:=cA ic.1
   obtain⟨b,rfl⟩:=cA ib.1
   have hc:c < S.credits.length:=by have:=ic.2; lia
   have hb:b < S.aC.length:=by have:=ib.2; lia
   refine⟨_,rfl,pd,_,_,.str "set",rfl,rfl,cG.of lU,rfl,rfl,false,jC (show("set":Str)≠"bill" by decide +kernel),cg ?_⟩
   refine⟨_,rfl,pd,_,_,.str "set",rfl,rfl,cG.of lU,rfl,rfl,false,jC (show("set":Str)≠"pay" by decide +kernel),cg ?_⟩
   refine⟨_,rfl,pd,_,_,.str "set",rfl,rfl,cG.of lU,rfl,rfl,false,jC (show("set":Str)≠"note" by decide +kernel),cg ?_⟩
   refine⟨_,rfl,pd,_,_,.str "set",rfl,rfl,cG.of lU,rfl,rfl,true,zR _,fC ?_⟩
   refine⟨_,rfl,_,rfl,pd,_,_,.int (c:Int),rfl,rfl,cG.of lU,rfl,_,rfl,pd,_,_,.int (b:Int),rfl,rfl,cG.of lU,rfl,_,rfl,pd,_,_,.int am,rfl,rfl,cG.of lU,rfl,sd,S,g,c,b,am,rfl,B1,hc,hb,by lia,fun H2 F2 B2=>?_⟩
   have hd2:=B1.tk F2 _ _ lU
   refine⟨_,rfl,pd,_,_,.int am,rfl,rfl,cG.of hd2,rfl,?_⟩
   exact Sf _ g H2 F2 B2 (fun x hx=> .inl hx) (eB.mpr rfl)
  |fJ wh=>
   refine⟨_,rfl,pd,_,_,.str "sweep",rfl,rfl,cG.of lU,rfl,rfl,false,jC (show("sweep":Str)≠"bill" by decide +kernel),cg ?_⟩
   refine⟨_,rfl,pd,_,_,.str "sweep",rfl,rfl,cG.of lU,rfl,rfl,false,jC (show("sweep":Str)≠"pay" by decide +kernel),cg ?_⟩
   refine⟨_,rfl,pd,_,_,.str "sweep",rfl,rfl,cG.of lU,rfl,rfl,false,jC (show("sweep":Str)≠"note" by decide +kernel),cg ?_⟩
   refine⟨_,rfl,pd,_,_,.str "sweep",rfl,rfl,cG.of lU,rfl,rfl,false,jC (show("sweep":Str)≠"set" by decide +kernel),cg ?_⟩
   refine⟨_,rfl,_,rfl,pd,_,_,.str wh,rfl,rfl,cG.of lU,rfl,sd,S,g,wh,rfl,B1,qC,Ls,IU,fun D ms H2 F2 B2 nD hD hT=>?_⟩
   exact Sf _ g H2 F2 B2 (fun x hx=> .inl hx) (jP.mpr ⟨D,ms,rfl,hD,hT.Ua⟩)
def bD.word:bD->Str
 | .dQ _ _ _ _=>"bill"
 | .pZ _ _ _=>"pay"
 | .note _ _ _=>"note"
 | .set _ _ _=>"set"
 | .fJ _=>"sweep"
 | .iM _=>"undo"
 | .ask o _ _=>if o then "owed" else "free"
 | .iy _ _ _=>"ages"
theorem tO {d:bD}(h:d.tells=true∨ ∃m,d= .iM m): ∃r,bD.vs d= .str (bD.word d) :: r:=by
 cases d with
 |iy w d l=>rcases h with h|⟨m,h⟩ <;> cases h
 |_=>exact⟨_,rfl⟩
theorem Eu {d:bD}(h:d.tells=true):vM (.str (bD.word d)) [.str "set",.str "sweep"]=d.isSet:=by
 cases d with
 |dQ _ _ _ _=>show vM (.str "bill") _ =false; decide +kernel
 |pZ _ _ _=>show vM (.str "pay") _ =false; decide +kernel
 |note _ _ _=>show vM (.str "note") _ =false; decide +kernel
 |set _ _ _=>show vM (.str "set") _ =true; decide +kernel
 |fJ _=>show vM (.str "sweep") _ =true; decide +kernel
 |iM _=>cases h
 |ask _ _ _=>cases h
 |iy _ _ _=>cases h
def gK (H:Hp)(ss:List (Int×bD))(vs:List V):Prop:=Paired (fun(st:Int×bD) v=> ∃p pd,v= .ref p/\H p=some (.tup [.int st.1,.ref pd])/\H pd=some (.tup (bD.vs st.2))/\st.2.tells=true) ss vs
theorem gK.mono {H H':Hp}{ss:List (Int×bD)}{vs:List V}(h:gK H ss vs)(k:cK H H'):gK H' ss vs:=
 Paired.iS h fun _ _ ⟨p,pd,e,q1,q2,t⟩=>⟨p,pd,e,k _ _ q1,k _ _ q2,t⟩
def Bn:Sp:=fun vs H Q _=> ∃(ps:Addr) (ss:List (Int×bD)) (us:List V),vs=[.ref ps]/\H ps=some (.lst us)/\gK H ss us/\ss.length<=59/\
 (cF ss Bk.new=none-> ∀H',aG H H'->Q .en H')/\(∀S,cF ss Bk.new=some S-> ∀sd f H',aG H H'->dr H' sd S f->(∀b∈f.fp,H b=none)->Q (.ref sd) H')
theorem nz:aS ["_law_steps","_law_state","_law_number","_law_deed"] ["_law_steps"] (ay (top 60)):={}
theorem wz (T:Txt K mg):fe P w K mg base "_law_worked" 4 ["_law_steps"] Bn:=by
 have l0:fe P w K mg base "_law_begun" 1 [] En:=qL T
 have l4:fe P w K mg base "_law_enter" 3 ["_law_state","_law_deed"] zd:=qN T
 refine T.wb.fM (k:=3) nz (fun f cX A outer s H vs Q E hr h=>?_)
 ·obtain⟨ps,ss,us,rfl,mO,Lw,hl,kn,ky⟩:=h
  have nd:=nz.nd
  have hlen:=aW Lw
  refine⟨_,(ah (sv 1 nd (HJ l0 (hr.mono (by decide)) rfl))
(ah (fH bT rfl (dz (pv 0)) (iT rfl (ck (gn 2 nd) (ck (gn 3 nd) gG)))
(av (bV (gg (bo fu (by rfl) T.dF eR (aa (fc l4 hr (aa (pv 1) (aa (pv 3) ak))) (aa (gY (v:= .ty "str") (by rfl) T.Ef boot_str rfl) ak))))
(av (a9 Cj))
bp)))
(av (a9 (pv 1))))),?_⟩
  refine⟨rfl,fun sd f0 H1 s1 B1 Lc nf=>?_⟩
  refine⟨_,rfl,ps,rfl,⟨_,bL.of (s1 _ _ mO)⟩,?_⟩
  refine gR (K:=K) (a:=ps) (xs:=us) (fun i σ H2=> ∃(S:Bk) (f:fG) (x2 x3:Option V),σ=[some (.ref ps),some (.ref sd),x2,x3]/\aG H H2/\dr H2 sd S f/\(∀b∈f.fp,H b=none)/\WF S i/\cF ss Bk.new=cF (ss.drop i) S)
   ⟨Bk.new,f0,none,none,rfl,s1,B1,nf,WF.new,rfl⟩ (fun i σ H2 _ ⟨_,_,_,_,_,s2,_⟩=>bL.of (s2 _ _ mO)) ?_ ?_
  ·rintro i x σ H2 hx ⟨S,f2,x2,x3,rfl,s2,B2,Ue,wf,hw⟩
   have hi:i < ss.length:=by have:=(au.mp hx).1; lia
   obtain⟨v,hv,p,pd,rfl,hp,G1,ht⟩:=bO Lw (af hi)
   rw[hx] at hv
   obtain rfl:x= .ref p:=aE hv
   have hdr:=M3 hi
   rw[hdr] at hw
   generalize ss[i]=st at hp G1 ht hw
   obtain⟨n,d⟩:=st
   have xk:=s2 _ _ hp
   have Oz:=s2 _ _ G1
   refine⟨p,_,rfl,cG.of xk,rfl,_,_,rfl,_,_,rfl,rfl,?_⟩
   refine⟨_,rfl,_,rfl,sd,pd,S,f2,d,rfl,B2,Oz,ht,by have:=wf.lc; lia,by have:=wf.lb; lia,by have:=wf.lm; rw[eU]; lia,fun hb H3 s3=>?_,fun hb v f3 H3 F3 B3 fi r=>?_⟩
   ·refine⟨_,_,_,true,rfl,.str _,xq (.str (S.bar d)),_,rfl,fC ?_⟩
    refine kn ?_ _ (s2.trans s3)
    rw[hw]
    show(if S.bar d="" then _ else none)=none
    rw[aO hb]
   ·have hS:TM (S.KR d).dt=false:=by cases d <;> first|rfl|cases ht
    refine⟨_,_,_,false,rfl,r.ty,(xq _).trans (c8 some hS),_,rfl,cg ?_⟩
    refine⟨S.enter d,f3,_,_,rfl,F3.same s2 Ue,B3,fun b pY=>?_,wf.enter (by lia) hb,?_⟩
    ·rcases fi b pY with z|z
     ·exact Ue b z
     ·exact s2.free z
    ·rw[hw]
     show(if S.bar d="" then _ else none)=_
     rw[a7 hb]
  ·rintro σ H2 ⟨S,f2,x2,x3,rfl,s2,B2,Ue,wf,hw⟩
   rw[← hlen,List.drop_length] at hw
   exact⟨_,rfl,ky S hw sd f2 H2 s2 B2 Ue⟩
def Lx:Sp:=fun vs H Q _=> ∃(pd:Addr) (wd:Str) (r:List V),vs=[.ref pd]/\H pd=some (.tup (.str wd :: r))/\ ∀H',aG H H'->Q (.bl (vM (.str wd) [.str "bill",.str "pay",.str "note",.str "set",.str "sweep"])) H'
theorem wA:aS ["_law_deed"] ["_law_deed"] (ay (top 61)):={}
theorem zf (T:Txt K mg):fe P w K mg base "_law_tells" 1 ["_law_deed"] Lx:=by
 refine T.yK.fM (k:=0) wA (fun f cX A outer s H vs Q E hr h=>?_)
 ·obtain⟨pd,wd,r,rfl,hd,k⟩:=h
  refine⟨_,(av (a9 (eQ nP (xt (pv 0) aj) (bW (aa aR (aa aR (aa aR (aa aR (aa aR ak)))))) (by rfl)))),?_⟩
  refine⟨_,rfl,pd,_,_,.str wd,rfl,rfl,cG.of hd,cJ (j:=0) rfl,(by show 5<=sizeLine; decide),fun p9 n9=>⟨p9,_,rfl,.inl (bL.of ag),rfl,rfl,?_⟩⟩
  exact k _ (aG.new n9)
def MH (Q:VK)(H:Hp)(ps:Addr)(f:fG)(r:JP×iW):Prop:=
 ∀(t:Addr) (v:V) (u5 B8:Addr) (f':fG) (Bo:List V) (H':Hp),H' t=some (.tup [v,.ref u5,.ref B8])->Rp H' r.1.dt v->H' u5=some (.lst Bo)->gK H' r.2.steps Bo->dr H' B8 r.2.bk f'->Frame f.fp H H'->Oy H f f'->u5∉f'.fp->(∀a o,a∉f.fp->H a=some o->u5=a->u5=ps)->Q (.ref t) H'
def OA:Sp:=fun vs H Q _=> ∃(ps sd pd:Addr) (n:Nat) (T:iW) (us:List V) (f:fG) (d:bD),vs=[.ref ps,.ref sd,.int n,.ref pd]/\H ps=some (.lst us)/\gK H T.steps us/\dr H sd T.bk f/\ps∉f.fp/\H pd=some (.tup (bD.vs d))/\(d.tells=true∨ ∃m,d= .iM m)/\Good T n/\n<=59/\MH Q H ps f (gi T n d)
theorem u6 {T:iW}{n:Int}{d:bD}(h:d.tells=true):gi T n d=if T.bk.bar d="" then(T.bk.KR d,(⟨T.steps ++ [(n,d)],T.bk.enter d⟩:iW)) else(.txt (T.bk.bar d),T):=by
 cases d <;> first|rfl|cases h
theorem qO:aS ["_law_steps","_law_state","_law_number","_law_deed","_law_rest","_law_step","_law_later","_law_answer"] ["_law_steps","_law_state","_law_number","_law_deed"] (ay (top 62)):={}
theorem gz {α:Type}(p:α->Bool){l:List α}{i:Nat}{x:α}(h:l[i]? =some x):(l.take (i + 1)).filter p=(l.take i).filter p ++ (if p x=true then[x] else[]):=by
 rw[E2,h,gf]
 congr 1
 show[x].filter p=_
 by_cases c:p x=true
 ·rw[a7 c,cM c]; rfl
 ·rw[aO c,kj c]; rfl
theorem Bp (T:Txt K mg):fe P w K mg base "_law_done" 5 ["_law_steps","_law_state","_law_number","_law_deed"] OA:=by
 have wB:fe P w K mg base "_law_worked" 4 ["_law_steps"] Bn:=wz T
 have l4:fe P w K mg base "_law_enter" 3 ["_law_state","_law_deed"] zd:=qN T
 refine T.AI.fM (k:=4) qO (fun f cX A outer s H vs Q E hr h=>?_)
 ·obtain⟨ps,sd,pd,n,T0,us,g,d,rfl,mO,Lw,hB,Ew,hd,hk,good,hn,k⟩:=h
  have nd:=qO.nd
  have hlen:=aW Lw
  have hT:=good.len
  obtain⟨rr,YO⟩:=tO hk
  have Ug:H pd=some (.tup (.str (bD.word d) :: rr)):=YO▸hd
  refine⟨_,(ah (bV (a8 dg (xt (pv 3) aj) aR (ba _))
(ah (sv 4 nd (bW ak))
(ah (fH bT rfl (dz (pv 0)) (gn 5 nd)
(av (bV (PW.pt (pw_or (a8 sf (xt (pv 5) aj) (xt (pv 3) aj) (ba _)) (pw_or1 (a8 yi (xt (xt (pv 5) aj) aj) (bW (aa aR (aa aR ak))) (by rfl)))))
(av (bM (fk aJ aH aI bU (pv 4) (aa (pv 5) ak))))
bp)))
(ah (bV (a8 dg (bo bq (by rfl) T.eT bu (aa (pv 4) ak)) (bo bq (by rfl) T.eT bu (aa (pv 0) ak)) (ba _))
(av (a9 (dB (aa aR (aa (pv 0) (aa (pv 1) ak))))))
bp)
(ah (sv 6 nd (fc wB hr (aa (pv 4) ak)))
(ah (bV (xZ (Hd (pv 6)))
(av (a9 (dB (aa aR (aa (pv 0) (aa (pv 1) ak))))))
bp)
(av (a9 (dB (aa aR (aa (pv 4) (aa (pv 6) ak)))))))))))
bp)
(ah (sv 7 nd (fc l4 hr (aa (pv 1) (aa (pv 3) ak))))
(ah (bV (gg (bo fu (by rfl) T.dF eR (aa (pv 7) (aa (gY (v:= .ty "str") (by rfl) T.Ef boot_str rfl) ak))))
(av (a9 (dB (aa (pv 7) (aa (pv 0) (aa (pv 1) ak))))))
bp)
(av (a9 (dB (aa (pv 7) (aa (aV lP (pv 0) (bW (aa (dB (aa (pv 2) (aa (pv 3) ak))) ak))) (aa (pv 1) ak))))))))),?_⟩
  refine⟨_,rfl,pd,_,_,.str (bD.word d),rfl,rfl,cG.of Ug,cJ (j:=0) rfl,rfl,?_⟩
  clear Ug YO rr
  by_cases ht:d.tells=true
  ·
   have hw:bD.word d≠"undo":=by
    cases d with
    |iM m=>cases ht
    |ask _ _ _=>cases ht
    |iy _ _ _=>cases ht
    |dQ _ _ _ _=>show("bill":Str)≠"undo"; decide +kernel
    |pZ _ _ _=>show("pay":Str)≠"undo"; decide +kernel
    |note _ _ _=>show("note":Str)≠"undo"; decide +kernel
    |set _ _ _=>show("set":Str)≠"undo"; decide +kernel
    |fJ _=>show("sweep":Str)≠"undo"; decide +kernel
   refine⟨false,jC hw,cg ?_⟩
   have wf:=good.wf (by lia)
   rw[u6 ht] at k
   refine⟨_,rfl,_,rfl,sd,pd,T0.bk,g,d,rfl,hB,hd,ht,by have:=wf.lc; lia,by have:=wf.lb; lia,by have:=wf.lm; rw[eU]; lia,fun hb H3 s3=>?_,fun hb v f3 H3 F3 B3 fi r=>?_⟩
   ·rw[aO hb] at k
    refine⟨_,rfl,_,_,_,true,rfl,.str _,xq (.str (T0.bk.bar d)),_,rfl,fC ?_⟩
    refine⟨_,rfl,_,rfl,_,rfl,(by show 3<=sizeLine; decide),fun t nt=>?_⟩
    have s4:=s3.trans (aG.new (o:= .tup [V.str (T0.bk.bar d),.ref ps,.ref sd]) nt)
    exact k t _ ps sd g us _ ag (gZ.mpr rfl) (s4 _ _ mO) (Lw.mono s4.tk) (hB.same s4) s4.frame (fun x hx=> .inl hx) Ew (fun _ _ _ _ _=>rfl)
   ·rw[a7 hb] at k
    have hS:TM (T0.bk.KR d).dt=false:=by cases d <;> first|rfl|cases ht
    refine⟨_,rfl,_,_,_,false,rfl,r.ty,(xq _).trans (c8 some hS),_,rfl,cg ?_⟩
    have YQ:=hB.tk F3
    have Gs:=F3 _ _ Ew mO
    have Wy:=Lw.mono YQ
    have MI:=YQ _ _ hd
    refine⟨_,rfl,_,rfl,_,rfl,_,rfl,(by show 2<=sizeLine; decide),fun p1 n1=>⟨(by show 1<=sizeLine; decide),fun p2 n2=>?_⟩⟩
    have t1:=aG.new (o:= .tup [V.int (n:Int),.ref pd]) n1
    have t2:=aG.new (o:= .lst [V.ref p1]) n2
    have g1:upd (upd H3 p1 (.tup [V.int (n:Int),.ref pd])) p2 (.lst [V.ref p1]) p1=some (.tup [V.int (n:Int),.ref pd]):=t2 _ _ ag
    have g2:upd (upd H3 p1 (.tup [V.int (n:Int),.ref pd])) p2 (.lst [V.ref p1]) p2=some (.lst [V.ref p1]):=ag
    have sJ:=t1.trans t2
    refine⟨ps,p2,_,_,rfl,rfl,sJ _ _ Gs,g2,?_,fun p4 n4=>?_⟩
    ·refine dk (bh ?_)
     show us.length + 1<=1000
     lia
    generalize upd (upd H3 p1 (.tup [V.int (n:Int),.ref pd])) p2 (.lst [V.ref p1])=H4 at sJ g1 g2 n4
    have t4:=aG.new (o:= .lst (us ++ [V.ref p1])) n4
    refine⟨_,rfl,(by show 3<=sizeLine; decide),fun t nt=>?_⟩
    have t5:=aG.new (o:= .tup [v,V.ref p4,.ref sd]) nt
    have Sg:=(sJ.trans t4).trans t5
    have B5:=B3.same Sg
    refine k t v p4 sd f3 (us ++ [.ref p1]) _ ag (Rp.mono Sg _ r) (t5 _ _ ag) ?_ B5 (F3.cS Sg) fi (B3.off ?_) (fun a o ha e q=>absurd q.symm (aL (sJ _ _ (F3 _ _ ha e)) n4))
    ·exact cL (Wy.mono Sg.tk) ⟨p1,pd,rfl,(t4.trans t5) _ _ g1,Sg _ _ MI,ht⟩
    ·exact sJ.free n4
  ·
   obtain⟨m,rfl⟩: ∃m,d= .iM m:=hk.resolve_left ht
   refine⟨true,zR _,fC ?_⟩
   refine⟨bB _,fun pr nr=>?_⟩
   have s1:aG H (upd H pr (.lst [])):=aG.new nr
   refine⟨_,rfl,ps,rfl,⟨_,bL.of (s1 _ _ mO)⟩,?_⟩
   refine gR (K:=K) (a:=ps) (xs:=us) (fun i σ H2=> ∃(rs:List V) (x5:Option V),σ=[some (.ref ps),some (.ref sd),some (.int (n:Int)),some (.ref pd),some (.ref pr),x5,none,none]/\aG H H2/\H2 pr=some (.lst rs)/\gK H2 ((T0.steps.take i).filter (cD m)) rs)
    ⟨[],none,rfl,s1,ag,.nil⟩ (fun i σ H2 _ ⟨_,_,_,s2,_⟩=>bL.of (s2 _ _ mO)) ?_ ?_
   ·rintro i x σ H2 hx ⟨rs,x5,rfl,s2,JX,JY⟩
    have hi:i < T0.steps.length:=by have:=(au.mp hx).1; lia
    have oP:=af hi
    obtain⟨v,hv,p,pe,rfl,hp,YR,Uh⟩:=bO Lw oP
    rw[hx] at hv
    obtain rfl:x= .ref p:=aE hv
    have oQ:=gz (cD m) oP
    generalize T0.steps[i]=st at hp YR Uh oQ
    obtain⟨n0,e⟩:=st
    have xk:=s2 _ _ hp
    have OB:=s2 _ _ YR
    have hd2:=s2 _ _ hd
    have BY:rs.length<=100:=by
     have:=aW JY
     have:=a6 (cD m) (T0.steps.take i)
     rw[bz] at this
     lia
    have yes:cD m (n0,e)=true-> ∀H3,aG H2 H3->(∃(l:Addr) (xs:List V) (y:V),V.ref pr= .ref l/\[V.ref p]=[y]/\H3 l=some (.lst xs)/\xs.length < sizeLine/\ ∃(rs:List V) (x5:Option V),[some (V.ref ps),some (.ref sd),some (.int (n:Int)),some (.ref pd),some (.ref pr),some (.ref p),none,none]=[some (.ref ps),some (.ref sd),some (.int (n:Int)),some (.ref pd),some (.ref pr),x5,none,none]/\aG H (upd H3 l (.lst (xs ++ [y])))/\upd H3 l (.lst (xs ++ [y])) pr=some (.lst rs)/\gK (upd H3 l (.lst (xs ++ [y]))) ((T0.steps.take (i + 1)).filter (cD m)) rs):=fun z H3 s3=>by
     refine⟨pr,rs,_,rfl,rfl,s3 _ _ JX,bh (by lia),rs ++ [.ref p],_,rfl,(s2.trans s3).dj nr,ag,?_⟩
     rw[oQ,a7 z]
     have tk:=s3.tk.trans (gu (o:= .lst (rs ++ [.ref p])) (s3 _ _ JX))
     exact cL (JY.mono tk) ⟨p,pe,rfl,tk _ _ xk,tk _ _ OB,Uh⟩
    refine⟨_,rfl,p,_,_,.int n0,rfl,rfl,cG.of xk,rfl,_,rfl,pd,_,_,.int m,rfl,rfl,cG.of hd2,rfl,rfl,_,rfl,cI (fun z=>fC ?_) (fun z=>?_)⟩
    ·have z':n0≠m:=fun q=>by rw[q] at z; simp at z
     refine⟨_,rfl,.inl ⟨rfl,_,bL.of JX⟩,_,rfl,yes ?_ H2 (aG.refl _)⟩
     show(!(decide (n0=m) && e.isSet))=true
     rw[bI z']; rfl
    ·have z':n0=m:=by
      by_cases q:n0=m
      ·exact q
      ·exact absurd (by rw[bI (fun w=>q (by injection w))]; rfl) z
     obtain⟨re,hev⟩:=tO (d:=e) (.inl Uh)
     rw[hev] at OB
     refine⟨_,rfl,p,_,_,.ref pe,rfl,rfl,cG.of xk,rfl,pe,_,_,.str (bD.word e),rfl,rfl,cG.of OB,cJ (j:=0) rfl,(by show 2<=sizeLine; decide),fun p9 n9=>⟨p9,_,rfl,.inl (bL.of ag),rfl,rfl,!e.isSet,c8 V.bl (by rw[a7 rfl,Eu Uh]),cI (fun q=>?_) (fun q=>?_)⟩⟩
     ·have t9:=aG.new (o:= .lst [V.str "set",.str "sweep"]) n9
      refine⟨_,rfl,.inl ⟨rfl,_,bL.of (t9 _ _ JX)⟩,_,rfl,yes ?_ _ t9⟩
      show(!(decide (n0=m) && e.isSet))=true
      rw[aM z',Bool.true_and]; exact q
     ·have t9:=aG.new (o:= .lst [V.str "set",.str "sweep"]) n9
      refine⟨rs,_,rfl,s2.trans t9,t9 _ _ JX,?_⟩
      have no: ¬ cD m (n0,e)=true:=by
       show ¬ (!(decide (n0=m) && e.isSet))=true
       rw[aM z',Bool.true_and]; exact q
      rw[oQ,aO no,cu]
      exact JY.mono t9.tk
   ·rintro σ H2 ⟨rs,x5,rfl,s2,JX,JY⟩
    rw[← hlen,bb] at JY
    have BY:=aW JY
    have Ui:=a6 (cD m) T0.steps
    have oR:gi T0 n (.iM m)=if(T0.steps.filter (cD m)).length=T0.steps.length then(.txt "no setting",T0) else
      match cF (T0.steps.filter (cD m)) Bk.new with
      |none=>(.txt "needed",T0)
      |some S=>(.txt "undone",⟨T0.steps.filter (cD m),S⟩):=rfl
    have Ex:=hB.same s2
    refine⟨_,rfl,pr,_,rfl,.inl (bL.of JX),_,rfl,ps,_,rfl,.inl (bL.of (s2 _ _ mO)),rfl,_,rfl,cI (fun z=>?_) (fun z=>?_)⟩
    ·have z':(T0.steps.filter (cD m)).length=T0.steps.length:=by
      have:=aZ z
      injection this with this
      lia
     rw[oR,a7 z'] at k
     refine⟨_,rfl,_,rfl,(by show 3<=sizeLine; decide),fun t nt=>?_⟩
     have s4:=s2.trans (aG.new (o:= .tup [V.str "no setting",.ref ps,.ref sd]) nt)
     exact k t _ ps sd g us _ ag (gZ.mpr rfl) (s4 _ _ mO) (Lw.mono s4.tk) (hB.same s4) s4.frame (fun x hx=> .inl hx) Ew (fun _ _ _ _ _=>rfl)
    have z': ¬ (T0.steps.filter (cD m)).length=T0.steps.length:=fun q=>z (aM (by congr 1; lia))
    rw[oR,aO z'] at k
    refine⟨_,rfl,pr,T0.steps.filter (cD m),rs,rfl,JX,JY,by lia,fun hw H3 s3=>?_,fun S hw YS f3 H3 s3 B3 nf=>?_⟩
    ·rw[hw] at k
     refine⟨_,rfl,true,rfl,fC ⟨_,rfl,_,rfl,(by show 3<=sizeLine; decide),fun t nt=>?_⟩⟩
     have s4:=(s2.trans s3).trans (aG.new (o:= .tup [V.str "needed",.ref ps,.ref sd]) nt)
     exact k t _ ps sd g us _ ag (gZ.mpr rfl) (s4 _ _ mO) (Lw.mono s4.tk) (hB.same s4) s4.frame (fun x hx=> .inl hx) Ew (fun _ _ _ _ _=>rfl)
    ·rw[hw] at k
     refine⟨_,rfl,false,rfl,cg ⟨_,rfl,_,rfl,(by show 3<=sizeLine; decide),fun t nt=>?_⟩⟩
     have t4:=aG.new (o:= .tup [V.str "undone",.ref pr,.ref YS]) nt
     have s4:=(s2.trans s3).trans t4
     refine k t _ pr YS f3 rs _ ag (gZ.mpr rfl) ((s3.trans t4) _ _ JX) (JY.mono (s3.trans t4).tk) (B3.same t4) s4.frame (fun x hx=> .inr (s2.free (nf x hx))) (fun q=>?_) (fun a o ha e q=>absurd q.symm (aL e nr))
     have:=nf pr q
     rw[JX] at this
     cases this
end
end eN
namespace L2
open PySem PySem.Spec PyProof.Rows
theorem zh {X:Cx}{scope:Scope}{x y:Str}{c d:Addr}{j k:Nat}(Fz:closureFor scope X.env=pure [(x,c),(y,d)])(md: ∀z∈scope.names,z.2≠ .cell)(mI:scope.kind= .function)(uk: ∀x∈scope.names,x.2= .local->scope.names.lookup x.1=some .local)
  (hx:X.env.cells.lookup x=some c) (hy:X.env.cells.lookup y=some d) (Q1:List (Str×NameKind)) (Q2:(relabel scope X.env).names=Q1) (BY: ∀z∈Q1,(z.2= .cell∨z.2= .free)->z.1=x∨z.1=y)
  (hN:X.N[j]? =some x) (hN2:X.N[k]? =some y) (hk:X.env.kindOf x=some .cell∨X.env.kindOf x=some .free) (JO:X.env.kindOf y=some .cell∨X.env.kindOf y=some .free)
  (Mm:(relabel scope X.env).names.lookup x=some .cell∨(relabel scope X.env).names.lookup x=some .free) (Wz:(relabel scope X.env).names.lookup y=some .cell∨(relabel scope X.env).names.lookup y=some .free):rF X scope [(x,c),(y,d)] [x,y] [j,k]:=by
 refine⟨Fz,md,mI,uk,fun z c' h=>?_,fun z h=>?_,.cons ⟨hN,hk,Mm⟩ (.cons ⟨hN2,JO,Wz⟩ .nil)⟩
 ·rcases aw.mp (cv h) with e|e
  ·cases e; exact hx
  ·rcases aw.mp e with e|e
   ·cases e; exact hy
   ·cases e
 ·have e:z=x∨z=y:=by
   rcases h with h|h
   ·rw[Q2] at h
    exact BY _ (cv h) (.inl rfl)
   ·rw[Q2] at h
    exact BY _ (cv h) (.inr rfl)
  by_cases q:z=x
  ·exact⟨c,by rw[q]; simp[List.lookup]⟩
  ·have q2:z=y:=e.resolve_left q
   have q3:(z == x)=false:=by simpa using q
   exact⟨d,by rw[List.lookup,q3,q2]; simp[List.lookup]⟩
end L2
namespace eN
open PySem L2 PyProof.Rows JR
seal L2.oG L2.PS L2.PE L2.PT L2.PW L2.PA L2.PC L2.PG L2.JL L2.PI L2.Kz L2.JN L2.PO L2.ou L2.Mi L2.iu L2.Hv L2.Nn
section
variable {P:Program}{w:World}{K:PySem.W.Frag}{mg:Str->Option Value}{base:Heap}
def u9 (A:dZ):Sp:=fun vs H Q _=> ∃(pw p:Addr) (S:Bk) (f:eL) (t:Nat×Nat×Int) (day:Int),vs=[.ref pw,.ref p,.int day]/\dG A H pw S f/\H p=some (.tup [.int t.1,.int t.2.1,.int t.2.2])/\t.1 < S.credits.length/\t.2.1 < S.aC.length/\Q (.bl (decide (S.gq t<=day))) H
theorem zi:aS ["work","setting","day"] ["work","setting","day"] (ay (top 40)):={}
theorem Bq (T:Txt K mg){A:dZ}(G:jz K mg A):fe P w K mg base "counts_at" 2 ["work","setting","day"] (u9 A):=by
 have wC:fe P w K mg base "counts_from" 1 ["credit","bill"] (IH A):=we T G
 refine T.AE.fM (k:=1) zi (fun f cX A' outer s H vs Q E hr h=>?_)
 ·obtain⟨pw,p,S,g,t,day,rfl,hW,hp,hc,hb,k⟩:=h
  obtain⟨dw,hw⟩:=hW.obj
  obtain⟨pc,c1,c2⟩:=hW.rc.get hc
  obtain⟨pb,b1,b2⟩:=hW.rb.get hb
  refine⟨_,(av (a9 (eQ wZ (fc wC hr (aa (xl (b9 (pv 0) rfl) (xt (pv 1) aj)) (aa (xl (b9 (pv 0) rfl) (xt (pv 1) aj)) ak))) (pv 2) (ba _)))),?_⟩
  refine⟨_,rfl,pw,_,dw,_,_,rfl,hw,G.bE,G.cH,hJ g,_,rfl,p,_,_,.int t.1,rfl,rfl,cG.of hp,rfl,g.pc,_,_,.ref pc,rfl,rfl,bL.of hW.hc,cJ (by rw[aD,c1]; rfl),?_⟩
  refine⟨_,rfl,pw,_,dw,_,_,rfl,hw,G.bE,G.dX,jg g,_,rfl,p,_,_,.int t.2.1,rfl,rfl,cG.of hp,rfl,g.pb,_,_,.ref pb,rfl,rfl,bL.of hW.hb,cJ (by rw[aD,b1]; rfl),?_⟩
  exact⟨pc,pb,t.1,t.2.1,S.cr t.1,S.bl t.2.1,rfl,c2,b2,_,rfl,_,_,rfl,rfl,k⟩
def va (A:dZ):Sp:=fun vs H Q _=> ∃(pw:Addr) (S:Bk) (f:eL) (n:Nat) (day:Int),vs=[.ref pw,.int day]/\dG A H pw S f/\WF S n/\S.made.length<=1000000/\
 ∀D ms H',aG H H'->H D=none->H' D=some (.lst ms)->gO H' (S.made.filter fun t=>decide (S.gq t<=day)) ms->Q (.ref D) H'
theorem vb:aS ["work","day"] ["work","day"] (ay (top 39)):={}
theorem wD (T:Txt K mg){A:dZ}(G:jz K mg A):fe P w K mg base "counting_at" 3 ["work","day"] (va A):=by
 have Br:fe P w K mg base "counts_at" 2 ["work","setting","day"] (u9 A):=Bq T G
 refine T.vW.fM (k:=2) vb (fun f cX A' outer s H vs Q E hr h=>?_)
 ·obtain⟨pw,S,g,n,day,rfl,hW,wf,hz,k⟩:=h
  obtain⟨dw,hw⟩:=hW.obj
  obtain⟨ms,m1,m2⟩:=hW.hm
  have hlen:=aW m2
  refine⟨_,(av (a9 (ja (tn:=["setting"]) (cn:=["work","day"]) (cj:=[0,1]) rfl (zh (by rfl) (by decide +kernel) rfl (by decide +kernel) (by rfl) (by rfl) [(".0",.local),("setting",.local),("counts_at",.globalImplicit),("day",.cell),("work",.cell)] (by rfl) (by decide +kernel) rfl rfl (Or.inl rfl) (Or.inl rfl) (Or.inl rfl) (Or.inl rfl)) (dz (b9 (pv 0) rfl)) (fun _ _ _ _=>(eG (i:=0) (show(["setting","work","day"]:List Str).Nodup by decide +kernel) rfl (Or.inl rfl))) (fun _ _ _ _=>(pA (gg (fc Br hr (aa (pv 1) (aa (pv 0) (aa (pv 2) ak))))))) (fun _ _ _ _=>(pv 0))))),?_⟩
  refine⟨_,rfl,pw,_,dw,_,_,rfl,hw,G.bE,G.jA,yL g,g.pm,rfl,⟨_,bL.of m1⟩,?_⟩
  refine eo (K:=K) (a:=g.pm) (xs:=ms) (fun D i σ H6=>H D=none/\ ∃v rs,σ=[v,some (.ref pw),some (.int day)]/\aG H H6/\H6 D=some (.lst rs)/\gO H6 ((S.made.take i).filter fun t=>decide (S.gq t<=day)) rs) (fun D hD=>⟨hD,none,[],rfl,aG.new hD,ag,.nil⟩) (fun D i σ H6 _ ⟨_,_,_,_,t3,_⟩=>bL.of (t3 _ _ m1)) ?_ ?_
  ·rintro D i x σ H6 hx ⟨hD,v,rs,rfl,t3,ip,hT⟩
   have hi:i < S.made.length:=by have:=(au.mp hx).1; lia
   have oP:=af hi
   obtain⟨v',hv,p,rfl,hp⟩:=bO m2 oP
   rw[hx] at hv
   obtain rfl:x= .ref p:=aE hv
   have hm:=wf.m _ (bJ hi)
   have oQ:=gz (fun t=>decide (S.gq t<=day)) oP
   generalize S.made[i]=t at hp hm oQ
   have JY:rs.length<=1000000:=by
    have:=aW hT
    have:=a6 (fun t=>decide (S.gq t<=day)) (S.made.take i)
    rw[bz] at this
    lia
   refine⟨_,rfl,_,rfl,_,rfl,pw,p,S,g,t,day,rfl,hW.same t3,t3 _ _ hp,hm.1,hm.2,_,rfl,cI (fun z=>?_) (fun z=>?_)⟩
   ·rw[a7 z] at oQ
    refine⟨_,rfl,_,ip,i6 JY,hD,_,rs ++ [.ref p],rfl,t3.dj hD,ag,?_⟩
    rw[oQ]
    have tk:=gu (o:= .lst (rs ++ [.ref p])) ip
    exact cL (hT.mono tk) ⟨p,rfl,tk _ _ (t3 _ _ hp)⟩
   ·rw[aO z,cu] at oQ
    refine⟨hD,_,rs,rfl,t3,ip,?_⟩
    rw[oQ]
    exact hT
  ·rintro D σ H6 hD ⟨_,v,rs,rfl,t3,ip,hT⟩
   rw[← hlen,bb] at hT
   exact k D rs H6 t3 hD ip hT
def nA (H:Hp)(l:List (Nat×Int))(vs:List V):Prop:=Paired (fun(t:Nat×Int) v=> ∃p,v= .ref p/\H p=some (.tup [.int t.1,.int t.2])) l vs
theorem nA.mono {H H':Hp}{l:List (Nat×Int)}{vs:List V}(h:nA H l vs)(k:cK H H'):nA H' l vs:=Paired.iS h fun _ _ ⟨p,e,q⟩=>⟨p,e,k _ _ q⟩
section
variable (S:Bk)(bQ:Bool)(aN:Str)(day:Int)
end
section
variable {S:Bk}{bQ:Bool}{aN:Str}{day:Int}{i:Nat}
end
theorem Ly (bQ:Bool)(t:Nat×Nat×Int):tH [V.int t.1,.int t.2.1,.int t.2.2] (if bQ=true then(1:Int) else 0)=some (.int (spotOf bQ t:Int)):=by cases bQ <;> rfl
theorem Gu {S:Bk}{bQ:Bool}{aN:Str}{day:Int}{t:Nat×Int}(h:t∈S.qy bQ aN day):t.1 < (S.rows bQ).length:=by
 unfold Bk.qy at h
 obtain⟨k,hk,rfl⟩:=bK.mp h
 exact(kA.mp (fO.mp hk).1).1
theorem C7 (gq:Int)(di:List Int):L2.placeOf gq di < di.length + 2:=by
 unfold L2.placeOf
 split
 ·lia
 ·have:=a6 (fun l=>decide (l < gq)) di
  lia
theorem Gv (l:List Int)(i:Nat)(x:Int):(sy l i x).length=l.length:=by unfold sy; rw[List.length_set]
theorem Lz (n:Nat)(b:Int):(List.replicate n [V.int b]).flatten=(List.replicate n b).map V.int:=by
 induction n with
 |zero=>rfl
 |succ n ih=>rw[dm,iR,ih,dm]; rfl
def zj (H:Hp)(ok:Addr->Prop):JP->V->Prop
 | .int i,v=>v= .int i
 | .txt s,v=>v= .str s
 | .sets l,v=> ∃D ms,v= .ref D/\ok D/\H D=some (.lst ms)/\gO H l ms
 | .pairs l,v=> ∃D ms,v= .ref D/\ok D/\H D=some (.lst ms)/\nA H l ms
 | .ints l,v=> ∃D,v= .ref D/\ok D/\H D=some (.lst (l.map V.int))
theorem zj.keep {H H':Hp}{ok YT:Addr->Prop}{a:JP}{v:V}(h:zj H ok a v)(kl: ∀D xs,ok D->H D=some (.lst xs)->YT D/\H' D=some (.lst xs))(kt:cK H H'):zj H' YT a v:=by
 cases a with
 |int i=>exact h
 |txt s=>exact h
 |sets l=>
  obtain⟨D,ms,e,o,z,t⟩:=h
  obtain⟨o',z'⟩:=kl _ _ o z
  exact⟨D,ms,e,o',z',t.mono kt⟩
 |pairs l=>
  obtain⟨D,ms,e,o,z,t⟩:=h
  obtain⟨o',z'⟩:=kl _ _ o z
  exact⟨D,ms,e,o',z',nA.mono t kt⟩
 |«ints» l=>
  obtain⟨D,e,o,z⟩:=h
  obtain⟨o',z'⟩:=kl _ _ o z
  exact⟨D,e,o',z'⟩
theorem fq {X:Cx}{K:PySem.W.Frag}{e:Expr}{f:Str}{pos:Pos}{ta:TE}(h:X.K=K)(he:PE X e ta)(hb:attributeBase e f X.env (eval e X.env)=eval e X.env):PE X (.Attribute e f pos) (QC K ta f):=by subst h; exact b9 he hb
def Bs (A:dZ)(bQ:Bool):Addr:=if bQ=true then A.dQ else A.d8
def zk (bQ:Bool)(k:Nat)(r:Rw):List (Str×V):=if bQ=true then fv k r else eY k r
theorem xH (bQ:Bool)(k:Nat)(r:Rw):(zk bQ k r).lookup ("number":Str)=some (V.int k):=by cases bQ <;> rfl
theorem OC (bQ:Bool)(k:Nat)(r:Rw):(zk bQ k r).lookup ("day":Str)=some (V.int r.a):=by cases bQ <;> rfl
theorem Gw (bQ:Bool)(k:Nat)(r:Rw):(zk bQ k r).lookup ("amount":Str)=some (V.int (HZ bQ r)):=by cases bQ <;> rfl
theorem zl {A:dZ}(G:jz K mg A)(bQ:Bool):vK K (Bs A bQ):=by cases bQ; exact G.df; exact G.d9
theorem xI {A:dZ}(G:jz K mg A)(bQ:Bool):cq K (Bs A bQ) "number":=by cases bQ; exact G.eM; exact G.eO
theorem OD {A:dZ}(G:jz K mg A)(bQ:Bool):cq K (Bs A bQ) "day":=by cases bQ; exact G.i7; exact G.mU
theorem Gx {A:dZ}(G:jz K mg A)(bQ:Bool):cq K (Bs A bQ) "amount":=by cases bQ; exact G.lz; exact G.mW
def LA (A:dZ)(H:Hp)(S:Bk)(bQ:Bool)(ks:List Nat)(qs:List Addr):Prop:=Paired (fun(k:Nat) q=>eu H q (Bs A bQ) (zk bQ k ((S.rows bQ).getD k default))) ks qs
def pR (S:Bk)(bQ:Bool)(day:Int)(k:Nat):Bool:=decide (((S.rows bQ).getD k default).a<=day) && decide (0 < S.rest bQ k day)
def vc (A:dZ):Sp:=fun vs H Q _=> ∃(pw pt:Addr) (S:Bk) (f:eL) (n:Nat) (bQ:Bool) (day:Int) (ks:List Nat) (qs:List Addr),vs=[.ref pw,.ref pt,.int (if bQ=true then 1 else 0),.int day]/\dG A H pw S f/\WF S n/\S.made.length<=1000000/\
 H pt=some (.lst (qs.map V.ref))/\LA A H S bQ ks qs/\ks.length<=100/\ ∀D ms H',aG H H'->H D=none->H' D=some (.lst ms)->nA H' ((ks.filter (pR S bQ day)).map fun k=>(k,S.rest bQ k day)) ms->Q (.ref D) H'
theorem mh:aS ["work","told","place","day","counting","remaining","item","rest"] ["work","told","place","day"] (ay (top 38)):={}
theorem nE (T:Txt K mg){A:dZ}(G:jz K mg A):fe P w K mg base "remaining_at" 4 ["work","told","place","day"] (vc A):=by
 have wF:fe P w K mg base "counting_at" 3 ["work","day"] (va A):=wD T G
 refine T.uM.fM (k:=3) mh (fun f cX A' outer s H vs Q E hr h=>?_)
 ·obtain⟨pw,pt,S,g,n,bQ,day,ks,qs,rfl,hW,wf,hz,B7,hI,G0,k⟩:=h
  have nd:=mh.nd
  have hlen:=aW hI
  refine⟨_,(ah (sv 4 nd (fc wF hr (aa (pv 0) (aa (pv 3) ak))))
(ah (sv 5 nd (bW ak))
(ah (fH bT rfl (dz (pv 1)) (gn 6 nd)
(ah (sv 7 nd (aV eV (b9 (pv 6) rfl) (bo (rJ rfl) (by rfl) T.Iw boot_sum (aa (ja (tn:=["setting"]) (cn:=["place","item"]) (cj:=[2,6]) rfl (zh (by rfl) (by decide +kernel) rfl (by decide +kernel) (by rfl) (by rfl) [(".0",.local),("setting",.local),("item",.cell),("place",.cell)] (by rfl) (by decide +kernel) rfl rfl (Or.inl rfl) (Or.inl rfl) (Or.inl rfl) (Or.inl rfl)) (dz (pv 4)) (fun _ _ _ _=>(eG (i:=0) (show(["setting","place","item"]:List Str).Nodup by decide +kernel) rfl (Or.inl rfl))) (fun _ _ _ _=>(pA (a8 dg (js (tK (K:=K) rfl) (pv 0) (pv 1) (fun _ _=>rfl)) (fq (K:=K) rfl (pv 2) rfl) (ba _)))) (fun _ _ _ _=>(js (tK (K:=K) rfl) (pv 0) aj (fun _ _=>rfl)))) ak))))
(av (bV (PW.pt (pw_and (a8 wZ (b9 (pv 6) rfl) (pv 3) (ba _)) (pw_and1 (a8 jr (pv 7) aj (ba _)))))
(av (bM (fk aJ aH aI bU (pv 5) (aa (dB (aa (b9 (pv 6) rfl) (aa (pv 7) ak))) ak))))
bp))))
(av (a9 (pv 5)))))),?_⟩
  refine⟨_,rfl,_,rfl,pw,S,g,n,day,rfl,hW,wf,hz,fun pc cs H1 s1 nc hc hT=>?_⟩
  refine⟨bB _,fun pr nr=>?_⟩
  have nr0:=s1.free nr
  have sr:=aG.new (o:= .lst []) nr
  refine⟨_,rfl,pt,rfl,⟨_,bL.of ((s1.trans sr) _ _ B7)⟩,?_⟩
  refine gR (K:=K) (a:=pt) (xs:=qs.map V.ref) (fun i σ H2=> ∃(rs:List V) (x6 x7:Option V),σ=[some (.ref pw),some (.ref pt),some (.int (if bQ=true then 1 else 0)),some (.int day),some (.ref pc),some (.ref pr),x6,x7]/\aG H1 H2/\H2 pr=some (.lst rs)/\nA H2 (((ks.take i).filter (pR S bQ day)).map fun k=>(k,S.rest bQ k day)) rs)
   ⟨[],none,none,rfl,sr,ag,.nil⟩ (fun i σ H2 _ ⟨_,_,_,_,s2,_⟩=>bL.of ((s1.trans s2) _ _ B7)) ?_ ?_
  ·rintro i x σ H2 hx ⟨rs,x6,x7,rfl,s2,Er,hP⟩
   rw[aD] at hx
   obtain⟨q,hq,rfl⟩:=bH.mp hx
   have hi:i < ks.length:=by have:=(au.mp hq).1; lia
   have oP:=af hi
   obtain⟨q',sj,lC⟩:=bO hI oP
   rw[hq] at sj
   obtain rfl:q=q':=aE sj
   have oQ:=gz (pR S bQ day) oP
   generalize ks[i]=kk at lC oQ
   have s02:=s1.trans s2
   obtain⟨dq,zS⟩:=lC.same s02
   have KO:=s2 _ _ hc
   have FD:=hT.mono s2.tk
   have qC:=aW FD
   have Ui:=a6 (fun t=>decide (S.gq t<=day)) S.made
   have BY:rs.length<=100:=by
    have e1:=aW hP
    have e2:=a6 (pR S bQ day) (ks.take i)
    rw[ae] at e1
    rw[bz] at e2
    lia
   refine⟨_,rfl,q,_,dq,_,_,rfl,zS,zl G bQ,Gx G bQ,Gw bQ _ _,_,rfl,pc,rfl,⟨_,bL.of KO⟩,?_⟩
   refine eo (K:=K) (a:=pc) (xs:=cs) (fun D j σ H6=>H2 D=none/\ ∃v,σ=[v,some (.int (if bQ=true then 1 else 0)),some (.ref q)]/\aG H2 H6/\H6 D=some (.lst (((((S.made.filter fun t=>decide (S.gq t<=day)).take j).filter fun t=>decide (spotOf bQ t=kk)).map (·.2.2)).map V.int))) (fun D hD=>⟨hD,none,rfl,aG.new hD,ag⟩) (fun D j σ H6 _ ⟨_,_,_,t3,_⟩=>bL.of (t3 _ _ KO)) ?_ ?_
   ·rintro D j x σ H6 MD ⟨hD,v,rfl,t3,ip⟩
    have hj:j < (S.made.filter fun t=>decide (S.gq t<=day)).length:=by have:=(au.mp MD).1; lia
    have YU:=af hj
    obtain⟨v',hv,p,rfl,hp⟩:=bO FD YU
    rw[MD] at hv
    obtain rfl:x= .ref p:=aE hv
    have IZ:=gz (fun t=>decide (spotOf bQ t=kk)) YU
    generalize (S.made.filter fun t=>decide (S.gq t<=day))[j]=t at hp IZ
    have hsz:((((S.made.filter fun t=>decide (S.gq t<=day)).take j).filter fun t=>decide (spotOf bQ t=kk)).map (·.2.2)).length<=1000000:=by
     rw[ae]
     have e1:=a6 (fun t=>decide (spotOf bQ t=kk)) ((S.made.filter fun t=>decide (S.gq t<=day)).take j)
     rw[bz] at e1
     lia
    have MJ:=t3 _ _ hp
    refine⟨_,rfl,_,rfl,p,_,_,_,rfl,rfl,cG.of MJ,Ly bQ t,_,rfl,q,_,dq,_,_,rfl,t3 _ _ zS,zl G bQ,xI G bQ,xH bQ _ _,rfl,_,rfl,cI (fun z=>?_) (fun z=>?_)⟩
    ·have z':spotOf bQ t=kk:=by
      have:=aZ z
      injection this with this
      lia
     rw[a7 (aM z')] at IZ
     refine⟨_,rfl,p,_,_,.int t.2.2,rfl,rfl,cG.of MJ,rfl,_,ip,i6 (by rw[ae]; exact hsz),hD,_,rfl,t3.dj hD,?_⟩
     rw[ag,IZ,aQ,aQ]
     rfl
    ·have z': ¬ spotOf bQ t=kk:=fun e=>z (aM (by rw[e]))
     rw[aO (by rw[bI z']; exact aY),cu] at IZ
     refine⟨hD,_,rfl,t3,?_⟩
     rw[IZ]
     exact ip
   ·rintro D σ H6 hD ⟨_,v,rfl,t3,ip⟩
    rw[← qC,bb,Cf] at ip
    refine⟨D,_,rfl,bL.of ip,_,_,rfl,rfl,?_⟩
    have Mw:HZ bQ ((S.rows bQ).getD kk default) - ((S.made.filter fun t=>decide (spotOf bQ t=kk) && decide (S.gq t<=day)).map (·.2.2)).sum=S.rest bQ kk day:=rfl
    have MK:=t3 _ _ Er
    have PZ:=hP.mono t3.tk
    have s6:=s2.trans t3
    have no:pR S bQ day kk=false-> ∃(rs:List V) (x6 x7:Option V),[some (V.ref pw),some (.ref pt),some (.int (if bQ=true then 1 else 0)),some (.int day),some (.ref pc),some (.ref pr),some (.ref q),some (.int (S.rest bQ kk day))]=[some (.ref pw),some (.ref pt),some (.int (if bQ=true then 1 else 0)),some (.int day),some (.ref pc),some (.ref pr),x6,x7]/\aG H1 H6/\H6 pr=some (.lst rs)/\nA H6 (((ks.take (i + 1)).filter (pR S bQ day)).map fun k=>(k,S.rest bQ k day)) rs:=fun z=>by
     rw[aO (by rw[z]; exact aY),cu] at oQ
     exact⟨rs,some (.ref q),some (.int (S.rest bQ kk day)),rfl,s6,MK,by rw[oQ]; exact PZ⟩
    refine⟨_,rfl,q,_,dq,_,_,rfl,t3 _ _ zS,zl G bQ,OD G bQ,OC bQ _ _,_,rfl,_,_,rfl,rfl,_,rfl,cI (fun z1=>?_) (fun z1=>cg (no ?_))⟩
    ·refine⟨_,rfl,_,_,rfl,rfl,_,rfl,cI (fun z2=>?_) (fun z2=>no ?_)⟩
     ·have yes:pR S bQ day kk=true:=by
       unfold pR
       rw[aM (aZ z1),aM (show 0 < S.rest bQ kk day from aZ z2)]; rfl
      rw[a7 yes] at oQ
      refine⟨_,rfl,.inl ⟨rfl,_,bL.of MK⟩,_,rfl,q,_,dq,_,_,rfl,t3 _ _ zS,zl G bQ,xI G bQ,xH bQ _ _,_,rfl,(by show 2<=sizeLine; decide),fun p8 n8=>?_⟩
      have t8:=aG.new (o:= .tup [V.int (kk:Int),.int (S.rest bQ kk day)]) n8
      refine⟨pr,rs,_,rfl,rfl,t8 _ _ MK,bh (by lia),rs ++ [.ref p8],some (.ref q),some (.int (S.rest bQ kk day)),rfl,(s6.trans t8).dj nr,ag,?_⟩
      rw[oQ,aQ]
      have tk:=t8.tk.trans (gu (o:= .lst (rs ++ [.ref p8])) (t8 _ _ MK))
      have fin:nA (upd (upd H6 p8 (.tup [V.int (kk:Int),.int (S.rest bQ kk day)])) pr (.lst (rs ++ [.ref p8]))) ((((ks.take i).filter (pR S bQ day)).map fun k=>(k,S.rest bQ k day)) ++ [(kk,S.rest bQ kk day)]) (rs ++ [.ref p8]):=cL (PZ.mono tk) ⟨p8,rfl,gu (o:= .lst (rs ++ [.ref p8])) (t8 _ _ MK) _ _ ag⟩
      exact fin
     ·unfold pR
      rw[bI (show ¬ 0 < S.rest bQ kk day from fun e=>z2 (aM e)),Bool.and_false]
    ·unfold pR
     rw[bI (fun e=>z1 (aM e)),MU]
  ·rintro σ H2 ⟨rs,x6,x7,rfl,s2,Er,hP⟩
   rw[ae,← hlen,bb] at hP
   exact⟨_,rfl,k pr rs H2 (s1.trans s2) nr0 Er hP⟩
structure qb (K:PySem.W.Frag)(mg:Str->Option Value)(x:Str)(st:Stmt)(tb:Addr):Prop where
 ex: ∃(f c:Addr) (oc:Value) (od:Option Addr) (kV doc pm:Value) (an:Option Addr) (ct:Value) (Fo:Array (Option Value)),K.lookup f=some ⟨oc,od,.func (PySem.W.fnOf x x (gH st) (dD st) (ay st) .none kV doc pm an (.ref c) ct),Fo⟩/\PySem.W.codeIn K (.ref c) x=true/\
  PySem.W.keepIn K (.ref f)=true/\mg x=some (.ref f)/\PySem.W.codeHdIn K c tb=true
theorem qb.fM {x:Str}{st:Stmt}{tb:Addr}{N ps:List Str}{k:Nat}{sp:Sp}(D:qb K mg x st tb)(KB:K.In base)(S:aS N ps (ay st))
  (fW: ∀(f c:Addr) (A:Around) (outer:List Env) (s:Shared) (H:Hp) (vs:List V) (Q:VK) (E:XK),PySem.W.CodeHd base c tb->eW k (A.deeper (envOfC x (ay st) s.heap.objs.size f (.ref c)))->sp vs H Q E->
   ∃t,oG (k7 rE P w K mg base N x (ay st) f (.ref c) A outer s H E).DF (dD st) t/\t {nx:=fun _ H'=>Q .en H',rt:=Q} (L2.start N vs) H)
  (hb: ∀(kV doc pm:Value) (an:Option Addr) (cX ct:Value) (us:List Value),us.length=ps.length->bindArgs (PySem.W.fnOf x x (gH st) (dD st) (ay st) .none kV doc pm an cX ct) ⟨us,[]⟩=pure (ps.zip us):=by intro _ _ _ _ _ _ us hl; rcases us with _|⟨_,_|⟨_,_|⟨_,_⟩⟩⟩ <;> first|(cases hl; done)|rfl)
  (len: ∀vs H Q E,sp vs H Q E->vs.length=ps.length:=by intro _ _ _ _ h; repeat (first|(obtain⟨rfl,_⟩:=h; rfl; done)|obtain⟨_,h⟩:=h)):fe P w K mg base x (k + 1) ps sp:=by
 obtain⟨f,c,oc,od,kV,doc,pm,an,ct,Fo,lk,ra,hk,hm,hh⟩:=D.ex
 have F:gp K x x st f _:=pz lk ra hk
 refine⟨f,_,Ht lk ra S len fun A outer s H vs Q E hr yc=>?_,hm,hk,F.binds hb⟩
 obtain⟨t,h,q⟩:=fW f c A outer s H vs Q E (PySem.W.codeHd_of_K KB hh) hr yc
 exact⟨t,h.DF,q⟩
theorem qP {th:List (Int×Nat)}{i:Nat}(h:i < th.length):(th.map Ep).getD i []=Ep (th.getD i (0,0)):=getD_map Ep th i (0,0) [] h
theorem vd {th:List (Int×Nat)}{p:List Nat}(h1: ∀x∈th,x.2 < 1000)(nd:(th.map (·.2)).Nodup)(hp:p.Perm (List.range th.length))(le:p.Pairwise (fun i j=>uP ((th.map Ep).getD i [])<=uP ((th.map Ep).getD j []))):p.map (fun i=>th.getD i (0,0))=fL th:=by
 have hr:(List.range th.length).map (fun i=>th.getD i (0,0))=th:=rK th (0,0)
 refine mT sY _ _ ((hp.map _).trans ((List.Perm.of_eq hr).trans (dE th).symm)) ?_ (AM h1 nd)
 rw[rm]
 refine le.imp_of_mem fun{a b} ha hb z=>?_
 have la:a < th.length:=cV.mp (hp.mem_iff.mp ha)
 have lb:b < th.length:=cV.mp (hp.mem_iff.mp hb)
 rw[qP la,qP lb] at z
 exact z
theorem nF {α β:Type}{F:α->β->Prop}{l₁:List α}{l₂:List β}(h:Paired F l₁ l₂)(d:α)(e:β): ∀p:List Nat,(∀i∈p,i < l₁.length)->Paired F (p.map fun i=>l₁.getD i d) (p.map fun i=>l₂.getD i e)
 |[],_=> .nil
 |i :: p,hi=>by
  have hl:=hi i bw
  obtain⟨b,e1,e2⟩:=bO h (af hl)
  refine .cons ?_ (nF h d e p fun j hj=>hi j (aU _ hj))
  show F (l₁.getD i d) (l₂.getD i e)
  rw[ai,ai,af hl,e1]
  exact e2
theorem bR {H H':Hp}{tb:Addr}{pos:Pos}{qual:Str}(t:Tb H tb pos qual)(s:aG H H'):Tb H' tb pos qual:=by
 obtain⟨ps,h1,h2,h3⟩:=t
 refine⟨ps,s _ _ h1,h2,?_⟩
 rcases h3 with h3|⟨c',h3,h4⟩
 ·exact .inl h3
 ·exact .inr ⟨c',h3,s _ _ h4⟩
theorem ve {H:Hp}{tb q C:Addr}{pos:Pos}{qual:Str}{fs:List (Str×V)}(t:Tb H tb pos qual)(h:eu H q C fs):q∉[tb]:=fun z=>by
 obtain⟨ps,h1,_⟩:=t
 obtain⟨dx,e⟩:=h
 rw[ao.mp z,h1] at e
 cases e
def OE:Pos:=⟨69,30,69,66⟩
def eZ (rows:List Rw)(aN:Str)(i:Nat):List Nat:=(List.range i).filter fun k=>decide ((rows.getD k default).aN=aN)
def zo (A:dZ)(tb:Addr):Sp:=fun vs H Q _=> ∃(pb:Addr) (iD:List Addr) (S:Bk) (aN:Str),vs=[.ref pb,.str aN]/\H pb=some (.lst (iD.map V.ref))/\gv H A.dQ fv S.aC iD/\S.aC.length < 64/\Tb H tb OE ((("bills_in_order":Str) ++ ".<locals>.") ++ "<lambda>")/\
 ∀D qs H',Frame [tb] H H'->Tb H' tb OE ((("bills_in_order":Str) ++ ".<locals>.") ++ "<lambda>")->H D=none->H' D=some (.lst (qs.map V.ref))->iH A H' S (inOrder S.aC aN (·.b)) qs->Q (.ref D) H'
theorem kH:aS ["bills","who","theirs"] ["bills","who"] (ay (top 17)):={}
theorem lD (T:Txt K mg){A:dZ}{tb:Addr}(G:jz K mg A)(DL:qb K mg "bills_in_order" (top 17) tb)(KB:K.In base)(BM:BMain mg base):fe P w K mg base "bills_in_order" 2 ["bills","who"] (zo A tb):=by
 refine DL.fM (k:=1) KB kH (fun f c A' outer s H vs Q E CH hr h=>?_)
 ·obtain⟨pb,iD,S,aN,rfl,Sh,hO,hl,WA,k⟩:=h
  have nd:=kH.nd
  refine⟨_,(ah (jb (i:=2) nd rfl (Or.inl rfl) (tn:=["bill"]) (cn:=["who"]) (cj:=[1]) rfl (i0 (by rfl) (by decide +kernel) rfl (by decide +kernel) (by rfl) [(".0",.local),("bill",.local),("who",.cell)] (by rfl) (by decide +kernel) rfl (Or.inl rfl) (Or.inl rfl)) (dz (pv 0)) (fun _ _ _ _=>(eG (i:=0) (show(["bill","who"]:List Str).Nodup by decide +kernel) rfl (Or.inl rfl))) (fun _ _ _ _=>(pA (a8 dg (fq (K:=K) rfl (pv 0) rfl) (pv 1) (ba _)))) (fun _ _ _ _=>(pv 0)))
(av (a9 (uK (N:=["bill"]) (y:="bill") rfl T.uO BM rfl CH (hr.mono (by decide)) {} (fun _ _ _ _ _=>(dB (aa (fq (K:=K) rfl (pv 0) rfl) (aa (fq (K:=K) rfl (pv 0) rfl) ak)))) (pv 2))))),?_⟩
  refine⟨_,rfl,pb,rfl,⟨_,bL.of Sh⟩,?_⟩
  refine eo (K:=K) (a:=pb) (xs:=iD.map V.ref) (fun D i σ H6=>H D=none/\ ∃(v:Option V) (qs:List Addr),σ=[v,some (.str aN)]/\aG H H6/\H6 D=some (.lst (qs.map V.ref))/\iH A H6 S (eZ S.aC aN i) qs) (fun D hD=>⟨hD,none,[],rfl,aG.new hD,ag,.nil⟩) (fun D i σ H6 _ ⟨_,_,_,_,t3,_⟩=>bL.of (t3 _ _ Sh)) ?_ ?_
  ·rintro D i x σ H6 hx ⟨hD,v,qs,rfl,t3,ip,hB⟩
   rw[aD] at hx
   obtain⟨q,hq,rfl⟩:=bH.mp hx
   have hi:i < S.aC.length:=by have:=(au.mp hq).1; have:=hO.1; lia
   obtain⟨dq,zS⟩:=(hO.2 i q hq).same t3
   have hql:qs.length<=100:=by
    have e1:=aW hB
    have e2:(eZ S.aC aN i).length<=i:=a0 (a6 _ _) (by rw[dv]; exact aB _)
    lia
   have qQ:eZ S.aC aN (i + 1)=eZ S.aC aN i ++ (if decide ((S.aC.getD i default).aN=aN)=true then[i] else[]):=by
    unfold eZ
    rw[vG,gf]
    congr 1
    by_cases z:decide ((S.aC.getD i default).aN=aN)=true
    ·rw[a7 z,cM (p:=fun k=>decide ((S.aC.getD k default).aN=aN)) z]; rfl
    ·rw[aO z,kj (p:=fun k=>decide ((S.aC.getD k default).aN=aN)) z]; rfl
   refine⟨_,rfl,q,_,dq,_,_,rfl,zS,G.d9,G.kC,CU _ _,_,rfl,rfl,_,rfl,cI (fun z=>?_) (fun z=>?_)⟩
   ·rw[a7 (aM (y3 z))] at qQ
    refine⟨_,rfl,_,ip,bh (by rw[ae]; lia),hD,_,qs ++ [q],rfl,t3.dj hD,by rw[ag,aQ]; rfl,?_⟩
    rw[qQ]
    have kp: ∀{y C:Addr} {gs:List (Str×V)},eu H6 y C gs->eu (upd H6 D (.lst (qs.map V.ref ++ [V.ref q]))) y C gs:=fun{y C gs} ⟨dy,ey⟩=>⟨dy,by rw[az (ma ey ip (by intro w; cases w))]; exact ey⟩
    exact cL (Paired.iS hB fun _ _ w=>kp w) (kp ⟨dq,zS⟩)
   ·rw[aO (by rw[bI (uX z)]; exact aY),cu] at qQ
    refine⟨hD,_,qs,rfl,t3,ip,?_⟩
    rw[qQ]
    exact hB
  ·rintro D σ H6 hD ⟨_,v,qs,rfl,t3,ip,hB⟩
   have Ls:(iD.map V.ref).length=S.aC.length:=by rw[ae]; exact hO.1
   rw[Ls] at hB
   have Gy:=bR WA t3
   have hth:g8 S.aC aN (·.b)=(eZ S.aC aN S.aC.length).map fun k=>((S.bl k).b,k):=rfl
   have G0: ∀x∈eZ S.aC aN S.aC.length,x < S.aC.length:=fun x hx=>cV.mp (fO.mp hx).1
   have K7:(eZ S.aC aN S.aC.length).Nodup:=tF.filter _
   have WB:(eZ S.aC aN S.aC.length).length<=S.aC.length:=a0 (a6 _ _) (by rw[dv]; exact aB _)
   have jH:inOrder S.aC aN (·.b)=(fL ((eZ S.aC aN S.aC.length).map fun k=>((S.bl k).b,k))).map (·.2):=rfl
   generalize eZ S.aC aN S.aC.length=ks at hB G0 K7 WB jH
   have WC:=aW hB
   have I9:((ks.map fun k=>((S.bl k).b,k)):List (Int×Nat)).length=ks.length:=ae _
   have qR: ∀x∈(ks.map fun k=>((S.bl k).b,k)),x.2 < 1000:=fun x hx=>by
    obtain⟨k0,PJ,rfl⟩:=bK.mp hx
    have:=G0 k0 PJ
    show k0 < 1000
    lia
   have hnd:((ks.map fun k=>((S.bl k).b,k)).map (·.2)).Nodup:=by
    rw[fF]
    have e:((fun x:Int×Nat=>x.2) ∘ fun k=>((S.bl k).b,k))=id:=rfl
    rw[e,Kd]
    exact K7
   have C8: ∀i,i < ks.length->(ks.map fun k=>((S.bl k).b,k)).getD i (0,0)=((S.bl (ks.getD i 0)).b,ks.getD i 0):=fun i hi=>getD_map (fun k=>((S.bl k).b,k)) ks i 0 (0,0) hi
   generalize WD:(ks.map fun k=>((S.bl k).b,k))=th at I9 qR hnd C8 jH
   refine⟨_,rfl,D,qs.map V.ref,th.map Ep,uP,rfl,bL.of ip,by rw[ae]; lia,by rw[ae,ae]; lia,Gy,(fun t ht=>?_),(fun t ht u hu=>?_),fun i hi H2 fr R hR=>?_,fun D2 p H2 hp le fr FD G2 Gr=>?_⟩
   ·obtain⟨x,_,rfl⟩:=bK.mp ht
    simp[Ep]
   ·obtain⟨x,AA,rfl⟩:=bK.mp ht
    obtain⟨y,B6,rfl⟩:=bK.mp hu
    exact uQ (qR x AA) (qR y B6) (fun e=>⟨rfl,nW hnd AA B6 e⟩) rfl
   ·rw[ae] at hi
    have yo:i < ks.length:=by lia
    obtain⟨q,e1,e2⟩:=bO hB (af yo)
    have WE:(qs.map V.ref).getD i .en= .ref q:=by rw[ai,aD,e1]; rfl
    have WG:ks.getD i 0=ks[i]:=by rw[ai,af yo]; rfl
    obtain⟨dq,zS⟩:=e2.frame fr (ve Gy e2)
    rw[qP (by lia),C8 i yo,WG] at hR
    rw[WE]
    exact⟨_,rfl,q,_,dq,_,_,rfl,zS,G.d9,G.mV,IB _ _,_,rfl,q,_,dq,_,_,rfl,zS,G.d9,G.eO,lq _ _,(by show 2<=sizeLine; decide),fun p np=>hR p np⟩
   ·rw[ae] at hp
    have iw: ∀i∈p,i < ks.length:=fun i hi=>by have:=cV.mp (hp.mem_iff.mp hi); lia
    have OF:=vd qR hnd (by rw[I9,WC]; exact hp) le
    have Ex:iH A H2 S ks qs:=Paired.iS hB fun _ _ w=>w.frame fr (ve Gy w)
    refine k D2 (p.map fun i=>qs.getD i tb) H2 ((t3.frame).tr fr) FD (t3.free G2) ?_ ?_
    ·rw[Gr,fF]
     congr 2
     apply eK
     intro i hi
     exact getD_map V.ref qs i tb .en (by have:=iw i hi; lia)
    ·rw[jH,← OF,fF]
     have e:p.map ((fun x:Int×Nat=>x.2) ∘ fun i=>th.getD i (0,0))=p.map fun i=>ks.getD i 0:=eK fun i hi=>by
      show(th.getD i (0,0)).2=_
      rw[C8 i (iw i hi)]
     rw[e]
     exact nF Ex 0 tb p iw
def OG:Pos:=⟨72,30,72,72⟩
def zp (A:dZ)(tb:Addr):Sp:=fun vs H Q _=> ∃(pb:Addr) (iD:List Addr) (S:Bk) (aN:Str),vs=[.ref pb,.str aN]/\H pb=some (.lst (iD.map V.ref))/\gv H A.d8 eY S.credits iD/\S.credits.length < 64/\Tb H tb OG ((("credits_in_order":Str) ++ ".<locals>.") ++ "<lambda>")/\
 ∀D qs H',Frame [tb] H H'->Tb H' tb OG ((("credits_in_order":Str) ++ ".<locals>.") ++ "<lambda>")->H D=none->H' D=some (.lst (qs.map V.ref))->gJ A H' S (inOrder S.credits aN (·.a)) qs->Q (.ref D) H'
theorem jv:aS ["all_credits","who","theirs"] ["all_credits","who"] (ay (top 18)):={}
theorem jZ (T:Txt K mg){A:dZ}{tb:Addr}(G:jz K mg A)(DL:qb K mg "credits_in_order" (top 18) tb)(KB:K.In base)(BM:BMain mg base):fe P w K mg base "credits_in_order" 2 ["all_credits","who"] (zp A tb):=by
 refine DL.fM (k:=1) KB jv (fun f c A' outer s H vs Q E CH hr h=>?_)
 ·obtain⟨pb,iD,S,aN,rfl,Sh,hO,hl,WA,k⟩:=h
  have nd:=jv.nd
  refine⟨_,(ah (jb (i:=2) nd rfl (Or.inl rfl) (tn:=["credit"]) (cn:=["who"]) (cj:=[1]) rfl (i0 (by rfl) (by decide +kernel) rfl (by decide +kernel) (by rfl) [(".0",.local),("credit",.local),("who",.cell)] (by rfl) (by decide +kernel) rfl (Or.inl rfl) (Or.inl rfl)) (dz (pv 0)) (fun _ _ _ _=>(eG (i:=0) (show(["credit","who"]:List Str).Nodup by decide +kernel) rfl (Or.inl rfl))) (fun _ _ _ _=>(pA (a8 dg (fq (K:=K) rfl (pv 0) rfl) (pv 1) (ba _)))) (fun _ _ _ _=>(pv 0)))
(av (a9 (uK (N:=["credit"]) (y:="credit") rfl T.uO BM rfl CH (hr.mono (by decide)) {} (fun _ _ _ _ _=>(dB (aa (fq (K:=K) rfl (pv 0) rfl) (aa (fq (K:=K) rfl (pv 0) rfl) ak)))) (pv 2))))),?_⟩
  refine⟨_,rfl,pb,rfl,⟨_,bL.of Sh⟩,?_⟩
  refine eo (K:=K) (a:=pb) (xs:=iD.map V.ref) (fun D i σ H6=>H D=none/\ ∃(v:Option V) (qs:List Addr),σ=[v,some (.str aN)]/\aG H H6/\H6 D=some (.lst (qs.map V.ref))/\gJ A H6 S (eZ S.credits aN i) qs) (fun D hD=>⟨hD,none,[],rfl,aG.new hD,ag,.nil⟩) (fun D i σ H6 _ ⟨_,_,_,_,t3,_⟩=>bL.of (t3 _ _ Sh)) ?_ ?_
  ·rintro D i x σ H6 hx ⟨hD,v,qs,rfl,t3,ip,hB⟩
   rw[aD] at hx
   obtain⟨q,hq,rfl⟩:=bH.mp hx
   have hi:i < S.credits.length:=by have:=(au.mp hq).1; have:=hO.1; lia
   obtain⟨dq,zS⟩:=(hO.2 i q hq).same t3
   have hql:qs.length<=100:=by
    have e1:=aW hB
    have e2:(eZ S.credits aN i).length<=i:=a0 (a6 _ _) (by rw[dv]; exact aB _)
    lia
   have qQ:eZ S.credits aN (i + 1)=eZ S.credits aN i ++ (if decide ((S.credits.getD i default).aN=aN)=true then[i] else[]):=by
    unfold eZ
    rw[vG,gf]
    congr 1
    by_cases z:decide ((S.credits.getD i default).aN=aN)=true
    ·rw[a7 z,cM (p:=fun k=>decide ((S.credits.getD k default).aN=aN)) z]; rfl
    ·rw[aO z,kj (p:=fun k=>decide ((S.credits.getD k default).aN=aN)) z]; rfl
   refine⟨_,rfl,q,_,dq,_,_,rfl,zS,G.df,G.kP,IC _ _,_,rfl,rfl,_,rfl,cI (fun z=>?_) (fun z=>?_)⟩
   ·rw[a7 (aM (y3 z))] at qQ
    refine⟨_,rfl,_,ip,bh (by rw[ae]; lia),hD,_,qs ++ [q],rfl,t3.dj hD,by rw[ag,aQ]; rfl,?_⟩
    rw[qQ]
    have kp: ∀{y C:Addr} {gs:List (Str×V)},eu H6 y C gs->eu (upd H6 D (.lst (qs.map V.ref ++ [V.ref q]))) y C gs:=fun{y C gs} ⟨dy,ey⟩=>⟨dy,by rw[az (ma ey ip (by intro w; cases w))]; exact ey⟩
    exact cL (Paired.iS hB fun _ _ w=>kp w) (kp ⟨dq,zS⟩)
   ·rw[aO (by rw[bI (uX z)]; exact aY),cu] at qQ
    refine⟨hD,_,qs,rfl,t3,ip,?_⟩
    rw[qQ]
    exact hB
  ·rintro D σ H6 hD ⟨_,v,qs,rfl,t3,ip,hB⟩
   have Ls:(iD.map V.ref).length=S.credits.length:=by rw[ae]; exact hO.1
   rw[Ls] at hB
   have Gy:=bR WA t3
   have hth:g8 S.credits aN (·.a)=(eZ S.credits aN S.credits.length).map fun k=>((S.cr k).a,k):=rfl
   have G0: ∀x∈eZ S.credits aN S.credits.length,x < S.credits.length:=fun x hx=>cV.mp (fO.mp hx).1
   have K7:(eZ S.credits aN S.credits.length).Nodup:=tF.filter _
   have WB:(eZ S.credits aN S.credits.length).length<=S.credits.length:=a0 (a6 _ _) (by rw[dv]; exact aB _)
   have jH:inOrder S.credits aN (·.a)=(fL ((eZ S.credits aN S.credits.length).map fun k=>((S.cr k).a,k))).map (·.2):=rfl
   generalize eZ S.credits aN S.credits.length=ks at hB G0 K7 WB jH
   have WC:=aW hB
   have I9:((ks.map fun k=>((S.cr k).a,k)):List (Int×Nat)).length=ks.length:=ae _
   have qR: ∀x∈(ks.map fun k=>((S.cr k).a,k)),x.2 < 1000:=fun x hx=>by
    obtain⟨k0,PJ,rfl⟩:=bK.mp hx
    have:=G0 k0 PJ
    show k0 < 1000
    lia
   have hnd:((ks.map fun k=>((S.cr k).a,k)).map (·.2)).Nodup:=by
    rw[fF]
    have e:((fun x:Int×Nat=>x.2) ∘ fun k=>((S.cr k).a,k))=id:=rfl
    rw[e,Kd]
    exact K7
   have C8: ∀i,i < ks.length->(ks.map fun k=>((S.cr k).a,k)).getD i (0,0)=((S.cr (ks.getD i 0)).a,ks.getD i 0):=fun i hi=>getD_map (fun k=>((S.cr k).a,k)) ks i 0 (0,0) hi
   generalize WD:(ks.map fun k=>((S.cr k).a,k))=th at I9 qR hnd C8 jH
   refine⟨_,rfl,D,qs.map V.ref,th.map Ep,uP,rfl,bL.of ip,by rw[ae]; lia,by rw[ae,ae]; lia,Gy,(fun t ht=>?_),(fun t ht u hu=>?_),fun i hi H2 fr R hR=>?_,fun D2 p H2 hp le fr FD G2 Gr=>?_⟩
   ·obtain⟨x,_,rfl⟩:=bK.mp ht
    simp[Ep]
   ·obtain⟨x,AA,rfl⟩:=bK.mp ht
    obtain⟨y,B6,rfl⟩:=bK.mp hu
    exact uQ (qR x AA) (qR y B6) (fun e=>⟨rfl,nW hnd AA B6 e⟩) rfl
   ·rw[ae] at hi
    have yo:i < ks.length:=by lia
    obtain⟨q,e1,e2⟩:=bO hB (af yo)
    have WE:(qs.map V.ref).getD i .en= .ref q:=by rw[ai,aD,e1]; rfl
    have WG:ks.getD i 0=ks[i]:=by rw[ai,af yo]; rfl
    obtain⟨dq,zS⟩:=e2.frame fr (ve Gy e2)
    rw[qP (by lia),C8 i yo,WG] at hR
    rw[WE]
    exact⟨_,rfl,q,_,dq,_,_,rfl,zS,G.df,G.i7,ID _ _,_,rfl,q,_,dq,_,_,rfl,zS,G.df,G.eM,nU _ _,(by show 2<=sizeLine; decide),fun p np=>hR p np⟩
   ·rw[ae] at hp
    have iw: ∀i∈p,i < ks.length:=fun i hi=>by have:=cV.mp (hp.mem_iff.mp hi); lia
    have OF:=vd qR hnd (by rw[I9,WC]; exact hp) le
    have Ex:gJ A H2 S ks qs:=Paired.iS hB fun _ _ w=>w.frame fr (ve Gy w)
    refine k D2 (p.map fun i=>qs.getD i tb) H2 ((t3.frame).tr fr) FD (t3.free G2) ?_ ?_
    ·rw[Gr,fF]
     congr 2
     apply eK
     intro i hi
     exact getD_map V.ref qs i tb .en (by have:=iw i hi; lia)
    ·rw[jH,← OF,fF]
     have e:p.map ((fun x:Int×Nat=>x.2) ∘ fun i=>th.getD i (0,0))=p.map fun i=>ks.getD i 0:=eK fun i hi=>by
      show(th.getD i (0,0)).2=_
      rw[C8 i (iw i hi)]
     rw[e]
     exact nF Ex 0 tb p iw
theorem vf {A:dZ}{H H':Hp}{pw tb:Addr}{S:Bk}{f:eL}(h:dG A H pw S f)(ht: ∃ps,H tb=some (.mz ps))(fr:Frame [tb] H H'):dG A H' pw S f:=by
 obtain⟨ps,ht⟩:=ht
 have kl: ∀{a:Addr} {xs:List V},H a=some (.lst xs)->H' a=some (.lst xs):=fun{a xs} e=>fr _ _ (fun z=>by rw[ao.mp z,ht] at e; cases e) e
 have ki: ∀{a C dx:Addr} {gs:List (Str×V)},H a=some (.ins C dx gs)->H' a=some (.ins C dx gs):=fun{a C dx gs} e=>fr _ _ (fun z=>by rw[ao.mp z,ht] at e; cases e) e
 have kt:cK H H':=fun a xs e=>fr _ _ (fun z=>by rw[ao.mp z,ht] at e; cases e) e
 obtain⟨dw,hw⟩:=h.obj
 obtain⟨ms,m1,m2⟩:=h.hm
 exact⟨⟨dw,ki hw⟩,kl h.hb,kl h.hc,kl h.hl,kl h.hf,⟨ms,kl m1,m2.mono kt⟩,h.rb.keep fun _ _ _ e=>ki e,h.rc.keep fun _ _ _ e=>ki e,h.nd⟩
def lE (H:Hp)(tb:Addr):Prop:=Tb H tb OE ((("bills_in_order":Str) ++ ".<locals>.") ++ "<lambda>")
def l5 (H:Hp)(tb:Addr):Prop:=Tb H tb OG ((("credits_in_order":Str) ++ ".<locals>.") ++ "<lambda>")
def C9 (A:dZ)(tb:Addr):Sp:=fun vs H Q _=> ∃(pw:Addr) (S:Bk) (f:eL) (n:Nat) (aN:Str) (day:Int),vs=[.ref pw,.str aN,.int day]/\dG A H pw S f/\WF S n/\n<=60/\lE H tb/\
 ∀D ms H',Frame [tb] H H'->lE H' tb->H D=none->H' D=some (.lst ms)->nA H' (S.qy true aN day) ms->Q (.ref D) H'
def Ja (A:dZ)(tb:Addr):Sp:=fun vs H Q _=> ∃(pw:Addr) (S:Bk) (f:eL) (n:Nat) (aN:Str) (day:Int),vs=[.ref pw,.str aN,.int day]/\dG A H pw S f/\WF S n/\n<=60/\l5 H tb/\
 ∀D ms H',Frame [tb] H H'->l5 H' tb->H D=none->H' D=some (.lst ms)->nA H' (S.qy false aN day) ms->Q (.ref D) H'
theorem Dc:aS ["work","who","day"] ["work","who","day"] (ay (top 36)):={}
theorem xJ (T:Txt K mg){A:dZ}{tb:Addr}(G:jz K mg A)(DL:qb K mg "bills_in_order" (top 17) tb)(KB:K.In base)(BM:BMain mg base):fe P w K mg base "owed_at" 5 ["work","who","day"] (C9 A tb):=by
 have iZ:fe P w K mg base "bills_in_order" 2 ["bills","who"] (zo A tb):=lD T G DL KB BM
 have j7:fe P w K mg base "remaining_at" 4 ["work","told","place","day"] (vc A):=nE T G
 refine T.FX.fM (k:=4) Dc (fun f cX A' outer s H vs Q E hr h=>?_)
 ·obtain⟨pw,S,g,n,aN,day,rfl,hW,wf,hn,hT,k⟩:=h
  obtain⟨dw,hw⟩:=hW.obj
  refine⟨_,(av (a9 (fc j7 hr (aa (pv 0) (aa (fc iZ hr (aa (b9 (pv 0) rfl) (aa (pv 1) ak))) (aa aj (aa (pv 2) ak))))))),?_⟩
  refine⟨_,rfl,_,rfl,pw,_,dw,_,_,rfl,hw,G.bE,G.dX,jg g,_,rfl,g.pb,g.iD,S,aN,rfl,hW.hb,hW.rb,(by have:=wf.lb; lia),hT,fun D qs H1 fr G3 nD hD hB=>?_⟩
  have Ca:=vf hW (let⟨ps,e,_⟩:=hT; ⟨ps,e⟩) fr
  have LB:(inOrder S.aC aN (·.b)).length<=100:=by
   have e:(inOrder S.aC aN (·.b)).length=((List.range S.aC.length).filter fun k=>decide ((S.aC.getD k default).aN=aN)).length:=by
    unfold inOrder g8
    rw[ae,(dE _).length_eq,ae]
   have:=a6 (fun k=>decide ((S.aC.getD k default).aN=aN)) (List.range S.aC.length)
   rw[dv] at this
   have:=wf.lb
   lia
  refine⟨_,rfl,pw,D,S,g,n,true,day,inOrder S.aC aN (·.b),qs,rfl,Ca,wf,(by have:=wf.lm; lia),hD,hB,LB,fun D2 ms H2 s2 G2 Gr hP=>?_⟩
  exact k D2 ms H2 (fr.cS s2) (bR G3 s2) (fr.free (fun z=>by
   obtain⟨ps,e,_⟩:=G3
   rw[ao.mp z,e] at G2
   cases G2) G2) Gr hP
theorem Dd:aS ["work","who","day"] ["work","who","day"] (ay (top 37)):={}
theorem Gz (T:Txt K mg){A:dZ}{tb:Addr}(G:jz K mg A)(DL:qb K mg "credits_in_order" (top 18) tb)(KB:K.In base)(BM:BMain mg base):fe P w K mg base "free_at" 5 ["work","who","day"] (Ja A tb):=by
 have hV:fe P w K mg base "credits_in_order" 2 ["all_credits","who"] (zp A tb):=jZ T G DL KB BM
 have j7:fe P w K mg base "remaining_at" 4 ["work","told","place","day"] (vc A):=nE T G
 refine T.FY.fM (k:=4) Dd (fun f cX A' outer s H vs Q E hr h=>?_)
 ·obtain⟨pw,S,g,n,aN,day,rfl,hW,wf,hn,hT,k⟩:=h
  obtain⟨dw,hw⟩:=hW.obj
  refine⟨_,(av (a9 (fc j7 hr (aa (pv 0) (aa (fc hV hr (aa (b9 (pv 0) rfl) (aa (pv 1) ak))) (aa aj (aa (pv 2) ak))))))),?_⟩
  refine⟨_,rfl,_,rfl,pw,_,dw,_,_,rfl,hw,G.bE,G.cH,hJ g,_,rfl,g.pc,g.cps,S,aN,rfl,hW.hc,hW.rc,(by have:=wf.lc; lia),hT,fun D qs H1 fr G3 nD hD hB=>?_⟩
  have Ca:=vf hW (let⟨ps,e,_⟩:=hT; ⟨ps,e⟩) fr
  have LB:(inOrder S.credits aN (·.a)).length<=100:=by
   have e:(inOrder S.credits aN (·.a)).length=((List.range S.credits.length).filter fun k=>decide ((S.credits.getD k default).aN=aN)).length:=by
    unfold inOrder g8
    rw[ae,(dE _).length_eq,ae]
   have:=a6 (fun k=>decide ((S.credits.getD k default).aN=aN)) (List.range S.credits.length)
   rw[dv] at this
   have:=wf.lc
   lia
  refine⟨_,rfl,pw,D,S,g,n,false,day,inOrder S.credits aN (·.a),qs,rfl,Ca,wf,(by have:=wf.lm; lia),hD,hB,LB,fun D2 ms H2 s2 G2 Gr hP=>?_⟩
  exact k D2 ms H2 (fr.cS s2) (bR G3 s2) (fr.free (fun z=>by
   obtain⟨ps,e,_⟩:=G3
   rw[ao.mp z,e] at G2
   cases G2) G2) Gr hP
def Ey:Sp:=fun vs H Q _=> ∃(gq:Int) (pl:Addr) (di:List Int),vs=[.int gq,.ref pl]/\H pl=some (.tup (di.map V.int))/\di.length<=11/\ ∀H',aG H H'->Q (.int (L2.placeOf gq di:Int)) H'
theorem Bt:aS ["late","limits"] ["late","limits"] (ay (top 1)):={}
theorem De (T:Txt K mg):fe P w K mg base "place_of" 1 ["late","limits"] Ey:=by
 refine T.CM.fM (k:=0) Bt (fun f cX A' outer s H vs Q E hr h=>?_)
 ·obtain⟨gq,pl,di,rfl,iw,IT,k⟩:=h
  refine⟨_,(ah (bV (a8 wZ (pv 0) aj (ba _))
(av (a9 aj))
bp)
(av (a9 (aV dM aj (bo bq (by rfl) T.eT bu (aa (ja (tn:=["limit"]) (cn:=["late"]) (cj:=[0]) rfl (i0 (by rfl) (by decide +kernel) rfl (by decide +kernel) (by rfl) [(".0",.local),("limit",.local),("late",.cell)] (by rfl) (by decide +kernel) rfl (Or.inl rfl) (Or.inl rfl)) (Nh (pv 1)) (fun _ _ _ _=>(eG (i:=0) (show(["limit","late"]:List Str).Nodup by decide +kernel) rfl (Or.inl rfl))) (fun _ _ _ _=>(pA (a8 jN (pv 0) (pv 1) (ba _)))) (fun _ _ _ _=>(pv 0))) ak)))))),?_⟩
  refine⟨_,rfl,_,_,rfl,rfl,_,rfl,cI (fun z=>?_) (fun z=>?_)⟩
  ·have z':gq<=0:=aZ z
   have e:L2.placeOf gq di=0:=a7 z'
   have q:=k H (aG.refl _)
   rw[e] at q
   exact q
  have z': ¬ gq<=0:=fun q=>z (aM q)
  have e:L2.placeOf gq di=1 + (di.filter fun l=>decide (l < gq)).length:=aO z'
  refine⟨_,rfl,pl,rfl,⟨_,cG.of iw⟩,?_⟩
  refine HI (K:=K) (a:=pl) (xs:=di.map V.int) (fun D' j σ H6=>H D'=none/\ ∃v,σ=[v,some (.int gq)]/\aG H H6/\H6 D'=some (.lst (((di.take j).filter fun l=>decide (l < gq)).map V.int))) (fun D' wt=>⟨wt,none,rfl,aG.new wt,ag⟩) (fun D' j σ H6 _ ⟨_,_,_,t3,_⟩=>cG.of (t3 _ _ iw)) ?_ ?_
  ·rintro D' j x σ H6 MD ⟨wt,v,rfl,t3,ip⟩
   rw[aD] at MD
   obtain⟨y,hy,rfl⟩:=bH.mp MD
   have oQ:=gz (fun l=>decide (l < gq)) hy
   have hlen:((di.take j).filter fun l=>decide (l < gq)).length<=100:=by
    have:=a6 (fun l=>decide (l < gq)) (di.take j)
    rw[bz] at this
    lia
   refine⟨_,rfl,_,rfl,_,_,rfl,rfl,_,rfl,cI (fun q=>?_) (fun q=>?_)⟩
   ·rw[a7 q] at oQ
    refine⟨_,rfl,_,ip,bh (by rw[ae]; lia),wt,_,rfl,t3.dj wt,?_⟩
    rw[ag,oQ,aQ]
    rfl
   ·rw[aO q,cu] at oQ
    refine⟨wt,_,rfl,t3,?_⟩
    rw[oQ]
    exact ip
  ·rintro D' σ H6 wt ⟨_,v,rfl,t3,ip⟩
   refine⟨D',_,rfl,.inl (bL.of ip),_,_,rfl,rfl,?_⟩
   have q:=k H6 t3
   rw[e] at q
   have e2:(1:Int) + ((((di.take (di.map V.int).length).filter fun l=>decide (l < gq)).map V.int).length:Int)=((1 + (di.filter fun l=>decide (l < gq)).length:Nat):Int):=by
    rw[ae,ae,bb]
    simp
   rw[← e2] at q
   exact q
def Jb (A:dZ)(tb:Addr):Sp:=fun vs H Q _=> ∃(pw pl:Addr) (S:Bk) (f:eL) (n:Nat) (aN:Str) (day:Int) (di:List Int),vs=[.ref pw,.str aN,.int day,.ref pl]/\dG A H pw S f/\WF S n/\n<=60/\lE H tb/\H pl=some (.tup (di.map V.int))/\di.length<=11/\
 ∀D H',Frame [tb] H H'->lE H' tb->H D=none->H' D=some (.lst ((S.NQ aN day di).map V.int))->Q (.ref D) H'
theorem vg:aS ["work","who","day","limits","sums","number","left","place"] ["work","who","day","limits"] (ay (top 41)):={}
theorem GA (T:Txt K mg){A:dZ}{tb:Addr}(G:jz K mg A)(DL:qb K mg "bills_in_order" (top 17) tb)(KB:K.In base)(BM:BMain mg base):fe P w K mg base "ages_at" 6 ["work","who","day","limits"] (Jb A tb):=by
 have rR:fe P w K mg base "owed_at" 5 ["work","who","day"] (C9 A tb):=xJ T G DL KB BM
 have Dg:fe P w K mg base "place_of" 1 ["late","limits"] Ey:=De T
 refine T.FZ.fM (k:=5) vg (fun f cX A' outer s H vs Q E hr h=>?_)
 ·obtain⟨pw,pl,S,g,n,aN,day,di,rfl,hW,wf,hn,hT,iw,IT,k⟩:=h
  have nd:=vg.nd
  refine⟨_,(ah (sv 4 nd (aV Cw (bW (aa aj ak)) (aV dM (bo bq (by rfl) T.eT bu (aa (pv 3) ak)) aj)))
(ah (fH bT rfl (dz (fc rR hr (aa (pv 0) (aa (pv 1) (aa (pv 2) ak))))) (iT rfl (ck (gn 5 nd) (ck (gn 6 nd) gG)))
(ah (sv 7 nd (fc Dg hr (aa (aV eV (pv 2) (b9 (xl (b9 (pv 0) rfl) (pv 5)) rfl)) (aa (pv 3) ak))))
(av (kK (aV dM (xl (pv 4) (pv 7)) (pv 6)) (mE (pv 4) (pv 7) set_list)))))
(av (a9 (pv 4))))),?_⟩
  refine⟨(by show 1<=sizeLine; decide),fun p9 n9=>?_⟩
  have t9:=aG.new (o:= .lst [V.int 0]) n9
  have Sk:(di.map V.int).length=di.length:=ae _
  refine⟨_,rfl,pl,_,rfl,.inr (cG.of (t9 _ _ iw)),_,_,rfl,rfl,p9,_,_,rfl,rfl,ag,by lia,by lia,?_,fun ps Ez=>?_⟩
  ·show 1 * _<=sizeLine
   rw[Sk,eU]
   lia
  have e2:(((di.map V.int).length:Int) + 2).toNat=di.length + 2:=by rw[Sk]; lia
  rw[e2,Lz]
  have Bm:=aG.new (o:= .lst ((List.replicate (di.length + 2) (0:Int)).map V.int)) Ez
  have IX:=t9.trans Bm
  have mO:upd (upd H p9 (.lst [V.int 0])) ps (.lst ((List.replicate (di.length + 2) (0:Int)).map V.int)) ps=some (.lst ((List.replicate (di.length + 2) (0:Int)).map V.int)):=ag
  have OH:H ps=none:=t9.free Ez
  generalize upd (upd H p9 (.lst [V.int 0])) ps (.lst ((List.replicate (di.length + 2) (0:Int)).map V.int))=H1 at IX mO
  have G3:=bR hT IX
  refine⟨_,rfl,_,rfl,_,rfl,pw,S,g,n,aN,day,rfl,hW.same IX,wf,hn,G3,fun D ms H2 fr FD nD hD hP=>?_⟩
  refine⟨D,rfl,⟨_,bL.of hD⟩,?_⟩
  have mz: ∃q,H1 tb=some (.mz q):=let⟨q,e,_⟩:=G3; ⟨q,e⟩
  have off: ∀{a:Addr} {o:HO},H1 a=some o->(∀q,o≠ .mz q)->H2 a=some o:=fun{a o} e hq=>fr _ _ (fun z=>by
   obtain⟨q,eq⟩:=mz
   rw[ao.mp z,eq] at e
   exact hq q (aE e).symm) e
  have zq:=vf (hW.same IX) mz fr
  have OI:=off mO (fun _ z=>by cases z)
  have OJ:=off (IX _ _ iw) (fun _ z=>by cases z)
  have fr0:Frame [tb] H H2:=fr.lZ IX
  have Jc: ∀t∈S.qy true aN day,t.1 < S.aC.length:=fun t ht=>Gu (bQ:=true) ht
  have hag:S.NQ aN day di=(S.qy true aN day).foldl (fun l t=>sy l (L2.placeOf (day - (S.bl t.1).b) di) t.2) (List.replicate (di.length + 2) 0):=rfl
  rw[hag] at k
  generalize S.qy true aN day=ts at hP Jc k
  have hDp:D≠ps:=fun e=>by rw[e,mO] at nD; cases nD
  refine gR (K:=K) (a:=D) (xs:=ms) (fun i σ H3=> ∃(l:List Int) (x5 x6 x7:Option V),σ=[some (.ref pw),some (.str aN),some (.int day),some (.ref pl),some (.ref ps),x5,x6,x7]/\Frame [ps] H2 H3/\H3 ps=some (.lst (l.map V.int))/\l.length=di.length + 2/\l=(ts.take i).foldl (fun l t=>sy l (L2.placeOf (day - (S.bl t.1).b) di) t.2) (List.replicate (di.length + 2) 0))
   ⟨_,none,none,none,rfl,Frame.refl,OI,List.length_replicate,rfl⟩ (fun i σ H3 _ ⟨_,_,_,_,_,f3,_⟩=>bL.of (f3 _ _ (by simpa using hDp) hD)) ?_ ?_
  ·rintro i x σ H3 hx ⟨l,x5,x6,x7,rfl,f3,PD,G4,he⟩
   have Uj: ∀{a:Addr} {o:HO},H2 a=some o->(∀q,o≠ .lst q)->H3 a=some o:=fun{a o} e hq=>f3 _ _ (fun z=>by
    rw[ao.mp z,OI] at e
    exact hq _ (aE e).symm) e
   have hi:i < ts.length:=by have:=(au.mp hx).1; have:=aW hP; lia
   have oP:=af hi
   obtain⟨v,hv,p,rfl,hp⟩:=bO hP oP
   rw[hx] at hv
   obtain rfl:x= .ref p:=aE hv
   have hm:=Jc _ (bJ hi)
   rw[lB (fun l t=>sy l (L2.placeOf (day - (S.bl t.1).b) di) t.2) ts _ oP,← he]
   generalize ts[i]=t at hp hm
   obtain⟨dw,hw⟩:=zq.obj
   obtain⟨q,q1,dq,q2⟩:=zq.rb.get hm
   have WH:g.pb∉[ps]:=fun z=>by
    have e:=hW.hb
    rw[ao.mp z,OH] at e
    cases e
   have P0:=Uj hp (fun _ z=>by cases z)
   have hw3:=Uj hw (fun _ z=>by cases z)
   have hq3:=Uj q2 (fun _ z=>by cases z)
   have WI:=Uj OJ (fun _ z=>by cases z)
   refine⟨p,_,rfl,cG.of P0,rfl,_,_,rfl,_,_,rfl,rfl,?_⟩
   refine⟨_,rfl,_,rfl,pw,_,dw,_,_,rfl,hw3,G.bE,G.dX,jg g,_,rfl,g.pb,_,_,.ref q,rfl,rfl,bL.of (f3 _ _ WH zq.hb),cJ (by rw[aD,q1]; rfl),q,_,dq,_,_,rfl,hq3,G.d9,G.mV,IB _ _,_,_,rfl,rfl,_,rfl,_,pl,di,rfl,WI,IT,fun H4 s4=>?_⟩
   have hpo:=C7 (day - (S.bl t.1).b) di
   have YV:=s4 _ _ PD
   refine⟨_,rfl,_,rfl,ps,_,_,.int (l.getD (L2.placeOf (day - (S.bl t.1).b) di) 0),rfl,rfl,bL.of YV,mZ (by show L2.placeOf (day - (S.bl t.1).b) di < _; lia),_,rfl,_,_,rfl,rfl,?_⟩
   refine⟨_,rfl,_,rfl,ps,_,_,L2.placeOf (day - (S.bl t.1).b) di,rfl,rfl,YV,nV (by rw[ae]; show L2.placeOf (day - (S.bl t.1).b) di < _; lia),?_⟩
   refine⟨sy l (L2.placeOf (day - (S.bl t.1).b) di) t.2,_,_,_,rfl,(f3.cS s4).tr (Frame.upd (by simp)),?_,?_,rfl⟩
   ·rw[ag]
    unfold sy
    rw[vF]
   ·rw[Gv]; exact G4
  ·rintro σ H3 ⟨l,x5,x6,x7,rfl,f3,PD,G4,he⟩
   rw[← aW hP,bb] at he
   rw[he] at PD
   refine⟨_,rfl,k ps H3 (fun b o hb e=>f3 b o (fun z=>by rw[ao.mp z,OH] at e; cases e) (fr0 b o hb e)) ?_ OH PD⟩
   obtain⟨q,e1,QW,e3⟩:=FD
   have kx: ∀{a:Addr} {o:HO},H2 a=some o->(∀q,o≠ .lst q)->H3 a=some o:=fun{a o} e hq=>f3 _ _ (fun z=>by
    rw[ao.mp z,OI] at e
    exact hq _ (aE e).symm) e
   refine⟨q,kx e1 (fun _ z=>by cases z),QW,?_⟩
   rcases e3 with e3|⟨c',e3,e4⟩
   ·exact .inl e3
   ·exact .inr ⟨c',e3,kx e4 (fun _ z=>by cases z)⟩
def eP (pk pw:Addr):List (Str×V):=[("kept",.ref pk),("work",.ref pw)]
theorem tP (pk pw:Addr):(eP pk pw).lookup ("kept":Str)=some (V.ref pk):=by rfl
theorem qS (pk pw:Addr):(eP pk pw).lookup ("work":Str)=some (V.ref pw):=by rfl
theorem Jd (pk pw:Addr):eD "work" (.ref pw) (eD "kept" (.ref pk) [])=eP pk pw:=by rfl
def EA (A:dZ):Sp:=fun vs H Q _=> ∃(x dx:Addr),vs=[.ref x]/\H x=some (.ins A.book dx [])/\ ∀pk pw f H',Frame [x] H H'->H' x=some (.ins A.book dx (eP pk pw))->H' pk=some (.dK [])->dG A H' pw Bk.new f->H pk=none->H pw=none->(∀b∈f.fp,H b=none)->pk∉f.fp->Q .en H'
theorem LC:aS ["self"] ["self"] (ay (mem 29 0)):={}
theorem OK {A:dZ}(G:jz K mg A):tf P w K mg base "Book" A.book 3 ["self"] (EA A):=by
 have Dh:tf P w K mg base "Work" A.work 1 ["self"] (y7 A):=IW G
 refine Lm (k:=2) G.Lk G.Lj LC (fun f cX A' outer s H vs Q E hr h=>?_)
 ·obtain⟨x,dx,rfl,hx,k⟩:=h
  refine⟨_,(ah (fQ (pv 0) An rfl) (av (fQ (pv 0) (IE Dh (hr.mono (by decide)) rfl) rfl))),?_⟩
  intro pk nk
  have ne1:pk≠x:=(aL hx nk).symm
  refine⟨_,rfl,x,_,dx,_,rfl,aG.new nk _ _ hx,G.eE,G.gI,lt1000 Ba (by decide),?_⟩
  have F1:Frame [x] H (upd (upd H pk (.dK [])) x (.ins A.book dx (eD "kept" (.ref pk) []))):=(aG.new nk).frame.tr (Frame.upd (by simp))
  have g1:upd (upd H pk (.dK [])) x (.ins A.book dx (eD "kept" (.ref pk) [])) x=some (.ins A.book dx (eD "kept" (.ref pk) [])):=ag
  have k1:upd (upd H pk (.dK [])) x (.ins A.book dx (eD "kept" (.ref pk) [])) pk=some (.dK []):=by rw[az ne1,ag]
  generalize upd (upd H pk (.dK [])) x (.ins A.book dx (eD "kept" (.ref pk) []))=H1 at F1 g1 k1 ⊢
  intro xw WJ LD OL ne
  have s2:=lA (C:=A.work) (fs:=[]) LD OL ne
  refine⟨xw,WJ,rfl,ag,fun g H3 Kn W3 nf=>⟨rfl,?_⟩⟩
  have WK:x≠xw:=aL g1 LD
  have nek:pk≠xw:=aL k1 LD
  have g3:=Kn _ _ (by simpa using WK) (s2 _ _ g1)
  have k3:=Kn _ _ (by simpa using nek) (s2 _ _ k1)
  refine⟨_,rfl,x,_,dx,_,rfl,g3,G.eE,G.fT,lt1000 (pl Ba) (by decide),?_⟩
  rw[Jd]
  have fw: ∀b∈g.fp,H1 b=none:=fun b hb=>s2.free (nf b hb)
  have off: ∀b,H1 b=none->b≠x->H b=none:=fun b e n=>F1.free (by simpa using n) e
  have xf:x∉g.fp:=fun z=>by have:=fw x z; rw[g1] at this; cases this
  have Sl:dG A (upd H3 x (.ins A.book dx (eP pk xw))) xw Bk.new g:=by
   obtain⟨dw,hw⟩:=W3.obj
   obtain⟨ms,m1,m2⟩:=W3.hm
   have nx: ∀p∈g.fp,p≠x:=fun p hp z=>xf (z▸hp)
   refine⟨⟨dw,by rw[az WK.symm]; exact hw⟩,by rw[az (nx _ (by simp[eL.fp]))]; exact W3.hb,by rw[az (nx _ (by simp[eL.fp]))]; exact W3.hc,by rw[az (nx _ (by simp[eL.fp]))]; exact W3.hl,by rw[az (nx _ (by simp[eL.fp]))]; exact W3.hf,⟨ms,by rw[az (nx _ (by simp[eL.fp]))]; exact m1,?_⟩,?_,?_,W3.nd⟩
   ·cases m2
    exact .nil
   ·exact⟨W3.rb.1,fun i p e=>by have:=(au.mp e).1; have h0:=W3.rb.1; rw[h0] at this; exact absurd this (fP _)⟩
   ·exact⟨W3.rc.1,fun i p e=>by have:=(au.mp e).1; have h0:=W3.rc.1; rw[h0] at this; exact absurd this (fP _)⟩
  refine k pk xw g _ ?_ ag (by rw[az ne1]; exact k3) Sl nk (off xw LD WK.symm) (fun b hb=>off b (fw b hb) (fun z=>xf (z▸hb))) (fun z=>by have:=fw pk z; rw[k1] at this; cases this)
  intro b o hb e
  have bx:b≠x:=by simpa using hb
  rw[az bx]
  have e1:=F1 b o hb e
  exact Kn b o (by simpa using aL e1 LD) (s2 b o e1)
def zr (r:List Bool):Dt:= .lst (r.map Dt.bl)
def Je (t:Nat×Nat×Int):Dt:= .tup [.int t.1,.int t.2.1,.int t.2.2]
theorem ie (fs ls:List Int)(al:List (List Bool)): ∀i,(bY fs ls al i).2.length<=i
 |0=>aB _
 |i + 1=>by
  have:=ie fs ls al i
  unfold bY
  split
  ·lia
  ·rw[aF]; show _ + 1<=_; lia
def WL:Option Nat->V
 |none=> .en
 |some j=> .int j
def pN (bc:List (Key×V))(j:Nat):Bool:=(gj bc (Sum.inl (j:Int):Key)).isSome
def EB (K:PySem.W.Frag):Sp:=fun vs H Q _=> ∃(f:Int) (pl:Addr) (ls:List Int) (pr:Addr) (row:List Bool) (pt:Addr) (bc:List (Key×V)),vs=[.int f,.ref pl,.ref pr,.ref pt]/\bL K H pl (ls.map V.int)/\bL K H pr (row.map V.bl)/\row.length=ls.length/\H pt=some (.dK bc)/\
 ∀H',aG H H'->Q (WL (g9 f ls row (pN bc))) H'
def nG (H:Hp)(ms:List (Nat×Nat×Int))(vs:List V):Prop:=Paired (fun(t:Nat×Nat×Int) v=> ∃p,v= .ref p/\H p=some (.tup [.int t.1,.int t.2.1,.int t.2.2])) ms vs
theorem nG.mono {H H':Hp}{ms:List (Nat×Nat×Int)}{vs:List V}(h:nG H ms vs)(k: ∀b xs,H b=some (.tup xs)->H' b=some (.tup xs)):nG H' ms vs:=
 Paired.iS h fun _ _ ⟨p,e,q⟩=>⟨p,e,k _ _ q⟩
theorem nG.rp {H:Hp}: ∀{ms:List (Nat×Nat×Int)} {vs:List V},nG H ms vs->iJ H (ms.map Je) vs
 |_,_,.nil=>dW.mpr rfl
 |_,_,.cons ⟨p,e,q⟩ t=>bX.mpr ⟨_,_,rfl,e▸fX q (bX.mpr ⟨_,_,rfl,eB.mpr rfl,bX.mpr ⟨_,_,rfl,eB.mpr rfl,bX.mpr ⟨_,_,rfl,eB.mpr rfl,dW.mpr rfl⟩⟩⟩),nG.rp t⟩
theorem LF {H:Hp}{p:Addr}{o:HO}{bc:List (Key×V)}(h:H p=some (.dK bc)): ∀b xs,H b=some (.tup xs)->upd H p o b=some (.tup xs):=fun b xs e=>by
 rw[az (ma e h (by intro z; cases z))]; exact e
theorem nH:aS ["free","lefts","fitting","taken","bill","left"] ["free","lefts","fitting","taken"] (ay (top 21)):={}
theorem wG (T:Txt K mg):fe P w K mg base "first_alike" 1 ["free","lefts","fitting","taken"] (EB K):=by
 refine T.vU.fM (k:=0) nH (fun f cX A outer s H vs Q E hr h=>?_)
 ·obtain⟨fr,pl,ls,pr,row,pt,bc,rfl,hL,hR,BY,hT,k⟩:=h
  have hu:=kz hr
  have nd:=nH.nd
  refine⟨_,(ah (fH bT rfl (qr rfl T.jf (aa (pv 1) ak)) (iT rfl (ck (gn 4 nd) (ck (gn 5 nd) gG)))
(av (bV (PW.pt (pw_and (gg (xl (pv 2) (pv 4))) (pw_and (a8 dg (pv 5) (pv 0) (ba _)) (pw_and1 (xZ (Fv hu (pv 4) (pv 3)))))))
(av (a9 (pv 4)))
bp)))
(av (a9 Cj))),?_⟩
  refine⟨_,rfl,pl,rfl,⟨_,hL⟩,?_⟩
  refine mM (K:=K) (a:=pl) (xs:=ls.map V.int) (fun i σ H2=> ∃x4 x5,σ=[some (.int fr),some (.ref pl),some (.ref pr),some (.ref pt),x4,x5]/\aG H H2/\ ∀j,j < i->(row.getD j false && decide (ls.getD j 0=fr) && !pN bc j)=false)
   ⟨none,none,rfl,aG.refl _,fun j hj=>absurd hj (fP _)⟩ (fun i σ H2 _ ⟨_,_,_,s2,_⟩=>s2.seq hL) ?_ ?_
  ·rintro i x p σ H2 hx hp ⟨x4,x5,rfl,s2,Sm⟩
   have hi:i < ls.length:=by have:=(au.mp hx).1; rwa [ae] at this
   rw[aD,af hi] at hx
   obtain rfl:V.int ls[i]=x:=aE hx
   have s3:aG H2 (upd H2 p (.tup [.int i,.int ls[i]])):=aG.new hp
   refine⟨p,_,rfl,cG.of ag,rfl,_,_,rfl,_,_,rfl,rfl,?_⟩
   have s4:=s2.trans s3
   generalize upd H2 p (.tup [.int i,.int ls[i]])=H3 at s4 ⊢
   have Sn:i < row.length:=by lia
   have OM:ls.getD i 0=ls[i]:=by rw[ai,af hi]; rfl
   have So:row.getD i false=row[i]:=by rw[ai,af Sn]; rfl
   have next:(row.getD i false && decide (ls.getD i 0=fr) && !pN bc i)=false-> ∀j,j < i + 1->(row.getD j false && decide (ls.getD j 0=fr) && !pN bc j)=false:=fun e j hj=>by
    rcases Nat.lt_succ_iff_lt_or_eq.mp hj with h|h
    ·exact Sm j h
    ·rw[h]; exact e
   refine⟨_,rfl,_,rfl,pr,_,_,.bl row[i],rfl,rfl,s4.seq hR,cJ (by rw[aD,af Sn]; rfl),_,rfl,?_⟩
   refine cI (fun c1=>?_) (fun c1=>cg ?_)
   ·refine⟨_,rfl,_,rfl,rfl,_,rfl,cI (fun c2=>?_) (fun c2=>cg ?_)⟩
    ·have Sq:ls[i]=fr:=by have:=aZ c2; injection this
     refine⟨_,rfl,_,rfl,pt,_,rfl,mr.k (k:=Sum.inl (i:Int)) (s4 _ _ hT),_,rfl,cI (fun c3=>?_) (fun c3=>?_)⟩
     ·
      refine⟨_,rfl,?_⟩
      have e:g9 fr ls row (pN bc)=some i:=by
       unfold g9
       refine List.find?_range_eq_some.mpr ⟨?_,cV.mpr hi,fun j hj=>?_⟩
       ·rw[So,OM,c1,Sq]
        simpa[pN] using c3
       ·rw[Sm j hj]; rfl
      have q:=k H3 s4
      rw[e] at q
      exact q
     ·refine⟨_,_,rfl,s4,next ?_⟩
      have c3':pN bc i=true:=by
       unfold pN
       cases h:(gj bc (Sum.inl (i:Int):Key)).isSome with
       |true=>rfl
       |false=>rw[h] at c3; exact absurd rfl c3
      rw[c3']; simp
    ·have Sq: ¬ ls[i]=fr:=fun z=>c2 (aM (by rw[z]))
     refine⟨_,_,rfl,s4,next ?_⟩
     rw[OM,decide_eq_false Sq]; simp
   ·refine⟨_,_,rfl,s4,next ?_⟩
    rw[So,Bool.eq_false_iff.mpr c1]; rfl
  ·rintro σ H2 ⟨x4,x5,rfl,s2,Sm⟩
   rw[ae] at Sm
   have e:g9 fr ls row (pN bc)=none:=by
    unfold g9
    refine List.find?_eq_none.mpr fun j hj=>?_
    rw[Sm j (cV.mp hj)]
    exact aY
   have q:=k H2 s2
   rw[e] at q
   exact q
def Bu (K:PySem.W.Frag):Sp:=fun vs H Q _=> ∃(pf pl pa:Addr) (fs ls:List Int) (al:List (List Bool)),vs=[.ref pf,.ref pl,.ref pa]/\bL K H pf (fs.map V.int)/\bL K H pl (ls.map V.int)/\Rp H (.lst (al.map zr)) (.ref pa)/\
 fs.length<=1000/\al.length=fs.length/\(∀r∈al,r.length=ls.length)/\ ∀v H',aG H H'->Rp H' (.lst ((bY fs ls al fs.length).2.map Je)) v->Q v H'
theorem Bv:aS ["frees","lefts","allowed","taken","made","credit","free","bill"] ["frees","lefts","allowed"] (ay (top 20)):={}
theorem LG (T:Txt K mg):fe P w K mg base "alike" 2 ["frees","lefts","allowed"] (Bu K):=by
 have wH:fe P w K mg base "first_alike" 1 ["free","lefts","fitting","taken"] (EB K):=wG T
 refine T.K8.fM (k:=1) Bv (fun f cX A outer s H vs Q E hr h=>?_)
 ·obtain⟨pf,pl,pa,fs,ls,al,rfl,hF,hL,hA,hf1,VC,Jf,k⟩:=h
  have hu:=kz hr
  have nd:=Bv.nd
  obtain⟨pa',refs,e0,WM,LH⟩:=jP.mp hA
  cases e0
  refine⟨_,(ah (sv 3 nd An)
(ah (sv 4 nd (bW ak))
(ah (fH bT rfl (qr rfl T.jf (aa (pv 0) ak)) (iT rfl (ck (gn 5 nd) (ck (gn 6 nd) gG)))
(ah (sv 7 nd (fc wH hr (aa (pv 6) (aa (pv 1) (aa (xl (pv 2) (pv 5)) (aa (pv 3) ak))))))
(av (bV (xZ (Kl (pv 7)))
(ah (DT hu (pv 3) (pv 7) mB rfl)
(av (bM (fk aJ aH aI bU (pv 4) (aa (dB (aa (pv 5) (aa (pv 7) (aa (pv 6) ak)))) ak)))))
bp))))
(av (a9 (pv 4)))))),?_⟩
  intro pt nt
  refine⟨bB _,fun pm nm=>?_⟩
  have s1:aG H (upd H pt (.dK [])):=aG.new nt
  have s2:aG H (upd (upd H pt (.dK [])) pm (.lst [])):=s1.trans (aG.new nm)
  have Sr:H pm=none:=s1.free nm
  have ML:pt≠pm:=aL ag nm
  refine⟨_,rfl,pf,rfl,⟨_,s2.seq hF⟩,?_⟩
  refine mM (K:=K) (a:=pf) (xs:=fs.map V.int) (fun i σ H2=> ∃x5 x6 x7 bc ms,σ=[some (.ref pf),some (.ref pl),some (.ref pa),some (.ref pt),some (.ref pm),x5,x6,x7]/\aG H H2/\H2 pt=some (.dK bc)/\(∀j:Nat,pN bc j=(bY fs ls al i).1 j)/\bc.length<=i/\H2 pm=some (.lst ms)/\nG H2 (bY fs ls al i).2 ms)
   ⟨none,none,none,[],[],rfl,s2,by rw[az ML]; exact ag,fun j=>rfl,aB _,ag,.nil⟩ (fun i σ H2 _ ⟨_,_,_,_,_,_,s3,_⟩=>s3.seq hF) ?_ ?_
  ·rintro i x p σ H2 hx hp ⟨x5,x6,x7,bc,ms,rfl,s3,hT,mH,G0,hM,zT⟩
   have hi:i < fs.length:=by have:=(au.mp hx).1; rwa [ae] at this
   rw[aD,af hi] at hx
   obtain rfl:V.int fs[i]=x:=aE hx
   have s4:aG H2 (upd H2 p (.tup [.int i,.int fs[i]])):=aG.new hp
   refine⟨p,_,rfl,cG.of ag,rfl,_,_,rfl,_,_,rfl,rfl,?_⟩
   have s5:=s3.trans s4
   have MM:=s4 _ _ hT
   have qT:=s4 _ _ hM
   have Di:=zT.mono (f7 s4)
   generalize upd H2 p (.tup [.int i,.int fs[i]])=H3 at s5 MM qT Di ⊢
   clear s4 hp
   have Ss:i < al.length:=by lia
   have g0:(al.map zr)[i]? =some (zr al[i]):=by rw[aD,af Ss]; rfl
   obtain⟨rv,Uk,Ul⟩:=LH.get g0
   obtain⟨pr,WN,e1,My,Er⟩:=jP.mp Ul
   subst e1
   have hrx:WN=al[i].map V.bl:=by
    clear My Uk Ul
    generalize al[i]=r at Er
    induction r generalizing WN with
    |nil=>exact dW.mp Er
    |cons b r ih=>
     obtain⟨v,rest,e,h1,h2⟩:=bX.mp Er
     rw[e,qu.mp h1,ih rest h2]; rfl
   subst hrx
   have WO:fs.getD i 0=fs[i]:=by rw[ai,af hi]; rfl
   have WQ:al.getD i []=al[i]:=by rw[ai,af Ss]; rfl
   refine⟨_,rfl,_,rfl,_,rfl,_,rfl,pa,_,_,.ref pr,rfl,rfl,bL.of (s5 _ _ WM),cJ Uk,_,rfl,fs[i],pl,ls,pr,al[i],pt,bc,rfl,s5.seq hL,bL.of (s5 _ _ My),Jf _ (bJ _),MM,fun H4 s6=>?_⟩
   have etk:pN bc=(bY fs ls al i).1:=funext mH
   have se:bY fs ls al (i + 1)=match g9 fs[i] ls al[i] (pN bc) with
     |none=>bY fs ls al i
     |some j=>(fun x=>x == j || (bY fs ls al i).1 x,(bY fs ls al i).2 ++ [(i,j,fs[i])]):=by
    rw[etk,← WO,← WQ]; rfl
   cases hb:g9 fs[i] ls al[i] (pN bc) with
   |none=>
    rw[hb] at se
    refine⟨_,rfl,_,rfl,cg ?_⟩
    refine⟨_,_,_,bc,ms,rfl,s5.trans s6,s6 _ _ MM,?_,by lia,s6 _ _ qT,?_⟩
    ·intro j; rw[se]; exact mH j
    ·rw[se]; exact Di.mono (f7 s6)
   |some j=>
    rw[hb] at se
    refine⟨_,rfl,_,rfl,fC ?_⟩
    have P1:=s6 _ _ MM
    have vh:=s6 _ _ qT
    refine⟨_,rfl,_,rfl,pt,_,rfl,Fs.k (k:=Sum.inl (j:Int)) P1 (bh (by lia)),?_⟩
    have Jg:upd H4 pt (.dK (putK bc (Sum.inl (j:Int):Key) (.bl true))) pm=some (.lst ms):=by rw[az ML.symm]; exact vh
    have IU:=(Di.length)
    have P2:=ie fs ls al i
    have s7:aG H (upd H4 pt (.dK (putK bc (Sum.inl (j:Int):Key) (.bl true)))):=(s5.trans s6).dj nt
    have vi:nG (upd H4 pt (.dK (putK bc (Sum.inl (j:Int):Key) (.bl true)))) (bY fs ls al i).2 ms:=(Di.mono (f7 s6)).mono (LF P1)
    have Gy:upd H4 pt (.dK (putK bc (Sum.inl (j:Int):Key) (.bl true))) pt=some (.dK (putK bc (Sum.inl (j:Int):Key) (.bl true))):=ag
    generalize upd H4 pt (.dK (putK bc (Sum.inl (j:Int):Key) (.bl true)))=H5 at Jg s7 vi Gy ⊢
    refine⟨_,rfl,.inl ⟨rfl,_,bL.of Jg⟩,_,rfl,_,rfl,_,rfl,(by show 3<=sizeLine; decide),fun p8 n8=>?_⟩
    have s8:aG H5 (upd H5 p8 (.tup [.int i,.int j,.int fs[i]])):=aG.new n8
    refine⟨pm,ms,_,rfl,rfl,s8 _ _ Jg,bh (by lia),?_⟩
    refine⟨_,_,_,putK bc (Sum.inl (j:Int):Key) (.bl true),ms ++ [.ref p8],rfl,(s7.trans s8).dj Sr,?_,fun x=>?_,?_,ag,?_⟩
    ·rw[az ML]; exact s8 _ _ Gy
    ·rw[se]
     unfold pN
     rw[HB]
     by_cases hx:x=j
     ·subst hx; simp
     ·have: ¬ (Sum.inl (x:Int):Key)=Sum.inl (j:Int):=fun z=>hx (by injection z with z; lia)
      rw[aO this]
      have h2:=mH x
      unfold pN at h2
      rw[h2]
      simp[hx]
    ·have:=kr bc (Sum.inl (j:Int):Key) (.bl true)
     lia
    ·rw[se]
     exact cL ((vi.mono (f7 s8)).mono (dP (s8 _ _ Jg))) ⟨p8,rfl,dP (s8 _ _ Jg) _ _ ag⟩
  ·rintro σ H2 ⟨x5,x6,x7,bc,ms,rfl,s3,hT,mH,G0,hM,zT⟩
   rw[ae] at zT
   refine⟨_,rfl,?_⟩
   exact k _ _ s3 (lR hM zT.rp)
def cQ (fs ls:List Int)(al:List (List Bool))(i:Nat):List (Nat×Int):=(bF (fs.getD i 0) (cz fs ls al i).1 (al.getD i []) (cz fs ls al i).1.length).2
theorem Bw (fs ls:List Int)(al:List (List Bool))(i:Nat):(cz fs ls al (i + 1)).1=dN (cz fs ls al i).1 (cQ fs ls al i):=rfl
theorem sM (fs ls:List Int)(al:List (List Bool))(i:Nat):(cz fs ls al (i + 1)).2=(cz fs ls al i).2 ++ (cQ fs ls al i).map fun x=>(i,x.1,x.2):=rfl
def ON (H:Hp)(ps:List (Nat×Int))(vs:List V):Prop:=Paired (fun(t:Nat×Int) v=> ∃p,v= .ref p/\H p=some (.tup [.int t.1,.int t.2])) ps vs
theorem ON.mono {H H':Hp}{ps:List (Nat×Int)}{vs:List V}(h:ON H ps vs)(k: ∀b xs,H b=some (.tup xs)->H' b=some (.tup xs)):ON H' ps vs:=
 Paired.iS h fun _ _ ⟨p,e,q⟩=>⟨p,e,k _ _ q⟩
theorem gr (f:Int)(l:List Int)(row:List Bool): ∀j,(bF f l row j).2.length<=j
 |0=>aB _
 |j + 1=>by
  have:=gr f l row j
  rw[bF]
  split
  ·rw[aF]; show _ + 1<=_; lia
  ·lia
def EC (K:PySem.W.Frag):Sp:=fun vs H Q _=> ∃(f:Int) (pl:Addr) (ls:List Int) (pr:Addr) (row:List Bool),vs=[.int f,.ref pl,.ref pr]/\bL K H pl (ls.map V.int)/\bL K H pr (row.map V.bl)/\row.length=ls.length/\ls.length<=100/\
 ∀(q:Addr) (ms:List V) (H':Hp),aG H H'->H q=none->H' q=some (.lst ms)->ON H' (bF f ls row ls.length).2 ms->Q (.ref q) H'
theorem sN:aS ["free","lefts","fitting","still_free","parts","bill","left","amount"] ["free","lefts","fitting"] (ay (top 23)):={}
theorem Dj (T:Txt K mg):fe P w K mg base "parts_of" 1 ["free","lefts","fitting"] (EC K):=by
 refine T.CP.fM (k:=0) sN (fun f cX A outer s H vs Q E hr h=>?_)
 ·obtain⟨fr,pl,ls,pr,row,rfl,hL,hR,BY,RU,k⟩:=h
  have hu:=kz hr
  have nd:=sN.nd
  refine⟨_,(ah (sv 3 nd (pv 0))
(ah (sv 4 nd (bW ak))
(ah (fH bT rfl (qr rfl T.jf (aa (pv 1) ak)) (iT rfl (ck (gn 5 nd) (ck (gn 6 nd) gG)))
(ah (sv 7 nd (bo (rC rfl) (by rfl) T.AJ boot_min (aa (pv 3) (aa (pv 6) ak))))
(av (bV (PW.pt (pw_and (gg (xl (pv 2) (pv 5))) (pw_and1 (a8 jr (pv 7) aj (ba _)))))
(ah (bM (fk aJ aH aI bU (pv 4) (aa (dB (aa (pv 5) (aa (pv 7) ak))) ak)))
(av (sv 3 nd (aV eV (pv 3) (pv 7)))))
bp))))
(av (a9 (pv 4)))))),?_⟩
  refine⟨_,rfl,?_⟩
  refine⟨bB _,fun q nq=>?_⟩
  have s1:aG H (upd H q (.lst [])):=aG.new nq
  refine⟨_,rfl,pl,rfl,⟨_,s1.seq hL⟩,?_⟩
  refine mM (K:=K) (a:=pl) (xs:=ls.map V.int) (fun i σ H2=> ∃(x5 x6 x7:Option V) (ms:List V),σ=[some (.int fr),some (.ref pl),some (.ref pr),some (.int (bF fr ls row i).1),some (.ref q),x5,x6,x7]/\aG H H2/\H2 q=some (.lst ms)/\ON H2 (bF fr ls row i).2 ms)
   ⟨none,none,none,[],rfl,s1,ag,.nil⟩ (fun i σ H2 _ ⟨_,_,_,_,_,s2,_⟩=>s2.seq hL) ?_ ?_
  ·rintro i x p σ H2 hx hp ⟨x5,x6,x7,ms,rfl,s2,hM,hP⟩
   have hi:i < ls.length:=by have:=(au.mp hx).1; rwa [ae] at this
   rw[aD,af hi] at hx
   obtain rfl:V.int ls[i]=x:=aE hx
   have s3:aG H2 (upd H2 p (.tup [.int i,.int ls[i]])):=aG.new hp
   refine⟨p,_,rfl,cG.of ag,rfl,_,_,rfl,_,_,rfl,rfl,?_⟩
   have s4:=s2.trans s3
   have P4:=s3 _ _ hM
   have WR:=hP.mono (f7 s3)
   generalize upd H2 p (.tup [.int i,.int ls[i]])=H3 at s4 P4 WR ⊢
   have Sn:i < row.length:=by lia
   have OM:ls.getD i 0=ls[i]:=getD_at hi
   have So:row.getD i false=row[i]:=getD_at Sn
   have hlen:ms.length<=i:=by have:=hP.length; have:=gr fr ls row i; lia
   refine⟨_,rfl,_,rfl,_,_,rfl,?_⟩
   have em:(if ls[i] < (bF fr ls row i).1 then ls[i] else(bF fr ls row i).1)=fE (bF fr ls row i).1 (ls.getD i 0):=by rw[OM]; rfl
   rw[em]
   have se:bF fr ls row (i + 1)=if row.getD i false=true/\0 < fE (bF fr ls row i).1 (ls.getD i 0) then((bF fr ls row i).1 - fE (bF fr ls row i).1 (ls.getD i 0),(bF fr ls row i).2 ++ [(i,fE (bF fr ls row i).1 (ls.getD i 0))]) else bF fr ls row i:=by rw[bF]
   generalize fE (bF fr ls row i).1 (ls.getD i 0)=am at se ⊢
   have no: ¬ (row.getD i false=true/\0 < am)-> ∃(x5 x6 x7:Option V) (ms:List V),[some (.int fr),some (.ref pl),some (.ref pr),some (.int (bF fr ls row i).1),some (.ref q),some (V.int i),some (V.int ls[i]),some (V.int am)]=[some (.int fr),some (.ref pl),some (.ref pr),some (.int (bF fr ls row (i + 1)).1),some (.ref q),x5,x6,x7]/\aG H H3/\H3 q=some (.lst ms)/\ON H3 (bF fr ls row (i + 1)).2 ms:=fun c=>by
    rw[se,aO c]
    exact⟨_,_,_,ms,rfl,s4,P4,WR⟩
   refine⟨_,rfl,_,rfl,pr,_,_,.bl row[i],rfl,rfl,s4.seq hR,cJ (by rw[aD,af Sn]; rfl),_,rfl,?_⟩
   refine cI (fun c1=>?_) (fun c1=>cg ?_)
   ·refine⟨_,rfl,_,_,rfl,rfl,_,rfl,cI (fun c2=>?_) (fun c2=>?_)⟩
    ·have Sq:0 < am:=aZ c2
     rw[a7 ⟨by rw[So]; exact c1,Sq⟩] at se
     refine⟨_,rfl,.inl ⟨rfl,_,bL.of P4⟩,_,rfl,_,rfl,(by show 2<=sizeLine; decide),fun p8 n8=>?_⟩
     have s8:aG H3 (upd H3 p8 (.tup [.int i,.int am])):=aG.new n8
     refine⟨q,ms,_,rfl,rfl,s8 _ _ P4,bh (by lia),?_⟩
     refine⟨_,rfl,_,rfl,_,_,rfl,rfl,?_⟩
     refine⟨_,_,_,ms ++ [.ref p8],by rw[se]; rfl,(s4.trans s8).dj nq,ag,?_⟩
     rw[se]
     exact cL ((WR.mono (f7 s8)).mono (dP (s8 _ _ P4))) ⟨p8,rfl,dP (s8 _ _ P4) _ _ ag⟩
    ·exact no fun z=>c2 (aM z.2)
   ·exact no fun z=>c1 (by rw[← So]; exact z.1)
  ·rintro σ H2 ⟨x5,x6,x7,ms,rfl,s2,hM,hP⟩
   rw[ae] at hP
   refine⟨_,rfl,?_⟩
   exact k _ _ _ s2 nq hM hP
theorem pO (f:Int)(l:List Int)(row:List Bool): ∀j,∀x∈(bF f l row j).2,x.1 < j
 |0,x,hx=>by cases hx
 |j + 1,x,hx=>by
  rw[bF] at hx
  split at hx
  ·rcases bg.mp hx with hx|hx
   ·have:=pO f l row j x hx; lia
   ·rw[ao] at hx; subst hx; exact fh _
  ·have:=pO f l row j x hx; lia
theorem Bx (fs ls:List Int)(al:List (List Bool)): ∀i,(cz fs ls al i).2.length<=i * ls.length
 |0=>by show 0<=_; lia
 |i + 1=>by
  have:=Bx fs ls al i
  have h2:=gr (fs.getD i 0) (cz fs ls al i).1 (al.getD i []) (cz fs ls al i).1.length
  rw[sM,aF,ae,vC]
  unfold cQ
  rw[jG] at h2 ⊢
  lia
def By (K:PySem.W.Frag):Sp:=fun vs H Q _=> ∃(pf pl pa:Addr) (fs ls:List Int) (al:List (List Bool)),vs=[.ref pf,.ref pl,.ref pa]/\bL K H pf (fs.map V.int)/\bL K H pl (ls.map V.int)/\Rp H (.lst (al.map zr)) (.ref pa)/\
 fs.length<=63/\ls.length<=63/\al.length=fs.length/\(∀r∈al,r.length=ls.length)/\ ∀(pm:Addr) (ms:List V) (H':Hp),aG H H'->H' pm=some (.lst ms)->nG H' (cz fs ls al fs.length).2 ms->Q (.ref pm) H'
theorem ED {H:Hp}: ∀(r:List Bool) {xs:List V},iJ H (r.map Dt.bl) xs->xs=r.map V.bl
 |[],_,h=>dW.mp h
 |b :: r,_,h=>by
  obtain⟨v,rest,e,h1,h2⟩:=bX.mp h
  rw[e,qu.mp h1,ED r h2]; rfl
theorem OO {H:Hp}{al:List (List Bool)}{refs:List V}(h:iJ H (al.map zr) refs){i:Nat}(hi:i < al.length): ∃pr,refs[i]? =some (.ref pr)/\H pr=some (.lst (al[i].map V.bl)):=by
 have g0:(al.map zr)[i]? =some (zr al[i]):=by rw[aD,af hi]; rfl
 obtain⟨rv,Uk,Ul⟩:=h.get g0
 obtain⟨pr,WN,e1,My,Er⟩:=jP.mp Ul
 rw[ED _ Er] at My
 exact⟨pr,by rw[Uk,e1],My⟩
theorem oS:aS ["frees","lefts","allowed","still_left","made","credit","free","parts","bill","amount"] ["frees","lefts","allowed"] (ay (top 22)):={}
theorem zt (T:Txt K mg):fe P w K mg base "shared_out" 2 ["frees","lefts","allowed"] (By K):=by
 have Dk:fe P w K mg base "parts_of" 1 ["free","lefts","fitting"] (EC K):=Dj T
 refine T.yA.fM (k:=1) oS (fun f cX A outer s H vs Q E hr h=>?_)
 ·obtain⟨pf,pl,pa,fs,ls,al,rfl,hF,hL,hA,hf1,RU,VC,Jf,k⟩:=h
  have hu:=kz hr
  have nd:=oS.nd
  obtain⟨pa',refs,e0,WM,LH⟩:=jP.mp hA
  cases e0
  refine⟨_,(ah (sv 3 nd (fZ lO (by rfl) T.rN boot_list (aa (pv 1) ak)))
(ah (sv 4 nd (bW ak))
(ah (fH bT rfl (qr rfl T.jf (aa (pv 0) ak)) (iT rfl (ck (gn 5 nd) (ck (gn 6 nd) gG)))
(ah (sv 7 nd (fc Dk hr (aa (pv 6) (aa (pv 3) (aa (xl (pv 2) (pv 5)) ak)))))
(av (fH bT rfl (dz (pv 7)) (iT rfl (ck (gn 8 nd) (ck (gn 9 nd) gG)))
(ah (kK (aV eV (xl (pv 3) (pv 8)) (pv 9)) (mE (pv 3) (pv 8) set_list))
(av (bM (fk aJ aH aI bU (pv 4) (aa (dB (aa (pv 5) (aa (pv 8) (aa (pv 9) ak)))) ak)))))))))
(av (a9 (pv 4)))))),?_⟩
  refine⟨_,rfl,pl,_,rfl,.inl hL,fun q nq=>?_⟩
  refine⟨bB _,fun pm nm=>?_⟩
  have s1:aG H (upd H q (.lst (ls.map V.int))):=aG.new nq
  have s2:aG H (upd (upd H q (.lst (ls.map V.int))) pm (.lst [])):=s1.trans (aG.new nm)
  have Sr:H pm=none:=s1.free nm
  have WS:q≠pm:=aL ag nm
  refine⟨_,rfl,pf,rfl,⟨_,s2.seq hF⟩,?_⟩
  refine mM (K:=K) (a:=pf) (xs:=fs.map V.int) (fun i σ H2=> ∃(x5 x6 x7 x8 x9:Option V) (ms:List V),σ=[some (.ref pf),some (.ref pl),some (.ref pa),some (.ref q),some (.ref pm),x5,x6,x7,x8,x9]/\aG H H2/\H2 q=some (.lst ((cz fs ls al i).1.map V.int))/\H2 pm=some (.lst ms)/\nG H2 (cz fs ls al i).2 ms)
   ⟨none,none,none,none,none,[],rfl,s2,by rw[az WS]; exact ag,ag,.nil⟩ (fun i σ H2 _ ⟨_,_,_,_,_,_,_,s3,_⟩=>s3.seq hF) ?_ ?_
  ·rintro i x p σ H2 hx hp ⟨x5,x6,x7,x8,x9,ms,rfl,s3,hQ,hM,zT⟩
   have hi:i < fs.length:=by have:=(au.mp hx).1; rwa [ae] at this
   rw[aD,af hi] at hx
   obtain rfl:V.int fs[i]=x:=aE hx
   have s4:aG H2 (upd H2 p (.tup [.int i,.int fs[i]])):=aG.new hp
   refine⟨p,_,rfl,cG.of ag,rfl,_,_,rfl,_,_,rfl,rfl,?_⟩
   have s5:=s3.trans s4
   have Um:=s4 _ _ hQ
   have qT:=s4 _ _ hM
   have Di:=zT.mono (f7 s4)
   generalize upd H2 p (.tup [.int i,.int fs[i]])=H3 at s5 Um qT Di ⊢
   clear s4 hp
   have Ss:i < al.length:=by lia
   obtain⟨pr,WT,WU⟩:=OO LH Ss
   have WO:fs.getD i 0=fs[i]:=getD_at hi
   have WQ:al.getD i []=al[i]:=getD_at Ss
   have IT:=jG fs ls al i
   have OP:cQ fs ls al i=(bF fs[i] (cz fs ls al i).1 al[i] (cz fs ls al i).1.length).2:=by unfold cQ; rw[WO,WQ]
   have YW:(cQ fs ls al i).length<=ls.length:=by rw[OP,IT]; exact gr _ _ _ _
   have WV: ∀x∈cQ fs ls al i,x.1 < ls.length:=by rw[OP,IT]; exact pO _ _ _ _
   have P2:=Bx fs ls al i
   have abC:(cz fs ls al i).2.length<=3969:=a0 P2 (qe (show i<=63 by lia) RU)
   refine⟨_,rfl,_,rfl,_,rfl,_,rfl,pa,_,_,.ref pr,rfl,rfl,bL.of (s5 _ _ WM),cJ WT,fs[i],q,(cz fs ls al i).1,pr,al[i],rfl,bL.of Um,bL.of (s5 _ _ WU),by rw[IT]; exact Jf _ (bJ _),by rw[IT]; lia,fun r Su H4 s6 Sv Wl hP=>?_⟩
   rw[← OP] at hP
   have hQ5:=s6 _ _ Um
   have vh:=s6 _ _ qT
   have WW:=Di.mono (f7 s6)
   have hrq:r≠q:=(aL Um Sv).symm
   have Q5:r≠pm:=(aL qT Sv).symm
   have s7:=s5.trans s6
   have OJ:Su.length=(cQ fs ls al i).length:=hP.length.symm
   refine⟨_,rfl,r,rfl,⟨_,bL.of Wl⟩,?_⟩
   refine gR (K:=K) (a:=r) (xs:=Su) (fun m σ H5=> ∃(x8 x9:Option V) (ms:List V),σ=[some (.ref pf),some (.ref pl),some (.ref pa),some (.ref q),some (.ref pm),some (.int i),some (.int fs[i]),some (.ref r),x8,x9]/\aG H H5/\H5 q=some (.lst ((dN (cz fs ls al i).1 ((cQ fs ls al i).take m)).map V.int))/\H5 pm=some (.lst ms)/\nG H5 ((cz fs ls al i).2 ++ ((cQ fs ls al i).take m).map fun x=>(i,x.1,x.2)) ms/\H5 r=some (.lst Su)/\ON H5 (cQ fs ls al i) Su)
    ⟨_,_,ms,rfl,s7,hQ5,vh,by simpa using WW,Wl,hP⟩ (fun m σ H5 _ ⟨_,_,_,_,_,_,_,_,h,_⟩=>bL.of h) ?_ ?_
   ·rintro m x σ H5 hx ⟨y8,y9,Sw,rfl,t5,OQ,Jg,vi,MK,PZ⟩
    have hm:m < (cQ fs ls al i).length:=by have:=(au.mp hx).1; lia
    have g0:(cQ fs ls al i)[m]? =some (cQ fs ls al i)[m]:=af hm
    obtain⟨v,hv,pp,e1,JV⟩:=bO PZ g0
    rw[hx] at hv
    obtain rfl:x=v:=aE hv
    subst e1
    have hb:(cQ fs ls al i)[m].1 < ls.length:=WV _ (bJ _)
    have mH:=l9 hm
    have TU:(dN (cz fs ls al i).1 ((cQ fs ls al i).take m)).length=ls.length:=by rw[pG,IT]
    generalize (cQ fs ls al i)[m]=pt at JV hb mH g0
    obtain⟨b,am⟩:=pt
    dsimp only at JV hb
    refine⟨pp,_,rfl,cG.of JV,rfl,_,_,rfl,_,_,rfl,rfl,?_⟩
    refine⟨_,rfl,_,rfl,q,_,_,_,rfl,rfl,bL.of OQ,mZ (by rw[TU]; exact hb),_,rfl,_,_,rfl,rfl,_,rfl,_,rfl,q,_,_,b,rfl,rfl,OQ,nV (by rw[ae,TU]; exact hb),?_⟩
    rw[← vF]
    have hap:dN (cz fs ls al i).1 ((cQ fs ls al i).take (m + 1))=(dN (cz fs ls al i).1 ((cQ fs ls al i).take m)).set b ((dN (cz fs ls al i).1 ((cQ fs ls al i).take m)).getD b 0 - am):=by rw[mH,sx]
    rw[← hap]
    have t6:aG H (upd H5 q (.lst ((dN (cz fs ls al i).1 ((cQ fs ls al i).take (m + 1))).map V.int))):=t5.dj nq
    have GB:upd H5 q (.lst ((dN (cz fs ls al i).1 ((cQ fs ls al i).take (m + 1))).map V.int)) pm=some (.lst Sw):=by rw[az WS.symm]; exact Jg
    have YX:upd H5 q (.lst ((dN (cz fs ls al i).1 ((cQ fs ls al i).take (m + 1))).map V.int)) q=some (.lst ((dN (cz fs ls al i).1 ((cQ fs ls al i).take (m + 1))).map V.int)):=ag
    have YY:upd H5 q (.lst ((dN (cz fs ls al i).1 ((cQ fs ls al i).take (m + 1))).map V.int)) r=some (.lst Su):=by rw[az hrq]; exact MK
    have GC:=vi.mono (dP (o:= .lst ((dN (cz fs ls al i).1 ((cQ fs ls al i).take (m + 1))).map V.int)) OQ)
    have YZ:=PZ.mono (dP (o:= .lst ((dN (cz fs ls al i).1 ((cQ fs ls al i).take (m + 1))).map V.int)) OQ)
    generalize upd H5 q (.lst ((dN (cz fs ls al i).1 ((cQ fs ls al i).take (m + 1))).map V.int))=H6 at t6 GB YX YY GC YZ ⊢
    have IU:=GC.length
    rw[aF,ae,bz] at IU
    refine⟨_,rfl,.inl ⟨rfl,_,bL.of GB⟩,_,rfl,_,rfl,_,rfl,(by show 3<=sizeLine; decide),fun p8 n8=>?_⟩
    have s8:aG H6 (upd H6 p8 (.tup [.int i,.int b,.int am])):=aG.new n8
    refine⟨pm,Sw,_,rfl,rfl,s8 _ _ GB,i6 (by lia),?_⟩
    refine⟨_,_,Sw ++ [.ref p8],rfl,(t6.trans s8).dj Sr,?_,ag,?_,?_,?_⟩
    ·rw[az WS]; exact s8 _ _ YX
    ·rw[mH,aQ,← gE]
     exact cL ((GC.mono (f7 s8)).mono (dP (s8 _ _ GB))) ⟨p8,rfl,dP (s8 _ _ GB) _ _ ag⟩
    ·rw[az Q5]; exact s8 _ _ YY
    ·exact(YZ.mono (f7 s8)).mono (dP (s8 _ _ GB))
   ·rintro σ H5 ⟨y8,y9,Sw,rfl,t5,OQ,Jg,vi,MK,PZ⟩
    rw[OJ,bb] at OQ vi
    exact⟨_,_,_,_,_,Sw,rfl,t5,by rw[Bw]; exact OQ,Jg,by rw[sM]; exact vi⟩
  ·rintro σ H2 ⟨x5,x6,x7,x8,x9,ms,rfl,s3,hQ,hM,zT⟩
   rw[ae] at zT
   refine⟨_,rfl,?_⟩
   exact k _ _ _ s3 hM zT
theorem LI {X:Cx}{K:PySem.W.Frag}{es:List Expr}{k:Nat}{pos:Pos}{t:Mf}{n:Nat}(hK:X.K=K)(hc:X.calm=true)(h:JL X es t)(hn:(assignEach es X.env).length=n)(se:(assignEach es X.env).findIdx? (·.1)=none):PG X (.Tuple es k pos) (Qu K n t):=by
 subst hK
 exact iT hc h hn se
theorem fY {H H':Hp}{tb:Addr}{fp:List Addr}{pos:Pos}{qual:Str}(t:Tb H tb pos qual)(fr:Frame fp H H')(ht:tb∉fp)(hf: ∀a∈fp,∀φ,H a≠some (.ext φ)):Tb H' tb pos qual:=by
 obtain⟨ps,h1,h2,h3⟩:=t
 refine⟨ps,fr _ _ ht h1,h2,?_⟩
 rcases h3 with h3|⟨c',h3,h4⟩
 ·exact .inl h3
 ·exact .inr ⟨c',h3,fr _ _ (fun z=>hf _ z _ h4) h4⟩
theorem cU {H:Hp}{tb:Addr}{pos:Pos}{qual:Str}(t:Tb H tb pos qual): ∃ps,H tb=some (.mz ps):=let⟨ps,e,_⟩:=t; ⟨ps,e⟩
theorem dH {fp Rf:List Addr}{H H':Hp}(f:Frame fp H H')(h: ∀x∈fp,x∈Rf):Frame Rf H H':=fun b o hb e=>f b o (fun z=>hb (h b z)) e
theorem tQ {H:Hp}{p C D:Addr}{fs:List (Str×V)}{ys:List V}{o:HO}(h:eu H p C fs)(e:H D=some (.lst ys)):eu (upd H D o) p C fs:=let⟨dx,z⟩:=h; ⟨dx,by rw[az (ma z e (by intro q; cases q))]; exact z⟩
theorem gJ.upd {A:dZ}{H:Hp}{S:Bk}{cs:List Nat}{qs:List Addr}{D:Addr}{ys:List V}{o:HO}(h:gJ A H S cs qs)(e:H D=some (.lst ys)):gJ A (L2.upd H D o) S cs qs:=Paired.iS h fun _ _ z=>tQ z e
theorem iH.upd {A:dZ}{H:Hp}{S:Bk}{cs:List Nat}{qs:List Addr}{D:Addr}{ys:List V}{o:HO}(h:iH A H S cs qs)(e:H D=some (.lst ys)):iH A (L2.upd H D o) S cs qs:=Paired.iS h fun _ _ z=>tQ z e
theorem gJ.tb {A:dZ}{H H':Hp}{S:Bk}{cs:List Nat}{qs:List Addr}{tb:Addr}{pos:Pos}{qual:Str}(h:gJ A H S cs qs)(t:Tb H tb pos qual)(fr:Frame [tb] H H'):gJ A H' S cs qs:=Paired.iS h fun _ _ z=>z.frame fr (ve t z)
theorem nX {rows:List Rw}{c:Nat}(h:c < rows.length):(rows.map fun r=>V.int r.d)[c]? =some (.int (rows.getD c default).d):=by
 rw[aD,af h,ai,af h]; rfl
theorem nY (rows:List Rw)(aN:Str)(key:Rw->Int):(inOrder rows aN key).length<=rows.length:=by
 have e:(inOrder rows aN key).length=((List.range rows.length).filter fun k=>decide ((rows.getD k default).aN=aN)).length:=by
  unfold inOrder g8
  rw[ae,(dE _).length_eq,ae]
 have:=a6 (fun k=>decide ((rows.getD k default).aN=aN)) (List.range rows.length)
 rw[dv] at this
 lia
def mi (rows:List Rw)(k:Nat):Bool:=decide (0 < (rows.getD k default).d)
abbrev Jh:=List Int->List Int->List (List Bool)->List (Nat×Nat×Int)
def pP:Jh:=fun fs ls al=>(bY fs ls al fs.length).2
def Bz:Jh:=fun fs ls al=>(cz fs ls al fs.length).2
structure Ji (way:Jh):Prop where
 lt: ∀fs ls al,∀t∈way fs ls al,t.1 < fs.length/\t.2.1 < ls.length
 len: ∀fs ls al,fs.length<=63->ls.length<=63->(way fs ls al).length<=4000
def OR (way:Jh)(sp:Sp):Prop:= ∀(pf pl pa:Addr) (fs ls:List Int) (al:List (List Bool)) (H:Hp) (Q:VK),H pf=some (.lst (fs.map V.int))->H pl=some (.lst (ls.map V.int))->Rp H (.lst (al.map zr)) (.ref pa)->fs.length<=63->ls.length<=63->al.length=fs.length->(∀r∈al,r.length=ls.length)->
 (∀(pm:Addr) (ms:List V) (H':Hp),aG H H'->H' pm=some (.lst ms)->gO H' (way fs ls al) ms->Q (.ref pm) H')->sp [.ref pf,.ref pl,.ref pa] H Q E0
def i8 (H:Hp)(D:Addr)(al:List (List Bool))(rs:List V):Prop:=Paired (fun(r:List Bool) v=> ∃p,v= .ref p/\p≠D/\H p=some (.lst (r.map V.bl))) al rs
theorem i8.upd {H:Hp}{D:Addr}{al:List (List Bool)}{rs:List V}{o:HO}(h:i8 H D al rs):i8 (L2.upd H D o) D al rs:=Paired.iS h fun _ _ ⟨p,e,n,z⟩=>⟨p,e,n,by rw[az n]; exact z⟩
theorem i8.same {H H':Hp}{D:Addr}{al:List (List Bool)}{rs:List V}(h:i8 H D al rs)(s:aG H H'):i8 H' D al rs:=Paired.iS h fun _ _ ⟨p,e,n,z⟩=>⟨p,e,n,s _ _ z⟩
theorem xK {H:Hp}: ∀r:List Bool,iJ H (r.map Dt.bl) (r.map V.bl)
 |[]=>dW.mpr rfl
 |b :: r=>bX.mpr ⟨_,_,rfl,qu.mpr rfl,xK r⟩
theorem i8.rp {H:Hp}{D:Addr}: ∀{al:List (List Bool)} {rs:List V},i8 H D al rs->iJ H (al.map zr) rs
 |_,_,.nil=>dW.mpr rfl
 |_,_,.cons ⟨p,e,_,z⟩ t=>bX.mpr ⟨_,_,rfl,e▸lR z (xK _),i8.rp t⟩
theorem GD {S:Bk}{l:List (Nat×Nat×Int)}{i:Nat}{t:Nat×Nat×Int}(h:l[i]? =some t):ko S (l.take (i + 1))=(ko S (l.take i)).put t.1 t.2.1 t.2.2:=lB (fun(S:Bk) (t:Nat×Nat×Int)=>S.put t.1 t.2.1 t.2.2) l S h
theorem EE (S:Bk): ∀l,(ko S l).aC.length=S.aC.length/\(ko S l).credits.length=S.credits.length
 |[]=>⟨rfl,rfl⟩
 |t :: l=>by
  obtain⟨a,b⟩:=EE (S.put t.1 t.2.1 t.2.2) l
  exact⟨a.trans dI,b.trans dI⟩
def EF (P:Program)(w:World)(K:PySem.W.Frag)(mg:Str->Option Value)(base:Heap)(A:dZ)(tB tC:Addr):Sp:=fun vs H Q _=> ∃(pw fa:Addr) (S:Bk) (f:eL) (n:Nat) (aN:Str) (way:Jh) (sp:Sp),vs=[.ref pw,.str aN,.ref fa]/\dG A H pw S f/\WF S n/\n<=62/\lE H tB/\l5 H tC/\Ji way/\Wd P w K mg base 2 fa sp/\OR way sp/\
 ∀gs ts fs ls al,ux S aN gs ts fs ls al-> ∀D ms H',Frame (tB :: tC :: f.fp) H H'->lE H' tB->l5 H' tC->dG A H' pw (ko S ((way fs ls al).map (lV gs ts))) f->H D=none->H' D=some (.lst ms)->gO H' ((way fs ls al).map (lV gs ts)) ms->Q (.ref D) H'
theorem kI:aS ["self","who","way","givers","takers","frees","lefts","found","numbered","credit_number","bill_number","amount"] ["self","who","way"] (ay (mem 25 7)):={}
theorem BA (T:Txt K mg){A:dZ}{tB tC:Addr}(G:jz K mg A)(DB:qb K mg "bills_in_order" (top 17) tB)(DC:qb K mg "credits_in_order" (top 18) tC)(jc:tB≠tC)(KB:K.In base)(BM:BMain mg base):gW rE P w K mg base A.work "one_round" 3 ["self","who","way"] (EF P w K mg base A tB tC):=by
 have iZ:fe P w K mg base "bills_in_order" 2 ["bills","who"] (zo A tB):=lD T G DB KB BM
 have hV:fe P w K mg base "credits_in_order" 2 ["all_credits","who"] (zp A tC):=jZ T G DC KB BM
 have wI:fe P w K mg base "row_of_fits" 2 ["credit","bills"] (MG A):=wu T G
 have IS:gW rE P w K mg base A.work "put" 1 ["self","credit_number","bill_number","amount"] (C4 A):=Mz G
 refine Ll (k:=2) G.qH G.bE kI (fun f cX A' outer s H vs Q E hr h=>?_)
 ·obtain⟨pw,fa,S,g,n,aN,way,sp,rfl,hW,wf,hn,ke,jK,Sx,Y0,Y1,k⟩:=h
  have nd:=kI.nd
  have YN:S.credits.length<=62:=by have:=wf.lc; lia
  have hlb:S.aC.length<=62:=by have:=wf.lb; lia
  refine⟨_,(ah (sv 3 nd (ja (tn:=["credit"]) (cn:=["self"]) (cj:=[0]) rfl (i0 (by rfl) (by decide +kernel) rfl (by decide +kernel) (by rfl) [(".0",.local),("credit",.local),("self",.cell)] (by rfl) (by decide +kernel) rfl (Or.inl rfl) (Or.inl rfl)) (dz (fc hV hr (aa (b9 (pv 0) rfl) (aa (pv 1) ak)))) (fun _ _ _ _=>(eG (i:=0) (show(["credit","self"]:List Str).Nodup by decide +kernel) rfl (Or.inl rfl))) (fun _ _ _ _=>(pA (a8 jr (js (jd (K:=K) rfl) (fq (K:=K) rfl (pv 1) rfl) (fq (K:=K) rfl (pv 0) rfl) (fun _ _=>rfl)) aj (ba _)))) (fun _ _ _ _=>(pv 0))))
(ah (sv 4 nd (ja (tn:=["bill"]) (cn:=["self"]) (cj:=[0]) rfl (i0 (by rfl) (by decide +kernel) rfl (by decide +kernel) (by rfl) [(".0",.local),("bill",.local),("self",.cell)] (by rfl) (by decide +kernel) rfl (Or.inl rfl) (Or.inl rfl)) (dz (fc iZ hr (aa (b9 (pv 0) rfl) (aa (pv 1) ak)))) (fun _ _ _ _=>(eG (i:=0) (show(["bill","self"]:List Str).Nodup by decide +kernel) rfl (Or.inl rfl))) (fun _ _ _ _=>(pA (a8 jr (js (jd (K:=K) rfl) (fq (K:=K) rfl (pv 1) rfl) (fq (K:=K) rfl (pv 0) rfl) (fun _ _=>rfl)) aj (ba _)))) (fun _ _ _ _=>(pv 0))))
(ah (jb (i:=5) nd rfl (Or.inl rfl) (tn:=["credit"]) (cn:=["self"]) (cj:=[0]) rfl (i0 (by rfl) (by decide +kernel) rfl (by decide +kernel) (by rfl) [(".0",.local),("credit",.local),("self",.cell)] (by rfl) (by decide +kernel) rfl (Or.inl rfl) (Or.inl rfl)) (dz (pv 3)) (fun _ _ _ _=>(eG (i:=0) (show(["credit","self"]:List Str).Nodup by decide +kernel) rfl (Or.inl rfl))) (fun _ _ _ _=>lQ) (fun _ _ _ _=>(js (jd (K:=K) rfl) (fq (K:=K) rfl (pv 1) rfl) (fq (K:=K) rfl (pv 0) rfl) (fun _ _=>rfl))))
(ah (jb (i:=6) nd rfl (Or.inl rfl) (tn:=["bill"]) (cn:=["self"]) (cj:=[0]) rfl (i0 (by rfl) (by decide +kernel) rfl (by decide +kernel) (by rfl) [(".0",.local),("bill",.local),("self",.cell)] (by rfl) (by decide +kernel) rfl (Or.inl rfl) (Or.inl rfl)) (dz (pv 4)) (fun _ _ _ _=>(eG (i:=0) (show(["bill","self"]:List Str).Nodup by decide +kernel) rfl (Or.inl rfl))) (fun _ _ _ _=>lQ) (fun _ _ _ _=>(js (jd (K:=K) rfl) (fq (K:=K) rfl (pv 1) rfl) (fq (K:=K) rfl (pv 0) rfl) (fun _ _=>rfl))))
(ah (sv 7 nd (Og (i:=2) (k:=2) (hr.mono (by decide)) rfl (Or.inl rfl) (aa (pv 5) (aa (pv 6) (aa (ja (tn:=["credit"]) (cn:=["takers"]) (cj:=[4]) rfl (i0 (by rfl) (by decide +kernel) rfl (by decide +kernel) (by rfl) [(".0",.local),("credit",.local),("row_of_fits",.globalImplicit),("takers",.cell)] (by rfl) (by decide +kernel) rfl (Or.inl rfl) (Or.inl rfl)) (dz (pv 3)) (fun _ _ _ _=>(eG (i:=0) (show(["credit","takers"]:List Str).Nodup by decide +kernel) rfl (Or.inl rfl))) (fun _ _ _ _=>lQ) (fun _ _ _ _=>(fc wI hr (aa (pv 0) (aa (pv 1) ak))))) ak)))))
(ah (jb (i:=8) nd rfl (Or.inl rfl) (tn:=["giver","taker","amount"]) (cn:=["takers","givers"]) (cj:=[4,3]) rfl (zh (by rfl) (by decide +kernel) rfl (by decide +kernel) (by rfl) (by rfl) [(".0",.local),("giver",.local),("taker",.local),("amount",.local),("givers",.cell),("takers",.cell)] (by rfl) (by decide +kernel) rfl rfl (Or.inl rfl) (Or.inl rfl) (Or.inl rfl) (Or.inl rfl)) (dz (pv 7)) (fun _ _ _ _=>(LI (K:=K) (n:=3) rfl rfl (ck (eG (i:=0) (show(["giver","taker","amount","takers","givers"]:List Str).Nodup by decide +kernel) rfl (Or.inl rfl) (Or.inr rfl)) (ck (eG (i:=1) (show(["giver","taker","amount","takers","givers"]:List Str).Nodup by decide +kernel) rfl (Or.inl rfl) (Or.inr rfl)) (ck (eG (i:=2) (show(["giver","taker","amount","takers","givers"]:List Str).Nodup by decide +kernel) rfl (Or.inl rfl) (Or.inr rfl)) gG))) rfl rfl)) (fun _ _ _ _=>lQ) (fun _ _ _ _=>(dB (aa (fq (K:=K) rfl (js (jd (K:=K) rfl) (pv 4) (pv 0) (fun _ _=>rfl)) rfl) (aa (fq (K:=K) rfl (js (jd (K:=K) rfl) (pv 3) (pv 1) (fun _ _=>rfl)) rfl) (aa (pv 2) ak))))))
(ah (fH bT rfl (dz (pv 8)) (iT rfl (ck (gn 9 nd) (ck (gn 10 nd) (ck (gn 11 nd) gG))))
(av (bM (mY IS (hr.mono (by decide)) mL (pv 0) (aa (pv 9) (aa (pv 10) (aa (pv 11) ak)))))))
(av (a9 (pv 8)))))))))),?_⟩
  obtain⟨dw,hw⟩:=hW.obj
  refine⟨_,rfl,pw,_,dw,_,_,rfl,hw,G.bE,G.cH,hJ g,_,rfl,g.pc,g.cps,S,aN,rfl,hW.hc,hW.rc,(by lia),jK,fun D1 WX H1 Jj j8 Sy Gq Ib=>?_⟩
  have Ca:=vf hW (cU jK) Jj
  have Jk: ∀a∈[tC],∀φ,H a≠some (.ext φ):=fun a ha φ e=>by
   obtain⟨ps,z⟩:=cU jK
   rw[ao.mp ha,z] at e
   cases e
  have jq:lE H1 tB:=fY ke Jj (by simpa using jc) Jk
  have F1:Frame (tB :: tC :: g.fp) H H1:=dH Jj (by intro x hx; rw[List.mem_singleton.mp hx]; simp)
  clear Jk
  refine⟨D1,rfl,⟨_,bL.of Gq⟩,?_⟩
  have LB:=nY S.credits aN (·.a)
  have OS: ∀c∈inOrder S.credits aN (·.a),c < S.credits.length:=fun c hc=>(kA.mp hc).1
  have KP:=hZ S.credits aN (·.a)
  generalize inOrder S.credits aN (·.a)=ord at Ib LB OS KP
  have OT:=aW Ib
  refine eo (K:=K) (a:=D1) (xs:=WX.map V.ref) (fun D i σ H6=>H1 D=none/\ ∃(v:Option V) (rs:List Addr),σ=[v,some (.ref pw)]/\aG H1 H6/\H6 D=some (.lst (rs.map V.ref))/\gJ A H6 S ((ord.take i).filter (mi S.credits)) rs) (fun D hD=>⟨hD,none,[],rfl,aG.new hD,ag,.nil⟩) (fun D i σ H6 _ ⟨_,_,_,_,t3,_⟩=>bL.of (t3 _ _ Gq)) ?_ ?_
  ·rintro D i x σ H6 hx ⟨hD,v,rs,rfl,t3,ip,OU⟩
   rw[aD] at hx
   obtain⟨q,hq,rfl⟩:=bH.mp hx
   have hi:i < ord.length:=by have:=(au.mp hq).1; lia
   have oP:=af hi
   obtain⟨q',sj,lC⟩:=bO Ib oP
   rw[hq] at sj
   obtain rfl:q=q':=aE sj
   have oQ:=gz (mi S.credits) oP
   have qC:=OS _ (bJ hi)
   generalize ord[i]=c at lC oQ qC
   obtain⟨dq,LJ⟩:=lC.same t3
   have Jl:=Ca.same t3
   obtain⟨OV,OW⟩:=Jl.obj
   have BY:rs.length<=1000:=by
    have e1:=aW OU
    have e2:=a6 (mi S.credits) (ord.take i)
    rw[bz] at e2
    lia
   refine⟨_,rfl,pw,_,OV,_,_,rfl,OW,G.bE,G.fA,ly g,_,rfl,q,_,dq,_,_,rfl,LJ,G.df,G.eM,nU _ _,g.pf,_,_,.int (S.cr c).d,rfl,rfl,bL.of Jl.hf,cJ (nX qC),_,_,rfl,rfl,_,rfl,cI (fun z=>?_) (fun z=>?_)⟩
   ·have z':mi S.credits c=true:=z
    rw[a7 z'] at oQ
    refine⟨_,rfl,_,ip,bh (by rw[ae]; exact BY),hD,_,rs ++ [q],rfl,t3.dj hD,(by rw[ag,aQ]; rfl),?_⟩
    rw[oQ]
    exact cL (OU.upd ip) (tQ ⟨dq,LJ⟩ ip)
   ·have z': ¬ mi S.credits c=true:=z
    rw[aO z',cu] at oQ
    refine⟨hD,_,rs,rfl,t3,ip,?_⟩
    rw[oQ]
    exact OU
  rintro pg σ H2 npg ⟨_,v,rs,rfl,s2,Uo,LK⟩
  rw[ae,← OT,bb] at LK
  have Y2:ord.filter (mi S.credits)=inTurn S.credits aN (·.a):=KP.symm
  rw[Y2] at LK
  clear KP Y2 OS LB Ib OT Gq
  have OM:(inTurn S.credits aN (·.a)).length<=62:=by
   rw[hZ]
   have e1:=a6 (fun k=>decide (0 < (S.credits.getD k default).d)) (inOrder S.credits aN (·.a))
   have e2:=nY S.credits aN (·.a)
   lia
  have Up: ∀c∈inTurn S.credits aN (·.a),c < S.credits.length:=fun c hc=>(cE.mp hc).1
  have zq:=Ca.same s2
  have ji:lE H2 tB:=bR jq s2
  have kq:l5 H2 tC:=bR j8 s2
  have F2:=F1.cS s2
  clear Jj Ca jq j8 s2 F1
  obtain⟨WY,MA⟩:=zq.obj
  refine⟨_,rfl,pw,_,WY,_,_,rfl,MA,G.bE,G.dX,jg g,_,rfl,g.pb,g.iD,S,aN,rfl,zq.hb,zq.rb,(by lia),ji,fun D1 WX H1 Jj jq Sy Gq Ib=>?_⟩
  have Ca:=vf zq (cU ji) Jj
  have Jk: ∀a∈[tB],∀φ,H2 a≠some (.ext φ):=fun a ha φ e=>by
   obtain⟨ps,z⟩:=cU ji
   rw[ao.mp ha,z] at e
   cases e
  have j8:l5 H1 tC:=fY kq Jj (by simpa using jc.symm) Jk
  have F1:Frame (tB :: tC :: g.fp) H H1:=F2.tr (dH Jj (by intro x hx; rw[List.mem_singleton.mp hx]; simp))
  have Y3:=LK.tb ji Jj
  have Sz:H1 pg=some (.lst (rs.map V.ref)):=Jj _ _ (fun z=>by
   obtain⟨ps,e⟩:=cU ji
   rw[ao.mp z,e] at Uo
   cases Uo) Uo
  clear Jk
  refine⟨D1,rfl,⟨_,bL.of Gq⟩,?_⟩
  have LB:=nY S.aC aN (·.b)
  have OS: ∀c∈inOrder S.aC aN (·.b),c < S.aC.length:=fun c hc=>(kA.mp hc).1
  have KP:=hZ S.aC aN (·.b)
  generalize inOrder S.aC aN (·.b)=ord at Ib LB OS KP
  have OT:=aW Ib
  refine eo (K:=K) (a:=D1) (xs:=WX.map V.ref) (fun D i σ H6=>H1 D=none/\ ∃(v:Option V) (us:List Addr),σ=[v,some (.ref pw)]/\aG H1 H6/\H6 D=some (.lst (us.map V.ref))/\iH A H6 S ((ord.take i).filter (mi S.aC)) us) (fun D hD=>⟨hD,none,[],rfl,aG.new hD,ag,.nil⟩) (fun D i σ H6 _ ⟨_,_,_,_,t3,_⟩=>bL.of (t3 _ _ Gq)) ?_ ?_
  ·rintro D i x σ H6 hx ⟨hD,v,us,rfl,t3,ip,OU⟩
   rw[aD] at hx
   obtain⟨q,hq,rfl⟩:=bH.mp hx
   have hi:i < ord.length:=by have:=(au.mp hq).1; lia
   have oP:=af hi
   obtain⟨q',sj,lC⟩:=bO Ib oP
   rw[hq] at sj
   obtain rfl:q=q':=aE sj
   have oQ:=gz (mi S.aC) oP
   have qC:=OS _ (bJ hi)
   generalize ord[i]=c at lC oQ qC
   obtain⟨dq,LJ⟩:=lC.same t3
   have Jl:=Ca.same t3
   obtain⟨OV,OW⟩:=Jl.obj
   have BY:us.length<=1000:=by
    have e1:=aW OU
    have e2:=a6 (mi S.aC) (ord.take i)
    rw[bz] at e2
    lia
   refine⟨_,rfl,pw,_,OV,_,_,rfl,OW,G.bE,G.fz,lx g,_,rfl,q,_,dq,_,_,rfl,LJ,G.d9,G.eO,lq _ _,g.pl,_,_,.int (S.bl c).d,rfl,rfl,bL.of Jl.hl,cJ (nX qC),_,_,rfl,rfl,_,rfl,cI (fun z=>?_) (fun z=>?_)⟩
   ·have z':mi S.aC c=true:=z
    rw[a7 z'] at oQ
    refine⟨_,rfl,_,ip,bh (by rw[ae]; exact BY),hD,_,us ++ [q],rfl,t3.dj hD,(by rw[ag,aQ]; rfl),?_⟩
    rw[oQ]
    exact cL (OU.upd ip) (tQ ⟨dq,LJ⟩ ip)
   ·have z': ¬ mi S.aC c=true:=z
    rw[aO z',cu] at oQ
    refine⟨hD,_,us,rfl,t3,ip,?_⟩
    rw[oQ]
    exact OU
  rintro pt σ H3 Y4 ⟨_,v',us,rfl,s3,B7,JW⟩
  rw[ae,← OT,bb] at JW
  have Y5:ord.filter (mi S.aC)=inTurn S.aC aN (·.b):=KP.symm
  rw[Y5] at JW
  clear KP Y5 OS LB Ib OT Gq
  have htl:(inTurn S.aC aN (·.b)).length<=62:=by
   rw[hZ]
   have e1:=a6 (fun k=>decide (0 < (S.aC.getD k default).d)) (inOrder S.aC aN (·.b))
   have e2:=nY S.aC aN (·.b)
   lia
  have ML: ∀c∈inTurn S.aC aN (·.b),c < S.aC.length:=fun c hc=>(cE.mp hc).1
  have y0:=Ca.same s3
  have qU:lE H3 tB:=bR jq s3
  have qV:l5 H3 tC:=bR j8 s3
  have F3:=F1.cS s3
  have SA:=Y3.same s3
  have LL:=s3 _ _ Sz
  clear Jj Ca jq j8 s3 F1 Y3 Sz F2 zq ji kq LK Uo MA
  generalize hgs:inTurn S.credits aN (·.a)=gs at SA OM Up
  generalize hts:inTurn S.aC aN (·.b)=ts at JW htl ML
  have Y6:=aW SA
  have htq:=aW JW
  have hR:ux S aN gs ts (gs.map fun g=>(S.cr g).d) (ts.map fun t=>(S.bl t).d) (gs.map fun g=>ts.map fun t=>S.dR g t):=⟨hgs.symm,hts.symm,rfl,rfl,rfl⟩
  refine⟨_,rfl,pg,rfl,⟨_,bL.of LL⟩,?_⟩
  refine eo (K:=K) (a:=pg) (xs:=rs.map V.ref) (fun D i σ H6=>H3 D=none/\ ∃(v:Option V),σ=[v,some (.ref pw)]/\aG H3 H6/\H6 D=some (.lst (((gs.take i).map fun g=>(S.cr g).d).map V.int))) (fun D hD=>⟨hD,none,rfl,aG.new hD,ag⟩) (fun D i σ H6 _ ⟨_,_,_,t3,_⟩=>bL.of (t3 _ _ LL)) ?_ ?_
  ·rintro D i x σ H6 hx ⟨hD,v,rfl,t3,ip⟩
   rw[aD] at hx
   obtain⟨q,hq,rfl⟩:=bH.mp hx
   have hi:i < gs.length:=by have:=(au.mp hq).1; lia
   obtain⟨q',sj,lC⟩:=bO SA (af hi)
   rw[hq] at sj
   obtain rfl:q=q':=aE sj
   have mH:=l9 hi
   have qC:=Up _ (bJ hi)
   generalize gs[i]=c at lC mH qC
   obtain⟨dq,LJ⟩:=lC.same t3
   have Jl:=y0.same t3
   obtain⟨OV,OW⟩:=Jl.obj
   refine⟨_,rfl,pw,_,OV,_,_,rfl,OW,G.bE,G.fA,ly g,_,rfl,q,_,dq,_,_,rfl,LJ,G.df,G.eM,nU _ _,g.pf,_,_,.int (S.cr c).d,rfl,rfl,bL.of Jl.hf,cJ (nX qC),_,ip,bh (by rw[ae,ae,bz]; lia),hD,_,rfl,t3.dj hD,?_⟩
   rw[ag,mH,aQ,aQ]
   rfl
  rintro pf σ H4 JZ ⟨_,v4,rfl,s4,Ew⟩
  rw[ae,← Y6,bb] at Ew
  have Y7:=SA.same s4
  have MM:=JW.same s4
  have Sl:=y0.same s4
  have pQ:lE H4 tB:=bR qU s4
  have pS:l5 H4 tC:=bR qV s4
  have F4:=F3.cS s4
  have SD:=s4 _ _ LL
  have vj:=s4 _ _ B7
  clear s4 F3 qU qV y0 JW SA LL B7
  refine⟨_,rfl,pt,rfl,⟨_,bL.of vj⟩,?_⟩
  refine eo (K:=K) (a:=pt) (xs:=us.map V.ref) (fun D i σ H6=>H4 D=none/\ ∃(v:Option V),σ=[v,some (.ref pw)]/\aG H4 H6/\H6 D=some (.lst (((ts.take i).map fun g=>(S.bl g).d).map V.int))) (fun D hD=>⟨hD,none,rfl,aG.new hD,ag⟩) (fun D i σ H6 _ ⟨_,_,_,t3,_⟩=>bL.of (t3 _ _ vj)) ?_ ?_
  ·rintro D i x σ H6 hx ⟨hD,v,rfl,t3,ip⟩
   rw[aD] at hx
   obtain⟨q,hq,rfl⟩:=bH.mp hx
   have hi:i < ts.length:=by have:=(au.mp hq).1; lia
   obtain⟨q',sj,lC⟩:=bO MM (af hi)
   rw[hq] at sj
   obtain rfl:q=q':=aE sj
   have mH:=l9 hi
   have qC:=ML _ (bJ hi)
   generalize ts[i]=c at lC mH qC
   obtain⟨dq,LJ⟩:=lC.same t3
   have Jl:=Sl.same t3
   obtain⟨OV,OW⟩:=Jl.obj
   refine⟨_,rfl,pw,_,OV,_,_,rfl,OW,G.bE,G.fz,lx g,_,rfl,q,_,dq,_,_,rfl,LJ,G.d9,G.eO,lq _ _,g.pl,_,_,.int (S.bl c).d,rfl,rfl,bL.of Jl.hl,cJ (nX qC),_,ip,bh (by rw[ae,ae,bz]; lia),hD,_,rfl,t3.dj hD,?_⟩
   rw[ag,mH,aQ,aQ]
   rfl
  rintro pl σ H5 SE ⟨_,v5,rfl,s5,iw⟩
  rw[ae,← htq,bb] at iw
  have WZ:=Y7.same s5
  have P1:=MM.same s5
  have Y8:=Sl.same s5
  have Dl:lE H5 tB:=bR pQ s5
  have Dm:l5 H5 tC:=bR pS s5
  have F5:=F4.cS s5
  have LM:=s5 _ _ SD
  have OX:=s5 _ _ vj
  have SG:=s5 _ _ Ew
  clear s5 F4 pQ pS Sl MM Y7 SD vj Ew
  refine⟨fa,sp,rfl,Y0,_,rfl,_,rfl,_,rfl,pg,rfl,⟨_,bL.of LM⟩,?_⟩
  refine eo (K:=K) (a:=pg) (xs:=rs.map V.ref) (fun D i σ H6=>H5 D=none/\ ∃(v:Option V) (ws:List V),σ=[v,some (.ref pt)]/\aG H5 H6/\H6 D=some (.lst ws)/\i8 H6 D ((gs.take i).map fun g=>ts.map fun t=>S.dR g t) ws) (fun D hD=>⟨hD,none,[],rfl,aG.new hD,ag,.nil⟩) (fun D i σ H6 _ ⟨_,_,_,_,t3,_⟩=>bL.of (t3 _ _ LM)) ?_ ?_
  ·rintro D i x σ H6 hx ⟨hD,v,ws,rfl,t3,ip,P5⟩
   rw[aD] at hx
   obtain⟨q,hq,rfl⟩:=bH.mp hx
   have hi:i < gs.length:=by have:=(au.mp hq).1; lia
   obtain⟨q',sj,lC⟩:=bO WZ (af hi)
   rw[hq] at sj
   obtain rfl:q=q':=aE sj
   have mH:=l9 hi
   have qC:=Up _ (bJ hi)
   generalize gs[i]=c at lC mH qC
   have DU:=aW P5
   rw[ae,bz] at DU
   refine⟨_,rfl,_,rfl,q,pt,S,c,ts,us,rfl,lC.same t3,t3 _ _ OX,P1.same t3,(by lia),fun p H7 t7 np hp=>?_⟩
   have W0:(ts.map fun b=>oK (S.cr c) (S.bl b) b)=ts.map fun t=>S.dR c t:=eK fun b hb=>xG wf qC (ML b hb)
   rw[W0] at hp
   have P6:=t7 _ _ ip
   have Y9:p≠D:=(aL ip np).symm
   refine⟨_,P6,bh (by lia),hD,_,ws ++ [.ref p],rfl,(t3.trans t7).dj hD,ag,?_⟩
   rw[mH,aQ]
   exact cL ((P5.same t7).upd) ⟨p,rfl,Y9,by rw[az Y9]; exact hp⟩
  rintro pa σ H6 npa ⟨_,v6,ws,rfl,s6,LN,P5⟩
  rw[ae,← Y6,bb] at P5
  refine Y1 pf pl pa _ _ _ H6 _ (s6 _ _ SG) (s6 _ _ iw) (lR LN P5.rp) (by rw[ae]; lia) (by rw[ae]; lia) (by rw[ae,ae]) (fun r hr=>by
   obtain⟨x,_,rfl⟩:=bK.mp hr
   rw[ae,ae]) fun pm ms H7 s7 W6 zT=>?_
  have iU:=Sx.lt (gs.map fun g=>(S.cr g).d) (ts.map fun t=>(S.bl t).d) (gs.map fun g=>ts.map fun t=>S.dR g t)
  have hlen:=Sx.len (gs.map fun g=>(S.cr g).d) (ts.map fun t=>(S.bl t).d) (gs.map fun g=>ts.map fun t=>S.dR g t) (by rw[ae]; lia) (by rw[ae]; lia)
  rw[ae,ae] at iU
  have kk:=k _ _ _ _ _ hR
  generalize way (gs.map fun g=>(S.cr g).d) (ts.map fun t=>(S.bl t).d) (gs.map fun g=>ts.map fun t=>S.dR g t)=fd at iU hlen zT kk
  have wJ:=s6.trans s7
  have Za:=WZ.same wJ
  have Zb:=P1.same wJ
  have Uq:=Y8.same wJ
  have OY:lE H7 tB:=bR Dl wJ
  have OZ:l5 H7 tC:=bR Dm wJ
  have F7:=F5.cS wJ
  have SH:=wJ _ _ LM
  have SI:=wJ _ _ OX
  clear wJ s6 s7 F5 Dl Dm Y8 P1 WZ LM OX SG iw P5 LN k Y1 Y0
  have Ui:=aW zT
  refine⟨_,rfl,pm,rfl,⟨_,bL.of W6⟩,?_⟩
  refine eo (K:=K) (a:=pm) (xs:=ms) (fun D i σ H6=>H7 D=none/\ ∃(v1 v2 v3:Option V) (ws:List V),σ=[v1,v2,v3,some (.ref pt),some (.ref pg)]/\aG H7 H6/\H6 D=some (.lst ws)/\gO H6 ((fd.take i).map (lV gs ts)) ws) (fun D hD=>⟨hD,none,none,none,[],rfl,aG.new hD,ag,.nil⟩) (fun D i σ H6 _ ⟨_,_,_,_,_,_,t3,_⟩=>bL.of (t3 _ _ W6)) ?_ ?_
  ·rintro D i x σ H6 hx ⟨hD,v1,v2,v3,ws,rfl,t3,ip,Gy⟩
   have hi:i < fd.length:=by have:=(au.mp hx).1; lia
   obtain⟨v',hv,p,rfl,hp⟩:=bO zT (af hi)
   rw[hx] at hv
   obtain rfl:x= .ref p:=aE hv
   have mH:=l9 hi
   obtain⟨l1,l2⟩:=iU _ (bJ hi)
   generalize fd[i]=t at hp mH l1 l2
   have DU:=aW Gy
   rw[ae,bz] at DU
   have g1:gs[t.1]? =some (gs.getD t.1 0):=by rw[ai,af l1]; rfl
   have g2:ts[t.2.1]? =some (ts.getD t.2.1 0):=by rw[ai,af l2]; rfl
   obtain⟨q1,OT,i1⟩:=bO Za g1
   obtain⟨q2,zS,i2⟩:=bO Zb g2
   obtain⟨d1,e1⟩:=i1.same t3
   obtain⟨d2,e2⟩:=i2.same t3
   refine⟨p,_,rfl,cG.of (t3 _ _ hp),rfl,_,_,rfl,_,_,rfl,_,_,rfl,rfl,?_⟩
   refine⟨_,rfl,_,rfl,pg,_,_,.ref q1,rfl,rfl,bL.of (t3 _ _ SH),cJ (by rw[aD,OT]; rfl),q1,_,d1,_,_,rfl,e1,G.df,G.eM,nU _ _,?_⟩
   refine⟨_,rfl,_,rfl,pt,_,_,.ref q2,rfl,rfl,bL.of (t3 _ _ SI),cJ (by rw[aD,zS]; rfl),q2,_,d2,_,_,rfl,e2,G.d9,G.eO,lq _ _,_,rfl,(by show 3<=sizeLine; decide),fun p8 n8=>?_⟩
   have s8:=aG.new (o:= .tup [.int (gs.getD t.1 0:Nat),.int (ts.getD t.2.1 0:Nat),.int t.2.2]) n8
   have Ur:=s8 _ _ ip
   refine⟨_,Ur,i6 (by lia),hD,_,_,_,ws ++ [.ref p8],rfl,(t3.trans s8).dj hD,ag,?_⟩
   rw[mH,aQ]
   have tk:=gu (o:= .lst (ws ++ [.ref p8])) Ur
   exact cL ((Gy.mono s8.tk).mono tk) ⟨p8,rfl,tk _ _ ag⟩
  rintro pn σ H8 SJ ⟨_,w1,w2,w3,ws,rfl,s8,Oo,SK⟩
  rw[← Ui,bb] at SK
  have P7:=Uq.same s8
  have SM:lE H8 tB:=bR OY s8
  have SN:l5 H8 tC:=bR OZ s8
  have F8:=F7.cS s8
  have W7:H pn=none:=by
   cases e:H pn with
   |none=>rfl
   |some o=>
    exfalso
    by_cases jH:pn∈tB :: tC :: g.fp
    ·rcases aw.mp jH with z|jH
     ·obtain⟨ps,q⟩:=cU OY
      rw[← z,SJ] at q
      cases q
     ·rcases aw.mp jH with z|jH
      ·obtain⟨ps,q⟩:=cU OZ
       rw[← z,SJ] at q
       cases q
      ·exact Uq.new SJ jH
    ·have q:=F7 _ _ jH e
     rw[SJ] at q
     cases q
  have SO:pn∉g.fp:=Uq.new SJ
  have Jc: ∀t∈fd.map (lV gs ts),t.1 < S.credits.length/\t.2.1 < S.aC.length:=fun t ht=>by
   obtain⟨u,hu,rfl⟩:=bK.mp ht
   obtain⟨l1,l2⟩:=iU u hu
   exact⟨Up _ (jR l1),ML _ (jR l2)⟩
  have IT:(fd.map (lV gs ts)).length<=4000:=by rw[ae]; exact hlen
  generalize fd.map (lV gs ts)=L at SK kk Jc IT
  have DU:=aW SK
  clear iU hlen zT W6 SH SI Za Zb Uq OY OZ F7 s8
  refine⟨_,rfl,pn,rfl,⟨_,bL.of Oo⟩,?_⟩
  refine gR (K:=K) (a:=pn) (xs:=ws) (fun i σ H2=> ∃(x9 BB GF:Option V),σ=[some (.ref pw),some (.str aN),some (.ref fa),some (.ref pg),some (.ref pt),some (.ref pf),some (.ref pl),some (.ref pm),some (.ref pn),x9,BB,GF]/\Frame g.fp H8 H2/\dG A H2 pw (ko S (L.take i)) g)
   ⟨none,none,none,rfl,Frame.refl,P7⟩ (fun i σ H2 _ ⟨_,_,_,_,f2,_⟩=>bL.of (f2 _ _ SO Oo)) ?_ ?_
  ·rintro i x σ H2 hx ⟨x9,BB,GF,rfl,f2,zq⟩
   have hi:i < L.length:=by have:=(au.mp hx).1; lia
   have oP:=af hi
   obtain⟨v',hv,p,rfl,hp⟩:=bO SK oP
   rw[hx] at hv
   obtain rfl:x= .ref p:=aE hv
   have B7:=GD (S:=S) oP
   obtain⟨m1,m2⟩:=Jc _ (bJ hi)
   generalize L[i]=t at hp B7 m1 m2
   obtain⟨b1,b2⟩:=EE S (L.take i)
   have IU:(ko S (L.take i)).made.length < sizeLine:=by
    rw[jF,aF,bz]
    have:=wf.lm
    exact i6 (by lia)
   obtain⟨WY,MA⟩:=zq.obj
   refine⟨p,_,rfl,cG.of (P7.tk f2 _ _ hp),rfl,_,_,rfl,_,_,rfl,_,_,rfl,rfl,?_⟩
   refine⟨_,rfl,pw,WY,_,rfl,MA,IQ g,_,rfl,_,rfl,_,rfl,pw,_,g,t.1,t.2.1,t.2.2,rfl,zq,(by rw[b2]; exact m1),(by rw[b1]; exact m2),IU,fun H3 f3 W3=>?_⟩
   refine⟨_,_,_,rfl,f2.tr f3,?_⟩
   rw[B7]
   exact W3
  ·rintro σ H2 ⟨x9,BB,GF,rfl,f2,zq⟩
   rw[← DU,bb] at zq
   have ext2: ∀a∈g.fp,∀φ,H8 a≠some (.ext φ):=fun a ha φ e=>by
    obtain⟨xs,z⟩:=P7.lists a ha
    rw[z] at e
    cases e
   have GG:tB∉g.fp:=P7.off fun xs e=>by
    obtain⟨ps,z⟩:=cU SM
    rw[z] at e
    cases e
   have GH:tC∉g.fp:=P7.off fun xs e=>by
    obtain⟨ps,z⟩:=cU SN
    rw[z] at e
    cases e
   exact⟨_,rfl,kk pn ws H2 (F8.tr (dH f2 fun x hx=>by simp[hx])) (fY SM f2 GG ext2) (fY SN f2 GH ext2) zq W7 (f2 _ _ SO Oo) (SK.mono (P7.tk f2))⟩
theorem qW (g:eL):(lu g).lookup ("one_round":Str)=none:=by rfl
theorem oT {α β:Type}{F:α->β->Prop}: ∀{l₁:List α} {r₁:List β} {l₂:List α} {r₂:List β},Paired F l₁ r₁->Paired F l₂ r₂->Paired F (l₁ ++ l₂) (r₁ ++ r₂)
 |_,_,_,_,.nil,h=>h
 |_,_,_,_,.cons a t,h=> .cons a (oT t h)
theorem Dn:Ji pP:=⟨fun fs ls al t h=>lW fs ls al _ t h,fun fs ls al h1 _=>by
 have:=L2.ie fs ls al fs.length
 show(bY fs ls al fs.length).2.length<=4000
 lia⟩
theorem Jm:Ji Bz:=⟨fun fs ls al t h=>uC fs ls al _ t h,fun fs ls al h1 h2=>by
 have:=pH fs ls al fs.length
 have h3:fs.length * ls.length<=63 * 63:=qe h1 h2
 show(cz fs ls al fs.length).2.length<=4000
 lia⟩
theorem sO {H:Hp}: ∀{ms:List (Nat×Nat×Int)} {xs:List V},iJ H (ms.map Je) xs->gO H ms xs
 |[],_,h=>by
  rw[dW.mp h]
  exact .nil
 |t :: ms,_,h=>by
  obtain⟨v,r,rfl,h1,h2⟩:=bX.mp h
  obtain⟨a,ys,rfl,h3,h4⟩:=jO.mp h1
  obtain⟨u1,r1,rfl,e1,h5⟩:=bX.mp h4
  obtain⟨u2,r2,rfl,e2,h6⟩:=bX.mp h5
  obtain⟨u3,r3,rfl,e3,h7⟩:=bX.mp h6
  obtain rfl:=dW.mp h7
  obtain rfl:=eB.mp e1
  obtain rfl:=eB.mp e2
  obtain rfl:=eB.mp e3
  exact .cons ⟨a,rfl,h3⟩ (sO h2)
theorem Jn:OR pP (Bu K):=fun pf pl pa fs ls al H Q h1 h2 h3 h4 h5 h6 h7 k=>
 ⟨pf,pl,pa,fs,ls,al,rfl,bL.of h1,bL.of h2,h3,by lia,h6,h7,fun v H' s r=>by
  obtain⟨a,xs,rfl,e,r'⟩:=jP.mp r
  exact k a xs H' s e (sO r')⟩
theorem O0:OR Bz (By K):=fun pf pl pa fs ls al H Q h1 h2 h3 h4 h5 h6 h7 k=>
 ⟨pf,pl,pa,fs,ls,al,rfl,bL.of h1,bL.of h2,h3,h4,h5,h6,h7,fun pm ms H' s e r=>k pm ms H' s e r⟩
def EG (A:dZ)(tB tC:Addr):Sp:=fun vs H Q _=> ∃(pw:Addr) (S:Bk) (f:eL) (n:Nat) (aN:Str),vs=[.ref pw,.str aN]/\dG A H pw S f/\WF S n/\n<=60/\lE H tB/\l5 H tC/\
 ∀D ms H',Frame (tB :: tC :: f.fp) H H'->lE H' tB->l5 H' tC->dG A H' pw (S.iB aN) f->H D=none->H' D=some (.lst ms)->gO H' ((S.iB aN).made.drop S.made.length) ms->Q (.ref D) H'
theorem oU:aS ["self","who","first","second"] ["self","who"] (ay (mem 25 6)):={}
theorem LO (T:Txt K mg){A:dZ}{tB tC:Addr}(G:jz K mg A)(DB:qb K mg "bills_in_order" (top 17) tB)(DC:qb K mg "credits_in_order" (top 18) tC)(jc:tB≠tC)(KB:K.In base)(BM:BMain mg base):gW rE P w K mg base A.work "sweep" 4 ["self","who"] (EG A tB tC):=by
 have sP:gW rE P w K mg base A.work "one_round" 3 ["self","who","way"] (EF P w K mg base A tB tC):=BA T G DB DC jc KB BM
 obtain⟨f1,m1,V1⟩:=fe.YB (LG (P:=P) (w:=w) (base:=base) T)
 obtain⟨f2,m2,V2⟩:=fe.YB (zt (P:=P) (w:=w) (base:=base) T)
 refine Ll (k:=3) G.wc G.bE oU (fun f cX A' outer s H vs Q E hr h=>?_)
 ·obtain⟨pw,S,g,n,aN,rfl,hW,wf,hn,ke,jK,k⟩:=h
  have nd:=oU.nd
  refine⟨_,(ah (sv 2 nd (mY sP (hr.mono (by decide)) mL (pv 0) (aa (pv 1) (aa (DE (v:= .ref f1) rfl m1 rfl) ak))))
(ah (sv 3 nd (mY sP (hr.mono (by decide)) mL (pv 0) (aa (pv 1) (aa (DE (v:= .ref f2) rfl m2 rfl) ak))))
(av (a9 (aV lP (pv 2) (pv 3)))))),?_⟩
  obtain⟨dw,hw⟩:=hW.obj
  refine⟨_,rfl,pw,dw,_,rfl,hw,qW g,_,rfl,pw,f1,S,g,n,aN,pP,_,rfl,hW,wf,(by lia),ke,jK,Dn,V1,Jn,fun gs ts fs ls al R D1 W8 H1 F1 jq j8 Ca Sy Gq G3=>?_⟩
  obtain⟨er,lr⟩:=HW R
  have W0:fs.length=gs.length:=by rw[R.ef,ae]
  have eS:ko S ((pP fs ls al).map (lV gs ts))=bS aN S true:=by rw[er]; unfold pP; rw[W0]
  have em:(bS aN S true).made=S.made ++ (pP fs ls al).map (lV gs ts):=by rw[← eS]; exact jF _ _
  obtain⟨_,l1,e1,b1,n1⟩:=uD S aN true
  have el1:l1=(pP fs ls al).map (lV gs ts):=List.append_cancel_left (e1.symm.trans em)
  rw[eS] at Ca
  rw[← el1] at G3
  have hcb:S.credits.length * S.aC.length<=60 * 60:=qe (by have:=wf.lc; lia) (by have:=wf.lb; lia)
  have wf1:WF (bS aN S true) (n + 1):=by
   refine wf.later lr (fun t ht=>?_) (cZ _) ?_
   ·rw[e1] at ht
    rcases bg.mp ht with ht|ht
    ·exact wf.m t ht
    ·exact b1 t ht
   ·rw[e1,aF]
    have:=wf.lm
    have:=wf.lc
    lia
  obtain⟨dw1,RT⟩:=Ca.obj
  refine⟨_,rfl,pw,dw1,_,rfl,RT,qW g,_,rfl,pw,f2,_,g,n + 1,aN,Bz,_,rfl,Ca,wf1,(by lia),jq,j8,Jm,V2,O0,fun SQ Us SR Ut Uu R2 D2 MF H2 F2 ji kq zq G2 Gr FD=>?_⟩
  obtain⟨er2,lr2⟩:=HY R2
  have W9:SR.length=SQ.length:=by rw[R2.ef,ae]
  have Zc:ko (bS aN S true) ((Bz SR Ut Uu).map (lV SQ Us))=S.iB aN:=by
   show _ =bS aN (bS aN S true) false
   rw[er2]; unfold Bz; rw[W9]
  have Zd:(S.iB aN).made=(bS aN S true).made ++ (Bz SR Ut Uu).map (lV SQ Us):=by rw[← Zc]; exact jF _ _
  rw[Zc] at zq
  have IU:(S.iB aN).made.length<=8000 * 60 + 8000:=by
   obtain⟨_,l3,e3,_,n3⟩:=qz S aN
   rw[e3,aF]
   have:=wf.lm
   have:=wf.lc
   lia
  have Xa:D1∉tB :: tC :: g.fp:=fun z=>by
   rcases aw.mp z with z|z
   ·obtain⟨ps,e⟩:=cU ke
    rw[← z,Sy] at e
    cases e
   ·rcases aw.mp z with z|z
    ·obtain⟨ps,e⟩:=cU jK
     rw[← z,Sy] at e
     cases e
    ·exact hW.new Sy z
  have Xb:=F2 _ _ Xa Gq
  have kt:cK H1 H2:=fun b xs e=>F2 b _ (fun z=>by
   rcases aw.mp z with z|z
   ·obtain⟨ps,e'⟩:=cU jq
    rw[z,e'] at e
    cases e
   ·rcases aw.mp z with z|z
    ·obtain⟨ps,e'⟩:=cU j8
     rw[z,e'] at e
     cases e
    ·obtain⟨ys,e'⟩:=Ca.lists b z
     rw[e'] at e
     cases e) e
  have t1:=aW G3
  have t2:=aW FD
  have hlen:(S.iB aN).made.length=S.made.length + l1.length + ((Bz SR Ut Uu).map (lV SQ Us)).length:=by
   rw[Zd,e1,aF,aF]
  refine⟨_,rfl,_,rfl,D1,D2,W8,MF,rfl,rfl,Xb,Gr,?_,fun p np=>?_⟩
  ·have:W8.length + MF.length<=1000000:=by lia
   exact dk (i6 this)
  ·have s3:=aG.new (o:= .lst (W8 ++ MF)) np
   have F:=F1.tr F2
   have np0:H p=none:=by
    cases e:H p with
    |none=>rfl
    |some o=>
     exfalso
     by_cases jH:p∈tB :: tC :: g.fp
     ·rcases aw.mp jH with z|jH
      ·obtain⟨ps,q⟩:=cU ji
       rw[← z,np] at q
       cases q
      ·rcases aw.mp jH with z|jH
       ·obtain⟨ps,q⟩:=cU kq
        rw[← z,np] at q
        cases q
       ·exact zq.new np jH
     ·have q:=F _ _ jH e
      rw[np] at q
      cases q
   refine k p _ _ (F.cS s3) (bR ji s3) (bR kq s3) (zq.same s3) np0 ag ?_
   have ed:(S.iB aN).made.drop S.made.length=l1 ++ (Bz SR Ut Uu).map (lV SQ Us):=by
    rw[Zd,e1,gE,List.drop_left]
   rw[ed]
   exact oT ((G3.mono kt).mono s3.tk) (FD.mono s3.tk)
theorem zu (g:eL):(lu g).lookup ("tell_bill":Str)=none:=by rfl
theorem tu (g:eL):(lu g).lookup ("tell_payment":Str)=none:=by rfl
theorem zv (g:eL):(lu g).lookup ("tell_note":Str)=none:=by rfl
theorem vk (g:eL):(lu g).lookup ("set_by_hand":Str)=none:=by rfl
theorem Jo (g:eL):(lu g).lookup ("sweep":Str)=none:=by rfl
def zw (A:dZ)(K:PySem.W.Frag)(tB tC:Addr):Sp:=fun vs H Q E=> ∃(pw pd:Addr) (S:Bk) (f:eL) (n:Nat) (d:bD),vs=[.ref pw,.ref pd]/\dG A H pw S f/\WF S n/\n<=60/\lE H tB/\l5 H tC/\H pd=some (.tup (bD.vs d))/\d.tells=true/\
 (S.bar d=""-> ∀v f' H',f'.fp=f.fp->Frame (tB :: tC :: f.fp) H H'->lE H' tB->l5 H' tC->dG A H' pw (S.enter d) f'->zj H' (fun D=>H D=none) (S.KR d) v->Q v H')/\(S.bar d≠""->Lq A K E (S.bar d) H)
theorem EH:aS ["work","deed","kind"] ["work","deed"] (ay (top 30)):={}
theorem Jp (T:Txt K mg){A:dZ}{tB tC:Addr}(G:jz K mg A)(DB:qb K mg "bills_in_order" (top 17) tB)(DC:qb K mg "credits_in_order" (top 18) tC)(jc:tB≠tC)(KB:K.In base)(BM:BMain mg base):uS P w K mg base "done" 7 ["work","deed"] (zw A K tB tC):=by
 have BC:gW (mv P w mg) P w K mg base A.work "tell_bill" 5 ["self","who","day","due","amount"] (Ek A K):=Bd T G
 have vm:gW (mv P w mg) P w K mg base A.work "tell_payment" 6 ["self","who","day","amount"] (El A K):=uV T G
 have BD:gW (mv P w mg) P w K mg base A.work "tell_note" 6 ["self","bill_number","day","amount"] (Em A K):=Be T G
 have wK:gW (mv P w mg) P w K mg base A.work "set_by_hand" 5 ["self","credit_number","bill_number","amount"] (MC A K):=wo T G
 have LP:gW rE P w K mg base A.work "sweep" 4 ["self","who"] (EG A tB tC):=LO T G DB DC jc KB BM
 refine Ol (k:=6) T.Oc EH (fun f cX A' outer s H vs Q E hr me h=>?_)
 ·obtain⟨pw,pd,S,g,n,d,rfl,hW,wf,hn,ke,jK,hd,ht,k1,k2⟩:=h
  have nd:=EH.nd
  obtain⟨dw,hw⟩:=hW.obj
  refine⟨_,(ah (sv 2 nd (xt (pv 1) aj))
(ah (bV (a8 dg (pv 2) aR (ba _))
(av (a9 (mY BC (hr.mono (by decide)) me.pass (pv 0) (aa (xt (pv 1) aj) (aa (xt (pv 1) aj) (aa (xt (pv 1) aj) (aa (xt (pv 1) aj) ak)))))))
bp)
(ah (bV (a8 dg (pv 2) aR (ba _))
(av (a9 (mY vm (hr.mono (by decide)) me.pass (pv 0) (aa (xt (pv 1) aj) (aa (xt (pv 1) aj) (aa (xt (pv 1) aj) ak))))))
bp)
(ah (bV (a8 dg (pv 2) aR (ba _))
(av (a9 (mY BD (hr.mono (by decide)) me.pass (pv 0) (aa (xt (pv 1) aj) (aa (xt (pv 1) aj) (aa (xt (pv 1) aj) ak))))))
bp)
(ah (bV (a8 dg (pv 2) aR (ba _))
(av (a9 (mY wK (hr.mono (by decide)) me.pass (pv 0) (aa (xt (pv 1) aj) (aa (xt (pv 1) aj) (aa (xt (pv 1) aj) ak))))))
bp)
(av (a9 (mY LP (hr.mono (by decide)) mL (pv 0) (aa (xt (pv 1) aj) ak))))))))),?_⟩
  have ext: ∀a∈g.fp,∀φ,H a≠some (.ext φ):=fun a ha φ e=>by
   obtain⟨xs,z⟩:=hW.lists a ha
   rw[z] at e
   cases e
  have GG:tB∉g.fp:=hW.off fun xs e=>by
   obtain⟨ps,z⟩:=cU ke
   rw[z] at e
   cases e
  have GH:tC∉g.fp:=hW.off fun xs e=>by
   obtain⟨ps,z⟩:=cU jK
   rw[z] at e
   cases e
  cases d with
  |iM n=>cases ht
  |ask o w d=>cases ht
  |iy w d l=>cases ht
  |dQ wh dy du am=>
   refine⟨_,rfl,pd,_,_,.str "bill",rfl,rfl,cG.of hd,rfl,?_⟩
   refine⟨_,rfl,rfl,true,zR _,fC ⟨_,rfl,pw,dw,_,rfl,hw,zu g,_,rfl,pd,_,_,.str wh,rfl,rfl,cG.of hd,rfl,_,rfl,pd,_,_,.int dy,rfl,rfl,cG.of hd,rfl,_,rfl,pd,_,_,.int du,rfl,rfl,cG.of hd,rfl,_,rfl,pd,_,_,.int am,rfl,rfl,cG.of hd,rfl,pw,S,g,wh,dy,du,am,rfl,hW,(by have:=wf.lb; lia),fun hb f1 H1 e1 F1 W1=>?_,k2⟩⟩
   exact k1 hb _ f1 H1 e1 (dH F1 fun x hx=>by simp[hx]) (fY ke F1 GG ext) (fY jK F1 GH ext) W1 rfl
  |pZ wh dy am=>
   refine⟨_,rfl,pd,_,_,.str "pay",rfl,rfl,cG.of hd,rfl,?_⟩
   refine⟨_,rfl,rfl,false,jC (show("pay":Str)≠"bill" by decide +kernel),cg ?_⟩
   refine⟨_,rfl,rfl,true,zR _,fC ⟨_,rfl,pw,dw,_,rfl,hw,tu g,_,rfl,pd,_,_,.str wh,rfl,rfl,cG.of hd,rfl,_,rfl,pd,_,_,.int dy,rfl,rfl,cG.of hd,rfl,_,rfl,pd,_,_,.int am,rfl,rfl,cG.of hd,rfl,pw,S,g,wh,dy,am,rfl,hW,(by have:=wf.lc; lia),fun hb f1 H1 e1 F1 W1=>?_,k2⟩⟩
   exact k1 hb _ f1 H1 e1 (dH F1 fun x hx=>by simp[hx]) (fY ke F1 GG ext) (fY jK F1 GH ext) W1 rfl
  |note b dy am=>
   refine⟨_,rfl,pd,_,_,.str "note",rfl,rfl,cG.of hd,rfl,?_⟩
   refine⟨_,rfl,rfl,false,jC (show("note":Str)≠"bill" by decide +kernel),cg ?_⟩
   refine⟨_,rfl,rfl,false,jC (show("note":Str)≠"pay" by decide +kernel),cg ?_⟩
   refine⟨_,rfl,rfl,true,zR _,fC ⟨_,rfl,pw,dw,_,rfl,hw,zv g,_,rfl,pd,_,_,.int b,rfl,rfl,cG.of hd,rfl,_,rfl,pd,_,_,.int dy,rfl,rfl,cG.of hd,rfl,_,rfl,pd,_,_,.int am,rfl,rfl,cG.of hd,rfl,pw,S,g,b,dy,am,rfl,hW,(by have:=wf.lc; lia),fun hb f1 H1 e1 F1 W1=>?_,k2⟩⟩
   exact k1 hb _ f1 H1 e1 (dH F1 fun x hx=>by simp[hx]) (fY ke F1 GG ext) (fY jK F1 GH ext) W1 rfl
  |set c b am=>
   refine⟨_,rfl,pd,_,_,.str "set",rfl,rfl,cG.of hd,rfl,?_⟩
   refine⟨_,rfl,rfl,false,jC (show("set":Str)≠"bill" by decide +kernel),cg ?_⟩
   refine⟨_,rfl,rfl,false,jC (show("set":Str)≠"pay" by decide +kernel),cg ?_⟩
   refine⟨_,rfl,rfl,false,jC (show("set":Str)≠"note" by decide +kernel),cg ?_⟩
   refine⟨_,rfl,rfl,true,zR _,fC ⟨_,rfl,pw,dw,_,rfl,hw,vk g,_,rfl,pd,_,_,.int c,rfl,rfl,cG.of hd,rfl,_,rfl,pd,_,_,.int b,rfl,rfl,cG.of hd,rfl,_,rfl,pd,_,_,.int am,rfl,rfl,cG.of hd,rfl,pw,S,g,n,c,b,am,rfl,hW,wf,(i6 (by have:=wf.lm; lia)),fun hb f1 H1 e1 F1 W1=>?_,k2⟩⟩
   exact k1 hb _ f1 H1 e1 (dH F1 fun x hx=>by simp[hx]) (fY ke F1 GG ext) (fY jK F1 GH ext) W1 rfl
  |fJ wh=>
   refine⟨_,rfl,pd,_,_,.str "sweep",rfl,rfl,cG.of hd,rfl,?_⟩
   refine⟨_,rfl,rfl,false,jC (show("sweep":Str)≠"bill" by decide +kernel),cg ?_⟩
   refine⟨_,rfl,rfl,false,jC (show("sweep":Str)≠"pay" by decide +kernel),cg ?_⟩
   refine⟨_,rfl,rfl,false,jC (show("sweep":Str)≠"note" by decide +kernel),cg ?_⟩
   refine⟨_,rfl,rfl,false,jC (show("sweep":Str)≠"set" by decide +kernel),cg ?_⟩
   refine⟨_,rfl,pw,dw,_,rfl,hw,Jo g,_,rfl,pd,_,_,.str wh,rfl,rfl,cG.of hd,rfl,pw,S,g,n,wh,rfl,hW,wf,(by lia),ke,jK,fun D ms H1 F1 jq j8 W1 nD hD hT=>?_⟩
   exact k1 rfl _ g H1 rfl F1 jq j8 W1 ⟨D,ms,rfl,nD,hD,hT⟩
theorem Jq {α:Type}(x:α)(xs:List α):tH (x :: xs) 0=some x:=cJ (xs:=x :: xs) (j:=0) rfl
def kW (H:Hp)(ss:List (Int×bD))(bc:List (Key×V)):Prop:=Paired (fun(st:Int×bD) (kv:Key×V)=>kv.1=Sum.inl st.1/\ ∃pd,kv.2= .ref pd/\H pd=some (.tup (bD.vs st.2))/\st.2.tells=true) ss bc
theorem kW.mono {H H':Hp}{ss:List (Int×bD)}{bc:List (Key×V)}(h:kW H ss bc)(k:cK H H'):kW H' ss bc:=Paired.iS h fun _ _ ⟨e,p,e2,z,t⟩=>⟨e,p,e2,k _ _ z,t⟩
structure fN (A:dZ)(H:Hp)(pb pk pw:Addr)(T:iW)(f:eL):Prop where
 obj:eu H pb A.book (eP pk pw)
 kept: ∃bc,H pk=some (.dK bc)/\kW H T.steps bc
 wk:dG A H pw T.bk f
theorem fN.same {A:dZ}{H H':Hp}{pb pk pw:Addr}{T:iW}{f:eL}(h:fN A H pb pk pw T f)(s:aG H H'):fN A H' pb pk pw T f:=by
 obtain⟨bc,k1,k2⟩:=h.kept
 exact⟨h.obj.same s,⟨bc,s _ _ k1,k2.mono s.tk⟩,h.wk.same s⟩
theorem EI {A:dZ}{H H':Hp}{pw:Addr}{S:Bk}{f:eL}(h:dG A H pw S f)(kl: ∀a xs,H a=some (.lst xs)->H' a=some (.lst xs))(ki: ∀a C dx fs,fs.length=5->H a=some (.ins C dx fs)->H' a=some (.ins C dx fs))(kt:cK H H'):dG A H' pw S f:=by
 obtain⟨dw,hw⟩:=h.obj
 obtain⟨ms,m1,m2⟩:=h.hm
 exact⟨⟨dw,ki _ _ _ _ rfl hw⟩,kl _ _ h.hb,kl _ _ h.hc,kl _ _ h.hl,kl _ _ h.hf,⟨ms,kl _ _ m1,m2.mono kt⟩,⟨h.rb.1,fun i p e=>let⟨dx,z⟩:=h.rb.2 i p e; ⟨dx,ki _ _ _ _ rfl z⟩⟩,⟨h.rc.1,fun i p e=>let⟨dx,z⟩:=h.rc.2 i p e; ⟨dx,ki _ _ _ _ rfl z⟩⟩,h.nd⟩
def Jr (o:HO):Prop:=(∀xs,o≠ .lst xs)/\(∀xs,o≠ .tup xs)/\ ∀C dx fs,fs.length=5->o≠ .ins C dx fs
theorem vn {A:dZ}{H:Hp}{pw p:Addr}{S:Bk}{f:eL}{o u:HO}(h:dG A H pw S f)(e:H p=some o)(n:Jr o):dG A (upd H p u) pw S f:=
 EI h (fun a xs z=>by rw[az (fun q=>by rw[q,e] at z; exact n.1 xs (aE z))]; exact z) (fun a C dx fs hl z=>by rw[az (fun q=>by rw[q,e] at z; exact n.2.2 C dx fs hl (aE z))]; exact z)
  (fun a xs z=>by rw[az (fun q=>by rw[q,e] at z; exact n.2.1 xs (aE z))]; exact z)
theorem tR (bc:List (Key×V)):Jr (.dK bc):=⟨fun _ z=>(by cases z),fun _ z=>(by cases z),fun _ _ _ _ z=>(by cases z)⟩
theorem Js (φ:Heap->Prop):Jr (.ext φ):=⟨fun _ z=>(by cases z),fun _ z=>(by cases z),fun _ _ _ _ z=>(by cases z)⟩
theorem xM (C dx pk pw:Addr):Jr (.ins C dx (eP pk pw)):=⟨fun _ z=>(by cases z),fun _ z=>(by cases z),fun _ _ fs hl z=>(by injection z with _ _ z; rw[← z] at hl; cases hl)⟩
theorem zx {H:Hp}{p:Addr}{o u:HO}(e:H p=some o)(n:Jr o):cK H (upd H p u):=fun a xs z=>by rw[az (fun q=>by rw[q,e] at z; exact n.2.1 xs (aE z))]; exact z
theorem rT {H:Hp}{m:Int}: ∀{ss:List (Int×bD)} {bc:List (Key×V)},kW H ss bc->gj bc (Sum.inl m:Key)=none-> ∀st∈ss,st.1≠m
 |_,_,.nil,_,_,h=>by cases h
 |_,_,.cons (a:=a) (b:=kv) ⟨e,_⟩ t,hv,st,h=>by
  by_cases q:kv.1=(Sum.inl m:Key)
  ·rw[fI q] at hv
   cases hv
  ·rw[fm q] at hv
   rcases aw.mp h with rfl|h
   ·intro z
    rw[e,z] at q
    exact q rfl
   ·exact rT t hv st h
theorem xN {H:Hp}{m:Int}{v:V}: ∀{ss:List (Int×bD)} {bc:List (Key×V)},kW H ss bc->gj bc (Sum.inl m:Key)=some v-> ∃st∈ss,st.1=m/\ ∃pd,v= .ref pd/\H pd=some (.tup (bD.vs st.2))/\st.2.tells=true
 |_,_,.nil,hv=>by cases hv
 |_,_,.cons (a:=a) (b:=kv) ⟨e,pd,e2,z,tl⟩ t,hv=>by
  by_cases q:kv.1=(Sum.inl m:Key)
  ·rw[fI q] at hv
   rw[e] at q
   refine⟨a,bw,by injection q,pd,?_,z,tl⟩
   rw[← aE hv,e2]
  ·rw[fm q] at hv
   obtain⟨st,h1,h2⟩:=xN t hv
   exact⟨st,aU _ h1,h2⟩
theorem BE {H:Hp}{m:Int}: ∀{ss:List (Int×bD)} {bc:List (Key×V)},kW H ss bc->(∀st∈ss,st.1≠m)->gj bc (Sum.inl m:Key)=none
 |_,_,.nil,_=>rfl
 |_,_,.cons (a:=a) (b:=kv) ⟨e,_⟩ t,h=>by
  rw[fm (fun q=>by
   rw[e] at q
   exact h a bw (by injection q))]
  exact BE t fun st hs=>h st (aU _ hs)
theorem xO {H:Hp}{m:Int}: ∀{ss:List (Int×bD)} {bc:List (Key×V)},kW H ss bc->kW H (ss.filter fun st=>decide (st.1≠m)) (k8 bc (Sum.inl m:Key))
 |_,_,.nil=> .nil
 |_,_,.cons (a:=a) (b:=kv) ⟨e,r⟩ t=>by
  have ih:=xO (m:=m) t
  unfold k8 at ih ⊢
  by_cases q:a.1=m
  ·have q':kv.1=(Sum.inl m:Key):=by rw[e,q]
   rw[List.filter_cons_of_neg (by simp[q]),List.filter_cons_of_neg (by simp[q'])]
   exact ih
  ·have q': ¬ kv.1=(Sum.inl m:Key):=by rw[e]; intro z; exact q (by injection z)
   rw[List.filter_cons_of_pos (by simp[q]),List.filter_cons_of_pos (by simp[q'])]
   exact .cons ⟨e,r⟩ ih
theorem vo: ∀{ss:List (Int×bD)},ss.Pairwise (fun a b=>a.1 < b.1)-> ∀{x y:Int×bD},x∈ss->y∈ss->x.1=y.1->x=y
 |[],_,_,_,h,_,_=>by cases h
 |a :: ss,hp,x,y,hx,hy,e=>by
  rw[fb] at hp
  rcases aw.mp hx with hx|hx
  ·rcases aw.mp hy with hy|hy
   ·rw[hx,hy]
   ·have:=hp.1 y hy
    rw[hx] at e
    lia
  ·rcases aw.mp hy with hy|hy
   ·have:=hp.1 x hx
    rw[hy] at e
    lia
   ·exact vo hp.2 hx hy e
def GI (ss:List (Int×bD))(m:Int):Bool:=ss.any fun st=>decide (st.1=m) && st.2.isSet
theorem pT (ss:List (Int×bD))(m:Int):(ss.filter (cD m)).length=ss.length↔GI ss m=false:=by
 rw[List.length_filter_eq_length_iff]
 unfold GI
 rw[rg]
 constructor
 ·intro h st hs
  have:=h st hs
  unfold cD at this
  cases h2:decide (st.1=m) && st.2.isSet
  ·simp
  ·rw[h2] at this
   cases this
 ·intro h st hs
  have:=h st hs
  unfold cD
  cases h2:decide (st.1=m) && st.2.isSet
  ·rfl
  ·exact absurd h2 this
theorem Jt {ss:List (Int×bD)}{m:Int}{st:Int×bD}(hp:ss.Pairwise (fun a b=>a.1 < b.1))(hs:st∈ss)(e:st.1=m):GI ss m=st.2.isSet:=by
 unfold GI
 cases h:st.2.isSet with
 |true=>exact List.any_eq_true.mpr ⟨st,hs,by simp[e,h]⟩
 |false=>
  rw[rg]
  intro x hx z
  have z':x.1=m/\x.2.isSet=true:=by simpa using z
  have q:=vo hp hx hs (z'.1.trans e.symm)
  rw[q,h] at z'
  cases z'.2
theorem BF {ss:List (Int×bD)}{m:Int}(h: ∀st∈ss,st.1≠m):GI ss m=false:=by
 unfold GI
 rw[rg]
 intro x hx z
 have z':x.1=m/\x.2.isSet=true:=by simpa using z
 exact h x hx z'.1
theorem Ju {ss:List (Int×bD)}{m:Int}(hp:ss.Pairwise (fun a b=>a.1 < b.1))(h:GI ss m=true):ss.filter (cD m)=ss.filter fun st=>decide (st.1≠m):=by
 apply E3
 intro st hs
 unfold cD
 by_cases e:st.1=m
 ·rw[← Jt hp hs e,h]
  simp[e]
 ·simp[e]
theorem BG (pk pw:Addr):(eP pk pw).lookup ("in_force":Str)=none:=by rfl
theorem LQ (pk pw:Addr):(eP pk pw).lookup ("undo":Str)=none:=by rfl
theorem SS (pk pw:Addr):(eP pk pw).lookup ("do":Str)=none:=by rfl
def xP (A:dZ):Sp:=fun vs H Q _=> ∃(pb pk pw:Addr) (T:iW) (f:eL) (n:Nat) (m:Int),vs=[.ref pb,.int m]/\fN A H pb pk pw T f/\Good T n/\ ∀H',aG H H'->Q (.bl (GI T.steps m)) H'
theorem rV:aS ["self","number"] ["self","number"] (ay (mem 29 3)):={}
theorem Dp {A:dZ}(G:jz K mg A):gW rE P w K mg base A.book "in_force" 1 ["self","number"] (xP A):=by
 refine Ll (k:=0) G.rO G.eE rV (fun f cX A' outer s H vs Q E hr h=>?_)
 ·obtain⟨pb,pk,pw,T,g,n,m,rfl,hB,hG,k⟩:=h
  have hu:=kz hr
  obtain⟨db,hb⟩:=hB.obj
  obtain⟨bc,hk,hK⟩:=hB.kept
  refine⟨_,(av (a9 (o9 (Nb (Ny hu (pv 1) (b9 (pv 0) rfl))) (mC (eQ nP (xt (cO hu (b9 (pv 0) rfl) (pv 1) (fun _ _=>rfl)) aj) (dB (aa aR (aa aR ak))) (by rfl)))))),?_⟩
  refine⟨_,rfl,_,rfl,pb,_,db,_,_,rfl,hb,G.eE,G.gI,tP _ _,pk,_,rfl,mr.k (k:=(Sum.inl m:Key)) hk,_,rfl,?_⟩
  cases hv:gj bc (Sum.inl m:Key) with
  |none=>
   refine cg ?_
   have q:=k H (aG.refl _)
   rw[BF (rT hK hv)] at q
   exact q
  |some v=>
   refine fC ?_
   obtain⟨st,hs,e,pd,rfl,G1,ht⟩:=xN hK hv
   obtain⟨r,er⟩:=tO (.inl ht)
   rw[er] at G1
   refine⟨_,rfl,pb,_,db,_,_,rfl,hb,G.eE,G.gI,tP _ _,_,rfl,pk,.ref pd,rfl,(by have z:=mr.k (k:=(Sum.inl m:Key)) hk; rw[hv] at z; exact z),pd,_,_,.str (bD.word st.2),rfl,rfl,cG.of G1,Jq _ _,(by show 2<=sizeLine; decide),fun p np=>?_⟩
   have s1:=aG.new (o:= .tup [.str "set",.str "sweep"]) np
   refine⟨p,_,rfl,.inr (cG.of ag),rfl,rfl,?_⟩
   have q:=k _ s1
   rw[Jt hG.inc hs e,← Eu ht] at q
   exact q
def SU (A:dZ)(K:PySem.W.Frag)(tB tC:Addr):Sp:=fun vs H Q E=> ∃(pb pd pk pw:Addr) (T:iW) (f:eL) (n:Nat) (d:bD),vs=[.ref pb,.int n,.ref pd]/\fN A H pb pk pw T f/\Good T n/\n<=59/\lE H tB/\l5 H tC/\H pd=some (.tup (bD.vs d))/\d.tells=true/\
 (T.bk.bar d=""-> ∀v f' H',f'.fp=f.fp->Frame (tB :: tC :: pk :: f.fp) H H'->lE H' tB->l5 H' tC->fN A H' pb pk pw ⟨T.steps ++ [((n:Int),d)],T.bk.enter d⟩ f'->zj H' (fun D=>H D=none) (T.bk.KR d) v->Q v H')/\(T.bk.bar d≠""->Lq A K E (T.bk.bar d) H)
theorem vp:aS ["self","number","deed","answer"] ["self","number","deed"] (ay (mem 29 1)):={}
theorem Xc (T:Txt K mg){A:dZ}{tB tC:Addr}(G:jz K mg A)(DB:qb K mg "bills_in_order" (top 17) tB)(DC:qb K mg "credits_in_order" (top 18) tC)(jc:tB≠tC)(KB:K.In base)(BM:BMain mg base):gW (mv P w mg) P w K mg base A.book "do" 8 ["self","number","deed"] (SU A K tB tC):=by
 have Dq:uS P w K mg base "done" 7 ["work","deed"] (zw A K tB tC):=Jp T G DB DC jc KB BM
 refine qJ (k:=7) G.CZ G.eE vp (fun f cX A' outer s H vs Q E hr me h=>?_)
 ·obtain⟨pb,pd,pk,pw,T,g,n,d,rfl,hB,hG,hn,ke,jK,hd,ht,k1,k2⟩:=h
  have hu:=kz hr
  have nd:=vp.nd
  obtain⟨db,hb⟩:=hB.obj
  obtain⟨bc,hk,hK⟩:=hB.kept
  have hW:=hB.wk
  refine⟨_,(ah (sv 3 nd (rP Dq (hr.mono (by decide)) rfl me.pass (aa (b9 (pv 0) rfl) (aa (pv 2) ak))))
(ah (DT hu (b9 (pv 0) rfl) (pv 1) (pv 2) rfl)
(av (a9 (pv 3))))),?_⟩
  refine⟨_,rfl,pb,_,db,_,_,rfl,hb,G.eE,G.fT,qS _ _,_,rfl,pw,pd,T.bk,g,n,d,rfl,hW,hG.wf (by lia),(by lia),ke,jK,hd,ht,fun oC v f1 H1 e1 F1 jq j8 W1 hA=>?_,k2⟩
  have GJ: ∀a o,H a=some o->(∀xs,o≠ .lst xs)->(∀ps,o≠ .mz ps)->a∉tB :: tC :: g.fp:=fun a o e n1 n2 z=>by
   rcases aw.mp z with z|z
   ·obtain⟨ps,q⟩:=cU ke
    rw[z,q] at e
    exact n2 ps (aE e).symm
   ·rcases aw.mp z with z|z
    ·obtain⟨ps,q⟩:=cU jK
     rw[z,q] at e
     exact n2 ps (aE e).symm
    ·obtain⟨xs,q⟩:=hW.lists a z
     rw[q] at e
     exact n1 xs (aE e).symm
  have kt:cK H H1:=fun a xs e=>F1 _ _ (GJ _ _ e (fun _ z=>by cases z) (fun _ z=>by cases z)) e
  have SV:=F1 _ _ (GJ _ _ hb (fun _ z=>by cases z) (fun _ z=>by cases z)) hb
  have GK:=F1 _ _ (GJ _ _ hk (fun _ z=>by cases z) (fun _ z=>by cases z)) hk
  have Ze:=hK.mono kt
  have lU:=kt _ _ hd
  have G0:=aW hK
  have hlen:=hG.len
  refine⟨_,rfl,_,rfl,pb,_,db,_,_,rfl,SV,G.eE,G.gI,tP _ _,_,rfl,pk,_,rfl,Fs.k (k:=(Sum.inl (n:Int):Key)) GK (bh (by lia)),?_⟩
  rw[HC _ (BE Ze fun st hs=>by have:=(hG.lt st hs).2; lia)]
  have s2: ∀a o,a≠pk->H1 a=some o->upd H1 pk (.dK (bc ++ [(Sum.inl (n:Int),V.ref pd)])) a=some o:=fun a o hn e=>by rw[az hn]; exact e
  have nbk:pb≠pk:=ma SV GK (by intro z; cases z)
  have Xd:=zx (u:= .dK (bc ++ [(Sum.inl (n:Int),V.ref pd)])) GK (tR bc)
  refine⟨_,rfl,k1 oC v f1 _ e1 ((dH F1 fun x hx=>?_).tr (Frame.upd (by simp))) (fY jq (Frame.upd (fp:=[pk]) (by simp)) (fun z=>?_) (fun a ha φ e=>?_)) (fY j8 (Frame.upd (fp:=[pk]) (by simp)) (fun z=>?_) (fun a ha φ e=>?_)) ⟨⟨db,s2 _ _ nbk SV⟩,⟨_,ag,?_⟩,vn W1 GK (tR bc)⟩ ?_⟩
  ·rcases aw.mp hx with hx|hx
   ·simp[hx]
   ·rcases aw.mp hx with hx|hx
    ·simp[hx]
    ·simp[hx]
  ·obtain⟨ps,q⟩:=cU jq
   rw[ao.mp z,GK] at q
   cases q
  ·rw[ao.mp ha,GK] at e
   cases e
  ·obtain⟨ps,q⟩:=cU j8
   rw[ao.mp z,GK] at q
   cases q
  ·rw[ao.mp ha,GK] at e
   cases e
  ·exact cL (Ze.mono Xd) ⟨rfl,pd,rfl,Xd _ _ lU,ht⟩
  ·exact hA.keep (fun D xs o e=>⟨o,s2 _ _ (ma e GK (by intro z; cases z)) e⟩) Xd
theorem BH: ∀{ss:List (Int×bD)} {B S:Bk} {i:Nat} {k:Int} {d:bD},cF (ss.take i) B=some S->ss[i]? =some (k,d)->S.bar d≠""->iC ss B=S.bar d/\cF ss B=none
 |[],_,_,_,_,_,_,h,_=>by simp at h
 |(k0,d0) :: ss,B,S,0,k,d,hw,h,hb=>by
  cases hw
  have e:(k0,d0)=(k,d):=by simpa using h
  cases e
  unfold iC cF
  rw[aO hb,aO hb]
  exact⟨rfl,rfl⟩
 |(k0,d0) :: ss,B,S,i + 1,k,d,hw,h,hb=>by
  rw[List.take_succ_cons] at hw
  unfold cF at hw
  split at hw
  ·rename_i q
   have ih:=BH hw (by simpa using h) hb
   unfold iC cF
   rw[a7 q,a7 q]
   exact ih
  ·cases hw
theorem BI {ss:List (Int×bD)}{B S:Bk}{i:Nat}{k:Int}{d:bD}(hw:cF (ss.take i) B=some S)(h:ss[i]? =some (k,d))(hb:S.bar d=""):cF (ss.take (i + 1)) B=some (S.enter d):=by
 obtain⟨hi,e⟩:=au.mp h
 rw[l9 hi,kN,hw,e]
 show(if S.bar d="" then some (S.enter d) else none)=_
 rw[a7 hb]
def Xe (A:dZ)(K:PySem.W.Frag)(tB tC:Addr)(fp:List Addr)(E:XK)(t:Str)(H:Hp):Prop:= ∀C dx H',gU K C A.refusal->Frame fp H H'->lE H' tB->l5 H' tC->H dx=none->H' dx=some (.xd [("text",.str t)])->E (.ref C) (some dx) H'
def EJ (A:dZ)(K:PySem.W.Frag)(tB tC:Addr):Sp:=fun vs H Q E=> ∃(pk:Addr) (ss:List (Int×bD)) (bc:List (Key×V)),vs=[.ref pk]/\H pk=some (.dK bc)/\kW H ss bc/\ss.length<=59/\(iC ss Bk.new=""∨iC ss Bk.new="too much")/\lE H tB/\l5 H tC/\
 (∀S,cF ss Bk.new=some S-> ∀pw f H',Frame [tB,tC] H H'->lE H' tB->l5 H' tC->dG A H' pw S f->H pw=none->(∀b∈f.fp,H b=none)->Q (.ref pw) H')/\(cF ss Bk.new=none->Xe A K tB tC [tB,tC,pk] E "needed" H)
theorem oV:aS ["kept","work","deed"] ["kept"] (ay (top 31)):={}
theorem MN {H:Hp}{tb d:Addr}{pos:Pos}{qual:Str}{φ:Heap->Prop}{u:HO}(t:Tb H tb pos qual)(e:H d=some (.ext φ))(n: ∀q:Str,φ≠fun h=>h.CodeRec (.ref d) q):Tb (upd H d u) tb pos qual:=by
 obtain⟨ps,h1,h2,h3⟩:=t
 refine⟨ps,by rw[az (ma h1 e (by intro z; cases z))]; exact h1,h2,?_⟩
 rcases h3 with h3|⟨c',h3,h4⟩
 ·exact .inl h3
 ·refine .inr ⟨c',h3,?_⟩
  by_cases z:c'=d
  ·subst z
   rw[e] at h4
   have h5:=aE h4
   injection h5 with h5
   exact absurd h5 (n qual)
  ·rw[az z]
   exact h4
theorem zy (T:Txt K mg){A:dZ}{tB tC:Addr}(G:jz K mg A)(DB:qb K mg "bills_in_order" (top 17) tB)(DC:qb K mg "credits_in_order" (top 18) tC)(jc:tB≠tC)(hnd:A.iY≠A.tooMuch)(KB:K.In base)(BM:BMain mg base):uS P w K mg base "done_again" 8 ["kept"] (EJ A K tB tC):=by
 have Dq:uS P w K mg base "done" 7 ["work","deed"] (zw A K tB tC):=Jp T G DB DC jc KB BM
 have Dh:tf P w K mg base "Work" A.work 1 ["self"] (y7 A):=IW G
 refine Ol (k:=7) T.yB oV (fun f cX A' outer s H vs Q E hr me h=>?_)
 ·obtain⟨pk,ss,bc,rfl,hk,hK,hl,hfb,ke,jK,k1,k2⟩:=h
  have nd:=oV.nd
  refine⟨_,(ah (sv 1 nd (IE Dh (hr.mono (by decide)) rfl))
(ah (K9 me.own rfl (pv 0) (gn 2 nd)
(av (AB me rfl rfl G.uR G.pL (show mg "Needed"≠some (.ref A.tooMuch) from fun z=>hnd (by rw[G.xD] at z; injection z with z; injection z)) (Gk T G) (hr.h.mono (by decide)) rfl (fun xe pn E hx=>av (bM (rP Dq (hr.mono (by decide)) rfl hx (aa (pv 1) (aa (pv 2) ak))))))))
(av (a9 (pv 1))))),?_⟩
  intro xw WJ LD OL ne
  have s1:=lA (C:=A.work) (fs:=[]) LD OL ne
  refine⟨xw,WJ,rfl,ag,fun g H1 F1 W1 nf=>⟨rfl,?_⟩⟩
  have fg: ∀b∈g.fp,H b=none:=fun b hb=>s1.free (nf b hb)
  have S1:aG H H1:=fun b o e=>F1 b o (by simpa using aL e LD) (s1 b o e)
  clear F1 nf s1
  refine⟨_,rfl,?_⟩
  have GK:=S1 _ _ hk
  have hlen:=aW hK
  refine Iy (td:=fun _ _ _=>True) GK fun φ hφ=>⟨fun i σ H2=> ∃(S:Bk) (f:eL) (x2:Option V),σ=[some (.ref pk),some (.ref xw),x2]/\cF (ss.take i) Bk.new=some S/\dG A H2 xw S f/\(∀b∈f.fp,H b=none)/\Frame [tB,tC,pk] H H2/\H2 pk=some (.ext φ)/\lE H2 tB/\l5 H2 tC,?_,?_,?_,?_⟩
  ·have ext: ∀a∈[pk],∀φ,H1 a≠some (.ext φ):=fun a ha φ e=>by
    rw[ao.mp ha,GK] at e
    cases e
   have nB:tB∉[pk]:=fun z=>by
    obtain⟨ps,q⟩:=cU ke
    rw[ao.mp z,hk] at q
    cases q
   have nC:tC∉[pk]:=fun z=>by
    obtain⟨ps,q⟩:=cU jK
    rw[ao.mp z,hk] at q
    cases q
   exact⟨Bk.new,g,none,rfl,rfl,vn W1 GK (tR bc),fg,(S1.frame (fp:=[tB,tC,pk])).tr (Frame.upd (by simp)),ag,fY (bR ke S1) (Frame.upd (fp:=[pk]) (by simp)) nB ext,fY (bR jK S1) (Frame.upd (fp:=[pk]) (by simp)) nC ext⟩
  ·rintro i σ H2 ⟨S,f,x2,_,_,_,_,_,e,_⟩
   exact e
  ·rintro i x σ H2 hx ⟨S,f,x2,rfl,hw,hW,hf,F2,e2,ji,kq⟩
   rw[aD] at hx
   obtain⟨kv,T8,rfl⟩:=bH.mp hx
   have hi:i < ss.length:=by have:=(au.mp T8).1; lia
   have oP:=af hi
   obtain⟨kv',SW,ek,pd,epd,G1,ht⟩:=bO hK oP
   rw[T8] at SW
   obtain rfl:kv=kv':=aE SW
   generalize ss[i]=st at oP ek G1 ht
   obtain⟨sn,d⟩:=st
   rw[epd]
   have Oz:H2 pd=some (.tup (bD.vs d)):=F2 _ _ (fun z=>by
    simp only[List.mem_cons,List.not_mem_nil,or_false] at z
    rcases z with z|z|z
    ·obtain⟨ps,q⟩:=cU ke
     rw[← z,G1] at q
     cases q
    ·obtain⟨ps,q⟩:=cU jK
     rw[← z,G1] at q
     cases q
    ·rw[z,hk] at G1
     cases G1) G1
   have wf:WF S (0 + (ss.take i).length):=rM _ WF.new hw (by rw[bz]; lia)
   refine⟨_,rfl,_,rfl,xw,pd,S,f,_,d,rfl,hW,wf,(by rw[bz]; lia),ji,kq,Oz,ht,fun hb v f' H3 e3 F3 qU qV W3 _=>?_,fun hb=>?_⟩
   ·refine⟨S.enter d,f',_,rfl,BI hw oP hb,W3,(by rw[e3]; exact hf),F2.trans F3 (fun x hx=>?_),F3 _ _ (fun z=>?_) e2,qU,qV⟩
    ·rcases aw.mp hx with hx|hx
     ·exact .inl (by simp[hx])
     ·rcases aw.mp hx with hx|hx
      ·exact .inl (by simp[hx])
      ·exact .inr (hf x hx)
    ·rcases aw.mp z with z|z
     ·obtain⟨ps,q⟩:=cU ji
      rw[← z,e2] at q
      cases q
     ·rcases aw.mp z with z|z
      ·obtain⟨ps,q⟩:=cU kq
       rw[← z,e2] at q
       cases q
      ·have:=hf _ z
       rw[hk] at this
       cases this
   ·obtain⟨ef,ew⟩:=BH hw oP hb
    have et:S.bar d="too much":=(hfb.resolve_left (by rw[ef]; exact hb)).symm.trans ef |>.symm
    intro C hC hCt dx H3 s3 nd3 MI
    have TB:C=A.tooMuch:=hCt et
    refine⟨by rw[TB],fun Xf n2=>?_⟩
    have s4:=aG.new (o:= .xd [("text",.str "needed")]) n2
    have Jv:=s3.trans s4
    refine k2 ew A.iY Xf _ G.xE (F2.cS Jv) (bR ji Jv) (bR kq Jv) ?_ ag
    have SX:=s3.free n2
    cases e:H Xf with
    |none=>rfl
    |some o=>
     exfalso
     by_cases jH:Xf∈[tB,tC,pk]
     ·simp only[List.mem_cons,List.not_mem_nil,or_false] at jH
      rcases jH with z|z|z
      ·obtain⟨ps,q⟩:=cU ji
       rw[← z,SX] at q
       cases q
      ·obtain⟨ps,q⟩:=cU kq
       rw[← z,SX] at q
       cases q
      ·rw[z,e2] at SX
       cases SX
     ·have q:=F2 _ _ jH e
      rw[SX] at q
      cases q
  ·rintro σ H2 ⟨S,f,x2,rfl,hw,hW,hf,F2,e2,ji,kq⟩
   rw[← hlen,bb] at hw
   refine⟨_,rfl,k1 S hw xw f _ (fun b o hb e=>?_) (MN ji e2 hφ.2) (MN kq e2 hφ.2) (vn hW e2 (Js φ)) LD hf⟩
   by_cases z:b=pk
   ·subst z
    rw[hk] at e
    rw[ag]
    exact e
   ·rw[az z]
    exact F2 _ _ (by simp only[List.mem_cons,List.not_mem_nil,or_false,not_or] at hb ⊢; exact⟨hb.1,hb.2,z⟩) e
theorem O1 (pk pw qc:Addr):eD "work" (.ref qc) (eP pk pw)=eP pk qc:=by rfl
theorem O2 (pk tS pw:Addr):eD "kept" (.ref tS) (eP pk pw)=eP tS pw:=by rfl
def Jw (A:dZ)(K:PySem.W.Frag)(tB tC:Addr):Sp:=fun vs H Q E=> ∃(pb pk pw:Addr) (T:iW) (f:eL) (n:Nat) (m:Int),vs=[.ref pb,.int m]/\fN A H pb pk pw T f/\Good T n/\n<=59/\lE H tB/\l5 H tC/\
 (GI T.steps m=true-> ∀S,cF (T.steps.filter (cD m)) Bk.new=some S-> ∀tS qc f' H',Frame [tB,tC,pb] H H'->lE H' tB->l5 H' tC->fN A H' pb tS qc ⟨T.steps.filter (cD m),S⟩ f'->H tS=none->(∀b∈f'.fp,H b=none)->Q (.str "undone") H')/\
 (GI T.steps m=true->cF (T.steps.filter (cD m)) Bk.new=none->Xe A K tB tC [tB,tC] E "needed" H)/\(GI T.steps m=false->Xe A K tB tC [tB,tC] E "no setting" H)
theorem qX:aS ["self","number","kept"] ["self","number"] (ay (mem 29 2)):={}
theorem O3 (T:Txt K mg){A:dZ}{tB tC:Addr}(G:jz K mg A)(DB:qb K mg "bills_in_order" (top 17) tB)(DC:qb K mg "credits_in_order" (top 18) tC)(jc:tB≠tC)(hnd:A.iY≠A.tooMuch)(KB:K.In base)(BM:BMain mg base):gW (mv P w mg) P w K mg base A.book "undo" 9 ["self","number"] (Jw A K tB tC):=by
 have zz:uS P w K mg base "done_again" 8 ["kept"] (EJ A K tB tC):=zy T G DB DC jc hnd KB BM
 have Dr:gW rE P w K mg base A.book "in_force" 1 ["self","number"] (xP A):=Dp G
 refine qJ (k:=8) G.yS G.eE qX (fun f cX A' outer s H vs Q E hr me h=>?_)
 ·obtain⟨pb,pk,pw,TT,g,n,m,rfl,hB,hG,hn,ke,jK,k1,k2,k3⟩:=h
  have hu:=kz hr
  have nd:=qX.nd
  obtain⟨db,hb⟩:=hB.obj
  refine⟨_,(ah (bV (jL (gg (mY Dr (hr.mono (by decide)) mL (pv 0) (aa (pv 1) ak))))
(av (jU me (yW T G) (hr.h.mono (by decide)) rfl rfl))
bp)
(ah (sv 2 nd (fZ AL (by rfl) T.Oe (by rfl) (aa (b9 (pv 0) rfl) ak)))
(ah (bM (HF (pv 2) (pv 1) ⟨rfl,rfl,rfl,rfl⟩))
(ah (fQ (pv 0) (rP zz (hr.mono (by decide)) rfl me.pass (aa (pv 2) ak)) rfl)
(ah (fQ (pv 0) (pv 2) rfl)
(av (a9 aR))))))),?_⟩
  refine⟨_,rfl,pb,db,_,rfl,hb,BG _ _,_,rfl,pb,pk,pw,TT,g,n,m,rfl,hB,hG,fun H1 s1=>⟨_,rfl,?_⟩⟩
  refine cI (fun z=>?_) (fun z=>?_)
  ·have z':GI TT.steps m=false:=by simpa using z
   intro dx nn
   have s2:=s1.trans (aG.new (o:= .xd [("text",.str "no setting")]) nn)
   exact k3 z' A.jJ dx _ G.qE s2.frame (bR ke s2) (bR jK s2) (s1.free nn) ag
  have z':GI TT.steps m=true:=by simpa using z
  have ME:=hB.same s1
  obtain⟨bc,hk,hK⟩:=ME.kept
  have SV:=s1 _ _ hb
  refine⟨_,rfl,pb,_,db,_,_,rfl,SV,G.eE,G.gI,tP _ _,pk,bc,rfl,hk,fun p2 Zf=>?_⟩
  have s2:=aG.new (o:= .dK bc) Zf
  have xk:upd H1 p2 (.dK bc) p2=some (.dK bc):=ag
  have n2:H p2=none:=s1.free Zf
  have S2:=s1.trans s2
  have Zg:=hK.mono s2.tk
  generalize upd H1 p2 (.dK bc)=H2 at xk S2 Zg
  clear s2
  cases hv:gj bc (Sum.inl m:Key) with
  |none=>
   have:=BF (rT hK hv)
   rw[z'] at this
   cases this
  |some v=>
  refine⟨_,rfl,p2,rfl,.inl ⟨bc,.inl xk⟩,_,rfl,bc,(Sum.inl m:Key),v,xk,rfl,hv,?_⟩
  have Uv:=(xO (m:=m) Zg).mono (zx (u:= .dK (k8 bc (Sum.inl m:Key))) xk (tR bc))
  rw[← Ju hG.inc z'] at Uv
  have S3:aG H (upd H2 p2 (.dK (k8 bc (Sum.inl m:Key)))):=S2.dj n2
  have P0:upd H2 p2 (.dK (k8 bc (Sum.inl m:Key))) p2=some (.dK (k8 bc (Sum.inl m:Key))):=ag
  generalize upd H2 p2 (.dK (k8 bc (Sum.inl m:Key)))=H3 at Uv S3 P0
  have Ui:=a6 (cD m) TT.steps
  have OM:=hG.len
  have SY:(cF TT.steps Bk.new).isSome=true:=by rw[hG.w]; rfl
  refine⟨_,rfl,p2,_,_,rfl,P0,Uv,(by lia),NR m TT.steps (mR.refl Bk.new) SY,bR ke S3,bR jK S3,fun S hS qc f' H4 F4 pQ pS W4 npw nf4=>?_,fun hS=>?_⟩
  case refine_2=>
   intro C dx H4 hC F4 pQ pS nd4 hd4
   refine k2 z' hS C dx H4 hC ((S3.frame (fp:=[tB,tC])).trans F4 (fun x hx=>?_)) pQ pS (S3.free nd4) hd4
   simp only[List.mem_cons,List.not_mem_nil,or_false] at hx
   rcases hx with hx|hx|hx
   ·exact .inl (by simp[hx])
   ·exact .inl (by simp[hx])
   ·exact .inr (by rw[hx]; exact n2)
  have off: ∀a o,H3 a=some o->(∀ps,o≠ .mz ps)->a∉[tB,tC]:=fun a o e n1 z=>by
   simp only[List.mem_cons,List.not_mem_nil,or_false] at z
   rcases z with z|z
   ·obtain⟨ps,q⟩:=cU (bR ke S3)
    rw[z,q] at e
    exact n1 ps (aE e).symm
   ·obtain⟨ps,q⟩:=cU (bR jK S3)
    rw[z,q] at e
    exact n1 ps (aE e).symm
  have zA:=F4 _ _ (off _ _ (S3 _ _ hb) (fun _ z=>by cases z)) (S3 _ _ hb)
  have Uw:=F4 _ _ (off _ _ P0 (fun _ z=>by cases z)) P0
  have hK4:=Uv.mono (fun a xs e=>F4 _ _ (off _ _ e (fun _ z=>by cases z)) e)
  have F4':Frame [tB,tC,pb] H H4:=dH ((S3.frame (fp:=[tB,tC])).tr F4) (by simp)
  refine⟨_,rfl,pb,_,db,_,rfl,zA,G.eE,G.fT,(by show 2 < 1000; decide),?_⟩
  rw[O1]
  have e5:upd H4 pb (.ins A.book db (eP pk qc)) pb=some (.ins A.book db (eP pk qc)):=ag
  have S4:=xM A.book db pk pw
  have W5:=vn (u:= .ins A.book db (eP pk qc)) W4 zA S4
  have Zh:p2≠pb:=(aL hb n2).symm
  have P8:upd H4 pb (.ins A.book db (eP pk qc)) p2=some (.dK (k8 bc (Sum.inl m:Key))):=by rw[az Zh]; exact Uw
  have Zi:=hK4.mono (zx (u:= .ins A.book db (eP pk qc)) zA S4)
  have S5: ∀a∈[pb],∀φ,H4 a≠some (.ext φ):=fun a ha φ e=>by
   rw[ao.mp ha,zA] at e
   cases e
  have nB:tB∉[pb]:=fun z=>by
   obtain⟨ps,q⟩:=cU pQ
   rw[ao.mp z,zA] at q
   cases q
  have nC:tC∉[pb]:=fun z=>by
   obtain⟨ps,q⟩:=cU pS
   rw[ao.mp z,zA] at q
   cases q
  have Dl:lE (upd H4 pb (.ins A.book db (eP pk qc))) tB:=fY pQ (Frame.upd (fp:=[pb]) (by simp)) nB S5
  have Dm:l5 (upd H4 pb (.ins A.book db (eP pk qc))) tC:=fY pS (Frame.upd (fp:=[pb]) (by simp)) nC S5
  have F5:Frame [tB,tC,pb] H (upd H4 pb (.ins A.book db (eP pk qc))):=F4'.tr (Frame.upd (by simp))
  generalize upd H4 pb (.ins A.book db (eP pk qc))=H5 at e5 W5 P8 Zi Dl Dm F5
  refine⟨_,rfl,_,rfl,pb,_,db,_,rfl,e5,G.eE,G.gI,(by show 2 < 1000; decide),?_⟩
  rw[O2]
  have MO:=xM A.book db pk qc
  have S6: ∀a∈[pb],∀φ,H5 a≠some (.ext φ):=fun a ha φ e=>by
   rw[ao.mp ha,e5] at e
   cases e
  refine k1 z' S hS p2 qc f' _ (F5.tr (Frame.upd (by simp))) (fY Dl (Frame.upd (fp:=[pb]) (by simp)) nB S6) (fY Dm (Frame.upd (fp:=[pb]) (by simp)) nC S6) ⟨⟨db,ag⟩,⟨_,by rw[az Zh]; exact P8,Zi.mono (zx e5 MO)⟩,vn W5 e5 MO⟩ n2 (fun b hb=>S3.free (nf4 b hb))
def Dt.v:Dt->V
 | .int i=> .int i
 | .str s=> .str s
 | .bl b=> .bl b
 |_=> .en
def Dt.flat:Dt->Bool
 | .int _=>true
 | .str _=>true
 | .bl _=>true
 |_=>false
theorem vq {H:Hp}: ∀{ds:List Dt} {xs:List V},ds.all Dt.flat=true->iJ H ds xs->xs=ds.map Dt.v
 |[],_,_,h=>dW.mp h
 |d :: ds,_,hf,h=>by
  obtain⟨v,r,rfl,h1,h2⟩:=bX.mp h
  rw[List.all_cons,G7] at hf
  rw[vq hf.2 h2]
  cases d with
  |int i=>rw[eB.mp h1]; rfl
  |str s=>rw[gZ.mp h1]; rfl
  |bl b=>rw[qu.mp h1]; rfl
  |en=>cases hf.1
  |lst _=>cases hf.1
  |tup _=>cases hf.1
def rW (H:Hp)(pd:Addr):bD->Prop
 | .iy w dy l=> ∃pl,H pd=some (.tup [.str "ages",.str w,.int dy,.ref pl])/\H pl=some (.tup (l.map V.int))
 |d=>H pd=some (.tup (bD.vs d))
theorem EK {H:Hp}{d:bD}{v:V}(h:Rp H d.dt v): ∃pd,v= .ref pd/\rW H pd d:=by
 cases d with
 |iy w dy l=>
  obtain⟨a,xs,rfl,h1,h2⟩:=jO.mp h
  obtain⟨v1,r1,rfl,e1,h2⟩:=bX.mp h2
  obtain⟨v2,r2,rfl,e2,h2⟩:=bX.mp h2
  obtain⟨v3,r3,rfl,e3,h2⟩:=bX.mp h2
  obtain⟨v4,r4,rfl,e4,h2⟩:=bX.mp h2
  obtain rfl:=dW.mp h2
  obtain rfl:=gZ.mp e1
  obtain rfl:=gZ.mp e2
  obtain rfl:=eB.mp e3
  obtain⟨pl,ys,rfl,h4,h5⟩:=jO.mp e4
  have e5:=vq (by rw[List.all_map]; exact List.all_eq_true.mpr fun _ _=>rfl) h5
  rw[e5,fF] at h4
  exact⟨a,rfl,pl,h1,h4⟩
 |_=>
  obtain⟨a,xs,rfl,h1,h2⟩:=jO.mp h
  have e5:=vq (by rfl) h2
  rw[e5] at h1
  exact⟨a,rfl,h1⟩
theorem rW.mono {H H':Hp}{pd:Addr}{d:bD}(h:rW H pd d)(k:cK H H'):rW H' pd d:=by
 cases d with
 |iy w dy l=>
  obtain⟨pl,h1,h2⟩:=h
  exact⟨pl,k _ _ h1,k _ _ h2⟩
 |_=>exact k _ _ h
theorem lF {A:dZ}{H H':Hp}{pb pk pw:Addr}{T:iW}{f:eL}(h:fN A H pb pk pw T f)(k: ∀a o,H a=some o->(∀ps,o≠ .mz ps)->H' a=some o):fN A H' pb pk pw T f:=by
 obtain⟨db,hb⟩:=h.obj
 obtain⟨bc,k1,k2⟩:=h.kept
 have kt:cK H H':=fun a xs e=>k _ _ e (fun _ z=>by cases z)
 exact⟨⟨db,k _ _ hb (fun _ z=>by cases z)⟩,⟨bc,k _ _ k1 (fun _ z=>by cases z),k2.mono kt⟩,EI h.wk (fun a xs e=>k _ _ e (fun _ z=>by cases z)) (fun a C dx fs _ e=>k _ _ e (fun _ z=>by cases z)) kt⟩
theorem qY {H H':Hp}{fp:List Addr}{a:Addr}{o:HO}(F:Frame fp H H')(ht: ∀t∈fp,∃ps,H t=some (.mz ps))(e:H a=some o)(n: ∀ps,o≠ .mz ps):H' a=some o:=F _ _ (fun z=>by
 obtain⟨ps,q⟩:=ht a z
 rw[q] at e
 exact n ps (aE e).symm) e
theorem LR {d:bD}(h:d.tells=true):bD.word d≠"owed"/\bD.word d≠"free"/\bD.word d≠"ages"/\bD.word d≠"undo":=by
 cases d with
 |dQ _ _ _ _=>show("bill":Str)≠"owed"/\("bill":Str)≠"free"/\("bill":Str)≠"ages"/\("bill":Str)≠"undo"; decide +kernel
 |pZ _ _ _=>show("pay":Str)≠"owed"/\("pay":Str)≠"free"/\("pay":Str)≠"ages"/\("pay":Str)≠"undo"; decide +kernel
 |note _ _ _=>show("note":Str)≠"owed"/\("note":Str)≠"free"/\("note":Str)≠"ages"/\("note":Str)≠"undo"; decide +kernel
 |set _ _ _=>show("set":Str)≠"owed"/\("set":Str)≠"free"/\("set":Str)≠"ages"/\("set":Str)≠"undo"; decide +kernel
 |fJ _=>show("sweep":Str)≠"owed"/\("sweep":Str)≠"free"/\("sweep":Str)≠"ages"/\("sweep":Str)≠"undo"; decide +kernel
 |iM _=>cases h
 |ask _ _ _=>cases h
 |iy _ _ _=>cases h
def BJ (A:dZ)(tB tC:Addr):Sp:=fun vs H Q _=> ∃(pb pd pk pw:Addr) (T:iW) (f:eL) (n:Nat) (d:bD),vs=[.ref pb,.int n,.ref pd]/\fN A H pb pk pw T f/\Good T n/\n<=59/\lE H tB/\l5 H tC/\rW H pd d/\d.ok/\
 ∀v tS qc f' H',Frame (tB :: tC :: pb :: pk :: f.fp) H H'->lE H' tB->l5 H' tC->fN A H' pb tS qc (gi T n d).2 f'->(∀x∈tS :: f'.fp,x∈pk :: f.fp∨H x=none)->zj H' (fun D=>H D=none/\D∉tS :: f'.fp) (gi T n d).1 v->Q v H'
theorem qZ:aS ["book","number","deed","kind","refusal"] ["book","number","deed"] (ay (top 35)):={}
theorem BK (T:Txt K mg){A:dZ}{tB tC:Addr}(G:jz K mg A)(DB:qb K mg "bills_in_order" (top 17) tB)(DC:qb K mg "credits_in_order" (top 18) tC)(jc:tB≠tC)(hnd:A.iY≠A.tooMuch)(KB:K.In base)(BM:BMain mg base):fe P w K mg base "answer_of" 10 ["book","number","deed"] (BJ A tB tC):=by
 have O4:gW (mv P w mg) P w K mg base A.book "undo" 9 ["self","number"] (Jw A K tB tC):=O3 T G DB DC jc hnd KB BM
 have Xg:gW (mv P w mg) P w K mg base A.book "do" 8 ["self","number","deed"] (SU A K tB tC):=Xc T G DB DC jc KB BM
 have rR:fe P w K mg base "owed_at" 5 ["work","who","day"] (C9 A tB):=xJ T G DB KB BM
 have GL:fe P w K mg base "free_at" 5 ["work","who","day"] (Ja A tC):=Gz T G DC KB BM
 have GN:fe P w K mg base "ages_at" 6 ["work","who","day","limits"] (Jb A tB):=GA T G DB KB BM
 refine T.AD.fM (k:=9) qZ (fun f cX A' outer s H vs Q E hr h=>?_)
 ·obtain⟨pb,pd,pk,pw,TT,g,n,d,rfl,hB,hG,hn,ke,jK,hd,cB,k⟩:=h
  have nd:=qZ.nd
  refine⟨_,(ah (sv 3 nd (xt (pv 2) aj))
(ah (bV (a8 dg (pv 3) aR (ba _))
(av (a9 (fc rR hr (aa (b9 (pv 0) rfl) (aa (xt (pv 2) aj) (aa (xt (pv 2) aj) ak))))))
bp)
(ah (bV (a8 dg (pv 3) aR (ba _))
(av (a9 (fc GL hr (aa (b9 (pv 0) rfl) (aa (xt (pv 2) aj) (aa (xt (pv 2) aj) ak))))))
bp)
(ah (bV (a8 dg (pv 3) aR (ba _))
(av (a9 (fc GN hr (aa (b9 (pv 0) rfl) (aa (xt (pv 2) aj) (aa (xt (pv 2) aj) (aa (xt (pv 2) aj) ak)))))))
bp)
(av (FR (i:=4) rfl rfl rfl nd rfl rfl rfl G.fS G.CV (fun xe pn E hx=>(ah (bV (a8 dg (pv 3) aR (ba _))
(av (a9 (mY O4 (hr.mono (by decide)) hx (pv 0) (aa (js (tK (K:=K) rfl) (pv 2) aj (fun _ _=>rfl)) ak))))
bp)
(av (a9 (mY Xg (hr.mono (by decide)) hx (pv 0) (aa (pv 1) (aa (pv 2) ak))))))))))))),?_⟩
  obtain⟨db,hb⟩:=hB.obj
  have hW:=hB.wk
  have Jx: ∀t∈[tB,tC],∃ps,H t=some (.mz ps):=fun t z=>by
   simp only[List.mem_cons,List.not_mem_nil,or_false] at z
   rcases z with rfl|rfl
   ·exact cU ke
   ·exact cU jK
  have big: ∀x∈[tB,tC],x∈tB :: tC :: pb :: pk :: g.fp:=fun x z=>by
   simp only[List.mem_cons,List.not_mem_nil,or_false] at z
   rcases z with rfl|rfl <;> simp
  have S7: ∀a∈[tB],∀φ,H a≠some (.ext φ):=fun a ha φ e=>by
   obtain⟨ps,q⟩:=cU ke
   rw[ao.mp ha,q] at e
   cases e
  have Xh: ∀a∈[tC],∀φ,H a≠some (.ext φ):=fun a ha φ e=>by
   obtain⟨ps,q⟩:=cU jK
   rw[ao.mp ha,q] at e
   cases e
  obtain⟨bc,hk,hK⟩:=hB.kept
  have Mv: ∀D,H D=none->D∉pk :: g.fp:=fun D e z=>by
   rcases aw.mp z with z|z
   ·rw[z,hk] at e
    cases e
   ·exact hW.new e z
  have wf:=hG.wf (by lia:n<=60)
  by_cases ht:d.tells=true
  ·have Fc:H pd=some (.tup (bD.vs d)):=by cases d <;> first|exact hd|cases ht
   obtain⟨r,er⟩:=tO (.inl ht)
   have Ug:H pd=some (.tup (.str (bD.word d) :: r)):=by rw[← er]; exact Fc
   obtain⟨w1,w2,w3,w4⟩:=LR ht
   rw[u6 ht] at k
   refine⟨_,rfl,pd,_,_,.str (bD.word d),rfl,rfl,cG.of Ug,Jq _ _,?_⟩
   refine⟨_,rfl,rfl,false,jC w1,cg ?_⟩
   refine⟨_,rfl,rfl,false,jC w2,cg ?_⟩
   refine⟨_,rfl,rfl,false,jC w3,cg ?_⟩
   refine⟨_,rfl,rfl,false,jC w4,cg ⟨_,rfl,pb,db,_,rfl,hb,SS _ _,_,rfl,_,rfl,pb,pd,pk,pw,TT,g,n,d,rfl,hB,hG,hn,ke,jK,Fc,ht,fun oC v f1 H1 e1 F1 jq j8 ME hA=>?_,fun oC=>?_⟩⟩
   ·rw[a7 oC] at k
    refine k v pk pw f1 H1 (dH F1 fun x z=>?_) jq j8 ME (by rw[e1]; exact fun x hx=> .inl hx) (hA.keep (fun D xs o e=>⟨⟨o,by rw[e1]; exact Mv D o⟩,e⟩) fun _ _ e=>e)
    rcases aw.mp z with z|z
    ·simp[z]
    ·rcases aw.mp z with z|z
     ·simp[z]
     ·rcases aw.mp z with z|z
      ·simp[z]
      ·simp[z]
   ·rw[aO oC] at k
    intro C hC _ dx H1 s1 IF B4
    exact⟨C,dx,_,rfl,rfl,hC,B4,k _ pk pw g H1 s1.frame (bR ke s1) (bR jK s1) (hB.same s1) (fun x hx=> .inl hx) rfl⟩
  cases d with
  |dQ _ _ _ _=>exact absurd rfl ht
  |pZ _ _ _=>exact absurd rfl ht
  |note _ _ _=>exact absurd rfl ht
  |set _ _ _=>exact absurd rfl ht
  |fJ _=>exact absurd rfl ht
  |ask o wh dy=>
   have hd:H pd=some (.tup (bD.vs (.ask o wh dy))):=hd
   cases o with
   |true=>
    refine⟨_,rfl,pd,_,_,.str "owed",rfl,rfl,cG.of hd,rfl,?_⟩
    refine⟨_,rfl,rfl,true,zR _,fC ⟨_,rfl,pb,_,db,_,_,rfl,hb,G.eE,G.fT,qS _ _,_,rfl,pd,_,_,.str wh,rfl,rfl,cG.of hd,rfl,_,rfl,pd,_,_,.int dy,rfl,rfl,cG.of hd,rfl,pw,TT.bk,g,n,wh,dy,rfl,hW,wf,(by lia),ke,fun D ms H1 F1 jq nD hD hP=>?_⟩⟩
    have F2:Frame [tB,tC] H H1:=dH F1 (by simp)
    exact k _ pk pw g H1 (dH F2 big) jq (fY jK F1 (by simpa using jc.symm) S7) (lF hB fun a o e z=>qY F2 Jx e z) (fun x hx=> .inl hx) ⟨D,ms,rfl,⟨nD,Mv D nD⟩,hD,hP⟩
   |false=>
    refine⟨_,rfl,pd,_,_,.str "free",rfl,rfl,cG.of hd,rfl,?_⟩
    refine⟨_,rfl,rfl,false,jC (show("free":Str)≠"owed" by decide +kernel),cg ?_⟩
    refine⟨_,rfl,rfl,true,zR _,fC ⟨_,rfl,pb,_,db,_,_,rfl,hb,G.eE,G.fT,qS _ _,_,rfl,pd,_,_,.str wh,rfl,rfl,cG.of hd,rfl,_,rfl,pd,_,_,.int dy,rfl,rfl,cG.of hd,rfl,pw,TT.bk,g,n,wh,dy,rfl,hW,wf,(by lia),jK,fun D ms H1 F1 j8 nD hD hP=>?_⟩⟩
    have F2:Frame [tB,tC] H H1:=dH F1 (by simp)
    exact k _ pk pw g H1 (dH F2 big) (fY ke F1 (by simpa using jc) Xh) j8 (lF hB fun a o e z=>qY F2 Jx e z) (fun x hx=> .inl hx) ⟨D,ms,rfl,⟨nD,Mv D nD⟩,hD,hP⟩
  |iy wh dy di=>
   obtain⟨pl,hd,iw⟩:=hd
   refine⟨_,rfl,pd,_,_,.str "ages",rfl,rfl,cG.of hd,rfl,?_⟩
   refine⟨_,rfl,rfl,false,jC (show("ages":Str)≠"owed" by decide +kernel),cg ?_⟩
   refine⟨_,rfl,rfl,false,jC (show("ages":Str)≠"free" by decide +kernel),cg ?_⟩
   refine⟨_,rfl,rfl,true,zR _,fC ⟨_,rfl,pb,_,db,_,_,rfl,hb,G.eE,G.fT,qS _ _,_,rfl,pd,_,_,.str wh,rfl,rfl,cG.of hd,rfl,_,rfl,pd,_,_,.int dy,rfl,rfl,cG.of hd,rfl,_,rfl,pd,_,_,.ref pl,rfl,rfl,cG.of hd,rfl,pw,pl,TT.bk,g,n,wh,dy,di,rfl,hW,wf,(by lia),ke,iw,cB.1,fun D H1 F1 jq nD hD=>?_⟩⟩
   have F2:Frame [tB,tC] H H1:=dH F1 (by simp)
   exact k _ pk pw g H1 (dH F2 big) jq (fY jK F1 (by simpa using jc.symm) S7) (lF hB fun a o e z=>qY F2 Jx e z) (fun x hx=> .inl hx) ⟨D,rfl,⟨nD,Mv D nD⟩,hD⟩
  |iM m=>
   have hd:H pd=some (.tup (bD.vs (.iM m))):=hd
   refine⟨_,rfl,pd,_,_,.str "undo",rfl,rfl,cG.of hd,rfl,?_⟩
   refine⟨_,rfl,rfl,false,jC (show("undo":Str)≠"owed" by decide +kernel),cg ?_⟩
   refine⟨_,rfl,rfl,false,jC (show("undo":Str)≠"free" by decide +kernel),cg ?_⟩
   refine⟨_,rfl,rfl,false,jC (show("undo":Str)≠"ages" by decide +kernel),cg ?_⟩
   have Xi:gi TT n (.iM m)=if(TT.steps.filter (cD m)).length=TT.steps.length then(JP.txt "no setting",TT) else
     match cF (TT.steps.filter (cD m)) Bk.new with
     |none=>(.txt "needed",TT)
     |some S=>(.txt "undone",⟨TT.steps.filter (cD m),S⟩):=rfl
   refine⟨_,rfl,rfl,true,zR _,fC ⟨_,rfl,pb,db,_,rfl,hb,LQ _ _,_,rfl,pd,_,_,.int m,rfl,rfl,cG.of hd,rfl,pb,pk,pw,TT,g,n,m,rfl,hB,hG,hn,ke,jK,fun hF S hS tS qc f' H1 F1 jq j8 ME nk nf=>?_,fun hF hS=>?_,fun hF=>?_⟩⟩
   ·have Ud: ¬ (TT.steps.filter (cD m)).length=TT.steps.length:=fun z=>by
     rw[(pT _ _).mp z] at hF
     cases hF
    rw[Xi,aO Ud,hS] at k
    refine k _ tS qc f' H1 (dH F1 (fun x z=>?_)) jq j8 ME (fun x hx=> .inr ?_) rfl
    ·simp only[List.mem_cons,List.not_mem_nil,or_false] at z
     rcases z with rfl|rfl|rfl <;> simp
    ·rcases aw.mp hx with hx|hx
     ·rw[hx]; exact nk
     ·exact nf x hx
   ·have Ud: ¬ (TT.steps.filter (cD m)).length=TT.steps.length:=fun z=>by
     rw[(pT _ _).mp z] at hF
     cases hF
    rw[Xi,aO Ud,hS] at k
    intro C dx H1 hC F1 jq j8 IF B4
    exact⟨C,dx,_,rfl,rfl,hC,B4,k _ pk pw g H1 (dH F1 big) jq j8 (lF hB fun a o e z=>qY F1 Jx e z) (fun x hx=> .inl hx) rfl⟩
   ·rw[Xi,a7 ((pT _ _).mpr hF)] at k
    intro C dx H1 hC F1 jq j8 IF B4
    exact⟨C,dx,_,rfl,rfl,hC,B4,k _ pk pw g H1 (dH F1 big) jq j8 (lF hB fun a o e z=>qY F1 Jx e z) (fun x hx=> .inl hx) rfl⟩
theorem xQ (d:bD): ∀(l:List bD) (T:iW) (n:Nat),gS (l ++ [d]) T n=((gS l T n).1 ++ [(gi (gS l T n).2 ((n + l.length:Nat):Int) d).1],(gi (gS l T n).2 ((n + l.length:Nat):Int) d).2)
 |[],T,n=>rfl
 |e :: l,T,n=>by
  show((gi T n e).1 :: (gS (l ++ [d]) (gi T n e).2 (n + 1)).1,(gS (l ++ [d]) (gi T n e).2 (n + 1)).2)=_
  rw[xQ d l,show n + 1 + l.length=n + (e :: l).length by rw[cf]; lia]
  rfl
theorem xR {ds:List bD}{i:Nat}(hi:i < ds.length):gS (ds.take (i + 1)) iW.new 0=((gS (ds.take i) iW.new 0).1 ++ [(gi (gS (ds.take i) iW.new 0).2 (i:Int) ds[i]).1],(gi (gS (ds.take i) iW.new 0).2 (i:Int) ds[i]).2):=by
 rw[l9 hi,xQ,bz,Nat.zero_add,Nat.min_eq_left (dk hi)]
theorem GO {A:dZ}{H:Hp}{pb pk pw pt:Addr}{T:iW}{f:eL}{ws:List V}{o:HO}(h:fN A H pb pk pw T f)(e:H pt=some (.lst ws))(n:pt∉f.fp):fN A (upd H pt o) pb pk pw T f:=by
 obtain⟨db,hb⟩:=h.obj
 obtain⟨bc,k1,k2⟩:=h.kept
 have kt:cK H (upd H pt o):=gu e
 have ki: ∀{a C dx:Addr} {gs:List (Str×V)},H a=some (.ins C dx gs)->upd H pt o a=some (.ins C dx gs):=fun{a C dx gs} z=>by rw[az (ma z e (by intro q; cases q))]; exact z
 have kl: ∀p∈f.fp,∀xs,H p=some (.lst xs)->upd H pt o p=some (.lst xs):=fun p hp xs z=>by rw[az (fun(q:p=pt)=>n (q▸hp))]; exact z
 obtain⟨dw,hw⟩:=h.wk.obj
 obtain⟨ms,m1,m2⟩:=h.wk.hm
 have hW:=h.wk
 exact⟨⟨db,ki hb⟩,⟨bc,by rw[az (ma k1 e (by intro q; cases q))]; exact k1,k2.mono kt⟩,
  ⟨⟨dw,ki hw⟩,kl _ (by simp[eL.fp]) _ hW.hb,kl _ (by simp[eL.fp]) _ hW.hc,kl _ (by simp[eL.fp]) _ hW.hl,kl _ (by simp[eL.fp]) _ hW.hf,⟨ms,kl _ (by simp[eL.fp]) _ m1,m2.mono kt⟩,hW.rb.keep fun _ _ _ z=>ki z,hW.rc.keep fun _ _ _ z=>ki z,hW.nd⟩⟩
theorem EL {A:dZ}{H:Hp}{pb pk pw tB tC a:Addr}{T:iW}{f:eL}(h:fN A H pb pk pw T f)(ke:lE H tB)(jK:l5 H tC)(z:a∈tB :: tC :: pb :: pk :: f.fp):(∃ps,H a=some (.mz ps))∨(∃C dx fs,H a=some (.ins C dx fs))∨(∃bc,H a=some (.dK bc))∨(∃xs,H a=some (.lst xs))/\a∈f.fp:=by
 rcases aw.mp z with rfl|z
 ·exact .inl (cU ke)
 rcases aw.mp z with rfl|z
 ·exact .inl (cU jK)
 rcases aw.mp z with rfl|z
 ·obtain⟨db,hb⟩:=h.obj
  exact .inr (.inl ⟨_,_,_,hb⟩)
 rcases aw.mp z with rfl|z
 ·obtain⟨bc,k1,_⟩:=h.kept
  exact .inr (.inr (.inl ⟨_,k1⟩))
 ·exact .inr (.inr (.inr ⟨h.wk.lists a z,z⟩))
theorem Jy {A:dZ}{H H':Hp}{pb pk pw tB tC:Addr}{T:iW}{f:eL}(h:fN A H pb pk pw T f)(ke:lE H tB)(jK:l5 H tC)(F:Frame (tB :: tC :: pb :: pk :: f.fp) H H'):cK H H':=fun a xs e=>F _ _ (fun z=>by
 rcases EL h ke jK z with⟨_,q⟩|⟨_,_,_,q⟩|⟨_,q⟩|⟨⟨_,q⟩,_⟩ <;> (rw[e] at q; cases q)) e
theorem Ds {A:dZ}{H H':Hp}{pb pk pw tB tC a:Addr}{T:iW}{f:eL}{xs:List V}(h:fN A H pb pk pw T f)(ke:lE H tB)(jK:l5 H tC)(F:Frame (tB :: tC :: pb :: pk :: f.fp) H H')(e:H a=some (.lst xs))(n:a∉pk :: f.fp):H' a=some (.lst xs):=F _ _ (fun z=>by
 rcases EL h ke jK z with⟨_,q⟩|⟨_,_,_,q⟩|⟨_,q⟩|⟨_,q⟩
 ·rw[e] at q; cases q
 ·rw[e] at q; cases q
 ·rw[e] at q; cases q
 ·exact n (aU _ q)) e
def EM (A:dZ)(tB tC:Addr):Sp:=fun vs H Q _=> ∃(pb pk pw ps:Addr) (f:eL) (ds:List bD) (ms:List V),vs=[.ref pb,.ref ps]/\fN A H pb pk pw iW.new f/\H ps=some (.lst ms)/\ps∉f.fp/\gT H ds ms/\ds.length<=60/\(∀d∈ds,d.ok)/\lE H tB/\l5 H tC/\
 ∀pt ws tS qc f' H',Frame (tB :: tC :: pb :: pk :: f.fp) H H'->lE H' tB->l5 H' tC->H pt=none->H' pt=some (.lst ws)->Paired (zj H' (fun D=>D≠pt/\(D∈pk :: f.fp∨H D=none))) (gS ds iW.new 0).1 ws->fN A H' pb tS qc (gS ds iW.new 0).2 f'->Q (.ref pt) H'
theorem oW:aS ["book","deeds","told","number","deed"] ["book","deeds"] (ay (top 34)):={}
theorem gT.get {H:Hp}{i:Nat}: ∀{ds:List bD} {ms:List V},gT H ds ms-> ∀{d:bD},ds[i]? =some d-> ∃v,ms[i]? =some v/\Rp H d.dt v:=fun{ds ms} h {d} e=>iJ.get h (by rw[aD,e]; rfl)
theorem zB (T:Txt K mg){A:dZ}{tB tC:Addr}(G:jz K mg A)(DB:qb K mg "bills_in_order" (top 17) tB)(DC:qb K mg "credits_in_order" (top 18) tC)(jc:tB≠tC)(hnd:A.iY≠A.tooMuch)(KB:K.In base)(BM:BMain mg base):fe P w K mg base "answers_in" 11 ["book","deeds"] (EM A tB tC):=by
 have BL:fe P w K mg base "answer_of" 10 ["book","number","deed"] (BJ A tB tC):=BK T G DB DC jc hnd KB BM
 refine T.yC.fM (k:=10) oW (fun f cX A' outer s H vs Q E hr h=>?_)
 ·obtain⟨pb,pk,pw,ps,g,ds,ms,rfl,hB,mO,Ez,Jz,hl,cB,ke,jK,k⟩:=h
  have nd:=oW.nd
  refine⟨_,(ah (sv 2 nd (bW ak))
(ah (fH bT rfl (qr rfl T.jf (aa (pv 1) ak)) (iT rfl (ck (gn 3 nd) (ck (gn 4 nd) gG)))
(av (bM (fk aJ aH aI bU (pv 2) (aa (fc BL hr (aa (pv 0) (aa (pv 3) (aa (pv 4) ak)))) ak)))))
(av (a9 (pv 2))))),?_⟩
  refine⟨bB _,fun pt nt=>?_⟩
  have s1:=aG.new (o:= .lst []) nt
  have hlen:=gT.length Jz
  obtain⟨bc,hk,_⟩:=hB.kept
  have Zj:ps∉pk :: g.fp:=fun z=>by
   rcases aw.mp z with z|z
   ·rw[z,hk] at mO
    cases mO
   ·exact Ez z
  have ntk:pt∉pk :: g.fp:=fun z=>by
   rcases aw.mp z with z|z
   ·rw[z,hk] at nt
    cases nt
   ·exact hB.wk.new nt z
  refine⟨_,rfl,ps,rfl,⟨_,bL.of (s1 _ _ mO)⟩,?_⟩
  refine mM (K:=K) (a:=ps) (xs:=ms) (fun i σ H2=> ∃(x3 x4:Option V) (tS qc:Addr) (f':eL) (ws:List V),σ=[some (.ref pb),some (.ref ps),some (.ref pt),x3,x4]/\Frame (tB :: tC :: pb :: pk :: g.fp) H H2/\H2 pt=some (.lst ws)/\fN A H2 pb tS qc (gS (ds.take i) iW.new 0).2 f'/\Good (gS (ds.take i) iW.new 0).2 i/\(∀x∈tS :: f'.fp,(x∈pk :: g.fp∨H x=none)/\x≠pt)/\lE H2 tB/\l5 H2 tC/\Paired (zj H2 (fun D=>D≠pt/\D∉tS :: f'.fp/\(D∈pk :: g.fp∨H D=none))) (gS (ds.take i) iW.new 0).1 ws)
   ⟨none,none,pk,pw,g,[],rfl,s1.frame,ag,hB.same s1,Good.new,fun x hx=>⟨.inl hx,fun z=>ntk (z▸hx)⟩,bR ke s1,bR jK s1,.nil⟩ (fun i σ H2 _ ⟨_,_,_,_,_,_,_,f2,_⟩=>bL.of (Ds hB ke jK f2 mO Zj)) ?_ ?_
  ·rintro i x p σ H2 hx hp ⟨x3,x4,tS,qc,f',ws,rfl,F2,B7,Ex,LK,Ux,ji,kq,LH⟩
   have hi:i < ds.length:=by have:=(au.mp hx).1; lia
   have oP:=af hi
   obtain⟨v',hv,Wa⟩:=gT.get Jz oP
   rw[hx] at hv
   obtain rfl:x=v':=aE hv
   obtain⟨pd,rfl,hd⟩:=EK Wa
   have hd2:=hd.mono (Jy hB ke jK F2)
   have LS:=cB _ (bJ hi)
   have Uy:=xR hi
   have oR:Good (gi (gS (ds.take i) iW.new 0).2 (i:Int) ds[i]).2 (i + 1):=LK.step ds[i]
   rw[Uy]
   generalize ds[i]=d at hd2 LS oR
   have BY:(gS (ds.take i) iW.new 0).1.length<=100:=by rw[sC,bz]; lia
   generalize gS (ds.take i) iW.new 0=R at Ex LK LH oR BY
   have s3:=aG.new (o:= .tup [.int i,.ref pd]) hp
   refine⟨p,_,rfl,cG.of ag,rfl,_,_,rfl,_,_,rfl,rfl,?_⟩
   have F3:=F2.cS s3
   have JA:=s3 _ _ B7
   have JB:=Ex.same s3
   have qU:lE _ tB:=bR ji s3
   have qV:l5 _ tC:=bR kq s3
   have MI:=hd2.mono s3.tk
   have Xj:Paired (zj (upd H2 p (.tup [.int i,.ref pd])) (fun D=>D≠pt/\D∉tS :: f'.fp/\(D∈pk :: g.fp∨H D=none))) R.1 ws:=Paired.iS LH fun _ _ z=>z.keep (fun D xs o e=>⟨o,s3 _ _ e⟩) s3.tk
   generalize upd H2 p (.tup [.int i,.ref pd])=H3 at F3 JA JB qU qV MI Xj
   have DU:=aW Xj
   refine⟨_,rfl,.inl ⟨rfl,_,bL.of JA⟩,_,rfl,_,rfl,_,rfl,pb,pd,tS,qc,R.2,f',i,d,rfl,JB,LK,(by lia),qU,qV,MI,LS,fun v Zk pw2 f2 H4 F4 pQ pS hB4 jH hA4=>?_⟩
   have Xk:pt∉tS :: f'.fp:=fun z=>(Ux pt z).2 rfl
   have vj:=Ds JB qU qV F4 JA Xk
   have kt4:=Jy JB qU qV F4
   refine⟨pt,ws,v,rfl,rfl,vj,bh (by lia),?_⟩
   have frees: ∀x,H3 x=none->x∈pk :: g.fp∨H x=none:=fun x h1=>by
    by_cases q:x∈pk :: g.fp
    ·exact .inl q
    ·right
     cases e:H x with
     |none=>rfl
     |some o=>
      exfalso
      by_cases q2:x∈tB :: tC :: pb :: pk :: g.fp
      ·rcases aw.mp q2 with q2|q2
       ·obtain⟨_,z⟩:=cU qU
        rw[← q2,h1] at z
        cases z
       rcases aw.mp q2 with q2|q2
       ·obtain⟨_,z⟩:=cU qV
        rw[← q2,h1] at z
        cases z
       rcases aw.mp q2 with q2|q2
       ·obtain⟨_,z⟩:=JB.obj
        rw[← q2,h1] at z
        cases z
       exact q q2
      ·have z:=F3 _ _ q2 e
       rw[h1] at z
       cases z
   have S8: ∀x∈Zk :: f2.fp,(x∈pk :: g.fp∨H x=none)/\x≠pt:=fun x hx=>by
    rcases jH x hx with h1|h1
    ·exact Ux x h1
    ·exact⟨frees x h1,fun z=>by rw[z,JA] at h1; cases h1⟩
   have Xl:pt∉f2.fp:=fun z=>(S8 pt (aU _ z)).2 rfl
   have S9: ∀a∈[pt],∀φ,H4 a≠some (.ext φ):=fun a ha φ e=>by
    rw[ao.mp ha,vj] at e
    cases e
   have nB:tB∉[pt]:=fun z=>by
    obtain⟨_,q⟩:=cU pQ
    rw[ao.mp z,vj] at q
    cases q
   have nC:tC∉[pt]:=fun z=>by
    obtain⟨_,q⟩:=cU pS
    rw[ao.mp z,vj] at q
    cases q
   have F34:Frame (tB :: tC :: pb :: pk :: g.fp) H (upd H4 pt (.lst (ws ++ [v]))):=(F3.trans F4 fun x hx=>by
    rcases aw.mp hx with hx|hx
    ·exact .inl (by simp[hx])
    rcases aw.mp hx with hx|hx
    ·exact .inl (by simp[hx])
    rcases aw.mp hx with hx|hx
    ·exact .inl (by simp[hx])
    rcases(Ux x hx).1 with h1|h1
    ·exact .inl (by simp[List.mem_cons.mp h1])
    ·exact .inr h1).trans (Frame.upd (fp:=[pt]) (by simp)) (fun x hx=> .inr (by rw[List.mem_singleton.mp hx]; exact nt))
   refine⟨_,_,Zk,pw2,f2,ws ++ [v],rfl,F34,ag,GO hB4 vj Xl,oR,S8,fY pQ (Frame.upd (fp:=[pt]) (by simp)) nB S9,fY pS (Frame.upd (fp:=[pt]) (by simp)) nC S9,?_⟩
   have Zl:=gu (o:= .lst (ws ++ [v])) vj
   refine cL (Paired.iS Xj fun _ _ z=>z.keep (fun D xs o e=>?_) (kt4.trans Zl)) (hA4.keep (fun D xs o e=>?_) Zl)
   ·have e4:=Ds JB qU qV F4 e o.2.1
    refine⟨⟨o.1,fun q=>?_,o.2.2⟩,by rw[az o.1]; exact e4⟩
    rcases jH D q with h1|h1
    ·exact o.2.1 h1
    ·rw[e] at h1
     cases h1
   ·have nD:D≠pt:=fun z=>by
     have:=o.1
     rw[z,JA] at this
     cases this
    exact⟨⟨nD,o.2,frees D o.1⟩,by rw[az nD]; exact e⟩
  ·rintro σ H2 ⟨x3,x4,tS,qc,f',ws,rfl,F2,B7,Ex,LK,Ux,ji,kq,LH⟩
   rw[← hlen,bb] at LH Ex
   refine⟨_,rfl,k pt ws tS qc f' H2 F2 ji kq nt B7 (Paired.iS LH fun _ _ z=>z.keep (fun D xs o e=>⟨⟨o.1,o.2.2⟩,e⟩) fun _ _ e=>e) Ex⟩
def O5 (K:PySem.W.Frag):Sp:=fun vs H Q _=> ∃(a:Addr) (xs:List V) (m b:Int),vs=[.ref a,.int m,.int b]/\bL K H a xs/\xs.length<=63/\Q (.int m) H
def EN:Sp:=fun vs H Q _=> ∃d v,vs=[v]/\Rp H d v/\Q (.bl (isW d)) H
theorem zC:aS ["_law_script","_law_most","_law_bound"] ["_law_script","_law_most","_law_bound"] (ay (top 43)):={}
theorem BN (T:Txt K mg):fe P w K mg base "_law_room" 1 ["_law_script","_law_most","_law_bound"] (O5 K):=by
 refine T.AF.fM (k:=0) zC (fun f cX A outer s H vs Q E hr h=>?_)
 ·obtain⟨a,xs,m,b,rfl,hS,hz,k⟩:=h
  refine⟨_,(ah (bV (a8 jr (bo bq (by rfl) T.eT bu (aa (pv 0) ak)) aj (ba _))
   (av (a9 (pv 2)))
   bp)
   (av (a9 (pv 1)))),?_⟩
  refine⟨_,rfl,a,xs,rfl,.inl hS,_,_,rfl,rfl,_,rfl,?_⟩
  refine cI (fun c=>?_) (fun c=>?_)
  ·have c':(63:Int) < (xs.length:Int):=aZ c
   lia
  ·exact⟨_,rfl,k⟩
theorem wL:aS ["_law_found"] ["_law_found"] (ay (top 45)):={}
theorem zD (T:Txt K mg):fe P w K mg base "_law_whole" 1 ["_law_found"] EN:=by
 refine T.yD.fM (k:=0) wL (fun f cX A outer s H vs Q E hr h=>?_)
 ·obtain⟨d,v,rfl,r,k⟩:=h
  refine⟨_,(av (a9 (o9 (bo fu (by rfl) T.dF eR (aa (pv 0) (aa (gY (v:= .ty "int") (by rfl) T.xA boot_int rfl) ak))) (mC (Nc (bo fu (by rfl) T.dF eR (aa (pv 0) (aa (gY (v:= .ty "bool") (by rfl) T.Od boot_bool rfl) ak)))))))),?_⟩
  refine⟨_,rfl,v,_,_,Ye d,rfl,r.ty,Q4 d,_,rfl,?_⟩
  cases d with
  |int i=>exact fC ⟨_,rfl,v,_,_,false,rfl,r.ty,Mp (.int i),_,rfl,k⟩
  |bl i=>exact fC ⟨_,rfl,v,_,_,true,rfl,r.ty,Mp (.bl i),_,rfl,k⟩
  |en=>exact cg k
  |str x=>exact cg k
  |tup ds=>exact cg k
  |lst ds=>exact cg k
def LU:Sp:=fun vs H Q _=> ∃d v1 v2,vs=[v1,v2]/\Rp H d v1/\Rp H d v2/\d.size<=100000/\d.plain=true/\ ∀H',aG H H'->Q (.bl true) H'
theorem oX:aS ["_law_found","_law_due","_law_todo","_law_pair","_law_k"] ["_law_found","_law_due"] (ay (top 46)):={}
theorem zE (T:Txt K mg):fe P w K mg base "_law_alike" 2 ["_law_found","_law_due"] LU:=by
 have zF:fe P w K mg base "_law_whole" 1 ["_law_found"] EN:=zD T
 refine T.yE.fM (k:=1) oX (fun f cX A outer s H vs Q E hr h=>?_)
 ·obtain⟨d,v1,v2,rfl,r1,r2,hsz,iw,k⟩:=h
  have hu:=kz hr
  have nd:=oX.nd
  refine⟨_,(ah (sv 2 nd (bW (aa (dB (aa (pv 0) (aa (pv 1) ak))) ak)))
(ah (He bT (a8 (HL hu) (pv 2) (bW ak) (ba _))
(ah (sv 3 nd (Nu aJ PySem.F.slot_list_pop PySem.F.type_list_pop Nw (pv 2)))
(av (bV (gg (bo CC (by rfl) T.dF eR (aa (xt (pv 3) aj) (aa (dB (aa (gY (v:= .ty "list") (by rfl) T.rN boot_list rfl) (aa (gY (v:= .ty "tuple") (by rfl) T.tL boot_tuple rfl) ak))) ak))))
(ah (bV (a8 sf (bo fu (by rfl) T.dF eR (aa (xt (pv 3) aj) (aa (gY (v:= .ty "list") (by rfl) T.rN boot_list rfl) ak))) (bo fu (by rfl) T.dF eR (aa (xt (pv 3) aj) (aa (gY (v:= .ty "list") (by rfl) T.rN boot_list rfl) ak))) (ba _))
(av (a9 mB))
bp)
(ah (bV (a8 sf (bo fu (by rfl) T.dF eR (aa (xt (pv 3) aj) (aa (gY (v:= .ty "tuple") (by rfl) T.tL boot_tuple rfl) ak))) (bo fu (by rfl) T.dF eR (aa (xt (pv 3) aj) (aa (gY (v:= .ty "tuple") (by rfl) T.tL boot_tuple rfl) ak))) (ba _))
(av (a9 mB))
bp)
(ah (bV (a8 sf (bo bq (by rfl) T.eT bu (aa (xt (pv 3) aj) ak)) (bo bq (by rfl) T.eT bu (aa (xt (pv 3) aj) ak)) (ba _))
(av (a9 mB))
bp)
(av (fH bT rfl (jD rfl T.nS (aa (bo bq (by rfl) T.eT bu (aa (xt (pv 3) aj) ak)) ak)) (gn 4 nd)
(av (bM (fk aJ aH aI bU (pv 2) (aa (dB (aa (js Mo (xt (pv 3) aj) (pv 4) (fun _ _=>rfl)) (aa (js Mo (xt (pv 3) aj) (pv 4) (fun _ _=>rfl)) ak))) ak)))))))))
(av (bV (gg (bo fu (by rfl) T.dF eR (aa (xt (pv 3) aj) (aa (gY (v:= .ty "str") (by rfl) T.Ef boot_str rfl) ak))))
(av (bV (PW.pt (pw_or (jL (gg (bo fu (by rfl) T.dF eR (aa (xt (pv 3) aj) (aa (gY (v:= .ty "str") (by rfl) T.Ef boot_str rfl) ak))))) (pw_or1 (a8 sf (xt (pv 3) aj) (xt (pv 3) aj) (ba _)))))
(av (a9 mB))
bp))
(av (bV (PW.pt (pw_or (jL (gg (fc zF hr (aa (xt (pv 3) aj) ak)))) (pw_or1 (a8 sf (xt (pv 3) aj) (xt (pv 3) aj) (ba _)))))
(av (a9 mB))
bp))))))))
(av (a9 mB)))),?_⟩
  refine⟨_,rfl,_,rfl,(by show 2<=sizeLine; decide),fun t0 nt0=>⟨(by show 1<=sizeLine; decide),fun l nl=>?_⟩⟩
  have sA:aG H (upd H t0 (.tup [v1,v2])):=aG.new nt0
  have Zm:H l=none:=sA.free nl
  refine⟨fun m σ H2=> ∃td ds x3 x4,σ=[some v1,some v2,some (.ref l),x3,x4]/\aG H H2/\H2 l=some (.lst td)/\Paired (lS H H2) ds td/\Dt.fB ds=m/\m<=100000/\ ∀d∈ds,d.plain=true,
   ⟨d.size,[.ref t0],[d],none,none,rfl,sA.trans (aG.new nl),ag,.cons ⟨t0,v1,v2,rfl,HP nl _ _ ag,r1,r2⟩ .nil,by simp[Dt.fB],hsz,by simpa using iw⟩,?_⟩
  rintro m σ H2 ⟨td,ds,x3,x4,rfl,s1,hl,hp,hm,Wq,Ta⟩
  refine⟨_,rfl,bB _,fun p3 n3=>?_⟩
  have s2:aG H2 (upd H2 p3 (.lst [])):=aG.new n3
  refine⟨l,p3,td,rfl,rfl,bL.of (s2 _ _ hl),bL.of ag,_,rfl,?_⟩
  generalize PX:upd H2 p3 (.lst [])=H3 at s2 ⊢
  have G4:=s2 _ _ hl
  cases htd:td with
  |nil=>exact cg (k _ (s1.trans s2))
  |cons z zs=>
  refine fC ⟨fun σ' H'=> ∃m',m' < m/\ ∃td ds x3 x4,σ'=[some v1,some v2,some (.ref l),x3,x4]/\aG H H'/\H' l=some (.lst td)/\Paired (lS H H') ds td/\Dt.fB ds=m'/\m'<=100000/\ ∀d∈ds,d.plain=true,fun _ _ h=>h,?_⟩
  have jc:td.length - 1 < td.length:=by rw[htd]; simp
  obtain⟨y,hy⟩: ∃y,td[td.length - 1]? =some y:=⟨_,af jc⟩
  obtain⟨LV,c,Xm,⟨t,u1,u2,ey,ht,q1,q2⟩,RW⟩:=sm hp hy
  subst ey
  have RH:c.plain=true:=Ta c (by rw[Xm]; simp)
  have T3: ∀d∈LV,d.plain=true:=fun d hd=>Ta d (by rw[Xm]; simp[hd])
  have hmm:Dt.fB LV + c.size=m:=by
   have:=hm
   rw[Xm,Dt.ix] at this
   simpa[Dt.fB] using this
  refine⟨_,rfl,.inl ⟨rfl,_,bL.of G4⟩,l,td,.ref t,rfl,rfl,G4,hy,?_⟩
  have Zn:=s2 _ _ ht
  have s4:aG H (upd H3 l (.lst td.dropLast)):=(s1.trans s2).dj Zm
  have Xn:upd H3 l (.lst td.dropLast) t=some (.tup [u1,u2]):=dP G4 _ _ Zn
  have Uw:Paired (lS H (upd H3 l (.lst td.dropLast))) LV td.dropLast:=Paired.iS RW fun d v h=>h.mono fun b xs e=>dP G4 _ _ (s2 _ _ e)
  have Tc:upd H3 l (.lst td.dropLast) l=some (.lst td.dropLast):=ag
  generalize upd H3 l (.lst td.dropLast)=H4 at s4 Xn Uw Tc ⊢
  clear PX G4 Zn s2 n3 hp hl ht
  refine⟨_,rfl,t,_,_,u2,rfl,rfl,cG.of Xn,rfl,(by show 2<=sizeLine; decide),fun p5 n5=>?_⟩
  have s5:aG H4 (upd H4 p5 (.tup [.ty "list",.ty "tuple"])):=aG.new n5
  have q25:=Rp.mono (s4.trans s5) c q2
  have q15:=Rp.mono (s4.trans s5) c q1
  refine⟨u2,p5,["list","tuple"],_,isLT c,rfl,ag,q25.ty,NK c,_,rfl,?_⟩
  have Cb:=s5 _ _ Xn
  have Xo:=s5 _ _ Tc
  have P8:Paired (lS H (upd H4 p5 (.tup [.ty "list",.ty "tuple"]))) LV td.dropLast:=Paired.iS Uw fun d v h=>h.mono fun b xs e=>s5 _ _ e
  have s6:=s4.trans s5
  generalize upd H4 p5 (.tup [.ty "list",.ty "tuple"])=H5 at s5 q25 q15 Cb Xo P8 s6 ⊢
  clear s5 n5
  refine cI (fun Td=>?_) (fun Td=>?_)
  ·
   obtain⟨a1,Xp,e1,S1,R1⟩:=DW q1 Td
   obtain⟨a2,O6,e2,S2,R2⟩:=DW q2 Td
   refine⟨_,rfl,t,_,_,u1,rfl,rfl,cG.of Cb,rfl,u1,_,_,Vy c,rfl,q15.ty,HM c,_,rfl,t,_,_,u2,rfl,rfl,cG.of Cb,rfl,u2,_,_,Vy c,rfl,q25.ty,HM c,rfl,_,rfl,Ap rfl ?_⟩
   refine⟨_,rfl,t,_,_,u1,rfl,rfl,cG.of Cb,rfl,u1,_,_,Vz c,rfl,q15.ty,HN c,_,rfl,t,_,_,u2,rfl,rfl,cG.of Cb,rfl,u2,_,_,Vz c,rfl,q25.ty,HN c,rfl,_,rfl,Ap rfl ?_⟩
   have hlen:Xp.length=O6.length:=by rw[← R1.length,← R2.length]
   refine⟨_,rfl,t,_,_,u1,rfl,rfl,cG.of Cb,rfl,a1,Xp,by rw[e1],S1 K H5 s6,_,rfl,t,_,_,u2,rfl,rfl,cG.of Cb,rfl,a2,O6,by rw[e2],S2 K H5 s6,rfl,_,rfl,Ap (by rw[hlen]) ?_⟩
   have Mm:O6.length=(kids c).length:=R2.length.symm
   have YJ:=FE Td
   have G0:=Dt.qt (kids c)
   refine⟨_,rfl,t,_,_,u2,rfl,rfl,cG.of Cb,rfl,a2,O6,by rw[e2],S2 K H5 s6,(O6.length:Int),rfl,by lia,by lia,?_⟩
   rw[eI]
   refine k4 (lo:=0) (n:=O6.length) (fun i σ H6=> ∃MP x4,σ=[some v1,some v2,some (.ref l),some (.ref t),x4]/\aG H H6/\H6 l=some (.lst MP)/\H6 t=some (.tup [u1,u2])/\Paired (lS H H6) (LV ++ (kids c).take i) MP)
    ⟨td.dropLast,x4,rfl,s6,Xo,Cb,by simpa using P8⟩ ?_ ?_
   ·rintro i σ H6 hi ⟨MP,x4',rfl,s7,ip,Uz,MJ⟩
    have VB:i < (kids c).length:=by lia
    have g0:(kids c)[i]? =some (kids c)[i]:=af VB
    obtain⟨w1,g1,z1⟩:=R1.get g0
    obtain⟨w2,g2,z2⟩:=R2.get g0
    have P2:MP.length < sizeLine:=by
     have h1:=MJ.length
     have h2:=Dt.qt (LV ++ (kids c).take i)
     have h3:=vO (kids c) i
     rw[Dt.ix] at h2
     exact i6 (by lia)
    refine⟨_,rfl,.inl ⟨rfl,_,bL.of ip⟩,?_⟩
    refine⟨_,rfl,t,_,_,u1,rfl,rfl,cG.of Uz,rfl,_,rfl,a1,Xp,_,w1,e1,rfl,S1 K H6 s7,by rw[lK]; exact cJ g1,_,rfl,t,_,_,u2,rfl,rfl,cG.of Uz,rfl,_,rfl,a2,O6,_,w2,e2,rfl,S2 K H6 s7,by rw[lK]; exact cJ g2,(by show 2<=sizeLine; decide),fun p7 n7=>?_⟩
    have s8:aG H6 (upd H6 p7 (.tup [w1,w2])):=aG.new n7
    have P6:=s8 _ _ ip
    refine⟨l,MP,.ref p7,rfl,rfl,P6,P2,?_⟩
    refine⟨MP ++ [.ref p7],_,rfl,(s7.trans s8).dj Zm,ag,dP P6 _ _ (s8 _ _ Uz),?_⟩
    rw[sX g0,← gE]
    exact cL (Paired.iS MJ fun d v h=>h.mono fun b xs e=>dP P6 _ _ (s8 _ _ e)) ⟨p7,w1,w2,rfl,dP P6 _ _ ag,z1,z2⟩
   ·rintro σ H6 ⟨MP,x4',rfl,s7,ip,Uz,MJ⟩
    rw[Mm,bb] at MJ
    refine⟨Dt.fB (LV ++ kids c),?_,MP,_,_,_,rfl,s7,ip,MJ,rfl,?_,?_⟩
    ·rw[Dt.ix]; lia
    ·rw[Dt.ix]; lia
    ·intro d hd
     rcases bg.mp hd with hd|hd
     ·exact T3 d hd
     ·exact CD RH d hd
  ·
   have fin:(fun σ' H'=> ∃m',m' < m/\ ∃td ds x3 x4,σ'=[some v1,some v2,some (.ref l),x3,x4]/\aG H H'/\H' l=some (.lst td)/\Paired (lS H H') ds td/\Dt.fB ds=m'/\m'<=100000/\ ∀d∈ds,d.plain=true) [some v1,some v2,some (.ref l),some (.ref t),x4] H5:=by
    have:=c.size_pos
    exact⟨Dt.fB LV,by lia,_,LV,_,_,rfl,s6,Xo,P8,rfl,by lia,T3⟩
   refine⟨_,rfl,t,_,_,u2,rfl,rfl,cG.of Cb,rfl,u2,_,_,TM c,rfl,q25.ty,xq c,_,rfl,?_⟩
   refine cI (fun hS=>?_) (fun hS=>?_)
   ·have ec: ∃x,c= .str x:=by cases c <;> first|exact⟨_,rfl⟩|cases hS
    obtain⟨x,rfl⟩:=ec
    obtain rfl:=gZ.mp q1
    obtain rfl:=gZ.mp q2
    refine⟨_,rfl,t,_,_,_,rfl,rfl,cG.of Cb,rfl,_,_,_,true,rfl,mG.str x,xq (.str x),_,rfl,cg ?_⟩
    refine⟨_,rfl,t,_,_,_,rfl,rfl,cG.of Cb,rfl,_,rfl,t,_,_,_,rfl,rfl,cG.of Cb,rfl,rfl,_,rfl,Ap rfl ?_⟩
    exact fin
   ·have ec: ∃x,c= .int x:=by cases c <;> first|exact⟨_,rfl⟩|exact absurd rfl hS|exact absurd rfl Td|cases RH
    obtain⟨x,rfl⟩:=ec
    obtain rfl:=eB.mp q1
    obtain rfl:=eB.mp q2
    refine⟨_,rfl,t,_,_,_,rfl,rfl,cG.of Cb,rfl,.int x,_,rfl,eB.mpr rfl,_,rfl,cg ?_⟩
    refine⟨_,rfl,t,_,_,_,rfl,rfl,cG.of Cb,rfl,_,rfl,t,_,_,_,rfl,rfl,cG.of Cb,rfl,rfl,_,rfl,Ap rfl ?_⟩
    exact fin
def BO (K:PySem.W.Frag):Sp:=fun vs H Q _=> ∃(po:Addr) (os:List Str) (aN:Str) (cell i:Int),vs=[.ref po,.str aN,.int cell,.int i]/\bL K H po (os.map V.str)/\os.length<=1000/\ ∀(n:Int) (H':Hp),aG H H'->Q (.int n) H'
theorem nI:aS ["_law_owners","_law_who","_law_cell","_law_k","_law_rest","_law_number","_law_spot","_law_one"] ["_law_owners","_law_who","_law_cell","_law_k"] (ay (top 49)):={}
theorem wM (T:Txt K mg):fe P w K mg base "_law_chosen" 1 ["_law_owners","_law_who","_law_cell","_law_k"] (BO K):=by
 refine T.vZ.fM (k:=0) nI (fun f cX A outer s H vs Q E hr h=>?_)
 ·obtain⟨po,os,aN,cell,i,rfl,hS,ho,k⟩:=h
  have nd:=nI.nd
  refine⟨_,(ah (sv 4 nd (aV jx (pv 2) aj))
(ah (sv 5 nd (aV cy (aV dM (aV jx (pv 4) aj) (pv 3)) (aV dM (bo bq (by rfl) T.eT bu (aa (pv 0) ak)) aj)))
(ah (fH bT rfl (jD rfl T.nS (aa (bo bq (by rfl) T.eT bu (aa (pv 0) ak)) ak)) (gn 6 nd)
(ah (sv 7 nd (aV cy (aV dM (pv 5) (pv 6)) (bo bq (by rfl) T.eT bu (aa (pv 0) ak))))
(av (bV (PW.pt (pw_and (a8 dg (xl (pv 0) (pv 7)) (pv 1) (ba _)) (pw_and1 (a8 jr (aV cy (pv 2) aj) aj (ba _)))))
(av (a9 (pv 7)))
bp))))
(ah (bV (a8 dg (aV cy (pv 2) aj) aj (ba _))
(av (sv 5 nd (xl (bW (aa (oH kM aj) (aa (aV jn aj aj) (aa (aV eV (oH kM aj) (aV cy (pv 4) (aV jn aj aj))) ak)))) (aV cy (pv 4) aj))))
bp)
(av (a9 (pv 5))))))),?_⟩
  refine⟨_,rfl,_,_,rfl,rfl,⟨by decide,by decide⟩,?_⟩
  refine⟨_,rfl,_,_,rfl,rfl,⟨by decide,by decide⟩,_,rfl,_,_,rfl,rfl,_,rfl,po,_,rfl,.inl hS,_,_,rfl,rfl,_,_,rfl,rfl,(by show(0:Int) < ((os.map V.str).length:Int) + 1; lia),?_⟩
  generalize Xq:(cell / 16 / 2 + i) % (((os.map V.str).length:Int) + 1)=num
  show _
  refine⟨_,rfl,po,_,rfl,.inl hS,((os.map V.str).length:Int),rfl,by lia,by rw[ae]; lia,?_⟩
  rw[eI]
  refine k4 (lo:=0) (n:=(os.map V.str).length) (fun j σ H2=> ∃x6 x7,σ=[some (.ref po),some (.str aN),some (.int cell),some (.int i),some (.int (cell / 16)),some (.int num),x6,x7]/\H2=H)
   ⟨none,none,by rw[← Xq]; rfl,rfl⟩ ?_ ?_
  ·rintro j σ H2 hj ⟨x6,x7,rfl,rfl⟩
   have hm:0 < ((os.map V.str).length:Int):=by lia
   obtain⟨y,_,hy⟩:=kE (g:=V.str) (xs:=os) (m:=((os.map V.str).length:Int)) (x:=num + (0 + (j:Int))) (by rw[ae]) hm
   refine⟨_,rfl,_,rfl,_,_,rfl,rfl,_,rfl,po,_,rfl,.inl hS,_,_,rfl,rfl,hm,?_⟩
   refine⟨_,rfl,_,rfl,po,_,_,.str y,rfl,rfl,hS,hy,_,rfl,rfl,_,rfl,cI (fun c=>?_) (fun c=>cg ⟨_,_,rfl,rfl⟩)⟩
   refine⟨_,rfl,_,_,rfl,rfl,(by show(0:Int) < 5; decide),_,_,rfl,rfl,_,rfl,cI (fun c=>?_) (fun c=>⟨_,_,rfl,rfl⟩)⟩
   exact⟨_,rfl,k _ _ (aG.refl _)⟩
  ·rintro σ H2 ⟨x6,x7,rfl,rfl⟩
   refine⟨_,rfl,_,_,rfl,rfl,(by show(0:Int) < 47; decide),rfl,_,rfl,cI (fun c=>?_) (fun c=>⟨_,rfl,k _ _ (aG.refl _)⟩)⟩
   refine⟨_,rfl,_,_,rfl,rfl,⟨by decide,by decide,by decide⟩,_,rfl,_,rfl,_,_,rfl,rfl,⟨by decide,by decide,by decide⟩,_,_,rfl,rfl,(by show(0:Int) < _; decide +kernel),_,_,rfl,rfl,(by show 3<=sizeLine; decide),fun p4 n4=>?_⟩
   obtain⟨y,_,hy⟩:=YI (-1) (10 ^ (9:Int).toNat) (-2 - cell / 16 % 10 ^ (60:Int).toNat) (cell / 16)
   refine⟨_,rfl,_,_,rfl,rfl,(by show(0:Int) < 3; decide),p4,_,_,.int y,rfl,rfl,bL.of ag,hy,?_⟩
   exact⟨_,rfl,k _ _ (aG.new n4)⟩
def EO:Sp:=fun vs H Q _=> ∃c:Int,vs=[.int c]/\ ∀r:Int,(r=0∨r=1)->Q (.int r) H
theorem wN:aS ["_law_cell"] ["_law_cell"] (ay (top 50)):={}
theorem zG (T:Txt K mg):fe P w K mg base "_law_hasty" 1 ["_law_cell"] EO:=by
 refine T.yF.fM (k:=0) wN (fun f cX A outer s H vs Q E hr h=>?_)
 ·obtain⟨c,rfl,k⟩:=h
  refine⟨_,(av (a9 (fZ k6 (by rfl) T.xA boot_int (aa (Qp (eQ dg (aV cy (pv 0) aj) aj (ba _)) (mC (o9 (eQ dg (aV cy (pv 0) aj) aj (ba _)) (mC (eQ dg (aV cy (aV jx (pv 0) aj) aj) aj (ba _)))))) ak)))),?_⟩
  have fin: ∀b:Bool,Q (.int (if b then 1 else 0)) H:=fun b=>k _ (by cases b <;> simp)
  refine⟨_,rfl,_,_,rfl,rfl,(by show(0:Int) < 29; decide),rfl,_,rfl,cI (fun c=> .inr ⟨_,rfl,fin _⟩) (fun c=>?_)⟩
  refine⟨_,rfl,_,_,rfl,rfl,(by show(0:Int) < 41; decide),rfl,_,rfl,cI (fun c=>?_) (fun c=> .inr ⟨_,rfl,fin _⟩)⟩
  exact⟨_,rfl,_,_,rfl,rfl,⟨by decide,by decide⟩,_,_,rfl,rfl,(by show(0:Int) < 2; decide),rfl,.inr ⟨_,rfl,fin _⟩⟩
def ER (K:PySem.W.Frag):Sp:=fun vs H Q _=> ∃(a:Addr) (cs:List Int) (i:Nat),vs=[.ref a,.int i]/\bL K H a (cs.map V.int)/\i < cs.length/\ ∀n:Int,Q (.int n) H
theorem nJ:aS ["_law_cells","_law_k","_law_days"] ["_law_cells","_law_k"] (ay (top 51)):={}
theorem wO (T:Txt K mg):fe P w K mg base "_law_due_in" 2 ["_law_cells","_law_k"] (ER K):=by
 have zH:fe P w K mg base "_law_hasty" 1 ["_law_cell"] EO:=zG T
 refine T.v7.fM (k:=1) nJ (fun f cX A outer s H vs Q E hr h=>?_)
 ·obtain⟨a,cs,i,rfl,hS,hi,k⟩:=h
  have nd:=nJ.nd
  refine⟨_,(ah (sv 2 nd (aV cy (aV dM (xl (pv 0) (aV cy (aV dM (pv 1) aj) (bo bq (by rfl) T.eT bu (aa (pv 0) ak)))) (pv 1)) aj))
(jy (bV (a8 dg (aV cy (xl (pv 0) (pv 1)) aj) aj (ba _))
(av (sv 2 nd (aV cy (xl (pv 0) (aV cy (aV dM (pv 1) aj) (bo bq (by rfl) T.eT bu (aa (pv 0) ak)))) (aV jn aj aj))))
bp)
(av (a9 (aV eV (pv 2) (aV lM (aV dM (pv 2) aj) (fc zH hr (aa (xl (pv 0) (pv 1)) ak)))))))),?_⟩
  have hm:0 < ((cs.map V.int).length:Int):=by rw[ae]; lia
  obtain⟨y,_,hy⟩:=kE (g:=V.int) (xs:=cs) (m:=((cs.map V.int).length:Int)) (x:=(i:Int) + 1) (by rw[ae]) hm
  refine⟨_,rfl,_,rfl,_,_,rfl,rfl,_,rfl,a,_,rfl,.inl hS,_,_,rfl,rfl,hm,a,_,_,.int y,rfl,rfl,hS,hy,_,rfl,_,_,rfl,rfl,_,_,rfl,rfl,(by show(0:Int) < 9; decide),?_⟩
  refine⟨fun σ' H'=>H'=H/\ ∃d:Int,σ'=[some (.ref a),some (.int i),some (.int d)],?_,?_⟩
  ·refine⟨_,rfl,_,rfl,a,_,_,_,rfl,rfl,hS,mZ hi,_,_,rfl,rfl,(by show(0:Int) < 13; decide),rfl,_,rfl,cI (fun c=>?_) (fun c=>⟨rfl,_,rfl⟩)⟩
   refine⟨_,rfl,_,rfl,_,_,rfl,rfl,_,rfl,a,_,rfl,.inl hS,_,_,rfl,rfl,hm,a,_,_,.int y,rfl,rfl,hS,hy,_,_,rfl,rfl,⟨by decide,by decide,by decide⟩,_,_,rfl,rfl,(by show(0:Int) < _; decide +kernel),?_⟩
   exact⟨rfl,_,rfl⟩
  rintro σ' H' ⟨rfl,d,rfl⟩
  refine⟨_,rfl,_,rfl,_,_,rfl,rfl,_,rfl,_,rfl,a,_,_,_,rfl,rfl,hS,mZ hi,_,rfl,fun r Xr=>?_⟩
  exact⟨_,_,rfl,rfl,.inr (by rcases Xr with rfl|rfl <;> exact⟨by decide,by decide⟩),_,_,rfl,rfl,k _⟩
def tw (H:Hp)(a pm lG:Addr)(i:Nat)(σ:L2.St)(H2:Hp):Prop:=
 ∃(pb ph:Addr) (bs hs:List Str) (sp:List Int) (ds:List bD) (ms:List V) (x5 x6 x7 x8 x9 BB GF JC LW J0 JD JE:Option V),σ=[some (.ref a),some (.ref pm),some (.ref pb),some (.ref ph),some (.ref lG),x5,x6,x7,x8,x9,BB,GF,JC,LW,J0,JD,JE]/\aG H H2/\
  H2 pm=some (.lst ms)/\gT H2 ds ms/\ds.length=i/\(∀d∈ds,d.ok)/\H2 pb=some (.lst (bs.map V.str))/\bs.length<=i/\H2 ph=some (.lst (hs.map V.str))/\hs.length<=i/\H2 lG=some (.lst (sp.map V.int))/\sp.length<=i/\pb≠pm/\pb≠lG/\ph≠pm/\ph≠lG
theorem tw.mk' {H:Hp}{a pm lG pb ph:Addr}{i:Nat}{H4 H6:Hp}{bs hs:List Str}{sp:List Int}{ds:List bD}{d:bD}{ms:List V}{p8:Addr}{x5 x6 x7 x8 x9 BB GF JC LW J0 JD JE:Option V}
  (hR:gT H4 ds ms) (hl:ds.length=i) (cB: ∀d∈ds,d.ok) (kp:cK H4 H6) (s6:aG H H6) (hM:H6 pm=some (.lst (ms ++ [.ref p8]))) (hd:Rp H6 d.dt (.ref p8)) (hdo:d.ok)
  (hb:H6 pb=some (.lst (bs.map V.str))) (Ls:bs.length<=i + 1) (hh:H6 ph=some (.lst (hs.map V.str))) (Zo:hs.length<=i + 1) (KI:H6 lG=some (.lst (sp.map V.int))) (P2:sp.length<=i + 1)
  (n1:pb≠pm) (n2:pb≠lG) (n3:ph≠pm) (n4:ph≠lG):
  tw H a pm lG (i + 1) [some (.ref a),some (.ref pm),some (.ref pb),some (.ref ph),some (.ref lG),x5,x6,x7,x8,x9,BB,GF,JC,LW,J0,JD,JE] H6:=by
 refine⟨pb,ph,bs,hs,sp,ds ++ [d],ms ++ [.ref p8],x5,x6,x7,x8,x9,BB,GF,JC,LW,J0,JD,JE,rfl,s6,hM,(hR.mono kp).snoc hd,by rw[aF,hl]; rfl,fun d' Fc=>?_,hb,Ls,hh,Zo,KI,P2,n1,n2,n3,n4⟩
 rcases bg.mp Fc with h|h
 ·exact cB d' h
 ·rw[ao.mp h]; exact hdo
def di (r:Int)(j:Nat):List Int:=(List.range j).map fun(t:Nat)=>1 + r % 9 + (0 + (t:Int)) * (2 + r % 30)
theorem BP (r:Int)(j:Nat):(di r j).length=j:=by unfold di; rw[List.length_map,List.length_range]
theorem LX {w:Str}{d:Int}(r:Int)(j:Nat)(hj:j<=11):(bD.iy w d (di r j)).ok:=by
 have h9:=km r (show(9:Int)≠0 by decide)
 have Zp:=km r (show(30:Int)≠0 by decide)
 refine⟨by rw[BP]; exact hj,?_,fun x hx=>?_⟩
 ·unfold di
  rw[rm]
  refine List.pairwise_lt_range.imp fun{a b} GZ=>?_
  have:(0 + (a:Int)) * (2 + r % 30) < (0 + (b:Int)) * (2 + r % 30):=Int.mul_lt_mul_of_pos_right (by lia) (by lia)
  lia
 ·unfold di at hx
  obtain⟨t,_,rfl⟩:=bK.mp hx
  have:0<=(0 + (t:Int)) * (2 + r % 30):=Int.mul_nonneg (by lia) (by lia)
  lia
theorem Te (x y:Int)(b:Bool):True/\tH [V.int x,V.int y] (if b=true then 1 else 0)=some (V.int (if b=true then y else x)):=⟨trivial,by cases b <;> rfl⟩
theorem MQ {H H4:Hp}{pm p8 lG pb ph:Addr}{ms xs b' h' s':List V}(nm:H pm=none)(s4:aG H H4)(qT:H4 pm=some (.lst ms))(n8:H4 p8=none)(n1:pb≠pm)(n3:ph≠pm)(ES:lG≠pm)
  (zA:H4 pb=some (.lst b')) (G5:H4 ph=some (.lst h')) (nK:H4 lG=some (.lst s')):
  cK H4 (upd (upd H4 p8 (.tup xs)) pm (.lst (ms ++ [.ref p8])))/\aG H (upd (upd H4 p8 (.tup xs)) pm (.lst (ms ++ [.ref p8])))/\upd (upd H4 p8 (.tup xs)) pm (.lst (ms ++ [.ref p8])) pm=some (.lst (ms ++ [.ref p8]))/\
  upd (upd H4 p8 (.tup xs)) pm (.lst (ms ++ [.ref p8])) p8=some (.tup xs)/\upd (upd H4 p8 (.tup xs)) pm (.lst (ms ++ [.ref p8])) pb=some (.lst b')/\upd (upd H4 p8 (.tup xs)) pm (.lst (ms ++ [.ref p8])) ph=some (.lst h')/\
  upd (upd H4 p8 (.tup xs)) pm (.lst (ms ++ [.ref p8])) lG=some (.lst s'):=by
 have s8:=aG.new (o:= .tup xs) n8
 refine⟨s8.tk.trans (gu (s8 _ _ qT)),(s4.trans s8).dj nm,ag,dP (s8 _ _ qT) _ _ ag,?_,?_,?_⟩
 ·rw[az n1]; exact s8 _ _ zA
 ·rw[az n3]; exact s8 _ _ G5
 ·rw[az ES]; exact s8 _ _ nK
theorem Tf {H H4:Hp}{pm lG pb ph:Addr}{ms b' h':List V}{sp:List Int}{x:Int}(UA:H lG=none)(s4:aG H H4)(qT:H4 pm=some (.lst ms))(n2:pb≠lG)(n4:ph≠lG)(ES:lG≠pm)
  (zA:H4 pb=some (.lst b')) (G5:H4 ph=some (.lst h')) (nK:H4 lG=some (.lst (sp.map V.int))):
  cK H4 (upd H4 lG (.lst (sp.map V.int ++ [.int x])))/\aG H (upd H4 lG (.lst (sp.map V.int ++ [.int x])))/\upd H4 lG (.lst (sp.map V.int ++ [.int x])) pm=some (.lst ms)/\upd H4 lG (.lst (sp.map V.int ++ [.int x])) pb=some (.lst b')/\
  upd H4 lG (.lst (sp.map V.int ++ [.int x])) ph=some (.lst h')/\upd H4 lG (.lst (sp.map V.int ++ [.int x])) lG=some (.lst ((sp ++ [x]).map V.int)):=by
 refine⟨gu nK,s4.dj UA,?_,?_,?_,?_⟩
 ·rw[az ES.symm]; exact qT
 ·rw[az n2]; exact zA
 ·rw[az n4]; exact G5
 ·rw[ag,aQ]; rfl
theorem gX {H:Hp}{d:Dt}{v:V}{ds:List Dt}{vs:List V}(h:Rp H d v)(r:iJ H ds vs):iJ H (d :: ds) (v :: vs):=bX.mpr ⟨_,_,rfl,h,r⟩
theorem rI {H:Hp}(i:Int):Rp H (.int i) (.int i):=eB.mpr rfl
theorem rS {H:Hp}(x:Str):Rp H (.str x) (.str x):=gZ.mpr rfl
theorem r0 {H:Hp}:iJ H [] []:=dW.mpr rfl
theorem ET {H9:Hp}{p9 pb:Addr}{bs:List Str}{aN:Str}{b:Bool}{Q:VK}(h9:H9 p9=some (.lst [V.str aN]))(hb:H9 pb=some (.lst (bs.map V.str)))(hl:bs.length<=100)
  (q: ∀(JF:Addr) (Tg:Hp) (n:Nat),n<=1->aG H9 Tg->H9 JF=none->Tg JF=some (.lst ((bs ++ List.replicate n aN).map V.str))->Q (.ref JF) Tg):
  QK (.ref p9) (.int (if b=true then 1 else 0)) H9 (fun v H=>QI (.ref pb) v H Q):=by
 have hk:(if b=true then(1:Int) else 0).toNat<=1:=by split <;> decide
 refine⟨p9,_,_,rfl,rfl,h9,(by split <;> decide),(by split <;> decide),(by show 1 * _<=sizeLine; split <;> decide),fun P9 Xs=>?_⟩
 generalize (if b=true then(1:Int) else 0).toNat=n at hk ⊢
 rw[KS]
 have Bm:=aG.new (o:= .lst ((List.replicate n aN).map V.str)) Xs
 refine⟨pb,P9,_,_,rfl,rfl,Bm _ _ hb,ag,?_,fun JF G6=>?_⟩
 ·refine dk (bh ?_)
  rw[ae,ae,iL]
  lia
 ·rw[← aQ]
  exact q JF _ n hk (Bm.trans (aG.new G6)) (Bm.free G6) ag
def LY (K:PySem.W.Frag):Sp:=fun vs H Q _=> ∃(a:Addr) (cs:List Int),vs=[.ref a]/\bL K H a (cs.map V.int)/\cs.length<=100/\ ∀(pd:Addr) (ds:List bD) (ms:List V) (H':Hp),aG H H'->H' pd=some (.lst ms)->gT H' ds ms->ds.length=cs.length->(∀d∈ds,d.ok)->Q (.ref pd) H'
theorem oY:aS ["_law_cells","_law_made","_law_bills","_law_held","_law_spots","_law_k","_law_rest","_law_pick","_law_who","_law_day","_law_amount","_law_bill","_law_due","_law_part","_law_credit","_law_menu","_law_limits"] ["_law_cells"] (ay (top 52)):={}
theorem zI (T:Txt K mg):fe P w K mg base "_law_deeds" 3 ["_law_cells"] (LY K):=by
 have wQ:fe P w K mg base "_law_penned" 2 ["_law_cells","_law_k"] (A9 K):=wj T
 have oZ:fe P w K mg base "_law_chosen" 1 ["_law_owners","_law_who","_law_cell","_law_k"] (BO K):=wM T
 have wR:fe P w K mg base "_law_due_in" 2 ["_law_cells","_law_k"] (ER K):=wO T
 refine T.yG.fM (k:=2) oY (fun f cX A outer s H vs Q E hr h=>?_)
 ·obtain⟨a,cs,rfl,hS,hc,k⟩:=h
  have nd:=oY.nd
  refine⟨_,(ah (sv 1 nd (bW ak))
(ah (sv 2 nd (bW ak))
(ah (sv 3 nd (bW ak))
(ah (sv 4 nd (bW ak))
(ah (fH bT rfl (jD rfl T.nS (aa (bo bq (by rfl) T.eT bu (aa (pv 0) ak)) ak)) (gn 5 nd)
(ah (sv 6 nd (aV cy (aV jx (xl (pv 0) (pv 5)) aj) (aV jn aj aj)))
(ah (sv 7 nd (aV cy (aV dM (xl (pv 0) (pv 5)) (aV lM aj (pv 5))) aj))
(ah (kK (fc wQ hr (aa (pv 0) (aa (pv 5) ak))) (iT rfl (ck (gn 8 nd) (ck (gn 9 nd) (ck (gn 10 nd) gG)))))
(ah (sv 11 nd (fc oZ hr (aa (pv 2) (aa (pv 8) (aa (xl (pv 0) (pv 5)) (aa (pv 5) ak))))))
(av (bV (a8 jN (pv 7) aj (ba _))
(ah (sv 12 nd (aV dM (pv 9) (fc wR hr (aa (pv 0) (aa (pv 5) ak)))))
(ah (bM (fk aJ aH aI bU (pv 1) (aa (dB (aa aR (aa (pv 8) (aa (pv 9) (aa (pv 12) (aa (pv 10) ak)))))) ak)))
(av (sv 2 nd (aV lP (pv 2) (aV Cw (bW (aa (pv 8) ak)) (fZ k6 (by rfl) T.xA boot_int (aa (o9 (eQ jr (pv 10) aj (ba _)) (mC (eQ Ad (pv 12) (pv 9) (ba _)))) ak))))))))
(av (bV (a8 jN (pv 7) aj (ba _))
(ah (bM (fk aJ aH aI bU (pv 1) (aa (dB (aa aR (aa (pv 8) (aa (pv 9) (aa (pv 10) ak))))) ak)))
(av (sv 3 nd (aV lP (pv 3) (aV Cw (bW (aa (pv 8) ak)) (fZ k6 (by rfl) T.xA boot_int (aa (eQ jr (pv 10) aj (ba _)) ak)))))))
(av (bV (a8 dg (pv 7) aj (ba _))
(ah (bM (fk aJ aH aI bU (pv 1) (aa (dB (aa aR (aa (pv 11) (aa (pv 9) (aa (pv 10) ak))))) ak)))
(av (bV (PW.pt (pw_and (a8 wZ aj (pv 11) (ba _)) (pw_and (a8 jN (pv 11) (bo bq (by rfl) T.eT bu (aa (pv 2) ak)) (ba _)) (pw_and1 (a8 jr (pv 10) aj (ba _))))))
(av (sv 3 nd (aV lP (pv 3) (bW (aa (xl (pv 2) (pv 11)) ak)))))
bp)))
(av (bV (a8 jN (pv 7) aj (ba _))
(ah (bM (fk aJ aH aI bU (pv 4) (aa (pv 5) ak)))
(jy (sv 13 nd (xl (bW (aa (pv 10) (aa (aV dM aj (aV cy (pv 6) aj)) ak))) (fZ k6 (by rfl) T.xA boot_int (aa (o9 (eQ jr (pv 10) aj (ba _)) (mC (eQ jr (aV cy (pv 6) aj) aj (ba _)))) ak))))
(ah (sv 14 nd (fc oZ hr (aa (pv 3) (aa (pv 8) (aa (xl (pv 0) (pv 5)) (aa (aV dM (pv 5) aj) ak))))))
(jy (bV (a8 dg (aV cy (xl (pv 0) (pv 5)) aj) aj (ba _))
(av (sv 14 nd (aV cy (aV jx (pv 6) aj) (aV dM (bo bq (by rfl) T.eT bu (aa (pv 3) ak)) aj))))
bp)
(av (bM (fk aJ aH aI bU (pv 1) (aa (dB (aa aR (aa (pv 14) (aa (pv 11) (aa (pv 13) ak))))) ak))))))))
(av (bV (a8 jN (pv 7) aj (ba _))
(ah (bM (fk aJ aH aI bU (pv 4) (aa (pv 5) ak)))
(av (bM (fk aJ aH aI bU (pv 1) (aa (dB (aa aR (aa (pv 8) ak))) ak)))))
(av (bV (a8 dg (pv 7) aj (ba _))
(ah (sv 15 nd (aV lP (pv 4) (bW (aa (pv 5) (aa (oH kM aj) (aa (aV jn aj aj) (aa aj (aa (aV eV (pv 5) aj) (aa (aV cy (aV jx (pv 6) aj) (aV dM (pv 5) aj)) (aa (aV eV (oH kM aj) (pv 6)) ak))))))))))
(av (bM (fk aJ aH aI bU (pv 1) (aa (dB (aa aR (aa (xl (pv 15) (aV cy (pv 6) (bo bq (by rfl) T.eT bu (aa (pv 15) ak)))) ak))) ak)))))
(av (bV (a8 dg (pv 7) aj (ba _))
(av (bM (fk aJ aH aI bU (pv 1) (aa (dB (aa (xl (bW (aa aR (aa aR ak))) (aV cy (pv 6) aj)) (aa (pv 8) (aa (pv 9) ak)))) ak))))
(ah (jb (i:=16) nd rfl (Or.inl rfl) (tn:=["_law_j"]) (cn:=["_law_rest"]) (cj:=[6]) rfl (i0 (by rfl) (by decide +kernel) rfl (by decide +kernel) (by rfl) [(".0",.local),("_law_j",.local),("_law_rest",.cell)] (by rfl) (by decide +kernel) rfl (Or.inl rfl) (Or.inl rfl)) (jD rfl T.nS (aa (aV cy (pv 6) aj) ak)) (fun _ _ _ _=>(eG (i:=0) (show(["_law_j","_law_rest"]:List Str).Nodup by decide +kernel) rfl (Or.inl rfl))) (fun _ _ _ _=>lQ) (fun _ _ _ _=>(aV dM (aV dM aj (aV cy (pv 1) aj)) (aV lM (pv 0) (aV dM aj (aV cy (pv 1) aj))))))
(av (bM (fk aJ aH aI bU (pv 1) (aa (dB (aa aR (aa (pv 8) (aa (pv 9) (aa (fZ vN (by rfl) T.tL boot_tuple (aa (pv 16) ak)) ak))))) ak))))))))))))))))))))))))
(av (a9 (pv 1)))))))),?_⟩
  refine⟨bB _,fun pm nm=>⟨bB _,fun pb nb=>⟨bB _,fun ph nh=>⟨bB _,fun lG Qa=>?_⟩⟩⟩⟩
  have s1:aG H (upd H pm (.lst [])):=aG.new nm
  have t2:=aG.new (o:= .lst []) nb
  have t3:=aG.new (o:= .lst []) nh
  have t4:=aG.new (o:= .lst []) Qa
  have s4:=((s1.trans t2).trans t3).trans t4
  have UA:H lG=none:=((s1.trans t2).trans t3).free Qa
  have g1:=((t2.trans t3).trans t4) _ _ (ag (H:=H) (a:=pm) (o:= .lst []))
  have g2:=(t3.trans t4) _ _ (ag (H:=upd H pm (.lst [])) (a:=pb) (o:= .lst []))
  have g3:=t4 _ _ (ag (H:=upd (upd H pm (.lst [])) pb (.lst [])) (a:=ph) (o:= .lst []))
  have g4:=ag (H:=upd (upd (upd H pm (.lst [])) pb (.lst [])) ph (.lst [])) (a:=lG) (o:= .lst [])
  have Zq:pb≠pm:=(aL ag nb).symm
  have Zr:ph≠pm:=(aL (t2 _ _ ag) nh).symm
  have ES:lG≠pm:=(aL ((t2.trans t3) _ _ ag) Qa).symm
  have Zs:pb≠lG:=aL (t3 _ _ ag) Qa
  have Zt:ph≠lG:=aL ag Qa
  generalize upd (upd (upd (upd H pm (.lst [])) pb (.lst [])) ph (.lst [])) lG (.lst [])=H4 at s4 g1 g2 g3 g4 ⊢
  refine⟨_,rfl,a,_,rfl,.inl (s4.seq hS),((cs.map V.int).length:Int),rfl,by lia,by rw[ae]; lia,?_⟩
  rw[eI]
  refine k4 (lo:=0) (n:=(cs.map V.int).length) (tw H a pm lG)
   ⟨pb,ph,[],[],[],[],[],none,none,none,none,none,none,none,none,none,none,none,none,rfl,s4,g1,r0,rfl,(fun _ h=>by cases h),g2,aB _,g3,aB _,g4,aB _,Zq,Zs,Zr,Zt⟩ ?_ ?_
  ·clear t2 t3 t4 s1 g1 g2 g3 g4 s4 H4 Zq Zs Zr Zt nb nh Qa pb ph
   rintro i σ H2 hi ⟨pb,ph,bs,hs,sp,ds,ms,x5,x6,x7,x8,x9,BB,GF,JC,LW,J0,JD,JE,rfl,s2,hM,hR,EU,cB,hb,Ls,hh,Zo,yc,ab_,n1,n2,n3,n4⟩
   have Xt:i < cs.length:=by rwa [ae] at hi
   have Qb:tH (cs.map V.int) (0 + (i:Int))=some (.int (cs.getD i 0)):=by rw[lK]; exact mZ Xt
   have N8:=s2.seq hS
   generalize md:cs.getD i 0=cell at Qb
   refine⟨_,rfl,_,rfl,a,_,_,.int cell,rfl,rfl,N8,Qb,_,_,rfl,rfl,⟨by decide,by decide⟩,_,_,rfl,rfl,⟨by decide,by decide,by decide⟩,_,_,rfl,rfl,(by show(0:Int) < _; decide +kernel),?_⟩
   refine⟨_,rfl,_,rfl,a,_,_,.int cell,rfl,rfl,N8,Qb,_,rfl,_,_,rfl,rfl,.inl ⟨by decide,by decide⟩,_,_,rfl,rfl,_,_,rfl,rfl,(by show(0:Int) < 16; decide),?_⟩
   refine⟨_,rfl,_,rfl,a,cs,i,(by rw[lK]; rfl),N8,Xt,fun p aN day dO H3 s3 hp oB=>?_⟩
   refine⟨p,_,rfl,cG.of hp,rfl,_,_,rfl,_,_,rfl,_,_,rfl,rfl,?_⟩
   refine⟨_,rfl,_,rfl,_,rfl,_,rfl,a,_,_,.int cell,rfl,rfl,s3.seq N8,Qb,_,rfl,pb,bs,aN,cell,_,rfl,bL.of (s3 _ _ hb),by lia,fun bl H4 Zu=>?_⟩
   have Jv:=s3.trans Zu
   have s4:=s2.trans Jv
   have qT:=Jv _ _ hM
   have LZ:=hR.mono Jv.tk
   have zA:=Jv _ _ hb
   have G5:=Jv _ _ hh
   have nK:=Jv _ _ yc
   have hS4:=s4.seq hS
   have Xu:=hS
   have IU:ms.length<=100:=by have:=hR.length; lia
   clear Jv s3 Zu hp hM hR hb hh yc s2 N8 H2 H3
   refine⟨_,rfl,_,_,rfl,rfl,_,rfl,cI (fun c1=>?_) (fun c1=>?_)⟩
   ·
    refine⟨_,rfl,_,rfl,_,rfl,a,cs,i,(by rw[lK]; rfl),hS4,Xt,fun n=>⟨_,_,rfl,rfl,?_⟩⟩
    refine⟨_,rfl,.inl ⟨rfl,_,bL.of qT⟩,_,rfl,_,rfl,_,rfl,_,rfl,(by show 5<=sizeLine; decide),fun p8 n8=>?_⟩
    refine⟨pm,ms,_,rfl,rfl,aG.new n8 _ _ qT,bh (by lia),?_⟩
    obtain⟨k5,s5,vh,h8,zU,Cc,l6⟩:=MQ (xs:=[V.str "bill",.str aN,.int day,.int (day + n),.int dO]) nm s4 qT n8 n1 n3 ES zA G5 nK
    refine⟨_,rfl,_,rfl,(by show 1<=sizeLine; decide),fun p9 n9=>?_⟩
    have t9:=aG.new (o:= .lst [V.str aN]) n9
    refine⟨_,rfl,_,_,rfl,rfl,_,rfl,cI (fun c=>⟨_,rfl,_,rfl,_,_,rfl,rfl,.inr ⟨_,rfl,?_⟩⟩) (fun c=> .inr ⟨_,rfl,?_⟩)⟩
    all_goals
     refine ET ag (t9 _ _ zU) (by lia) fun JF Tg n hn Xv G6 Xw=>?_
     have sJ:=t9.trans Xv
     exact tw.mk' (d:= .dQ aN day _ dO) (pb:=JF) LZ EU cB (k5.trans sJ.tk) (s5.trans sJ) (sJ _ _ vh) (fX (sJ _ _ h8) (gX (rS _) (gX (rS _) (gX (rI _) (gX (rI _) (gX (rI _) r0)))))) oB Xw (by rw[aF,iL]; lia) (sJ _ _ Cc) (by lia) (sJ _ _ l6) (by lia) (aL (t9 _ _ vh) G6).symm (aL (t9 _ _ l6) G6).symm n3 n4
   refine⟨_,rfl,_,_,rfl,rfl,_,rfl,cI (fun c2=>?_) (fun c2=>?_)⟩
   ·
    refine⟨_,rfl,.inl ⟨rfl,_,bL.of qT⟩,_,rfl,_,rfl,_,rfl,(by show 4<=sizeLine; decide),fun p8 n8=>?_⟩
    refine⟨pm,ms,_,rfl,rfl,aG.new n8 _ _ qT,bh (by lia),?_⟩
    obtain⟨k5,s5,vh,h8,zU,Cc,l6⟩:=MQ (xs:=[V.str "pay",.str aN,.int day,.int dO]) nm s4 qT n8 n1 n3 ES zA G5 nK
    refine⟨_,rfl,_,rfl,(by show 1<=sizeLine; decide),fun p9 n9=>?_⟩
    have t9:=aG.new (o:= .lst [V.str aN]) n9
    refine⟨_,rfl,_,_,rfl,rfl,.inr ⟨_,rfl,?_⟩⟩
    refine ET ag (t9 _ _ Cc) (by lia) fun JF Tg n hn Xv G6 Xw=>?_
    have sJ:=t9.trans Xv
    exact tw.mk' (d:= .pZ aN day dO) (ph:=JF) LZ EU cB (k5.trans sJ.tk) (s5.trans sJ) (sJ _ _ vh) (fX (sJ _ _ h8) (gX (rS _) (gX (rS _) (gX (rI _) (gX (rI _) r0))))) oB (sJ _ _ zU) (by lia) Xw (by rw[aF,iL]; lia) (sJ _ _ l6) (by lia) n1 n2 (aL (t9 _ _ vh) G6).symm (aL (t9 _ _ l6) G6).symm
   refine⟨_,rfl,rfl,_,rfl,cI (fun c3=>?_) (fun c3=>?_)⟩
   ·
    refine⟨_,rfl,.inl ⟨rfl,_,bL.of qT⟩,_,rfl,_,rfl,_,rfl,(by show 4<=sizeLine; decide),fun p8 n8=>?_⟩
    refine⟨pm,ms,_,rfl,rfl,aG.new n8 _ _ qT,bh (by lia),?_⟩
    obtain⟨k5,s5,vh,h8,zU,Cc,l6⟩:=MQ (xs:=[V.str "note",.int bl,.int day,.int dO]) nm s4 qT n8 n1 n3 ES zA G5 nK
    have no:=fun(JC LW J0 JD JE x5 x6 x7 x8 x9 BB GF:Option V)=>tw.mk' (a:=a) (x5:=x5) (x6:=x6) (x7:=x7) (x8:=x8) (x9:=x9) (BB:=BB) (GF:=GF) (JC:=JC) (LW:=LW) (J0:=J0) (JD:=JD) (JE:=JE) (d:= .note bl day dO) LZ EU cB k5 s5 vh (fX h8 (gX (rS _) (gX (rI _) (gX (rI _) (gX (rI _) r0))))) oB zU (by lia) Cc (by lia) l6 (by lia) n1 n2 n3 n4
    refine⟨_,rfl,_,_,rfl,rfl,_,rfl,cI (fun d1=>?_) (fun d1=>cg (no ..))⟩
    refine⟨_,rfl,_,rfl,pb,_,rfl,.inl (bL.of zU),_,_,rfl,rfl,_,rfl,cI (fun d2=>?_) (fun d2=>cg (no ..))⟩
    refine⟨_,rfl,_,_,rfl,rfl,_,rfl,cI (fun d3=>?_) (fun d3=>no ..)⟩
    have RY:0<=bl:=aZ d1
    have Wt:bl < ((bs.map V.str).length:Int):=aZ d2
    obtain⟨bn,rfl⟩:=cA RY
    have hbn:bn < bs.length:=by rw[ae] at Wt; lia
    refine⟨_,rfl,_,rfl,_,rfl,pb,_,_,.str bs[bn],rfl,rfl,bL.of zU,cJ (by rw[aD,af hbn]; rfl),(by show 1<=sizeLine; decide),fun p9 n9=>?_⟩
    have t9:=aG.new (o:= .lst [V.str bs[bn]]) n9
    refine⟨ph,p9,_,_,rfl,rfl,t9 _ _ Cc,ag,dk (bh (by rw[ae]; show hs.length + 1<=1000; lia)),fun JF G6=>?_⟩
    have sJ:=t9.trans (aG.new (o:= .lst (hs.map V.str ++ [V.str bs[bn]])) G6)
    exact tw.mk' (d:= .note (bn:Int) day dO) (ph:=JF) (hs:=hs ++ [bs[bn]]) LZ EU cB (k5.trans sJ.tk) (s5.trans sJ) (sJ _ _ vh) (fX (sJ _ _ h8) (gX (rS _) (gX (rI _) (gX (rI _) (gX (rI _) r0))))) oB (sJ _ _ zU) (by lia) (by rw[aQ]; exact ag) (by rw[aF]; show hs.length + 1<=_; lia) (sJ _ _ l6) (by lia) n1 n2 (aL (t9 _ _ vh) G6).symm (aL (t9 _ _ l6) G6).symm
   refine⟨_,rfl,_,_,rfl,rfl,_,rfl,cI (fun c4=>?_) (fun c4=>?_)⟩
   ·
    refine⟨_,rfl,.inl ⟨rfl,_,bL.of nK⟩,_,rfl,lG,_,_,rfl,rfl,nK,bh (by rw[ae]; lia),?_⟩
    obtain⟨k0,s0,Qc,UB,Qd,L0⟩:=Tf (x:=0 + (i:Int)) UA s4 qT n2 n4 ES zA G5 nK
    have Zv:=LZ.mono k0
    have Xx:=s0.seq Xu
    generalize upd H4 lG (.lst (sp.map V.int ++ [.int (0 + (i:Int))]))=H5 at s0 Qc UB Qd L0 Zv Xx ⊢
    refine⟨fun σ' H'=>aG H5 H'/\ ∃part:Int,σ'=[some (.ref a),some (.ref pm),some (.ref pb),some (.ref ph),some (.ref lG),some (.int (0 + (i:Int))),some (.int (cell / 16 % 10 ^ (60:Int).toNat)),some (.int ((cell + 5 * (0 + (i:Int))) % 16)),some (.str aN),some (.int day),some (.int dO),some (.int bl),JC,some (.int part),J0,JD,JE],?_,?_⟩
    ·refine⟨_,rfl,_,rfl,_,_,rfl,rfl,(by show(0:Int) < 3; decide),_,_,rfl,rfl,(by show 2<=sizeLine; decide),fun p9 n9=>?_⟩
     refine⟨_,rfl,_,_,rfl,rfl,_,rfl,cI (fun d=>⟨_,rfl,_,_,rfl,rfl,(by show(0:Int) < 4; decide),_,_,rfl,rfl,.inr ⟨_,rfl,p9,_,_,_,rfl,rfl,bL.of ag,(Te _ _ _).2,?_⟩⟩) (fun d=> .inr ⟨_,rfl,p9,_,_,_,rfl,rfl,bL.of ag,(Te _ _ _).2,?_⟩)⟩
     ·exact⟨aG.new n9,_,rfl⟩
     ·exact⟨aG.new n9,_,rfl⟩
    rintro σ' H6 ⟨Xy,part,rfl⟩
    refine⟨_,rfl,_,rfl,_,rfl,_,rfl,a,_,_,.int cell,rfl,rfl,Xy.seq Xx,Qb,_,rfl,_,_,rfl,rfl,ph,hs,aN,cell,_,rfl,bL.of (Xy _ _ Qd),by lia,fun cr0 H7 s67=>?_⟩
    have wJ:=Xy.trans s67
    refine⟨fun σ' H'=>H'=H7/\ ∃cr:Int,σ'=[some (.ref a),some (.ref pm),some (.ref pb),some (.ref ph),some (.ref lG),some (.int (0 + (i:Int))),some (.int (cell / 16 % 10 ^ (60:Int).toNat)),some (.int ((cell + 5 * (0 + (i:Int))) % 16)),some (.str aN),some (.int day),some (.int dO),some (.int bl),JC,some (.int part),some (.int cr),JD,JE],?_,?_⟩
    ·refine⟨_,rfl,_,rfl,a,_,_,.int cell,rfl,rfl,wJ.seq Xx,Qb,_,_,rfl,rfl,(by show(0:Int) < 41; decide),rfl,_,rfl,cI (fun d=>?_) (fun d=>⟨rfl,_,rfl⟩)⟩
     refine⟨_,rfl,_,_,rfl,rfl,⟨by decide,by decide⟩,_,rfl,ph,_,rfl,.inl (bL.of (wJ _ _ Qd)),_,_,rfl,rfl,_,_,rfl,rfl,(by show(0:Int) < ((hs.map V.str).length:Int) + 1; lia),?_⟩
     exact⟨rfl,_,rfl⟩
    rintro σ' H' ⟨rfl,cr,rfl⟩
    have GB:=wJ _ _ Qc
    refine⟨_,rfl,.inl ⟨rfl,_,bL.of GB⟩,_,rfl,_,rfl,_,rfl,(by show 4<=sizeLine; decide),fun p8 n8=>?_⟩
    refine⟨pm,ms,_,rfl,rfl,aG.new n8 _ _ GB,bh (by lia),?_⟩
    obtain⟨k5,s5,vh,h8,zU,Cc,l6⟩:=MQ (xs:=[V.str "set",.int cr,.int bl,.int part]) nm (s0.trans wJ) GB n8 n1 n3 ES (wJ _ _ UB) (wJ _ _ Qd) (wJ _ _ L0)
    exact tw.mk' (d:= .set cr bl part) (Zv.mono wJ.tk) EU cB k5 s5 vh (fX h8 (gX (rS _) (gX (rI _) (gX (rI _) (gX (rI _) r0))))) trivial zU (by lia) Cc (by lia) l6 (by rw[aF]; show sp.length + 1<=_; lia) n1 n2 n3 n4
   refine⟨_,rfl,_,_,rfl,rfl,_,rfl,cI (fun c5=>?_) (fun c5=>?_)⟩
   ·
    refine⟨_,rfl,.inl ⟨rfl,_,bL.of nK⟩,_,rfl,lG,_,_,rfl,rfl,nK,bh (by rw[ae]; lia),?_⟩
    obtain⟨k0,s0,Qc,UB,Qd,L0⟩:=Tf (x:=0 + (i:Int)) UA s4 qT n2 n4 ES zA G5 nK
    refine⟨_,rfl,.inl ⟨rfl,_,bL.of Qc⟩,_,rfl,(by show 2<=sizeLine; decide),fun p8 n8=>?_⟩
    refine⟨pm,ms,_,rfl,rfl,aG.new n8 _ _ Qc,bh (by lia),?_⟩
    obtain⟨k5,s5,vh,h8,zU,Cc,l6⟩:=MQ (xs:=[V.str "sweep",.str aN]) nm s0 Qc n8 n1 n3 ES UB Qd L0
    exact tw.mk' (d:= .fJ aN) (LZ.mono k0) EU cB k5 s5 vh (fX h8 (gX (rS _) (gX (rS _) r0))) trivial zU (by lia) Cc (by lia) l6 (by rw[aF]; show sp.length + 1<=_; lia) n1 n2 n3 n4
   refine⟨_,rfl,rfl,_,rfl,cI (fun c6=>?_) (fun c6=>?_)⟩
   ·
    refine⟨_,rfl,_,rfl,_,rfl,_,_,rfl,rfl,⟨by decide,by decide,by decide⟩,_,rfl,_,_,rfl,rfl,_,rfl,_,_,rfl,rfl,⟨by decide,by decide⟩,_,rfl,_,_,rfl,rfl,_,_,rfl,rfl,(by show(0:Int) < 0 + (i:Int) + 1; lia),_,rfl,_,rfl,_,_,rfl,rfl,(by show 7<=sizeLine; decide),fun p9 n9=>?_⟩
    refine⟨lG,p9,_,_,rfl,rfl,aG.new n9 _ _ nK,ag,dk (bh (by rw[ae]; show sp.length + 7<=1000; lia)),fun P9 Xs=>?_⟩
    have Bm:=(aG.new (o:= .lst [V.int (0 + (i:Int)),.int (-1),.int (10 ^ (9:Int).toNat),.int 0,.int (0 + (i:Int) - 1),.int ((cell / 16 % 10 ^ (60:Int).toNat) / 3 % (0 + (i:Int) + 1)),.int (-2 - (cell / 16 % 10 ^ (60:Int).toNat))]) n9).trans (aG.new (o:= .lst (sp.map V.int ++ [V.int (0 + (i:Int)),.int (-1),.int (10 ^ (9:Int).toNat),.int 0,.int (0 + (i:Int) - 1),.int ((cell / 16 % 10 ^ (60:Int).toNat) / 3 % (0 + (i:Int) + 1)),.int (-2 - (cell / 16 % 10 ^ (60:Int).toNat))])) Xs)
    have Th:=ag (H:=upd H4 p9 (.lst [V.int (0 + (i:Int)),.int (-1),.int (10 ^ (9:Int).toNat),.int 0,.int (0 + (i:Int) - 1),.int ((cell / 16 % 10 ^ (60:Int).toNat) / 3 % (0 + (i:Int) + 1)),.int (-2 - (cell / 16 % 10 ^ (60:Int).toNat))])) (a:=P9) (o:= .lst (sp.map V.int ++ [V.int (0 + (i:Int)),.int (-1),.int (10 ^ (9:Int).toNat),.int 0,.int (0 + (i:Int) - 1),.int ((cell / 16 % 10 ^ (60:Int).toNat) / 3 % (0 + (i:Int) + 1)),.int (-2 - (cell / 16 % 10 ^ (60:Int).toNat))]))
    generalize upd (upd H4 p9 (.lst [V.int (0 + (i:Int)),.int (-1),.int (10 ^ (9:Int).toNat),.int 0,.int (0 + (i:Int) - 1),.int ((cell / 16 % 10 ^ (60:Int).toNat) / 3 % (0 + (i:Int) + 1)),.int (-2 - (cell / 16 % 10 ^ (60:Int).toNat))])) P9 (.lst (sp.map V.int ++ [V.int (0 + (i:Int)),.int (-1),.int (10 ^ (9:Int).toNat),.int 0,.int (0 + (i:Int) - 1),.int ((cell / 16 % 10 ^ (60:Int).toNat) / 3 % (0 + (i:Int) + 1)),.int (-2 - (cell / 16 % 10 ^ (60:Int).toNat))]))=H5 at Bm Th ⊢
    have Ti:sp.map V.int ++ [V.int (0 + (i:Int)),.int (-1),.int (10 ^ (9:Int).toNat),.int 0,.int (0 + (i:Int) - 1),.int ((cell / 16 % 10 ^ (60:Int).toNat) / 3 % (0 + (i:Int) + 1)),.int (-2 - (cell / 16 % 10 ^ (60:Int).toNat))]=(sp ++ [0 + (i:Int),-1,10 ^ (9:Int).toNat,0,0 + (i:Int) - 1,(cell / 16 % 10 ^ (60:Int).toNat) / 3 % (0 + (i:Int) + 1),-2 - (cell / 16 % 10 ^ (60:Int).toNat)]).map V.int:=by rw[aQ]; rfl
    rw[Ti] at Th
    generalize Q7:sp ++ [0 + (i:Int),-1,10 ^ (9:Int).toNat,0,0 + (i:Int) - 1,(cell / 16 % 10 ^ (60:Int).toNat) / 3 % (0 + (i:Int) + 1),-2 - (cell / 16 % 10 ^ (60:Int).toNat)]=mn at Th
    have ace:0 < mn.length:=by rw[← Q7,aF]; show 0 < sp.length + 7; lia
    have Zw:0 < ((mn.map V.int).length:Int):=by rw[ae]; lia
    obtain⟨y,_,hy⟩:=kE (g:=V.int) (xs:=mn) (m:=((mn.map V.int).length:Int)) (x:=(cell / 16 % 10 ^ (60:Int).toNat)) (by rw[ae]) Zw
    have O7:=Bm _ _ qT
    refine⟨_,rfl,.inl ⟨rfl,_,bL.of O7⟩,_,rfl,_,rfl,_,rfl,P9,_,rfl,.inl (bL.of Th),_,_,rfl,rfl,Zw,P9,_,_,.int y,rfl,rfl,bL.of Th,hy,(by show 2<=sizeLine; decide),fun p8 n8=>?_⟩
    refine⟨pm,ms,_,rfl,rfl,aG.new n8 _ _ O7,bh (by lia),?_⟩
    obtain⟨k5,s5,vh,h8,zU,Cc,l6⟩:=MQ (xs:=[V.str "undo",.int y]) nm (s4.trans Bm) O7 n8 n1 n3 ES (Bm _ _ zA) (Bm _ _ G5) (Bm _ _ nK)
    exact tw.mk' (d:= .iM y) (LZ.mono Bm.tk) EU cB k5 s5 vh (fX h8 (gX (rS _) (gX (rI _) r0))) trivial zU (by lia) Cc (by lia) l6 (by lia) n1 n2 n3 n4
   refine⟨_,rfl,rfl,_,rfl,cI (fun c7=>?_) (fun c7=>?_)⟩
   ·
    refine⟨_,rfl,.inl ⟨rfl,_,bL.of qT⟩,(by show 2<=sizeLine; decide),fun p9 n9=>?_⟩
    have t9:=aG.new (o:= .lst [V.str "owed",.str "free"]) n9
    obtain⟨y,Wo,hy⟩:=kE (g:=fun o:Bool=>V.str (if o then "owed" else "free")) (xs:=[true,false]) (m:=2) (x:=(cell / 16 % 10 ^ (60:Int).toNat)) rfl (by decide)
    refine⟨_,rfl,_,_,rfl,rfl,(by show(0:Int) < 2; decide),p9,_,_,_,rfl,rfl,bL.of ag,hy,_,rfl,_,rfl,(by show 3<=sizeLine; decide),fun p8 n8=>?_⟩
    have Zx:=t9 _ _ qT
    refine⟨pm,ms,_,rfl,rfl,aG.new n8 _ _ Zx,bh (by lia),?_⟩
    obtain⟨k5,s5,vh,h8,zU,Cc,l6⟩:=MQ (xs:=[V.str (if y then "owed" else "free"),.str aN,.int day]) nm (s4.trans t9) Zx n8 n1 n3 ES (t9 _ _ zA) (t9 _ _ G5) (t9 _ _ nK)
    exact tw.mk' (d:= .ask y aN day) (LZ.mono t9.tk) EU cB k5 s5 vh (fX h8 (gX (rS _) (gX (rS _) (gX (rI _) r0)))) trivial zU (by lia) Cc (by lia) l6 (by lia) n1 n2 n3 n4
   ·
    obtain⟨Qe,Xz,acf⟩:=yX (cell / 16 % 10 ^ (60:Int).toNat) 12 (by decide)
    refine⟨_,rfl,_,_,rfl,rfl,(by show(0:Int) < 12; decide),_,rfl,lJ (by decide) (km _ (by decide)),Int.lt_trans (pX _ (by decide)) (by decide),?_⟩
    show xn (Mg 0 ((cell / 16 % 10 ^ (60:Int).toNat) % 12).toNat) _ _ _ _ _ _
    rw[Xz,eI]
    refine Cz (lo:=0) (n:=Qe) (fun D j σ H6=>H4 D=none/\ ∃v,σ=[v,some (.int (cell / 16 % 10 ^ (60:Int).toNat))]/\aG H4 H6/\H6 D=some (.lst ((di (cell / 16 % 10 ^ (60:Int).toNat) j).map V.int))) (fun D hD=>⟨hD,none,rfl,aG.new hD,ag⟩) ?_ ?_
    ·rintro D j σ H6 hj ⟨hD,v,rfl,t3,hl⟩
     refine⟨_,rfl,_,_,rfl,rfl,(by show(0:Int) < 9; decide),_,_,rfl,rfl,_,rfl,_,rfl,_,_,rfl,rfl,(by show(0:Int) < 30; decide),_,_,rfl,rfl,_,_,rfl,rfl,.inl ⟨by lia,by lia⟩,_,_,rfl,rfl,?_⟩
     refine⟨_,hl,bh (by rw[ae,BP]; lia),hD,_,rfl,t3.dj hD,?_⟩
     rw[ag]
     unfold di
     rw[vG,aQ,aQ]; rfl
    ·rintro D σ H6 _ ⟨hD,v,rfl,t3,hl⟩
     have Jg:=t3 _ _ qT
     refine⟨_,rfl,.inl ⟨rfl,_,bL.of Jg⟩,_,rfl,_,rfl,_,rfl,D,_,rfl,.inl ⟨bL.of hl,fun pt Y4=>?_⟩⟩
     have t7:=t3.trans (aG.new (o:= .tup ((di (cell / 16 % 10 ^ (60:Int).toNat) Qe).map V.int)) Y4)
     have g7:=ag (H:=H6) (a:=pt) (o:= .tup ((di (cell / 16 % 10 ^ (60:Int).toNat) Qe).map V.int))
     generalize upd H6 pt (.tup ((di (cell / 16 % 10 ^ (60:Int).toNat) Qe).map V.int))=H7 at t7 g7 ⊢
     refine⟨(by show 4<=sizeLine; decide),fun p8 n8=>?_⟩
     have GB:=t7 _ _ qT
     refine⟨pm,ms,_,rfl,rfl,aG.new n8 _ _ GB,bh (by lia),?_⟩
     obtain⟨k5,s5,vh,h8,zU,Cc,l6⟩:=MQ (xs:=[V.str "ages",.str aN,.int day,.ref pt]) nm (s4.trans t7) GB n8 n1 n3 ES (t7 _ _ zA) (t7 _ _ G5) (t7 _ _ nK)
     exact tw.mk' (d:= .iy aN day (di (cell / 16 % 10 ^ (60:Int).toNat) Qe)) (LZ.mono t7.tk) EU cB k5 s5 vh (fX h8 (gX (rS _) (gX (rS _) (gX (rI _) (gX (fX (k5 _ _ g7) (iJ.ints _)) r0))))) (LX (cell / 16 % 10 ^ (60:Int).toNat) Qe (by lia)) zU (by lia) Cc (by lia) l6 (by lia) n1 n2 n3 n4
  ·rintro σ H2 ⟨pb,ph,bs,hs,sp,ds,ms,x5,x6,x7,x8,x9,BB,GF,JC,LW,J0,JD,JE,rfl,s2,hM,hR,EU,cB,_⟩
   rw[ae] at EU
   refine⟨_,rfl,?_⟩
   exact k pm ds ms H2 s2 hM hR EU cB
theorem nZ {α:Type}(f:α->Dt)(n:Nat): ∀l:List α,(∀x∈l,(f x).size<=n)->Dt.fB (l.map f)<=l.length * n
 |[],_=>bB _
 |x :: l,h=>by
  have h1:=nZ f n l fun y hy=>h y (aU _ hy)
  have h2:=h x bw
  rw[c9,cf,vC]
  show(f x).size + Dt.fB (l.map f)<=_
  lia
theorem pU {α:Type}(f:α->Dt)(l:List α)(h: ∀x∈l,(f x).plain=true):Dt.lT (l.map f)=true:=by
 rw[Dt.pB]
 intro d hd
 obtain⟨x,hx,rfl⟩:=bK.mp hd
 exact h x hx
theorem xS {d:bD}(h:d.ok):d.dt.size<=100/\d.dt.plain=true:=by
 cases d with
 |iy w dy l=>
  have h1:l.length<=11:=h.1
  have h2:=nZ Dt.int 1 l (fun x _=>aB _)
  refine⟨?_,?_⟩
  ·show(Dt.tup [.str "ages",.str w,.int dy,.tup (l.map Dt.int)]).size<=100
   simp only[Dt.size,Dt.fB]
   lia
  ·show(Dt.tup [.str "ages",.str w,.int dy,.tup (l.map Dt.int)]).plain=true
   simp[Dt.plain,Dt.lT,pU Dt.int l (fun x _=>rfl)]
 |_=>exact⟨by simp[bD.dt,Dt.size,Dt.fB],by simp[bD.dt,Dt.plain,Dt.lT]⟩
theorem Du {ds:List bD}(h: ∀d∈ds,d.ok)(hl:ds.length<=60):(Dt.lst (ds.map bD.dt)).size<=100000/\(Dt.lst (ds.map bD.dt)).plain=true:=by
 have h1:=nZ bD.dt 100 ds fun d hd=>(xS (h d hd)).1
 refine⟨?_,pU bD.dt ds fun d hd=>(xS (h d hd)).2⟩
 show 1 + Dt.fB (ds.map bD.dt)<=100000
 lia
theorem GQ {H:Hp}{pd:Addr}{d:bD}(h:rW H pd d): ∃r,H pd=some (.tup (.str (bD.word d) :: r)):=by
 cases d with
 |iy w dy l=>
  obtain⟨pl,h1,_⟩:=h
  exact⟨_,h1⟩
 |_=>exact⟨_,h⟩
theorem xT (d:bD):vM (.str (bD.word d)) [.str "bill",.str "pay",.str "note",.str "set",.str "sweep"]=d.tells:=by
 cases d with
 |dQ _ _ _ _=>show vM (.str "bill") _ =true; decide +kernel
 |pZ _ _ _=>show vM (.str "pay") _ =true; decide +kernel
 |note _ _ _=>show vM (.str "note") _ =true; decide +kernel
 |set _ _ _=>show vM (.str "set") _ =true; decide +kernel
 |fJ _=>show vM (.str "sweep") _ =true; decide +kernel
 |iM _=>show vM (.str "undo") _ =false; decide +kernel
 |ask o _ _=>
  cases o
  ·show vM (.str "free") _ =false; decide +kernel
  ·show vM (.str "owed") _ =false; decide +kernel
 |iy _ _ _=>show vM (.str "ages") _ =false; decide +kernel
theorem L1 (xs:List V)(a b:Nat)(h:a<=b):(qp xs (some (a:Int)) (some (b:Int))).length<=b - a:=by
 unfold qp
 rw[HT.yd,HT.yd,bz]
 lia
theorem L3 (ns:List Int)(lo hi:Option Int): ∃cs:List Int,qp (ns.map V.int) lo hi=cs.map V.int:=by
 unfold qp
 rw[← List.map_drop,← List.map_take]
 exact⟨_,rfl⟩
theorem JG {H:Hp}{tb:Addr}{pos:Pos}{qual:Str}(h:H tb=some (.mz #[])):Tb H tb pos qual:=⟨#[],h,True.intro,.inl rfl⟩
def JH (K:PySem.W.Frag)(cps:List (Addr×Addr)):Sp:=fun vs H Q _=> ∃(a:Addr) (ns:List Int),vs=[.ref a]/\bL K H a (ns.map V.int)/\ns.length<=63/\(∀cp∈cps,H cp.2=some (.mz #[]))/\ ∀H',Q (.bl true) H'
theorem L4 {H:Hp}{sd p:Addr}{S:Bk}{f:fG}{ws:List V}{o:HO}(h:dr H sd S f)(e:H p=some (.lst ws))(n:p∉f.fp):dr (upd H p o) sd S f:=
 h.keep (fun b u hb z=>by
  have nb:b≠p:=by
   rcases hb with hb|hb
   ·rw[hb]
    exact ma h.dict e (by intro q; cases q)
   ·exact fun q=>n (q▸hb)
  rw[az nb]
  exact z) (gu e)
def O8:Sp:=fun vs H Q _=> ∃(pa:Addr) (ds:List bD) (ms:List V),vs=[.ref pa]/\H pa=some (.lst ms)/\gT H ds ms/\ds.length<=59/\(∀d∈ds,d.ok)/\
 ∀(t:Addr) (v:V) (ps sd:Addr) (us:List V) (f:fG) (H':Hp),aG H H'->H' t=some (.tup [v,.ref ps,.ref sd])->H' ps=some (.lst us)->gK H' (gS ds iW.new 0).2.steps us->dr H' sd (gS ds iW.new 0).2.bk f->(∀x∈f.fp,H x=none)->ps∉f.fp->Good (gS ds iW.new 0).2 ds.length->Q (.ref t) H'
theorem jj:aS ["_law_asked","_law_steps","_law_state","_law_due","_law_number","_law_deed","_law_answer"] ["_law_asked"] (ay (top 63)):={}
theorem oE (T:Txt K mg):fe P w K mg base "_law_gone_through" 6 ["_law_asked"] O8:=by
 have l0:=qL (P:=P) (w:=w) (base:=base) T
 have zJ:=zf (P:=P) (w:=w) (base:=base) T
 have BQ:=Bp (P:=P) (w:=w) (base:=base) T
 refine T.oy.fM (k:=5) jj (fun f cX A outer s H vs Q E hr h=>?_)
 ·obtain⟨pa,ds,ms,rfl,LN,Jz,EU,cB,k⟩:=h
  have nd:=jj.nd
  have IU:=gT.length Jz
  refine⟨_,(ah (sv 1 nd (bW ak))
(ah (sv 2 nd (HJ l0 (hr.mono (by decide)) rfl))
(ah (sv 3 nd (bW ak))
(ah (fH bT rfl (jD rfl T.nS (aa (bo bq (by rfl) T.eT bu (aa (pv 0) ak)) ak)) (gn 4 nd)
(ah (sv 5 nd (xl (pv 0) (pv 4)))
(ah (sv 6 nd aR)
(jy (bV (PW.pt (pw_or (gg (fc zJ hr (aa (pv 5) ak))) (pw_or1 (a8 dg (xt (pv 5) aj) aR (ba _)))))
(av (kK (fc BQ hr (aa (pv 1) (aa (pv 2) (aa (pv 4) (aa (pv 5) ak))))) (iT rfl (ck (gn 6 nd) (ck (gn 1 nd) (ck (gn 2 nd) gG))))))
bp)
(av (bM (fk aJ aH aI bU (pv 3) (aa (pv 6) ak))))))))
(av (a9 (dB (aa (pv 3) (aa (pv 1) (aa (pv 2) ak)))))))))),?_⟩
  refine⟨bB _,fun ps Ez=>?_⟩
  have s6:=aG.new (o:= .lst []) Ez
  have O9:upd H ps (.lst []) ps=some (.lst []):=ag
  generalize upd H ps (.lst [])=H6 at s6 O9
  refine⟨rfl,fun sd g H7 s7 Tj Lc nf=>?_⟩
  have Tn:=s7 _ _ O9
  have wJ:=s6.trans s7
  have XA:ps∉g.fp:=fun z=>by
   have:=nf _ z
   rw[O9] at this
   cases this
  have nf5: ∀b∈g.fp,H b=none:=fun b hb=>s6.free (nf b hb)
  refine⟨bB _,fun pu UC=>?_⟩
  have s8:=aG.new (o:= .lst []) UC
  have To:upd H7 pu (.lst []) pu=some (.lst []):=ag
  have Tp:=s8 _ _ Tn
  have wU:=Tj.same s8
  have XB:pu∉g.fp:=Tj.off UC
  have XC:pu≠ps:=(aL Tn UC).symm
  have XD:=wJ.trans s8
  have XE:H pu=none:=wJ.free UC
  generalize upd H7 pu (.lst [])=H8 at s8 To Tp wU XD
  refine⟨_,rfl,pa,_,rfl,.inl (bL.of (XD _ _ LN)),(ms.length:Int),rfl,by lia,by lia,?_⟩
  rw[eI]
  refine k4 (lo:=0) (n:=ms.length) (fun i σ H2=> ∃(ps sd:Addr) (us ws:List V) (f:fG) (x4 x5 x6:Option V),σ=[some (.ref pa),some (.ref ps),some (.ref sd),some (.ref pu),x4,x5,x6]/\aG H H2/\H2 ps=some (.lst us)/\gK H2 (gS (ds.take i) iW.new 0).2.steps us/\dr H2 sd (gS (ds.take i) iW.new 0).2.bk f/\(∀x∈f.fp,H x=none)/\ps∉f.fp/\Good (gS (ds.take i) iW.new 0).2 i/\H2 pu=some (.lst ws)/\ws.length=i/\pu∉f.fp/\pu≠ps)
   ⟨ps,sd,[],[],g,none,none,none,rfl,XD,Tp,.nil,wU,nf5,XA,Good.new,To,rfl,XB,XC⟩ ?_ ?_
  ·rintro i σ H2 hi ⟨ps,sd,us,ws,f,x4,x5,x6,rfl,s2,mO,Qf,hB,Pa,Ez,hG,Zy,DU,JZ,XF⟩
   rw[lK]
   have yo:i < ds.length:=by lia
   have oP:=af yo
   obtain⟨v0,VP,Sv⟩:=gT.get Jz oP
   obtain⟨pd,rfl,Zz⟩:=EK Sv
   have hd:=Zz.mono s2.tk
   have LS:=cB _ (bJ yo)
   have Uy:=xR yo
   have oR:Good (gi (gS (ds.take i) iW.new 0).2 (i:Int) ds[i]).2 (i + 1):=hG.step ds[i]
   rw[Uy]
   generalize ds[i]=d at hd LS oR
   generalize (gS (ds.take i) iW.new 0).2=TT at Qf hB hG oR
   clear Uy Sv Zz oP
   refine⟨_,rfl,_,rfl,pa,_,_,.ref pd,rfl,rfl,bL.of (s2 _ _ LN),cJ VP,?_⟩
   refine⟨fun σ' H'=> ∃(v:V) (u5 B8:Addr) (Bo:List V) (f':fG),σ'=[some (.ref pa),some (.ref u5),some (.ref B8),some (.ref pu),some (.int (i:Int)),some (.ref pd),some v]/\aG H H'/\H' u5=some (.lst Bo)/\gK H' (gi TT i d).2.steps Bo/\dr H' B8 (gi TT i d).2.bk f'/\(∀x∈f'.fp,H x=none)/\u5∉f'.fp/\H' pu=some (.lst ws)/\pu∉f'.fp/\pu≠u5,?_,?_⟩
   ·obtain⟨r,ZA⟩:=GQ hd
    refine⟨_,rfl,pd,bD.word d,r,rfl,ZA,fun H3 s3=>⟨_,rfl,?_⟩⟩
    have MI:=hd.mono s3.tk
    have XG:=s3 _ _ ZA
    have Gs:=s3 _ _ mO
    have L5:gK H3 TT.steps us:=Qf.mono s3.tk
    have JB:=hB.same s3
    have UD:=s2.trans s3
    have JI:=s3 _ _ Zy
    have MR: ∀(R:VK),(∀t v u5 B8 Bo f' H',H' t=some (.tup [v,.ref u5,.ref B8])->aG H H'->H' u5=some (.lst Bo)->gK H' (gi TT i d).2.steps Bo->dr H' B8 (gi TT i d).2.bk f'->(∀x∈f'.fp,H x=none)->u5∉f'.fp->H' pu=some (.lst ws)->pu∉f'.fp->pu≠u5->R (.ref t) H')->MH R H3 ps f (gi TT i d):=fun R h t v u5 B8 f' Bo H' ht hv hp hS hb fr fi np nq=>
     h t v u5 B8 Bo f' H' ht (fr.same UD Pa) hp hS hb (fun x hx=>(fi x hx).elim (Pa x) fun z=>UD.free z) np (fr _ _ JZ JI) (fun z=>(fi pu z).elim JZ fun q=>by rw[JI] at q; cases q) (fun z=>XF (z.trans (nq pu _ JZ JI z.symm)))
    by_cases ht:d.tells=true
    ·rw[xT,ht]
     have Fc:H3 pd=some (.tup (bD.vs d)):=by cases d <;> first|exact MI|cases ht
     refine fC (fC ⟨_,rfl,_,rfl,_,rfl,_,rfl,ps,sd,pd,i,TT,us,f,d,rfl,Gs,L5,JB,Ez,Fc,.inl ht,hG,(by lia),MR _ fun t v u5 B8 Bo f' H' ht KI hp hS hb hn XH u1 u2 u3=>?_⟩)
     refine⟨t,_,rfl,cG.of ht,rfl,_,_,rfl,_,_,rfl,_,_,rfl,rfl,?_⟩
     exact⟨v,u5,B8,Bo,f',rfl,KI,hp,hS,hb,hn,XH,u1,u2,u3⟩
    ·rw[xT,Bool.eq_false_iff.mpr ht]
     refine cg ⟨_,rfl,pd,_,_,.str (bD.word d),rfl,rfl,cG.of XG,Jq _ _,rfl,?_⟩
     cases d with
     |dQ _ _ _ _=>exact absurd rfl ht
     |pZ _ _ _=>exact absurd rfl ht
     |note _ _ _=>exact absurd rfl ht
     |set _ _ _=>exact absurd rfl ht
     |fJ _=>exact absurd rfl ht
     |iM m=>
      refine⟨true,zR _,fC ⟨_,rfl,_,rfl,_,rfl,_,rfl,ps,sd,pd,i,TT,us,f,.iM m,rfl,Gs,L5,JB,Ez,MI,.inr ⟨m,rfl⟩,hG,(by lia),MR _ fun t v u5 B8 Bo f' H' ht KI hp hS hb hn XH u1 u2 u3=>?_⟩⟩
      refine⟨t,_,rfl,cG.of ht,rfl,_,_,rfl,_,_,rfl,_,_,rfl,rfl,?_⟩
      exact⟨v,u5,B8,Bo,f',rfl,KI,hp,hS,hb,hn,XH,u1,u2,u3⟩
     |ask o wh dy=>
      refine⟨false,jC (by cases o; exact(show("free":Str)≠"undo" by decide +kernel); exact(show("owed":Str)≠"undo" by decide +kernel)),cg ?_⟩
      exact⟨_,ps,sd,us,f,rfl,UD,Gs,L5,JB,Pa,Ez,JI,JZ,XF⟩
     |iy wh dy di=>
      refine⟨false,jC (show("ages":Str)≠"undo" by decide +kernel),cg ?_⟩
      exact⟨_,ps,sd,us,f,rfl,UD,Gs,L5,JB,Pa,Ez,JI,JZ,XF⟩
   ·rintro σ' H' ⟨v,u5,B8,Bo,f',rfl,s',RW,Xu,XI,XJ,XM,u1,u2,u3⟩
    refine⟨_,rfl,.inl ⟨rfl,_,bL.of u1⟩,_,rfl,pu,ws,v,rfl,rfl,u1,bh (by lia),?_⟩
    exact⟨u5,B8,Bo,ws ++ [v],f',_,_,_,rfl,s'.dj XE,by rw[az u3.symm]; exact RW,Xu.mono (gu u1),L4 XI u1 u2,XJ,XM,oR,ag,by rw[aF,DU]; rfl,u2,u3⟩
  ·rintro σ H2 ⟨ps,sd,us,ws,f,x4,x5,x6,rfl,s2,mO,Qf,hB,Pa,Ez,hG,Zy,_⟩
   rw[← IU,bb] at Qf hB hG
   refine⟨_,rfl,_,rfl,_,rfl,(by show 3<=sizeLine; decide),fun t nt=>?_⟩
   have s9:=aG.new (o:= .tup [V.ref pu,.ref ps,.ref sd]) nt
   exact k t _ ps sd us f _ (s2.trans s9) ag (s9 _ _ mO) (Qf.mono s9.tk) (hB.same s9) Pa Ez hG
def vt (A:dZ)(tB tC:Addr):Sp:=fun vs H Q _=> ∃(ps:Addr) (ds:List bD) (ms:List V),vs=[.ref ps]/\H ps=some (.lst ms)/\gT H ds ms/\ds.length<=60/\(∀d∈ds,d.ok)/\lE H tB/\l5 H tC/\
 ∀D us H',Frame [tB,tC] H H'->lE H' tB->l5 H' tC->H D=none->H' D=some (.lst us)->gO H' (gS ds iW.new 0).2.bk.made us->Q (.ref D) H'
theorem sQ:aS ["deeds","book"] ["deeds"] (ay (top 33)):={}
theorem Dv (T:Txt K mg){A:dZ}{tB tC:Addr}(G:jz K mg A)(DB:qb K mg "bills_in_order" (top 17) tB)(DC:qb K mg "credits_in_order" (top 18) tC)(jc:tB≠tC)(hnd:A.iY≠A.tooMuch)(KB:K.In base)(BM:BMain mg base):fe P w K mg base "settings" 12 ["deeds"] (vt A tB tC):=by
 have zK:fe P w K mg base "answers_in" 11 ["book","deeds"] (EM A tB tC):=zB T G DB DC jc hnd KB BM
 have Pb:tf P w K mg base "Book" A.book 3 ["self"] (EA A):=OK G
 refine T.CQ.fM (k:=11) sQ (fun f cX A' outer s H vs Q E hr h=>?_)
 ·obtain⟨ps,ds,ms,rfl,mO,Jz,hl,cB,ke,jK,k⟩:=h
  have nd:=sQ.nd
  refine⟨_,(ah (sv 1 nd (IE Pb (hr.mono (by decide)) rfl))
(ah (bM (fc zK hr (aa (pv 1) (aa (pv 0) ak))))
(av (a9 (fZ lO (by rfl) T.rN boot_list (aa (b9 (b9 (pv 1) rfl) rfl) ak)))))),?_⟩
  intro xb ZC XN XO ne
  have s1:=lA (C:=A.book) (fs:=[]) XN XO ne
  refine⟨xb,ZC,rfl,ag,fun pk pw g H1 F1 hx hk hW nk npw nf Zj=>⟨rfl,?_⟩⟩
  have S1:aG H H1:=fun b o e=>F1 b o (by simpa using aL e XN) (s1 b o e)
  have fr: ∀b∈g.fp,H b=none:=fun b hb=>s1.free (nf b hb)
  have nk0:H pk=none:=s1.free nk
  refine⟨_,rfl,_,rfl,xb,pk,pw,ps,g,ds,ms,rfl,⟨⟨ZC,hx⟩,⟨[],hk,.nil⟩,hW⟩,S1 _ _ mO,(fun z=>by
   have:=fr _ z
   rw[mO] at this
   cases this),Jz.mono S1.tk,hl,cB,bR ke S1,bR jK S1,fun pt ws tS qc f' H2 F2 ji kq nt B7 hA Ex=>?_⟩
  have ZD:Frame [tB,tC] H H2:=(S1.frame (fp:=[tB,tC])).trans F2 fun x hx=>by
   rcases aw.mp hx with hx|hx
   ·exact .inl (by simp[hx])
   rcases aw.mp hx with hx|hx
   ·exact .inl (by simp[hx])
   rcases aw.mp hx with hx|hx
   ·exact .inr (by rw[hx]; exact XN)
   rcases aw.mp hx with hx|hx
   ·exact .inr (by rw[hx]; exact nk0)
   ·exact .inr (fr x hx)
  obtain⟨db,PF⟩:=Ex.obj
  obtain⟨dw,MA⟩:=Ex.wk.obj
  obtain⟨us,m1,m2⟩:=Ex.wk.hm
  refine⟨_,rfl,xb,_,db,_,_,rfl,PF,G.eE,G.fT,qS _ _,qc,_,dw,_,_,rfl,MA,G.bE,G.jA,yL f',f'.pm,us,rfl,.inl (bL.of m1),fun D nD=>?_⟩
  have s3:=aG.new (o:= .lst us) nD
  refine k D us _ (ZD.cS s3) (bR ji s3) (bR kq s3) ?_ ag (m2.mono s3.tk)
  cases e:H D with
  |none=>rfl
  |some o=>
   exfalso
   by_cases jH:D∈[tB,tC]
   ·simp only[List.mem_cons,List.not_mem_nil,or_false] at jH
    rcases jH with z|z
    ·obtain⟨_,q⟩:=cU ji
     rw[← z,nD] at q
     cases q
    ·obtain⟨_,q⟩:=cU kq
     rw[← z,nD] at q
     cases q
   ·have q:=ZD _ _ jH e
    rw[nD] at q
    cases q
end
end eN
namespace L2
open PySem PySem.Spec PySem.W PyProof.Rows
section
variable {X:Cx}
def Tq (K:PySem.W.Frag):List V->Hp->VK->Prop:=fun xs H Q=> ∃(p:Addr) (ns:List Int),xs=[V.ref p]/\bL K H p (ns.map V.int)/\ns≠[]/\ ∀m,m∈ns->Q (.int m) H
theorem xU (hc:X.calm=true):iu X (.builtin "min") (Tq X.K):=by
 intro pins s σ H xs us Q I r h
 obtain⟨p,ns,rfl,hq,jc,q⟩:=h
 obtain⟨u,rfl,ru⟩:=vals1 r
 cases ru
 obtain⟨cm,rv,pl,hz⟩:=I.list hq
 have hI:IntsAre cm ns:=intsAre_of rv
 have hl:=hI.length
 have hh:=I.ok.hd hc
 have aci:0 < ns.length:=List.length_pos_iff.mpr jc
 have hT:s.heap.IsList p cm.toArray:=pl.isList
 have hp:p < s.heap.objs.size:=by
  obtain⟨o,ho,_⟩:=hT
  exact aK ho
 have NO:p≠s.heap.objs.size:=aX hp
 refine call_min_walk (MV hT ?_)
 refine⟨_,[_,p],[_],_,_,_,_,rfl,Walks.list (A:=X.A.in1) hh _ p NO cm.toArray,
  ⟨⟨_,Heap.get?_push_size _ rfl,rfl,rfl⟩,hT.push _⟩,fun c hc=>?_,by rw[List.size_toArray]; lia,CmpOf.ints_lt (fun i=>ns.getD i 0) (fun i v hv=>IntsAre.int_at hI i v (by simpa using hv)),fun v h' tk hP hk=>?_⟩
 ·show c < (s.heap.push _).objs.size
  rw[kg]
  rcases aw.mp hc with rfl|hc
  ·exact fh _
  ·rcases aw.mp hc with rfl|hc
   ·exact gF hp
   ·cases hc
 ·obtain⟨b1,b2⟩:=argBest_lt (fun i=>ns.getD i 0) (cm.toArray.size - 1)
  rw[br] at b1 b2
  obtain⟨t,rfl⟩:=IntsAre.int_at hI _ v (by rw[← Array.getElem?_toList] at hP; exact hP)
  refine⟨.int _,H,I.kept (t':=tk) (fun b o e=>hk b o (fun hm=>?_) (ax _ e)),⟨_,rfl⟩,q _ ?_⟩
  ·rw[ao] at hm
   exact absurd hm (aX (aK e))
  ·rw[br]
   rw[ai,af (by lia)]
   exact bJ _
end
def BR (ms:List (Nat×Nat×Int))(k:Nat):Int:=((ms.filter fun t=>decide (t.2.1=k)).map (·.2.2)).sum
def BS (ms:List (Nat×Nat×Int))(k:Nat):Int:=((ms.filter fun t=>decide (t.1=k)).map (·.2.2)).sum
theorem rX (ms:List (Nat×Nat×Int))(t:Nat×Nat×Int)(k:Nat):BR (ms ++ [t]) k=BR ms k + if t.2.1=k then t.2.2 else 0:=by
 unfold BR
 rw[gf,aQ,Kc]
 by_cases h:t.2.1=k <;> simp[h]
theorem rY (ms:List (Nat×Nat×Int))(t:Nat×Nat×Int)(k:Nat):BS (ms ++ [t]) k=BS ms k + if t.1=k then t.2.2 else 0:=by
 unfold BS
 rw[gf,aQ,Kc]
 by_cases h:t.1=k <;> simp[h]
theorem GR {ms:List (Nat×Nat×Int)}{k:Nat}(h: ∀t∈ms,t.2.1≠k):BR ms k=0:=by
 unfold BR
 rw[List.filter_eq_nil_iff.mpr fun t ht=>by simp[h t ht]]
 rfl
theorem GS {ms:List (Nat×Nat×Int)}{k:Nat}(h: ∀t∈ms,t.1≠k):BS ms k=0:=by
 unfold BS
 rw[List.filter_eq_nil_iff.mpr fun t ht=>by simp[h t ht]]
 rfl
structure Acc (S:Bk):Prop where
 m: ∀t∈S.made,t.1 < S.credits.length/\t.2.1 < S.aC.length/\1<=t.2.2/\S.dR t.1 t.2.1=true
 b: ∀k,k < S.aC.length->(S.bl k).d=(S.bl k).c - BR S.made k/\0<=(S.bl k).d
 c: ∀k,k < S.credits.length->(S.cr k).d=(S.cr k).b - BS S.made k/\0<=(S.cr k).d
theorem Acc.new:Acc Bk.new:=⟨(fun _ h=>by cases h),fun _ h=>absurd h (fP _),fun _ h=>absurd h (fP _)⟩
theorem Acc.il {S:Bk}(h:Acc S){r:Rw}(e:r.d=r.c)(p:0<=r.d):Acc (S.il r):=by
 have len:(S.il r).aC.length=S.aC.length + 1:=by simp[Bk.il]
 have old: ∀k,k < S.aC.length->(S.il r).bl k=S.bl k:=fun k hk=>getD_snoc hk
 refine⟨fun t ht=>?_,fun k hk=>?_,h.c⟩
 ·obtain⟨a,b,c,d⟩:=h.m t ht
  refine⟨a,by rw[len]; lia,c,?_⟩
  rw[← d]
  unfold Bk.dR
  rw[old _ b]
  rfl
 ·by_cases q:k < S.aC.length
  ·rw[old k q]
   exact h.b k q
  ·have q':k=S.aC.length:=by lia
   have e2:(S.il r).bl k=r:=by rw[q']; exact getD_last
   rw[e2,show(S.il r).made=S.made from rfl,GR fun t ht=>by have:=(h.m t ht).2.1; lia]
   lia
theorem Acc.fR {S:Bk}(h:Acc S){r:Rw}(e:r.d=r.b)(p:0<=r.d):Acc (S.fR r):=by
 have len:(S.fR r).credits.length=S.credits.length + 1:=by simp[Bk.fR]
 have old: ∀k,k < S.credits.length->(S.fR r).cr k=S.cr k:=fun k hk=>getD_snoc hk
 refine⟨fun t ht=>?_,h.b,fun k hk=>?_⟩
 ·obtain⟨a,b,c,d⟩:=h.m t ht
  refine⟨by rw[len]; lia,b,c,?_⟩
  rw[← d]
  unfold Bk.dR
  rw[old _ a]
  rfl
 ·by_cases q:k < S.credits.length
  ·rw[old k q]
   exact h.c k q
  ·have q':k=S.credits.length:=by lia
   have e2:(S.fR r).cr k=r:=by rw[q']; exact getD_last
   rw[e2,show(S.fR r).made=S.made from rfl,GS fun t ht=>by have:=(h.m t ht).1; lia]
   lia
theorem Acc.put {S:Bk}(h:Acc S){c b:Nat}{x:Int}(hc:c < S.credits.length)(hb:b < S.aC.length)(hx:1<=x)(x1:x<=(S.cr c).d)(x2:x<=(S.bl b).d)(hg:S.dR c b=true):Acc (S.put c b x):=by
 have L:Later S (S.put c b x):=Later.put hb hc (by lia)
 refine⟨fun t ht=>?_,fun k hk=>?_,fun k hk=>?_⟩
 ·rw[L.cl,L.bl,L.dR]
  rcases bg.mp (show t∈S.made ++ [(c,b,x)] from ht) with ht|ht
  ·exact h.m t ht
  ·rw[ao.mp ht]
   exact⟨hc,hb,hx,hg⟩
 ·rw[L.bl] at hk
  rw[show(S.put c b x).made=S.made ++ [(c,b,x)] from rfl,rX,mP hb]
  have:=h.b k hk
  by_cases e:k=b
  ·subst e
   rw[a7 rfl,a7 rfl]
   show(S.bl k).d - x=(S.bl k).c - (BR S.made k + x)/\0<=(S.bl k).d - x
   lia
  ·rw[aO e,aO (fun z=>e z.symm)]
   lia
 ·rw[L.cl] at hk
  rw[show(S.put c b x).made=S.made ++ [(c,b,x)] from rfl,rY,pE hc]
  have:=h.c k hk
  by_cases e:k=c
  ·subst e
   rw[a7 rfl,a7 rfl]
   show(S.cr k).d - x=(S.cr k).b - (BS S.made k + x)/\0<=(S.cr k).d - x
   lia
  ·rw[aO e,aO (fun z=>e z.symm)]
   lia
theorem rZ {ex:Bool}{c:Nat}: ∀{l:List Nat} {S:Bk},l.Nodup->Acc S->c < S.credits.length->(∀b∈l,b < S.aC.length/\0 < (S.bl b).d)->Acc (l.foldl (bP ex c) S)/\(l.foldl (bP ex c) S).credits.length=S.credits.length/\(l.foldl (bP ex c) S).aC.length=S.aC.length
 |[],S,_,h,_,_=>⟨h,rfl,rfl⟩
 |b :: l,S,nd,h,hc,hl=>by
  rw[dJ]
  rw[eh] at nd
  obtain⟨hb,pb⟩:=hl b bw
  by_cases q:0 < (S.cr c).d/\S.dR c b=true/\((S.cr c).d=(S.bl b).d∨ex=false)
  ·have e:bP ex c S b=S.put c b (fE (S.cr c).d (S.bl b).d):=a7 q
   rw[e]
   have mn:1<=fE (S.cr c).d (S.bl b).d/\fE (S.cr c).d (S.bl b).d<=(S.cr c).d/\fE (S.cr c).d (S.bl b).d<=(S.bl b).d:=by
    unfold fE
    split <;> lia
   have L:Later S (S.put c b (fE (S.cr c).d (S.bl b).d)):=Later.put hb hc (by lia)
   obtain⟨r1,r2,r3⟩:=rZ (ex:=ex) nd.2 (h.put hc hb mn.1 mn.2.1 mn.2.2 q.2.1) (by rw[L.cl]; exact hc) (fun b' pY=>by
    obtain⟨u1,u2⟩:=hl b' (aU _ pY)
    refine⟨by rw[L.bl]; exact u1,?_⟩
    have nb:b'≠b:=fun z=>nd.1 (z▸pY)
    rw[mP hb,aO nb]
    exact u2)
   exact⟨r1,r2.trans L.cl,r3.trans L.bl⟩
  ·have e:bP ex c S b=S:=aO q
   rw[e]
   exact rZ nd.2 h hc fun b' pY=>hl b' (aU _ pY)
theorem nL {ex:Bool}{aN:Str}: ∀{l:List Nat} {S:Bk},Acc S->(∀c∈l,c < S.credits.length)->Acc (l.foldl (bZ aN ex) S)
 |[],_,h,_=>h
 |c :: l,S,h,hl=>by
  rw[dJ]
  obtain⟨r1,r2,_⟩:=rZ (ex:=ex) (iz S.aC aN (·.b)) h (hl c bw) (fun b hb=>⟨(cE.mp hb).1,(cE.mp hb).2.2⟩)
  exact nL r1 fun c' Kk=>by
   show c' < (bZ aN ex S c).credits.length
   rw[show(bZ aN ex S c).credits.length=S.credits.length from r2]
   exact hl c' (aU _ Kk)
theorem Acc.iB {S:Bk}(h:Acc S)(aN:Str):Acc (S.iB aN):=
 nL (nL h fun c hc=>(cE.mp hc).1) fun c hc=>(cE.mp hc).1
theorem Acc.enter {S:Bk}(h:Acc S){d:bD}(hb:S.bar d=""):Acc (S.enter d):=by
 cases d with
 |dQ w dy u a=>
  refine h.il rfl ?_
  have pY:(if a < 1 then("no amount":Str) else if u < dy then("too early":Str) else("":Str))="":=hb
  split at pY
  ·exact absurd pY n4
  ·show 0<=a; lia
 |pZ w dy a=>
  refine h.fR rfl ?_
  have pY:(if a < 1 then("no amount":Str) else("":Str))="":=hb
  split at pY
  ·exact absurd pY n4
  ·show 0<=a; lia
 |note b dy a=>
  refine h.fR rfl ?_
  have:=(nQ hb).2
  show 0<=a
  lia
 |set c b a=>
  obtain⟨⟨c1,c2⟩,⟨b1,b2⟩,g,x,m1,m2⟩:=lh hb
  exact h.put (by lia) (by lia) x m1 m2 g
 |fJ w=>exact h.iB w
 |iM m=>exact h
 |ask o w d=>exact h
 |iy w d l=>exact h
theorem vv: ∀(l:List (Int×bD)) {S T:Bk},Acc S->cF l S=some T->Acc T
 |[],S,T,h,e=>by
  cases e
  exact h
 |(k,d) :: l,S,T,h,e=>by
  unfold cF at e
  split at e
  ·rename_i hb
   exact vv l (h.enter hb) e
  ·cases e
theorem Good.acc {T:iW}{n:Nat}(h:Good T n):Acc T.bk:=vv T.steps Acc.new h.w
def ez (l:List Rw):Nat:=(l.filter fun r=>decide (0 < r.d)).length
theorem oa (r:Rw)(l:List Rw):ez (r :: l)=ez l + if 0 < r.d then 1 else 0:=by
 unfold ez
 by_cases h:0 < r.d
 ·rw[List.filter_cons_of_pos (by simpa using h),if_pos h]; rfl
 ·rw[List.filter_cons_of_neg (by simpa using h),if_neg h]; rfl
theorem vw: ∀{l:List Rw} {i:Nat} {r:Rw},i < l.length->r.d<=(l.getD i default).d->ez (l.set i r)<=ez l/\(0 < (l.getD i default).d->r.d<=0->ez (l.set i r) + 1=ez l)
 |[],_,_,h,_=>absurd h (fP _)
 |x :: l,0,r,_,hd=>by
  have Fc:r.d<=x.d:=hd
  show ez (r :: l)<=ez (x :: l)/\(0 < x.d->r.d<=0->ez (r :: l) + 1=ez (x :: l))
  rw[oa,oa]
  by_cases a:0 < r.d
  ·rw[a7 a,a7 (by lia)]
   exact⟨aB _,fun _ h=>by lia⟩
  ·rw[aO a]
   by_cases b:0 < x.d
   ·rw[a7 b]
    exact⟨by lia,fun _ _=>rfl⟩
   ·rw[aO b]
    exact⟨aB _,fun h=>absurd h b⟩
 |x :: l,i + 1,r,h,hd=>by
  obtain⟨h1,h2⟩:=vw (l:=l) (i:=i) (r:=r) (Nat.lt_of_succ_lt_succ h) hd
  show ez (x :: l.set i r)<=ez (x :: l)/\(0 < (l.getD i default).d->r.d<=0->ez (x :: l.set i r) + 1=ez (x :: l))
  rw[oa,oa]
  exact⟨by lia,fun a b=>by have:=h2 a b; lia⟩
def Bk.zL (S:Bk):Nat:=S.made.length + ez S.aC + ez S.credits
theorem EV {S:Bk}{c b:Nat}{x:Int}(hc:c < S.credits.length)(hb:b < S.aC.length)(hx:0<=x):(S.put c b x).zL<=S.zL + 1/\(0 < (S.cr c).d->0 < (S.bl b).d->x=fE (S.cr c).d (S.bl b).d->(S.put c b x).zL<=S.zL):=by
 obtain⟨b1,b2⟩:=vw (l:=S.aC) (i:=b) (r:=(S.bl b).less x) hb (by show(S.bl b).d - x<=(S.bl b).d; lia)
 obtain⟨c1,c2⟩:=vw (l:=S.credits) (i:=c) (r:=(S.cr c).less x) hc (by show(S.cr c).d - x<=(S.cr c).d; lia)
 have e:(S.put c b x).zL=S.made.length + 1 + ez (S.aC.set b ((S.bl b).less x)) + ez (S.credits.set c ((S.cr c).less x)):=by
  show(S.made ++ [(c,b,x)]).length + _ + _ =_
  rw[aF]
  rfl
 rw[e]
 unfold Bk.zL
 refine⟨by lia,fun h1 h2 h3=>?_⟩
 by_cases q:(S.bl b).d < (S.cr c).d
 ·have hz:((S.bl b).less x).d<=0:=by
   show(S.bl b).d - x<=0
   rw[h3]
   unfold fE
   rw[a7 q]
   lia
  have:=b2 h2 hz
  lia
 ·have hz:((S.cr c).less x).d<=0:=by
   show(S.cr c).d - x<=0
   rw[h3]
   unfold fE
   rw[aO q]
   lia
  have:=c2 h1 hz
  lia
theorem r6 {ex:Bool}{c:Nat}: ∀{l:List Nat} {S:Bk},l.Nodup->c < S.credits.length->(∀b∈l,b < S.aC.length/\0 < (S.bl b).d)->(l.foldl (bP ex c) S).zL<=S.zL/\(l.foldl (bP ex c) S).credits.length=S.credits.length
 |[],S,_,_,_=>⟨aB _,rfl⟩
 |b :: l,S,nd,hc,hl=>by
  rw[dJ]
  rw[eh] at nd
  obtain⟨hb,pb⟩:=hl b bw
  by_cases q:0 < (S.cr c).d/\S.dR c b=true/\((S.cr c).d=(S.bl b).d∨ex=false)
  ·have e:bP ex c S b=S.put c b (fE (S.cr c).d (S.bl b).d):=a7 q
   rw[e]
   have mn:0<=fE (S.cr c).d (S.bl b).d:=by
    unfold fE
    split <;> lia
   have L:Later S (S.put c b (fE (S.cr c).d (S.bl b).d)):=Later.put hb hc mn
   have p:=(EV hc hb mn).2 q.1 pb rfl
   obtain⟨r1,r2⟩:=r6 (ex:=ex) (S:=S.put c b (fE (S.cr c).d (S.bl b).d)) nd.2 (by rw[L.cl]; exact hc) (fun b' pY=>by
    obtain⟨u1,u2⟩:=hl b' (aU _ pY)
    refine⟨by rw[L.bl]; exact u1,?_⟩
    have nb:b'≠b:=fun z=>nd.1 (z▸pY)
    rw[mP hb,aO nb]
    exact u2)
   exact⟨a0 r1 p,r2.trans L.cl⟩
  ·have e:bP ex c S b=S:=aO q
   rw[e]
   exact r6 nd.2 hc fun b' pY=>hl b' (aU _ pY)
theorem nM {ex:Bool}{aN:Str}: ∀{l:List Nat} {S:Bk},(∀c∈l,c < S.credits.length)->(l.foldl (bZ aN ex) S).zL<=S.zL
 |[],_,_=>aB _
 |c :: l,S,hl=>by
  rw[dJ]
  obtain⟨r1,r2⟩:=r6 (ex:=ex) (iz S.aC aN (·.b)) (hl c bw) (fun b hb=>⟨(cE.mp hb).1,(cE.mp hb).2.2⟩)
  refine a0 (nM fun c' Kk=>?_) r1
  show c' < (bZ aN ex S c).credits.length
  rw[show(bZ aN ex S c).credits.length=S.credits.length from r2]
  exact hl c' (aU _ Kk)
theorem GU (S:Bk)(aN:Str):(S.iB aN).zL<=S.zL:=
 a0 (nM fun c hc=>(cE.mp hc).1) (nM fun c hc=>(cE.mp hc).1)
theorem r9 (l:List Rw)(r:Rw):ez (l ++ [r])<=ez l + 1:=by
 unfold ez
 rw[gf,aF]
 have:=a6 (fun r:Rw=>decide (0 < r.d)) [r]
 have e:[r].length=1:=rfl
 lia
theorem GV {S:Bk}{d:bD}(hb:S.bar d=""):(S.enter d).zL<=S.zL + 1:=by
 cases d with
 |dQ w dy u a=>
  have:=r9 S.aC ⟨w,dy,u,a,a⟩
  show S.made.length + ez (S.aC ++ [_]) + ez S.credits<=S.made.length + ez S.aC + ez S.credits + 1
  lia
 |pZ w dy a=>
  have:=r9 S.credits ⟨w,dy,a,-1,a⟩
  show S.made.length + ez S.aC + ez (S.credits ++ [_])<=S.made.length + ez S.aC + ez S.credits + 1
  lia
 |note b dy a=>
  have:=r9 S.credits ⟨(S.bl b.toNat).aN,dy,a,b,a⟩
  show S.made.length + ez S.aC + ez (S.credits ++ [_])<=S.made.length + ez S.aC + ez S.credits + 1
  lia
 |set c b a=>
  obtain⟨⟨c1,c2⟩,⟨b1,b2⟩,g,x,m1,m2⟩:=lh hb
  exact(EV (by lia) (by lia) (by lia)).1
 |fJ w=>exact rq (GU S w)
 |iM m=>exact cZ _
 |ask o w d=>exact cZ _
 |iy w d l=>exact cZ _
theorem vx: ∀(l:List (Int×bD)) {S T:Bk},cF l S=some T->T.zL<=S.zL + l.length
 |[],S,T,e=>by
  cases e
  exact aB _
 |(k,d) :: l,S,T,e=>by
  unfold cF at e
  split at e
  ·rename_i hb
   have h1:=vx l e
   have h2:=GV hb
   rw[cf]
   lia
  ·cases e
theorem Good.made {T:iW}{n:Nat}(h:Good T n):T.bk.made.length<=n:=by
 have h1:=vx T.steps h.w
 have h2:=h.len
 have h3:Bk.new.zL=0:=rfl
 have h4:T.bk.made.length<=T.bk.zL:=by unfold Bk.zL; lia
 lia
end L2
namespace eN
open PySem L2 PyProof.Rows JR
seal L2.oG L2.PS L2.PE L2.PT L2.PW L2.PA L2.PC L2.PG L2.JL L2.PI L2.Kz L2.JN L2.PO L2.ou L2.Mi L2.iu L2.Hv L2.Nn
section
variable {P:Program}{w:World}{K:PySem.W.Frag}{mg:Str->Option Value}{base:Heap}
theorem xV {H:Hp}{rs:List Rw}{ps:List Addr}(h:eX H rs ps){a:Addr}(ha:a∈ps): ∃xs,H a=some (.lst xs):=by
 induction h with
 |nil=>cases ha
 | @cons r p rs ps hr t ih=>
  rcases aw.mp ha with ha|ha
  ·rw[ha]
   exact⟨_,hr⟩
  ·exact ih ha
theorem L6 {H:Hp}{sd a:Addr}{S:Bk}{f:fG}(h:dr H sd S f)(hb:a∈f.fp): ∃xs,H a=some (.lst xs):=by
 obtain⟨ms,m1,_⟩:=h.hm
 unfold fG.fp at hb
 rcases aw.mp hb with z|z
 ·rw[z]; exact⟨_,h.hb⟩
 rcases aw.mp z with z|z
 ·rw[z]; exact⟨_,h.hc⟩
 rcases aw.mp z with z|z
 ·rw[z]; exact⟨_,m1⟩
 rcases bg.mp z with z|z
 ·exact xV h.rb z
 ·exact xV h.rc z
theorem Pc {H H':Hp}{sd:Addr}{S:Bk}{f:fG}(h:dr H sd S f)(k: ∀a o,H a=some o->(∀ps,o≠ .mz ps)->H' a=some o):dr H' sd S f:=by
 refine h.keep (fun b o hb e=>?_) (fun a xs e=>k _ _ e (fun _ z=>by cases z))
 refine k _ _ e (fun ps z=>?_)
 rcases hb with hb|hb
 ·rw[hb,h.dict,z] at e
  cases e
 ·obtain⟨xs,q⟩:=L6 h hb
  rw[q,z] at e
  cases e
theorem GW {ms:List (Nat×Nat×Int)}(h:ms.length<=60):(Dt.lst (ms.map fun t=> .tup [.int t.1,.int t.2.1,.int t.2.2])).size<=100000/\(Dt.lst (ms.map fun t=> .tup [.int t.1,.int t.2.1,.int t.2.2])).plain=true:=by
 have h1:=nZ (fun t:Nat×Nat×Int=>Dt.tup [.int t.1,.int t.2.1,.int t.2.2]) 4 ms (fun x _=>aB _)
 refine⟨?_,pU _ ms fun x _=>rfl⟩
 show 1 + Dt.fB (ms.map fun t=>Dt.tup [.int t.1,.int t.2.1,.int t.2.2])<=100000
 omega
def kJ (S:Bk)(ms:List (Nat×Nat×Int)):List Int:=(List.range S.credits.length).map fun k=>(S.cr k).b - BS ms k
def mj (S:Bk)(ms:List (Nat×Nat×Int)):List Int:=(List.range S.aC.length).map fun k=>(S.bl k).c - BR ms k
theorem xW (g:Nat->Int){n i:Nat}(h:i < n):((List.range n).map g).getD i 0=g i:=by
 rw[ai,aD,List.getElem?_range h]; rfl
theorem BU {g g':Nat->Int}{n i:Nat}{v:Int}(h:i < n)(e:g' i=v)(o: ∀k,k≠i->g' k=g k):((List.range n).map g).set i v=(List.range n).map g':=by
 apply List.ext_getElem
 ·rw[dI,ae,ae]
 ·intro k h1 h2
  rw[dI,ae,dv] at h1
  rw[List.getElem_set,G9,G9,List.getElem_range]
  split
  ·rename_i z
   rw[← z,e]
  ·rename_i z
   rw[o k fun q=>z q.symm]
theorem Dw (S:Bk)(ms:List (Nat×Nat×Int)){t:Nat×Nat×Int}(h:t.1 < S.credits.length):(kJ S ms).set t.1 ((kJ S ms).getD t.1 0 - t.2.2)=kJ S (ms ++ [t]):=by
 unfold kJ
 rw[xW _ h]
 refine BU h ?_ fun k hk=>?_
 ·rw[rY,a7 rfl]; omega
 ·rw[rY,aO fun z=>hk z.symm]; omega
theorem Dx (S:Bk)(ms:List (Nat×Nat×Int)){t:Nat×Nat×Int}(h:t.2.1 < S.aC.length):(mj S ms).set t.2.1 ((mj S ms).getD t.2.1 0 - t.2.2)=mj S (ms ++ [t]):=by
 unfold mj
 rw[xW _ h]
 refine BU h ?_ fun k hk=>?_
 ·rw[rX,a7 rfl]; omega
 ·rw[rX,aO fun z=>hk z.symm]; omega
theorem xX {rows:List Rw}{g:Rw->Int}{i:Nat}(h:i < rows.length):(rows.take (i + 1)).map g=(rows.take i).map g ++ [g (rows.getD i default)]:=by
 rw[l9 h,aQ,ai,af h]; rfl
theorem BV (rows:List Rw)(g:Rw->Int):rows.map g=(List.range rows.length).map fun k=>g (rows.getD k default):=by
 have e:=rK rows (default:Rw)
 have e2:rows.map g=((List.range rows.length).map fun j=>rows.getD j default).map g:=by rw[e]
 rw[e2,fF]; rfl
theorem JJ:aS ["_law_script","_law_cells","_law_asked","_law_state","_law_handed","_law_found","_law_frees","_law_lefts","_law_credit","_law_bill","_law_amount"] ["_law_script"] (ay (top 64)):={}
theorem Pd {cps:List (Addr×Addr)}{f:Addr}{fd:FuncData}(F:gp K "law" "law" (top 64) f fd)(T:Txt K mg){A:dZ}{tB tC:Addr}(G:jz K mg A)(DB:qb K mg "bills_in_order" (top 17) tB)(DC:qb K mg "credits_in_order" (top 18) tC)(jc:tB≠tC)(hnd:A.iY≠A.tooMuch)(KB:K.In base)(BM:BMain mg base)(VW: ∃c,(c,tB)∈cps)(hcC: ∃c,(c,tC)∈cps):lN P w K mg base rE 13 f fd ["_law_script"] (JH K cps):=by
 have Dy:fe P w K mg base "settings" 12 ["deeds"] (vt A tB tC):=Dv T G DB DC jc hnd KB BM
 have BW:=BN (P:=P) (w:=w) (base:=base) T
 have zM:=zI (P:=P) (w:=w) (base:=base) T
 have q0:=zE (P:=P) (w:=w) (base:=base) T
 have jh:=nu (P:=P) (w:=w) (base:=base) T
 have oF:=oE (P:=P) (w:=w) (base:=base) T
 refine F.ok (k:=12) JJ (fun vs H Q E h=>?_) (fun cX A' outer s H vs Q E hr h=>?_)
 ·obtain⟨a,ns,rfl,_⟩:=h
  rfl
 ·obtain⟨a,ns,rfl,hS,hz,hO,k⟩:=h
  have ke:lE H tB:=let⟨c,hc⟩:=VW; JG (hO _ hc)
  have jK:l5 H tC:=let⟨c,hc⟩:=hcC; JG (hO _ hc)
  have nd:=JJ.nd
  have hu:=kz hr
  refine⟨_,(ah (sv 1 nd (qo tI (pv 0) (qm aj) (qm (aV dM aj (fc BW hr (aa (pv 0) (aa aj (aa aj ak))))))))
(ah (sv 2 nd (fc zM hr (aa (pv 1) ak)))
(ah (sv 3 nd (xt (fc oF hr (aa (pv 2) ak)) aj))
(ah (sv 4 nd (fZ lO (by rfl) T.rN boot_list (aa (pv 2) ak)))
(ah (sv 5 nd (fc Dy hr (aa (pv 4) ak)))
(ah (bV (PW.pt (pw_or (jL (gg (fc q0 hr (aa (pv 4) (aa (pv 2) ak))))) (pw_or1 (jL (gg (fc q0 hr (aa (pv 5) (aa (cO hu (pv 3) aR (fun _ _=>rfl)) ak))))))))
(av (a9 mB))
bp)
(ah (jb (i:=6) nd rfl (Or.inl rfl) (tn:=["_law_row"]) (cn:=[]) (cj:=[]) rfl (yk (by decide +kernel) (by decide +kernel) rfl (by decide +kernel)) (dz (cO hu (pv 3) aR (fun _ _=>rfl))) (fun _ _ _ _=>(eG (i:=0) (show(["_law_row"]:List Str).Nodup by decide +kernel) rfl (Or.inl rfl))) (fun _ _ _ _=>lQ) (fun _ _ _ _=>(js (jd (K:=K) rfl) (pv 0) aj (fun _ _=>rfl))))
(ah (jb (i:=7) nd rfl (Or.inl rfl) (tn:=["_law_row"]) (cn:=[]) (cj:=[]) rfl (yk (by decide +kernel) (by decide +kernel) rfl (by decide +kernel)) (dz (cO hu (pv 3) aR (fun _ _=>rfl))) (fun _ _ _ _=>(eG (i:=0) (show(["_law_row"]:List Str).Nodup by decide +kernel) rfl (Or.inl rfl))) (fun _ _ _ _=>lQ) (fun _ _ _ _=>(js (jd (K:=K) rfl) (pv 0) aj (fun _ _=>rfl))))
(ah (fH bT rfl (dz (pv 5)) (iT rfl (ck (gn 8 nd) (ck (gn 9 nd) (ck (gn 10 nd) gG))))
(ah (bV (PW.pt (pw_or (a8 jN (pv 10) aj (ba _)) (pw_or1 (jL (gg (fc jh hr (aa (pv 3) (aa (pv 8) (aa (pv 9) ak)))))))))
(av (a9 mB))
bp)
(ah (kK (aV eV (xl (pv 6) (pv 8)) (pv 10)) (mE (pv 6) (pv 8) set_list))
(av (kK (aV eV (xl (pv 7) (pv 9)) (pv 10)) (mE (pv 7) (pv 9) set_list))))))
(av (a9 (o9 (eQ Ad (bo (xU rfl) (by rfl) T.AJ boot_min (aa (aV lP (pv 6) (bW (aa aj ak))) ak)) aj (ba _)) (mC (eQ Ad (bo (xU rfl) (by rfl) T.AJ boot_min (aa (aV lP (pv 7) (bW (aa aj ak))) ak)) aj (ba _))))))))))))))),?_⟩
  refine⟨_,rfl,_,rfl,_,rfl,a,_,44,140,rfl,hS,(by rw[ae]; exact hz),_,_,rfl,rfl,_,rfl,a,_,rfl,hS,fun pc nc=>?_⟩
  obtain⟨cs,ZE⟩:=L3 ns (some 1) (some (1 + 44))
  have qC:cs.length<=44:=by
   have h:=L1 (ns.map V.int) 1 45 (by decide)
   have e:qp (ns.map V.int) (some ((1:Nat):Int)) (some ((45:Nat):Int))=cs.map V.int:=ZE
   rw[e,ae] at h
   exact h
  rw[ZE]
  have s1:=aG.new (o:= .lst (cs.map V.int)) nc
  have ZF:upd H pc (.lst (cs.map V.int)) pc=some (.lst (cs.map V.int)):=ag
  generalize upd H pc (.lst (cs.map V.int))=H1 at s1 ZF
  refine⟨_,rfl,pc,cs,rfl,bL.of ZF,(by omega),fun pa ds ms H2 s2 LN Jz EU cB=>?_⟩
  have S2:=s1.trans s2
  have ji:lE H2 tB:=bR ke S2
  have kq:l5 H2 tC:=bR jK S2
  clear s1 s2 S2 ke jK
  refine⟨_,rfl,pa,ds,ms,rfl,LN,Jz,(by omega),cB,fun t v ps sd us g H3 s3 ht mO Qf Tj Pa Ez hG=>?_⟩
  refine⟨t,_,_,.ref sd,rfl,rfl,cG.of ht,rfl,?_⟩
  have Pe:=s3 _ _ LN
  have Tr:=Jz.mono s3.tk
  have qU:lE H3 tB:=bR ji s3
  have qV:l5 H3 tC:=bR kq s3
  clear s3 ji kq LN Jz
  refine⟨_,rfl,pa,ms,rfl,.inl (bL.of Pe),fun ph nh=>?_⟩
  have s4:=aG.new (o:= .lst ms) nh
  have pQ:lE _ tB:=bR qU s4
  have pS:l5 _ tC:=bR qV s4
  have Pf:=s4 _ _ Pe
  have L8:=Tr.mono s4.tk
  have L9:=Tj.same s4
  have Ma:upd H3 ph (.lst ms) ph=some (.lst ms):=ag
  generalize upd H3 ph (.lst ms)=H4 at s4 pQ pS Pf L8 L9 Ma
  clear s4 qU qV Pe Tr Tj
  refine⟨_,rfl,ph,ds,ms,rfl,Ma,L8,(by omega),cB,pQ,pS,fun D ws H5 F5 Dl Dm nD hD zT=>?_⟩
  have Jx: ∀t∈[tB,tC],∃ps,H4 t=some (.mz ps):=fun t z=>by
   simp only[List.mem_cons,List.not_mem_nil,or_false] at z
   rcases z with rfl|rfl
   ·exact cU pQ
   ·exact cU pS
  have Ts:=qY F5 Jx Pf (fun _ z=>by cases z)
  have Tt:=qY F5 Jx Ma (fun _ z=>by cases z)
  have Pg:=L8.mono (fun b xs e=>qY F5 Jx e (fun _ z=>by cases z))
  have Ph:=Pc L9 (fun a o e z=>qY F5 Jx e z)
  have nDf:D∉g.fp:=L9.off nD
  have Mb:=hG.acc
  have Tu:=hG.made
  have wf:=hG.wf (by omega:ds.length<=60)
  generalize (gS ds iW.new 0).2.bk=S at Ph zT Mb Tu wf
  clear L9 F5 Dl Dm pQ pS Pf Ma L8 Jx
  obtain⟨sz,pl⟩:=Du cB (by omega)
  refine⟨_,rfl,_,rfl,_,_,_,rfl,lR Tt Pg,lR Ts Pg,sz,pl,fun H6 s6=>⟨_,rfl,cg ?_⟩⟩
  have Mc:=Ph.same s6
  have XQ:=s6 _ _ hD
  have vi:=zT.mono s6.tk
  obtain⟨Bo,m1,m2⟩:=Mc.hm
  obtain⟨sz2,pl2⟩:=GW (ms:=S.made) (by omega)
  refine⟨_,rfl,_,rfl,sd,_,rfl,Mc.gM,_,_,_,rfl,lR XQ (gO.Ua vi),lR m1 (gO.Ua m2),sz2,pl2,fun H7 s7=>⟨_,rfl,cg ?_⟩⟩
  have zN:=Mc.same s7
  have UE:=s7 _ _ XQ
  have GC:=vi.mono s7.tk
  clear Mc Ph s6 s7 XQ vi m1 m2 hD zT Ts Tt Pg
  have lc:=zN.rc.length
  have lb:=zN.rb.length
  have acn:S.credits.length<=60:=by have:=wf.lc; omega
  have aco:S.aC.length<=60:=by have:=wf.lb; omega
  refine⟨_,rfl,sd,_,rfl,zN.gC,g.pc,rfl,⟨_,bL.of zN.hc⟩,?_⟩
  refine eo (K:=K) (a:=g.pc) (xs:=g.cps.map V.ref) (fun D i σ H8=>H7 D=none/\ ∃v,σ=[v]/\aG H7 H8/\H8 D=some (.lst (((S.credits.take i).map (·.b)).map V.int))) (fun D hD=>⟨hD,none,rfl,aG.new hD,ag⟩) (fun D i σ H8 _ ⟨_,_,_,t3,_⟩=>bL.of (t3 _ _ zN.hc)) ?_ ?_
  ·rintro D' i x σ H8 hx ⟨wt,v,rfl,t3,Ur⟩
   have hi:i < S.credits.length:=by
    have:=(au.mp hx).1
    rw[ae] at this
    omega
   obtain⟨p,e1,e2,e3⟩:=zN.lc hi
   rw[aD,e1] at hx
   obtain rfl:V.ref p=x:=aE hx
   refine⟨_,rfl,p,_,_,.int (S.cr i).b,rfl,rfl,bL.of (t3 _ _ e3),rfl,_,Ur,bh (by rw[ae,ae,bz]; omega),wt,_,rfl,t3.dj wt,?_⟩
   rw[ag,xX hi,aQ]
   rfl
  rintro pf σ H8 JZ ⟨_,v8,rfl,t8,Ew⟩
  rw[ae,← lc,bb] at Ew
  have ef:S.credits.map (·.b)=kJ S []:=by
   rw[BV]
   exact eK fun k _=>(Int.sub_zero _).symm
  rw[ef] at Ew
  have wU:=zN.same t8
  have nff:pf∉g.fp:=zN.off JZ
  refine⟨_,rfl,sd,_,rfl,wU.gB,g.pb,rfl,⟨_,bL.of wU.hb⟩,?_⟩
  refine eo (K:=K) (a:=g.pb) (xs:=g.iD.map V.ref) (fun D i σ H9=>H8 D=none/\ ∃v,σ=[v]/\aG H8 H9/\H9 D=some (.lst (((S.aC.take i).map (·.c)).map V.int))) (fun D hD=>⟨hD,none,rfl,aG.new hD,ag⟩) (fun D i σ H9 _ ⟨_,_,_,t3,_⟩=>bL.of (t3 _ _ wU.hb)) ?_ ?_
  ·rintro D' i x σ H9 hx ⟨wt,v,rfl,t3,hl9⟩
   have hi:i < S.aC.length:=by
    have:=(au.mp hx).1
    rw[ae] at this
    omega
   obtain⟨p,e1,e2,e3⟩:=wU.lb hi
   rw[aD,e1] at hx
   obtain rfl:V.ref p=x:=aE hx
   refine⟨_,rfl,p,_,_,.int (S.bl i).c,rfl,rfl,bL.of (t3 _ _ e3),rfl,_,hl9,bh (by rw[ae,ae,bz]; omega),wt,_,rfl,t3.dj wt,?_⟩
   rw[ag,xX hi,aQ]
   rfl
  rintro J1 σ H9 SE ⟨_,v9,rfl,t9,iw⟩
  rw[ae,← lb,bb] at iw
  have el:S.aC.map (·.c)=mj S []:=by
   rw[BV]
   exact eK fun k _=>(Int.sub_zero _).symm
  rw[el] at iw
  have Tv:=wU.same t9
  have Wv:J1∉g.fp:=wU.off SE
  have Pj:=t9 _ _ Ew
  have XR:=t8.trans t9
  have ZG:=XR _ _ UE
  have Tw:=GC.mono XR.tk
  have ZH:pf≠J1:=aL Ew SE
  have XS:D∉[pf,J1]:=fun z=>by
   simp only[List.mem_cons,List.not_mem_nil,or_false] at z
   rcases z with z|z
   ·rw[← z,UE] at JZ
    cases JZ
   ·have:=t8 _ _ UE
    rw[← z,this] at SE
    cases SE
  clear zN wU t8 t9 XR UE GC Ew ef el
  have DU:=aW Tw
  have Pk: ∀ms,(kJ S ms).length=S.credits.length:=fun ms=>by unfold kJ; rw[List.length_map,List.length_range]
  have Pl: ∀ms,(mj S ms).length=S.aC.length:=fun ms=>by unfold mj; rw[List.length_map,List.length_range]
  refine⟨_,rfl,D,rfl,⟨_,bL.of ZG⟩,?_⟩
  refine gR (K:=K) (a:=D) (xs:=ws) (fun i σ H'=> ∃(x8 x9 BB:Option V),σ=[some (.ref a),some (.ref pc),some (.ref pa),some (.ref sd),some (.ref ph),some (.ref D),some (.ref pf),some (.ref J1),x8,x9,BB]/\Frame [pf,J1] H9 H'/\H' pf=some (.lst ((kJ S (S.made.take i)).map V.int))/\H' J1=some (.lst ((mj S (S.made.take i)).map V.int)))
   ⟨none,none,none,rfl,Frame.refl,Pj,iw⟩ (fun i σ H' _ ⟨_,_,_,_,f2,_⟩=>bL.of (f2 _ _ XS ZG)) ?_ ?_
  ·rintro i x σ H' hx ⟨x8,x9,BB,rfl,f2,UG,QJ⟩
   have hi:i < S.made.length:=by have:=(au.mp hx).1; omega
   have oP:=af hi
   obtain⟨v',hv,p,rfl,hp⟩:=bO Tw oP
   rw[hx] at hv
   obtain rfl:x= .ref p:=aE hv
   obtain⟨a1,a2,a3,a4⟩:=Mb.m _ (bJ hi)
   have mH:=l9 hi
   generalize S.made[i]=t at hp a1 a2 a3 a4 mH
   have GJ: ∀{b:Addr} {o:HO},H9 b=some o->(∀xs,o≠ .lst xs)->H' b=some o:=fun{b o} e n=>f2 _ _ (fun z=>by
    simp only[List.mem_cons,List.not_mem_nil,or_false] at z
    rcases z with z|z
    ·rw[z,Pj] at e
     exact n _ (aE e).symm
    ·rw[z,iw] at e
     exact n _ (aE e).symm) e
   have XI:dr H' sd S g:=Tv.keep (fun b o hb e=>f2 _ _ (fun z=>by
    simp only[List.mem_cons,List.not_mem_nil,or_false] at z
    rcases hb with hb|hb
    ·have e9:=Tv.dict
     rcases z with z|z
     ·rw[← hb,z,Pj] at e9
      cases e9
     ·rw[← hb,z,iw] at e9
      cases e9
    ·rcases z with z|z
     ·exact nff (z▸hb)
     ·exact Wv (z▸hb)) e) (fun b xs e=>GJ e (fun _ z=>by cases z))
   refine⟨p,_,rfl,cG.of (GJ hp (fun _ z=>by cases z)),rfl,_,_,rfl,_,_,rfl,_,_,rfl,rfl,?_⟩
   refine⟨_,rfl,_,_,rfl,rfl,_,rfl,cI (fun z=>?_) (fun _=>?_)⟩
   ·have:=aZ z
    omega
   refine⟨_,rfl,_,rfl,_,rfl,sd,S,g,t.1,t.2.1,rfl,XI,a1,a2,fun H2 s2=>⟨_,rfl,cI (fun z=>?_) (fun _=>?_)⟩⟩
   ·rw[a4] at z
    cases z
   have ZI:=s2 _ _ UG
   have G4:=s2 _ _ QJ
   refine⟨_,rfl,_,rfl,pf,_,_,.int ((kJ S (S.made.take i)).getD t.1 0),rfl,rfl,bL.of ZI,mZ (by rw[Pk]; exact a1),_,rfl,_,_,rfl,rfl,?_⟩
   refine⟨_,rfl,_,rfl,pf,_,_,t.1,rfl,rfl,ZI,nV (by rw[ae,Pk]; exact a1),?_⟩
   have Tc:upd H2 pf (.lst (((kJ S (S.made.take i)).map V.int).set t.1 (.int ((kJ S (S.made.take i)).getD t.1 0 - t.2.2)))) J1=some (.lst ((mj S (S.made.take i)).map V.int)):=by rw[az ZH.symm]; exact G4
   refine⟨_,rfl,_,rfl,J1,_,_,.int ((mj S (S.made.take i)).getD t.2.1 0),rfl,rfl,bL.of Tc,mZ (by rw[Pl]; exact a2),_,rfl,_,_,rfl,rfl,?_⟩
   refine⟨_,rfl,_,rfl,J1,_,_,t.2.1,rfl,rfl,Tc,nV (by rw[ae,Pl]; exact a2),?_⟩
   refine⟨_,_,_,rfl,((f2.cS s2).tr (Frame.upd (by simp))).tr (Frame.upd (by simp)),?_,?_⟩
   ·rw[az ZH,ag,mH,← Dw S _ a1,vF]
   ·rw[ag,mH,← Dx S _ a2,vF]
  ·rintro σ H' ⟨x8,x9,BB,rfl,f2,UG,QJ⟩
   rw[← DU,bb] at UG QJ
   have XT: ∀m∈kJ S S.made ++ [0],0<=m:=fun m hm=>by
    rcases bg.mp hm with hm|hm
    ·obtain⟨q,hq,rfl⟩:=bK.mp hm
     have:=Mb.c q (cV.mp hq)
     omega
    ·rw[ao.mp hm]
     exact eJ _
   have posB: ∀m∈mj S S.made ++ [0],0<=m:=fun m hm=>by
    rcases bg.mp hm with hm|hm
    ·obtain⟨q,hq,rfl⟩:=bK.mp hm
     have:=Mb.b q (cV.mp hq)
     omega
    ·rw[ao.mp hm]
     exact eJ _
   refine⟨_,rfl,(by show 1<=sizeLine; decide),fun p1 n1=>?_⟩
   have u1:=aG.new (o:= .lst [V.int 0]) n1
   refine⟨pf,p1,_,_,rfl,rfl,u1 _ _ UG,ag,?_,fun p2 n2=>?_⟩
   ·refine dk (bh ?_)
    rw[ae,Pk]
    show S.credits.length + 1<=1000
    omega
   have u2:=aG.new (o:= .lst ((kJ S S.made).map V.int ++ [V.int 0])) n2
   refine⟨p2,kJ S S.made ++ [0],rfl,bL.of (by rw[ag,List.map_append]; rfl),by simp,fun m hm=>?_⟩
   have Sr:=XT m hm
   refine⟨_,_,rfl,rfl,true,c8 V.bl (aM Sr),fC ?_⟩
   have G4:=u2 _ _ (u1 _ _ QJ)
   refine⟨_,rfl,(by show 1<=sizeLine; decide),fun p3 n3=>?_⟩
   have u3:=aG.new (o:= .lst [V.int 0]) n3
   refine⟨J1,p3,_,_,rfl,rfl,u3 _ _ G4,ag,?_,fun p4 n4=>?_⟩
   ·refine dk (bh ?_)
    rw[ae,Pl]
    show S.aC.length + 1<=1000
    omega
   refine⟨p4,mj S S.made ++ [0],rfl,bL.of (by rw[ag,List.map_append]; rfl),by simp,fun m' hm'=>?_⟩
   have TN:=posB m' hm'
   refine⟨_,_,rfl,rfl,?_⟩
   have e:decide (m'≥0)=true:=aM TN
   show Q (.bl (decide (m'≥0))) _
   rw[e]
   exact k _
section
variable {h:Heap}{x q:Str}{st:Stmt}{f C R:Addr}{oc kV dc pm cd ct:Value}{od an:Option Addr}{sl:Array (Option Value)}
abbrev MS (K:PySem.W.Frag)(f:Addr)(x q:Str)(st:Stmt)(oc:Value)(od an:Option Addr)(kV dc pm cd ct:Value)(sl:Array (Option Value)):Prop:=K.lookup f=some ⟨oc,od,.func (PySem.W.fnOf x q (gH st) (dD st) (ay st) .none kV dc pm an cd ct),sl⟩
theorem dh (X:K.In h)(G:h.Ns mainGlobals mg)(a:PySem.W.nsIn K mainGlobals x=some (some (.ref f)))(l:MS K f x x st oc od an kV dc pm cd ct sl)(c:PySem.W.codeIn K cd x=true)(k:PySem.W.keepIn K (.ref f)=true):Df K mg x st:=⟨_,_,pz l c k,de X G a⟩
theorem lH (a:PySem.W.findIn K (.ref C) x=some (some (.ref f)))(i:PySem.W.isFn K (.ref f)=true)(l:MS K f x q st oc od an kV dc pm cd ct sl)(c:PySem.W.codeIn K cd q=true)(k:PySem.W.keepIn K (.ref f)=true): ∃f fd,gp K x q st f fd/\Meth K C x f:=⟨_,_,pz l c k,a,i,k⟩
theorem EW (a:PySem.W.findIn K (.ref C) "__init__"=some (some (.ref f)))(i:PySem.W.isFn K (.ref f)=true)(l:MS K f "__init__" q st oc od an kV dc pm cd ct sl)(c:PySem.W.codeIn K cd q=true)(k:PySem.W.keepIn K (.ref f)=true)(m:PySem.W.makesIn K C=true)(kc:PySem.W.keepIn K (.ref C)=true): ∃f fd,gp K "__init__" q st f fd/\Mk K C f:=⟨_,_,pz l c k,m,a,i,kc⟩
theorem sR (a:PySem.W.findIn K (.ref C) "__init__"=some (some (.ref f)))(t:PySem.W.typeIn K (.ref f)=some (.type "function"))(l:MS K f "__init__" q st oc od an kV dc pm cd ct sl)(c:PySem.W.codeIn K cd q=true)(k:PySem.W.keepIn K (.ref f)=true): ∃f fd,gp K "__init__" q st f fd/\PySem.W.findIn K (.ref C) "__init__"=some (some (.ref f))/\PySem.W.typeIn K (.ref f)=some (.type "function"):=⟨_,_,pz l c k,a,t⟩
theorem Pm (r:PySem.W.readsIn K C (.type "type")=true)(s:PySem.W.specialIn K (.ref C) "__getattribute__"=some (some (.builtin "type.__getattribute__")))(a:PySem.W.findCls K (.ref C) (.type "type") "__init__"=some (.val (.ref f)))(l:MS K f "__init__" q st oc od an kV dc pm cd ct sl)(c:PySem.W.codeIn K cd q=true)(k:PySem.W.keepIn K (.ref f)=true): ∃f fd,gp K "__init__" q st f fd/\Eb K C f:=⟨_,_,pz l c k,r,s,a,k⟩
theorem sS {nm:Str}{N:Addr}{bs:List Value}{sn:List Str}{sub:List Value}{ab:Bool}{col:Option Bool}{dd:Option Addr}{k0 k1 k2 k3 k5:Option Value}(o:K.lookup C=some (excClassObj nm q C N bs [.ref R,.type "Exception",.type "BaseException",.type "object"] true sn sub ab col dd k0 k1 k2 k3 k5 "Exception.__new__"))
  (a:PySem.W.findIn K (.ref C) "__setattr__"=some (some (.builtin "object.__setattr__"))) (b:PySem.W.findIn K (.ref C) "__getattribute__"=some (some (.builtin "BaseException.__getattribute__"))) (c:PySem.W.findIn K (.ref C) "__getattr__"=some none) (d:PySem.W.findIn K (.ref C) "text"=some none):gU K C R:=⟨⟨_,_,_,_,_,_,_,_,_,_,_,_,_,_,_,o,.inr rfl⟩,a,b,c,d⟩
theorem Pn {nm:Str}{N:Addr}{bs:List Value}{sn:List Str}{sub:List Value}{ab:Bool}{col:Option Bool}{dd:Option Addr}{k0 k1 k2 k3 k5:Option Value}(o:K.lookup C=some (excClassObj nm q C N bs [.type "Exception",.type "BaseException",.type "object"] true sn sub ab col dd k0 k1 k2 k3 k5 "Exception.__new__"))
  (a:PySem.W.findIn K (.ref C) "__setattr__"=some (some (.builtin "object.__setattr__"))) (b:PySem.W.findIn K (.ref C) "__getattribute__"=some (some (.builtin "BaseException.__getattribute__"))) (c:PySem.W.findIn K (.ref C) "__getattr__"=some none) (d:PySem.W.findIn K (.ref C) "text"=some none):gU K C C:=⟨⟨_,_,_,_,_,_,_,_,_,_,_,_,_,_,_,o,.inl ⟨rfl,rfl⟩⟩,a,b,c,d⟩
theorem MT {c tb:Addr}(X:K.In h)(G:h.Ns mainGlobals mg)(a:PySem.W.nsIn K mainGlobals x=some (some (.ref f)))(l:MS K f x x st oc od an kV dc pm (.ref c) ct sl)(cd:PySem.W.codeIn K (.ref c) x=true)(k:PySem.W.keepIn K (.ref f)=true)(hd:PySem.W.codeHdIn K c tb=true)(n:K.lookup tb=none):qb K mg x st tb/\ ∃c,PySem.W.codeHdIn K c tb=true/\K.lookup tb=none:=⟨⟨f,c,oc,od,kV,dc,pm,an,ct,sl,l,cd,k,de X G a,hd⟩,c,hd,n⟩
end
end
theorem Pp {K:PySem.W.Frag}{mg:Str->Option Value}{l7 iI fU l8 eA j9 nN jk ka kb lI jl nO:Addr}(h1:mg "Refusal"=some (.ref eA))(h2:gU K eA eA)(h3:PySem.W.keepIn K (.ref eA)=true)(h4: ∃f fd,gp K "__init__" "Refusal.__init__" (mem 3 0) f fd/\Eb K eA f)(h5:mg "NoCredit"=some (.ref j9))(h6:gU K j9 eA)(h7:PySem.W.keepIn K (.ref j9)=true)(h8: ∃f fd,gp K "__init__" "NoCredit.__init__" (mem 4 0) f fd/\PySem.W.findIn K (.ref j9) "__init__"=some (some (.ref f))/\PySem.W.typeIn K (.ref f)=some (.type "function"))(h9:mg "NoBill"=some (.ref nN))(Rh:gU K nN eA)(VH:PySem.W.keepIn K (.ref nN)=true)(TX: ∃f fd,gp K "__init__" "NoBill.__init__" (mem 5 0) f fd/\PySem.W.findIn K (.ref nN) "__init__"=some (some (.ref f))/\PySem.W.typeIn K (.ref f)=some (.type "function"))(h13:mg "NotTheirs"=some (.ref jk))(h14:gU K jk eA)(Vq:PySem.W.keepIn K (.ref jk)=true)(h16: ∃f fd,gp K "__init__" "NotTheirs.__init__" (mem 6 0) f fd/\PySem.W.findIn K (.ref jk) "__init__"=some (some (.ref f))/\PySem.W.typeIn K (.ref f)=some (.type "function"))(h17:mg "NoAmount"=some (.ref ka))(h18:gU K ka eA)(h19:PySem.W.keepIn K (.ref ka)=true)(h20: ∃f fd,gp K "__init__" "NoAmount.__init__" (mem 7 0) f fd/\PySem.W.findIn K (.ref ka) "__init__"=some (some (.ref f))/\PySem.W.typeIn K (.ref f)=some (.type "function"))(h21:mg "TooEarly"=some (.ref kb))(h22:gU K kb eA)(h23:PySem.W.keepIn K (.ref kb)=true)(Wi: ∃f fd,gp K "__init__" "TooEarly.__init__" (mem 8 0) f fd/\PySem.W.findIn K (.ref kb) "__init__"=some (some (.ref f))/\PySem.W.typeIn K (.ref f)=some (.type "function"))(h25:mg "TooMuch"=some (.ref lI))(h26:gU K lI eA)(h27:PySem.W.keepIn K (.ref lI)=true)(h28: ∃f fd,gp K "__init__" "TooMuch.__init__" (mem 9 0) f fd/\PySem.W.findIn K (.ref lI) "__init__"=some (some (.ref f))/\PySem.W.typeIn K (.ref f)=some (.type "function"))(h29:mg "NoSetting"=some (.ref jl))(Zp:gU K jl eA)(h31:PySem.W.keepIn K (.ref jl)=true)(h32: ∃f fd,gp K "__init__" "NoSetting.__init__" (mem 10 0) f fd/\PySem.W.findIn K (.ref jl) "__init__"=some (some (.ref f))/\PySem.W.typeIn K (.ref f)=some (.type "function"))(h33:mg "Needed"=some (.ref nO))(Wj:gU K nO eA)(h35:PySem.W.keepIn K (.ref nO)=true)(h36: ∃f fd,gp K "__init__" "Needed.__init__" (mem 11 0) f fd/\PySem.W.findIn K (.ref nO) "__init__"=some (some (.ref f))/\PySem.W.typeIn K (.ref f)=some (.type "function"))(h37:mg "Bill"=some (.ref l7))(h38:vK K l7)(h39:cq K l7 "number")(h40:cq K l7 "who")(h41:cq K l7 "day")(h42:cq K l7 "due")(h43:cq K l7 "amount")(h44: ∃f fd,gp K "__init__" "Bill.__init__" (mem 13 0) f fd/\Mk K l7 f)(h45:mg "Credit"=some (.ref iI))(h46:vK K iI)(h47:cq K iI "number")(h48:cq K iI "who")(h49:cq K iI "day")(h50:cq K iI "amount")(h51:cq K iI "only")(h52: ∃f fd,gp K "__init__" "Credit.__init__" (mem 14 0) f fd/\Mk K iI f)(h53:mg "Work"=some (.ref fU))(Wk:vK K fU)(h55:cq K fU "bills")(h56:cq K fU "all_credits")(h57:cq K fU "lefts")(h58:cq K fU "frees")(h59:cq K fU "made")(h60: ∃f fd,gp K "__init__" "Work.__init__" (mem 25 0) f fd/\Mk K fU f)(h61: ∃f fd,gp K "tell_bill" "Work.tell_bill" (mem 25 1) f fd/\Meth K fU "tell_bill" f)(h62: ∃f fd,gp K "tell_payment" "Work.tell_payment" (mem 25 2) f fd/\Meth K fU "tell_payment" f)(h63: ∃f fd,gp K "tell_note" "Work.tell_note" (mem 25 3) f fd/\Meth K fU "tell_note" f)(BZ: ∃f fd,gp K "tell_credit" "Work.tell_credit" (mem 25 4) f fd/\Meth K fU "tell_credit" f)(h65: ∃f fd,gp K "set_by_hand" "Work.set_by_hand" (mem 25 5) f fd/\Meth K fU "set_by_hand" f)(h66: ∃f fd,gp K "sweep" "Work.sweep" (mem 25 6) f fd/\Meth K fU "sweep" f)(h67: ∃f fd,gp K "one_round" "Work.one_round" (mem 25 7) f fd/\Meth K fU "one_round" f)(h68: ∃f fd,gp K "put" "Work.put" (mem 25 8) f fd/\Meth K fU "put" f)(h69: ∃f fd,gp K "credit_at" "Work.credit_at" (mem 25 9) f fd/\Meth K fU "credit_at" f)(h70: ∃f fd,gp K "bill_at" "Work.bill_at" (mem 25 10) f fd/\Meth K fU "bill_at" f)(h71:mg "Book"=some (.ref l8))(h72:vK K l8)(h73:cq K l8 "kept")(h74:cq K l8 "work")(h75: ∃f fd,gp K "__init__" "Book.__init__" (mem 29 0) f fd/\Mk K l8 f)(h76: ∃f fd,gp K "do" "Book.do" (mem 29 1) f fd/\Meth K l8 "do" f)(h77: ∃f fd,gp K "undo" "Book.undo" (mem 29 2) f fd/\Meth K l8 "undo" f)(h78: ∃f fd,gp K "in_force" "Book.in_force" (mem 29 3) f fd/\Meth K l8 "in_force" f):jz K mg ⟨l7,iI,fU,l8,eA,j9,nN,jk,ka,kb,lI,jl,nO⟩:=⟨h1,h2,h3,h4,h5,h6,h7,h8,h9,Rh,VH,TX,h13,h14,Vq,h16,h17,h18,h19,h20,h21,h22,h23,Wi,h25,h26,h27,h28,h29,Zp,h31,h32,h33,Wj,h35,h36,h37,h38,h39,h40,h41,h42,h43,h44,h45,h46,h47,h48,h49,h50,h51,h52,h53,Wk,h55,h56,h57,h58,h59,h60,h61,h62,h63,BZ,h65,h66,h67,h68,h69,h70,h71,h72,h73,h74,h75,h76,h77,h78⟩
theorem all_mk {l:PySem.W.OpenLaw}{w:World}{K:PySem.W.Frag}{h:Heap}{mg:Str->Option Value}{f fa:Addr}{oc kV dc pm cd ct:Value}{od an:Option Addr}{sl:Array (Option Value)}(X:K.In h)(G:h.Ns mainGlobals mg)(hfa:mg "law"=some (.ref fa)){A:dZ}(GP:jz K mg A)(hnd:A.iY≠A.tooMuch)(T:Txt K mg)(DB:qb K mg "bills_in_order" (top 17) 249/\ ∃c,PySem.W.codeHdIn K c 249=true/\K.lookup 249=none)(DC:qb K mg "credits_in_order" (top 18) 254/\ ∃c,PySem.W.codeHdIn K c 254=true/\K.lookup 254=none)(a:PySem.W.nsIn K mainGlobals "law"=some (some (.ref f)))(lk:MS K f "law" "law" (top 64) oc od an kV dc pm cd ct sl)(c:PySem.W.codeIn K cd "law"=true)(k:PySem.W.keepIn K (.ref f)=true):
  ∃(fd:FuncData) (cps:List (Addr×Addr)),(∀cp∈cps,cp.2∈[254,249])/\(∀cp∈cps,PySem.W.codeHdIn K cp.1 cp.2=true/\K.lookup cp.2=none)/\(∀(s:Shared) (u:Value),BindsTo s fd ⟨[u],[]⟩ [("_law_script",u)])/\
   ∀base:Heap,K.In base->base.Ns mainGlobals mg->BMain mg base->lN l.prog w K mg base rE 13 fa fd ["_law_script"] (JH K cps):=by
 have e:=hfa.symm.trans (de X G a)
 cases e
 obtain⟨DB,cb,b1,b2⟩:=DB
 obtain⟨DC,cc,c1,c2⟩:=DC
 refine⟨_,[(cb,249),(cc,254)],fun cp hc=>?_,fun cp hc=>?_,fun s v=> .of_eq rfl,fun base KB _ BM=>Pd (pz (st:=top 64) lk c k) T GP DB DC (by decide) hnd KB BM ⟨cb,by simp⟩ ⟨cc,by simp⟩⟩
 ·simp only[List.mem_cons,List.not_mem_nil,or_false] at hc
  rcases hc with rfl|rfl <;> simp
 ·simp only[List.mem_cons,List.not_mem_nil,or_false] at hc
  rcases hc with rfl|rfl
  ·exact⟨b1,b2⟩
  ·exact⟨c1,c2⟩
end eN
open PySem PySem.W PyProof.Rows L2
set_option maxRecDepth 100000 in
set_option maxHeartbeats 0 in
theorem PySem.Challenge.cw_spikebook_k06_whole_never_twice_holds : PySem.Challenge.rw_spikebook_k06_whole_never_twice.Holds := by
 w_on; o_law; k_head; (case hw=>w_witness2)
 k_fill
 refine L2.Iv (n:=63) (k:=13) (ts:=[254,249]) (x:="_law_script") (sp:=fun K cps=>eN.JH K cps) rfl (by decide) rfl ⟨rfl,by decide,by decide⟩ (fun w h Y=>⟨PySem.W.km_in_of Y,PySem.W.km_tabs_of Y⟩) ?F (fun _ cps _ a ns hl hO hS=>⟨a,ns,rfl,hS,hl,hO,fun _=>rfl⟩)
 case F=>
  intro w mg fa h KX G QT
  refine' eN.all_mk KX G QT (eN.Pp (de KX G ?q1) (eN.Pn ?q2 ?q3 ?q4 ?q5 ?q6) ?q7 (eN.Pm ?q8 ?q9 ?q10 ?q11 ?q12 ?q13) (de KX G ?q14) (eN.sS ?q15 ?q16 ?q17 ?q18 ?q19) ?q20 (eN.sR ?q21 ?q22 ?q23 ?q24 ?q25) (de KX G ?q26) (eN.sS ?q27 ?q28 ?q29 ?q30 ?q31) ?q32 (eN.sR ?q33 ?q34 ?q35 ?q36 ?q37) (de KX G ?q38) (eN.sS ?q39 ?q40 ?q41 ?q42 ?q43) ?q44 (eN.sR ?q45 ?q46 ?q47 ?q48 ?q49) (de KX G ?q50) (eN.sS ?q51 ?q52 ?q53 ?q54 ?q55) ?q56 (eN.sR ?q57 ?q58 ?q59 ?q60 ?q61) (de KX G ?q62) (eN.sS ?q63 ?q64 ?q65 ?q66 ?q67) ?q68 (eN.sR ?q69 ?q70 ?q71 ?q72 ?q73) (de KX G ?q74) (eN.sS ?q75 ?q76 ?q77 ?q78 ?q79) ?q80 (eN.sR ?q81 ?q82 ?q83 ?q84 ?q85) (de KX G ?q86) (eN.sS ?q87 ?q88 ?q89 ?q90 ?q91) ?q92 (eN.sR ?q93 ?q94 ?q95 ?q96 ?q97) (de KX G ?q98) (eN.sS ?q99 ?q100 ?q101 ?q102 ?q103) ?q104 (eN.sR ?q105 ?q106 ?q107 ?q108 ?q109) (de KX G ?q110) ⟨?q111,?q112,?q113,?q114⟩ ?q115 ?q116 ?q117 ?q118 ?q119 (eN.EW ?q120 ?q121 ?q122 ?q123 ?q124 ?q125 ?q126) (de KX G ?q127) ⟨?q128,?q129,?q130,?q131⟩ ?q132 ?q133 ?q134 ?q135 ?q136 (eN.EW ?q137 ?q138 ?q139 ?q140 ?q141 ?q142 ?q143) (de KX G ?q144) ⟨?q145,?q146,?q147,?q148⟩ ?q149 ?q150 ?q151 ?q152 ?q153 (eN.EW ?q154 ?q155 ?q156 ?q157 ?q158 ?q159 ?q160) (eN.lH ?q161 ?q162 ?q163 ?q164 ?q165) (eN.lH ?q166 ?q167 ?q168 ?q169 ?q170) (eN.lH ?q171 ?q172 ?q173 ?q174 ?q175) (eN.lH ?q176 ?q177 ?q178 ?q179 ?q180) (eN.lH ?q181 ?q182 ?q183 ?q184 ?q185) (eN.lH ?q186 ?q187 ?q188 ?q189 ?q190) (eN.lH ?q191 ?q192 ?q193 ?q194 ?q195) (eN.lH ?q196 ?q197 ?q198 ?q199 ?q200) (eN.lH ?q201 ?q202 ?q203 ?q204 ?q205) (eN.lH ?q206 ?q207 ?q208 ?q209 ?q210) (de KX G ?q211) ⟨?q212,?q213,?q214,?q215⟩ ?q216 ?q217 (eN.EW ?q218 ?q219 ?q220 ?q221 ?q222 ?q223 ?q224) (eN.lH ?q225 ?q226 ?q227 ?q228 ?q229) (eN.lH ?q230 ?q231 ?q232 ?q233 ?q234) (eN.lH ?q235 ?q236 ?q237 ?q238 ?q239)) ?hnd ⟨eN.dh KX G ?q240 ?q241 ?q242 ?q243,eN.dh KX G ?q244 ?q245 ?q246 ?q247,eN.dh KX G ?q248 ?q249 ?q250 ?q251,eN.dh KX G ?q252 ?q253 ?q254 ?q255,eN.dh KX G ?q256 ?q257 ?q258 ?q259,eN.dh KX G ?q260 ?q261 ?q262 ?q263,eN.dh KX G ?q264 ?q265 ?q266 ?q267,eN.dh KX G ?q268 ?q269 ?q270 ?q271,eN.dh KX G ?q272 ?q273 ?q274 ?q275,eN.dh KX G ?q276 ?q277 ?q278 ?q279,eN.dh KX G ?q280 ?q281 ?q282 ?q283,eN.dh KX G ?q284 ?q285 ?q286 ?q287,eN.dh KX G ?q288 ?q289 ?q290 ?q291,eN.dh KX G ?q292 ?q293 ?q294 ?q295,eN.dh KX G ?q296 ?q297 ?q298 ?q299,eN.dh KX G ?q300 ?q301 ?q302 ?q303,eN.dh KX G ?q304 ?q305 ?q306 ?q307,eN.dh KX G ?q308 ?q309 ?q310 ?q311,eN.dh KX G ?q312 ?q313 ?q314 ?q315,eN.dh KX G ?q316 ?q317 ?q318 ?q319,eN.dh KX G ?q320 ?q321 ?q322 ?q323,eN.dh KX G ?q324 ?q325 ?q326 ?q327,eN.dh KX G ?q328 ?q329 ?q330 ?q331,eN.dh KX G ?q332 ?q333 ?q334 ?q335,eN.dh KX G ?q336 ?q337 ?q338 ?q339,eN.dh KX G ?q340 ?q341 ?q342 ?q343,eN.dh KX G ?q344 ?q345 ?q346 ?q347,eN.dh KX G ?q348 ?q349 ?q350 ?q351,eN.dh KX G ?q352 ?q353 ?q354 ?q355,eN.dh KX G ?q356 ?q357 ?q358 ?q359,eN.dh KX G ?q360 ?q361 ?q362 ?q363,eN.dh KX G ?q364 ?q365 ?q366 ?q367,eN.dh KX G ?q368 ?q369 ?q370 ?q371,eN.dh KX G ?q372 ?q373 ?q374 ?q375,eN.dh KX G ?q376 ?q377 ?q378 ?q379,eN.dh KX G ?q380 ?q381 ?q382 ?q383,eN.dh KX G ?q384 ?q385 ?q386 ?q387,eN.dh KX G ?q388 ?q389 ?q390 ?q391,eN.dh KX G ?q392 ?q393 ?q394 ?q395,eN.dh KX G ?q396 ?q397 ?q398 ?q399,eN.dh KX G ?q400 ?q401 ?q402 ?q403,eN.dh KX G ?q404 ?q405 ?q406 ?q407,eN.dh KX G ?q408 ?q409 ?q410 ?q411,eN.dh KX G ?q412 ?q413 ?q414 ?q415,b0 KX G ?q416,b0 KX G ?q417,b0 KX G ?q418,b0 KX G ?q419,b0 KX G ?q420,b0 KX G ?q421,b0 KX G ?q422,b0 KX G ?q423,b0 KX G ?q424,b0 KX G ?q425,b0 KX G ?q426,b0 KX G ?q427,b0 KX G ?q428,b0 KX G ?q429,b0 KX G ?q430⟩ (eN.MT KX G ?q431 ?q432 ?q433 ?q434 ?u1 ?u2) (eN.MT KX G ?q435 ?q436 ?q437 ?q438 ?u3 ?u4) ?q439 ?q440 ?q441 ?q442
  case q1|q2|q3|q4|q5|q6|q7|q8|q9|q10|q11|q12|q13|q14|q15|q16|q17|q18|q19|q20|q21|q22|q23|q24|q25|q26|q27|q28|q29|q30|q31|q32|q33|q34|q35|q36|q37|q38|q39|q40|q41|q42|q43|q44|q45|q46|q47|q48|q49|q50|q51|q52|q53|q54|q55|q56|q57|q58|q59|q60|q61|q62|q63|q64|q65|q66|q67|q68|q69|q70|q71|q72|q73|q74|q75|q76|q77|q78|q79|q80|q81|q82|q83|q84|q85|q86|q87|q88|q89|q90|q91|q92|q93|q94|q95|q96|q97|q98|q99|q100|q101|q102|q103|q104|q105|q106|q107|q108|q109|q110|q111|q112|q113|q114|q115|q116|q117|q118|q119|q120|q121|q122|q123|q124|q125|q126|q127|q128|q129|q130|q131|q132|q133|q134|q135|q136|q137|q138|q139|q140|q141|q142|q143|q144|q145|q146|q147|q148|q149|q150|q151|q152|q153|q154|q155|q156|q157|q158|q159|q160|q161|q162|q163|q164|q165|q166|q167|q168|q169|q170|q171|q172|q173|q174|q175|q176|q177|q178|q179|q180|q181|q182|q183|q184|q185|q186|q187|q188|q189|q190|q191|q192|q193|q194|q195|q196|q197|q198|q199|q200|q201|q202|q203|q204|q205|q206|q207|q208|q209|q210|q211|q212|q213|q214|q215|q216|q217|q218|q219|q220|q221|q222|q223|q224|q225|q226|q227|q228|q229|q230|q231|q232|q233|q234|q235|q236|q237|q238|q239|q240|q241|q242|q243|q244|q245|q246|q247|q248|q249|q250|q251|q252|q253|q254|q255|q256|q257|q258|q259|q260|q261|q262|q263|q264|q265|q266|q267|q268|q269|q270|q271|q272|q273|q274|q275|q276|q277|q278|q279|q280|q281|q282|q283|q284|q285|q286|q287|q288|q289|q290|q291|q292|q293|q294|q295|q296|q297|q298|q299|q300|q301|q302|q303|q304|q305|q306|q307|q308|q309|q310|q311|q312|q313|q314|q315|q316|q317|q318|q319|q320|q321|q322|q323|q324|q325|q326|q327|q328|q329|q330|q331|q332|q333|q334|q335|q336|q337|q338|q339|q340|q341|q342|q343|q344|q345|q346|q347|q348|q349|q350|q351|q352|q353|q354|q355|q356|q357|q358|q359|q360|q361|q362|q363|q364|q365|q366|q367|q368|q369|q370|q371|q372|q373|q374|q375|q376|q377|q378|q379|q380|q381|q382|q383|q384|q385|q386|q387|q388|q389|q390|q391|q392|q393|q394|q395|q396|q397|q398|q399|q400|q401|q402|q403|q404|q405|q406|q407|q408|q409|q410|q411|q412|q413|q414|q415|q416|q417|q418|q419|q420|q421|q422|q423|q424|q425|q426|q427|q428|q429|q430|q431|q432|q433|q434|q435|q436|q437|q438|q439|q440|q441|q442=>((try unfold eN.MS); (try unfold L2.cq); k_is)
  (case hnd=>decide)
  (case u1=>kernel_rfl)
  (case u2=>kernel_rfl)
  (case u3=>kernel_rfl)
  (case u4=>kernel_rfl)
