import PyProof.Rows.All
import Wide.All
import OpenK.AllK
import Wide.FinOn
import Lean
import PyProof.EqAt
import PyProof.EqKinds
import PyProof.TupleCall
import PySem.Str
import PyProof.StationsW
import PyProof.PassesOwn
import PyProof.RulesAs
import PyProof.ExcClass2
import PyProof.InstStore
import PyProof.ExcArgs
import PyProof.ExcClass
import PyProof.InstStoreFacts
import PyProof.ExcBaseAll.Exception
import PyProof.ExcAttrAll.Exception
import PyProof.DictValues
import PyProof.DictWalks
import PySem.Challenge.RW_spikebook_k04_answers
set_option Elab.async false
set_option linter.all false
set_option maxRecDepth 100000
set_option maxHeartbeats 4000000
def ae:=@List.length_map
def af:=@List.getElem?_eq_getElem
def aj:=@List.getD_eq_getElem?_getD
def ak:=@List.mem_singleton
def au:=@List.getElem?_eq_some_iff
def aw:=@List.mem_cons
def ay:=@PySem.Heap.get?_push_of_some
def az:=@PySem.wpAny_bind
def aB:=@List.getElem?_map
def aC:=@Nat.le_refl
def aE:=@decide_eq_true
def aF:=@Option.some.inj
def aH:=@List.length_append
def aK:=@PySem.Heap.lt_size
def aL:=@PySem.Paired.length
def aM:=@List.map_append
def aN:=@of_decide_eq_true
def aQ:=@if_neg
def aV:=@Bool.false_ne_true
def aX:=@List.length_filter_le
def aY:=@Nat.le_trans
def a0:=@Nat.ne_of_lt
def a7:=@if_pos
def a8:=@List.take_length
def ba:=@Nat.lt_of_lt_of_le
def bc:=@List.mem_cons_of_mem
def bf:=@decide_eq_false
def bh:=@List.length_take
def bo:=@List.mem_append_right
def bp:=@Nat.zero_le
def bq:=@Option.map_eq_some_iff
def br:=@PySem.wpAny_loadPart_at
def bw:=@List.size_toArray
def bA:=@List.mem_append
def bB:=@PySem.wpAny_pure
def bC:=@List.mem_map
def bF:=@List.getElem_mem
def bH:=@PySem.PassesOwn.never
def bI:=@List.mem_cons_self
def bK:=@PySem.Heap.get?_push_size
def bP:=@List.append_nil
def bU:=@PySem.W.mg_none_of
def bZ:=@List.length_cons
def b9:=@PySem.mem_of_lookup
def cf:=@PySem.wpAny_mono
def cu:=@List.filter_cons_of_pos
def cv:=@Int.eq_ofNat_of_zero_le
def cA:=@PySem.Paired.snoc
def cL:=@congrArg
def cO:=@PySem.wpAny_isSubtype_exc
def cQ:=@List.mem_append_left
def cU:=@List.map_cons
def cV:=@PySem.W.mg_of
def c8:=@List.replicate_succ
def df:=@List.mem_range
def di:=@List.length_range
def dF:=@Nat.le_succ
def dG:=@Nat.le_of_lt
def dH:=@PySem.wpAny_passesOwn
def dI:=@Int.toNat_natCast
def dW:=@PySem.W.kia_one
def dX:=@List.length_set
def dY:=@PySem.W.kia_tup
def dZ:=@PyProof.Rows.boot_isinstance
def en:=@PySem.sizeLine_eq
def eo:=@PySem.wpAny_Call_Name_kw
def eM:=@List.mem_filter
def eN:=@List.length_replicate
def eO:=@List.map_map
def eX:=@List.pairwise_cons
def fE:=@List.nodup_cons
def fF:=@List.foldl_cons
def fG:=@Int.le_refl
def fM:=@PySem.wpAny_truthy_bool
def fP:=@Nat.lt_succ_self
def gp:=@List.mem_of_getElem?
def gq:=@List.append_assoc
def gG:=@beq_eq_false_iff_ne
def gH:=@List.map_congr_left
def gI:=@List.filter_cons_of_neg
def hZ:=@PySem.wpAny_holding
def ie:=@PySem.wpAny_standAt
def iA:=@Nat.le_of_eq
def iB:=@Nat.not_lt_zero
def iI:=@Nat.lt_irrefl
def iJ:=@PySem.Calls.callWith_builtin
def iK:=@List.flatten_cons
def iL:=@Nat.lt_succ_of_lt
def jb:=@PySem.wpAny_execs_nil
def jq:=@Int.zero_add
def j7:=@PySem.W.callWith_K
def j8:=@Int.emod_nonneg
def j9:=@List.filter_append
def kM:=@List.getElem?_set_self
def kN:=@PySem.W.cellsFrom_some
def lC:=@Nat.mul_le_mul
def lD:=@Bool.and_false
def lE:=@Int.le_trans
def md:=@List.length_drop
def me:=@List.nodup_range
def mf:=@decide_eq_decide
def mq:=@List.getElem?_set_ne
def mr:=@PySem.Heap.get?_update_other
def mv:=@PySem.Heap.get?_push_ne
def nI:=@PySem.Heap.size_push
def nR:=@PyProof.Rows.callWith_type1
def nS:=@Bool.eq_iff_iff
def nU:=@List.of_mem_zip
def nV:=@Option.map_some
def nW:=@Array.length_toList
def nX:=@List.range_succ
def ow:=@PyProof.Rows.take_snoc
def oR:=@List.getElem?_append_right
def oS:=@PySem.Heap.size_update
def pO:=@Nat.ne_of_gt
def pP:=@Nat.lt_of_le_of_lt
def pQ:=@List.filter_filter
def pS:=@Int.emod_lt_of_pos
def pV:=@List.getElem?_eq_none_iff
def pW:=@Bool.false_and
def rj:=@List.any_eq_false
def rm:=@PySem.W.kitx_list
def rn:=@PySem.W.kitx_dict
def rq:=@List.pairwise_map
def rz:=@List.filter_congr
def rA:=@List.foldl_append
def rB:=@PySem.Heap.SameBut.update
def rC:=@Array.size_setIfInBounds
def sZ:=@PySem.wpAny_newFunctionEnv_cells
def tf:=@List.any_cons
def tU:=@PySem.tupleKind_room_in1
def vU:=@PyProof.Rows.listUpdate_at
def vW:=@Ne.symm
def vX:=@PySem.W.methodCall_KW
def vY:=@List.map_nil
def vZ:=@Nat.succ_mul
def v7:=@List.length_nil
def v8:=@List.getElem?_eq_none
def xu:=@Nat.not_lt
def yt:=@List.getElem?_of_mem
def Au:=@List.take_succ
def AA:=@PySem.W.plainGet_of
def AB:=@PySem.W.callWith_K0
def AD:=@List.map_id
def AE:=@List.toList_toArray
def Cz:=@PySem.codeAny_mono
def CA:=@PySem.Heap.get?_update_self
def DR:=@PySem.wpAny_call
def E6:=@beq_iff_eq
def E7:=@PySem.Calls.evalArgs_plain
def E8:=@Option.isSome_map
def E9:=@List.take_add_one
def Fb:=@Classical.not_not
def Fc:=@Nat.le_succ_of_le
def Fd:=@PySem.codeAny_call_builtin
def G4:=@List.map_set
def Hn:=@Bool.and_eq_true
def Ho:=@PySem.Heap.get?_update_ne
def Hq:=@PySem.wpAny_field
def Kh:=@Array.getD_eq_getD_getElem?
def Ki:=@Array.Perm.refl
def Kj:=@PySem.wpAny_newList
def Kk:=@List.filter_map
def L9:=@PyProof.Rows.get?_update_seq
def MM:=@PySem.plainObj_wpAny_Assign_Attribute
def MN:=@List.Perm.refl
def MO:=@List.mem_of_find?_eq_some
def MP:=@List.getElem?_append_left
def MQ:=@PySem.F.excBase_Exception
def MR:=@List.drop_eq_getElem_cons
def O7:=@Option.isSome_iff_exists
def O8:=@PySem.F.slot_dict_values
namespace PySem.W.Fast
def tw8802441989986643388:=0
def tw10787855355844854763:=0
def tw2582453472955354762:=0
def tw7725487916122028544:=0
def tw14909718269581515513:=0
def tw17824010192969784166:=0
def tw14869517449867777798:=0
def tw12861717263202616605:=0
def tw18299924592565763214:=0
def tw12058006706463840378:=0
def tw11262624241416622026:=0
def tw4368301010702211788:=0
def tw6165180998888520934:=0
def tw11992805102406047863:=0
def tw8675623281556588499:=0
def tw13985698476821031112:=0
def tw17699943593613758486:=0
def tw7289169574617203713:=0
def tw9014516960622247878:=0
def tw2184531051115771988:=0
def tw4091789854585151733:=0
def tw16979562603539662073:=0
def tw4215807868641419316:=0
def tw18401543466037566080:=0
def tw12956168800235790697:=0
def tw16373036260106065209:=0
def tw14747672910886238651:=0
def tw12133811060842237006:=0
def tw13543010208107068672:=0
def tw1306693131130920505:=0
def tw4493687540091493193:=0
def tw13568829400629116798:=0
def tw11816403504485574427:=0
def tw4873968554577991646:=0
def tw10556554782265568482:=0
def tw18129643114716046471:=0
def tw13958059946300124407:=0
def tw6541265657823585226:=0
def tw16285044403562015336:=0
def tw18084943567052324149:=0
def tw10522914268306105173:=0
def tw16725806906781083374:=0
def tw17950440725272743643:=0
def tw583863839685825294:=0
def tw14675608685391837142:=0
def tw14761372290648788906:=0
def tw16975901923849751996:=0
def tw9212750590963272121:=0
def tw6721939918646837010:=0
def tw17565806696894419035:=0
def tw7698137644826127666:=0
def tw15220979934726370232:=0
def tw339834377212597028:=0
def tw9176806885098183669:=0
def tw14862341802514697726:=0
def tw6512448692737915300:=0
def tw6784363053054748095:=0
def tw14003525065571225717:=0
def tw17446065269411183641:=0
def tw2288272236040141395:=0
def tw1962221039199008849:=0
def tw2027105967013024404:=0
def tw17438456648821944815:=0
def tw4998840748641744644:=0
def tw13575191829340322569:=0
def tw5570189363319823497:=0
def tw15964801937285805277:=0
def tw8408141323468186727:=0
def tw14282028432442889468:=0
def tw9054863393217682289:=0
def tw10098700689733556866:=0
def tw15789878054202434027:=0
def tw236056934533944142:=0
def tw13233092925672647873:=0
def tw7482167157173351630:=0
def tw15278287808979403181:=0
def tw259689256826020341:=0
def tw10256787957672738064:=0
def tw14648943918768436821:=0
def tw4593832976749430181:=0
def tw11197302304420363661:=0
def tw12094697351344288041:=0
def tw11003922866541940791:=0
def tw13647674498593756359:=0
def tw13611384044475740930:=0
def tw1053515852264497351:=0
def tw3763407818145773506:=0
def tw13000342592104591580:=0
def tw6696723607360518326:=0
def tw11205893504571371592:=0
def tw7615682160955981521:=0
def tw3965204216678345003:=0
def tw17367749434621231898:=0
def tw2473902638163956318:=0
def tw16835403796070863673:=0
def tw12316427695962269820:=0
def tw2475591506024511517:=0
def tw6454401805259564539:=0
def tw3113818048637403767:=0
def tw1685268855059495599:=0
def tw8143950514559271434:=0
def tw9852800655568046566:=0
def tw52129611165573894:=0
def tw2225177620554087862:=0
def tw8988994890096104067:=0
def tw5351200028284274473:=0
def tw10082595114240952235:=0
def tw1088819552179526725:=0
def tw14119608408056734960:=0
def tw15275594482682950637:=0
def tw6575477206722494040:=0
def tw14858126157513377211:=0
def tw17416395683935539018:=0
def tw9123569452306439761:=0
def tw4419963903734757361:=0
def tw9884559225078344445:=0
def tw10798672909611544817:=0
def tw11234881978104370314:=0
def tw7142355466049497533:=0
def tw11956979571858388714:=0
def tw8250865432252802602:=0
def tw12273098998732356388:=0
def tw17321238486544960071:=0
def tw18320296214963955307:=0
def tw14841656717275443854:=0
def tw12859005145568492198:=0
def tw18229312398786246932:=0
def tw9187893669368476484:=0
def tw10069164339816577420:=0
def tw658449074172288086:=0
def tw11944321255803113565:=0
def tw2796880057601147515:=0
def tw12935387941974719115:=0
def tw15344016957899824414:=0
def tw10878813713705638589:=0
def tw1574771479939050373:=0
def tw11982340514419965442:=0
def tw8810062093690887455:=0
def tw7181082065039388391:=0
def tw14797821777823532588:=0
def tw6030147065236576712:=0
def tw13628761827064958905:=0
def tw6121935022607233037:=0
def tw4813380447924683168:=0
def tw16641750111718129535:=0
def tw6403902675162151574:=0
def tw2370802492785390809:=0
def tw18223191333369636719:=0
def tw17555528513581361501:=0
def tw13558315035085595342:=0
def tw15247259647644303192:=0
def tw4838519964427557915:=0
end PySem.W.Fast
namespace L2
open PySem PySem.Spec PyProof.Rows
abbrev Key:=Sum Int Str
def xv:Key->Value->Bool
 | .inl k,v=>Value.isInt k v
 | .inr x,v=>Value.isStrOf x v
def T8 (w:World):Key->Int
 | .inl k=>hashInt k
 | .inr x=>hashStr w x
theorem eZ: ∀{k:Key} {v:Value},xv k v=true->(∃i t,k=Sum.inl i/\v=Value.int i t)∨(∃x t,k=Sum.inr x/\v=Value.str x t)
 | .inl i,v,h=>by
  obtain⟨t,e⟩:=Value.isInt_shape (k:=i) (v:=v) h
  exact .inl ⟨i,t,rfl,e⟩
 | .inr x,v,h=>by
  obtain⟨t,e⟩:=Value.isStrOf_shape (x:=x) (v:=v) h
  exact .inr ⟨x,t,rfl,e⟩
theorem Fe (i:Int)(t:Tok):xv (.inl i) (.int i t)=true:=by simp[xv,Value.isInt]
theorem Ff (x:Str)(t:Tok):xv (.inr x) (.str x t)=true:=by simp[xv,Value.isStrOf]
theorem MS (a b:Int):decide ((Sum.inl a:Key)=Sum.inl b)=(a == b):=by
 by_cases e:a=b
 ·subst e; simp
 ·have h: ¬ (Sum.inl a:Key)=Sum.inl b:=fun q=>e (Sum.inl.inj q)
  rw[bf h]
  exact(gG.mpr e).symm
theorem MT (a b:Str):decide ((Sum.inr a:Key)=Sum.inr b)=decide (a=b):=by
 by_cases e:a=b
 ·subst e; simp
 ·have h: ¬ (Sum.inr a:Key)=Sum.inr b:=fun q=>e (Sum.inr.inj q)
  rw[bf h,bf e]
theorem MU (a:Int)(b:Str):decide ((Sum.inl a:Key)=Sum.inr b)=false:=bf (fun q=>nomatch q)
theorem MV (a:Str)(b:Int):decide ((Sum.inr a:Key)=Sum.inl b)=false:=bf (fun q=>nomatch q)
def dN (prog:Program)(w:World):PySem.KeyKind prog w Key where
 is:=xv
 hash:=T8 w
 inj:=fun v a b ha hb=>by
  rcases eZ ha with⟨i,t,rfl,rfl⟩|⟨x,t,rfl,rfl⟩
  ·rcases eZ hb with⟨j,u,rfl,e⟩|⟨y,u,rfl,e⟩
   ·injection e with e1 _; rw[e1]
   ·exact nomatch e
  ·rcases eZ hb with⟨j,u,rfl,e⟩|⟨y,u,rfl,e⟩
   ·exact nomatch e
   ·injection e with e1 _; rw[e1]
 byValue:=fun k v h=>by
  rcases eZ h with⟨i,t,rfl,rfl⟩|⟨x,t,rfl,rfl⟩ <;> rfl
 pyHash:=fun hv h=>by
  rcases eZ hv with⟨i,t,rfl,rfl⟩|⟨x,t,rfl,rfl⟩
  ·exact wpAny_pyHash_int h
  ·exact wpAny_pyHash_str h
 eqBool:=fun hu hv h=>by
  rcases eZ hu with⟨i,t,rfl,rfl⟩|⟨x,t,rfl,rfl⟩
  ·rcases eZ hv with⟨j,u,rfl,rfl⟩|⟨y,u,rfl,rfl⟩
   ·rw[MS] at h; exact wpAny_eqBool_int h
   ·rw[MU] at h; exact SeqAt.EqAt.int_str i t y u _ _ _ _ h
  ·rcases eZ hv with⟨j,u,rfl,rfl⟩|⟨y,u,rfl,rfl⟩
   ·rw[MV] at h; exact SeqAt.EqAt.str_int x t j u _ _ _ _ h
   ·rw[MT] at h; exact wpAny_eqBool_str h
 «strs»:=fun k x t v h=>by
  rcases eZ h with⟨i,u,rfl,e⟩|⟨y,u,rfl,e⟩
  ·exact nomatch e
  ·injection e with e1 _
   subst e1
   cases v <;> rfl
theorem AF (prog:Program)(w:World)(i:Int)(t:Tok):(dN prog w).is (.inl i) (.int i t)=true:=Fe i t
theorem AG (prog:Program)(w:World)(x:Str)(t:Tok):(dN prog w).is (.inr x) (.str x t)=true:=Ff x t
inductive V where
 |d8|bl (b:Bool)|int (i:Int)|str (x:Str)|Fg (b:Array UInt8)|Kl (b:UInt64)|ref (a:Addr)|ty (n:String)
 deriving DecidableEq
def RelV:V->Value->Prop
 | .d8,u=>u=Value.none
 | .bl b,u=>u=Value.bool b
 | .int i,u=> ∃t,u=Value.int i t
 | .str x,u=> ∃t,u=Value.str x t
 | .Fg b,u=> ∃t,u=Value.bytes b t
 | .Kl b,u=> ∃t,u=Value.float b t
 | .ref a,u=>u=Value.ref a
 | .ty n,u=>u=Value.type n
abbrev Vals:List V->List Value->Prop:=Paired RelV
theorem Vals.length {xs:List V}{us:List Value}(r:Vals xs us):xs.length=us.length:=aL r
theorem Vals.get: ∀{xs:List V} {us:List Value} {i:Nat} {x:V},Vals xs us->xs[i]? =some x-> ∃u,us[i]? =some u/\RelV x u
 |_,_,_,_,.nil,e=>by simp at e
 |_,_,0,_,.cons r _,e=>by simp at e; subst e; exact⟨_,rfl,r⟩
 |_,_,i + 1,x,.cons _ t,e=>by
  obtain⟨u,h1,h2⟩:=Vals.get (i:=i) (x:=x) t (by simpa using e)
  exact⟨u,by simpa using h1,h2⟩
theorem Vals.set {x:V}{u:Value}(r:RelV x u): ∀{xs:List V} {us:List Value} (i:Nat),Vals xs us->Vals (xs.set i x) (us.set i u)
 |_,_,_,.nil=> .nil
 |_,_,0,.cons _ t=> .cons r t
 |_,_,i + 1,.cons q t=> .cons q (Vals.set r i t)
theorem Vals.append: ∀{xs ys:List V} {us ws:List Value},Vals xs us->Vals ys ws->Vals (xs ++ ys) (us ++ ws)
 |_,_,_,_,.nil,s=>s
 |_,_,_,_,.cons r t,s=> .cons r (Vals.append t s)
theorem Vals.take: ∀{xs:List V} {us:List Value} (n:Nat),Vals xs us->Vals (xs.take n) (us.take n)
 |_,_,0,_=> .nil
 |_,_,_ + 1,.nil=> .nil
 |_,_,n + 1,.cons r t=> .cons r (Vals.take n t)
theorem Vals.drop: ∀{xs:List V} {us:List Value} (n:Nat),Vals xs us->Vals (xs.drop n) (us.drop n)
 |_,_,0,r=>r
 |_,_,_ + 1,.nil=> .nil
 |_,_,n + 1,.cons _ t=>Vals.drop n t
theorem Vals.none_of: ∀{xs:List V} {us:List Value} {i:Nat},Vals xs us->xs[i]? =none->us[i]? =none:=fun{xs us i} r e=>by
 have h1:=r.length
 have h2:xs.length<=i:=pV.mp e
 exact pV.mpr (by lia)
def kO:Option V->Option Value->Prop
 |some v,some u=>RelV v u
 |none,none=>True
 |_,_=>False
def KV {κ:Type}:List (κ×V)->List (κ×Value)->Prop:=Paired fun(p:κ×V) (q:κ×Value)=>p.1=q.1/\RelV p.2 q.2
def kV:Key->V
 | .inl i=> .int i
 | .inr x=> .str x
inductive HO where
 |lst (xs:List V)
 |tup (xs:List V)
 |dK (a9:List (Key×V))|dT (a9:List (List Key×V))
 |set (S:Int->Bool) (n:Nat)
 |ins (C dx:Addr) (fs:List (Str×V))
 |own (x:Addr)
 |xd (fs:List (Str×V))
 |met (f x:Addr)
 |T9 (lo hi:Int)
 |Cr (o:Obj) (u:HO)
 |nJ (ps:Array Value)
 |ext (φ:Heap->Prop)
abbrev Hp:=Addr->Option HO
def upd (H:Hp)(a:Addr)(o:HO):Hp:=fun b=>if b=a then some o else H b
theorem ag {H:Hp}{a:Addr}{o:HO}:upd H a o a=some o:=by unfold upd; rw[if_pos rfl]
theorem aA {H:Hp}{a b:Addr}{o:HO}(h:b≠a):upd H a o b=H b:=by unfold upd; rw[if_neg h]
theorem mw {H:Hp}{a b:Addr}{o u:HO}(h:H a=some o)(h':H b=some u)(d:o≠u):a≠b:=by
 intro e; subst e; rw[h] at h'; exact d (aF h')
theorem aJ {H:Hp}{a b:Addr}{o:HO}(h:H a=some o)(h':H b=none):a≠b:=by
 intro e; subst e; rw[h] at h'; cases h'
section
variable (P:Program)(w:World)
def dr (H:Hp)(h:Heap)(a:Addr):HO->Prop
 | .lst xs=>xs.length<=sizeLine/\ ∃(bY:List Value) (n:Nat),Vals xs bY/\h.get? a=some {cls:= .type "list",data:= .seq bY.toArray n}
 | .tup xs=>xs.length<=sizeLine/\ ∃bY:List Value,Vals xs bY/\IsTup h a bY.toArray
 | .dK a9=>a9.length<=sizeLine/\(a == sysModules)=false/\ ∃vs,KV a9 vs/\h.DictOf (dN P w) a vs
 | .dT a9=>a9.length<=sizeLine/\(a == sysModules)=false/\ ∃xs:List (List Key×Addr×Value),
   Paired (fun(p:List Key×V) (q:List Key×Addr×Value)=>p.1=q.1/\H q.2.1=some (.tup (p.1.map kV))/\RelV p.2 q.2.2) a9 xs/\
   ∃o es ep,h.get? a=some o/\o.ExactDict/\o.data= .dict es ep/\es.toList=xs.map (entryOfKey (tupleKind (dN P w)))/\(xs.map (·.1)).Nodup
 | .set S n=>h.SetOf (intKind P w) a S n
 | .ins C dx fs=>H dx=some (.own a)/\fs.length<=1000/\dx≠a/\h.get? a=some (PySem.W.instObj C dx)/\
   ∃mA,h.Ns1 dx mA/\(∀f,kO (fs.lookup f) (mA f))/\PySem.Within mA (fs.map (·.1))
 | .own _=> ∃o,h.get? a=some o
 | .xd fs=> ∃mA,h.Ns1 a mA/\ ∀f,kO (fs.lookup f) (mA f)
 | .T9 lo hi=> ∃t u v,h.get? a=some {cls:= .type "range",data:= .fields #[.int lo t,.int hi u,.int 1 v]}
 | .Cr o u=>h.get? a=some o/\dr H h a u
 | .nJ ps=>h.get? a=some {cls:= .none,data:= .fields ps}
 | .met f x=>h.get? a=some (PySem.W.methodObj (.ref f) (.ref x))
 | .ext φ=>φ h/\(∃o,h.get? a=some o)/\ ∀h1 h2:Heap,φ h1->(∀o,h1.get? a=some o->h2.get? a=some o)->φ h2
def nY (H:Hp)(h:Heap):Prop:= ∀a o,H a=some o->dr P w H h a o
end
section
variable {P:Program}{w:World}{H H':Hp}{h h':Heap}{a:Addr}{o:HO}
theorem dr.lt (x:dr P w H h a o):a < h.objs.size:=by
 cases o with
 |lst xs=>obtain⟨_,_,_,_,e⟩:=x; exact aK e
 |tup xs=>obtain⟨_,_,_,p⟩:=x; exact p.lt
 |dK a9=>obtain⟨_,_,_,_,o,_,_,e,_⟩:=x; exact aK e
 |dT a9=>obtain⟨_,_,_,_,o,_,_,e,_⟩:=x; exact aK e
 |set S n=>obtain⟨o,_,_,_,e,_⟩:=x; exact aK e
 |ins C dx fs=>obtain⟨_,_,_,e,_⟩:=x; exact aK e
 |own y=>obtain⟨_,e⟩:=x; exact aK e
 |xd fs=>obtain⟨_,⟨_,_,_,e,_⟩,_⟩:=x; exact aK e
 |T9 lo hi=>obtain⟨_,_,_,e⟩:=x; exact aK e
 |Cr ob u=>obtain⟨e,_⟩:=x; exact aK e
 |nJ ps=>exact aK (show h.get? a=some _ from x)
 |met f y=>exact aK (show h.get? a=some _ from x)
 |ext φ=>obtain⟨_,⟨_,e⟩,_⟩:=x; exact aK e
theorem Paired.gR {α β:Type}{F G:α->β->Prop}: ∀{l₁:List α} {l₂:List β},Paired F l₁ l₂->(∀a b,F a b->G a b)->Paired G l₁ l₂
 |_,_,.nil,_=> .nil
 |_,_,.cons r t,f=> .cons (f _ _ r) (Paired.gR t f)
theorem dr.tj (x:dr P w H h a o)(k: ∀b u,(b=a∨H b=some (.own a))->h.get? b=some u->h'.get? b=some u)
  (ho: ∀b,H b=some (.own a)->H' b=some (.own a)) (ht: ∀b xs,H b=some (.tup xs)->H' b=some (.tup xs)):dr P w H' h' a o:=by
 induction o with
 |lst xs=>obtain⟨z,bY,n,r,e⟩:=x; exact⟨z,bY,n,r,k _ _ (.inl rfl) e⟩
 |tup xs=>obtain⟨z,bY,r,ob,e,c⟩:=x; exact⟨z,bY,r,ob,k _ _ (.inl rfl) e,c⟩
 |dK a9=>obtain⟨z,y,vs,r,ob,es,ep,e,c⟩:=x; exact⟨z,y,vs,r,ob,es,ep,k _ _ (.inl rfl) e,c⟩
 |dT a9=>
  obtain⟨z,y,xs,r,ob,es,ep,e,c⟩:=x
  exact⟨z,y,xs,Paired.gR r fun p q z=>⟨z.1,ht _ _ z.2.1,z.2.2⟩,ob,es,ep,k _ _ (.inl rfl) e,c⟩
 |set S n=>obtain⟨ob,es,ep,t,e,c⟩:=x; exact⟨ob,es,ep,t,k _ _ (.inl rfl) e,c⟩
 |ins C dx fs=>
  obtain⟨d,z,ne,e,mA,⟨od,es,ep,e2,c⟩,r⟩:=x
  exact⟨ho _ d,z,ne,k _ _ (.inl rfl) e,mA,⟨od,es,ep,k _ _ (.inr d) e2,c⟩,r⟩
 |own y=>obtain⟨ob,e⟩:=x; exact⟨ob,k _ _ (.inl rfl) e⟩
 |xd fs=>obtain⟨mA,⟨od,es,ep,e,c⟩,r⟩:=x; exact⟨mA,⟨od,es,ep,k _ _ (.inl rfl) e,c⟩,r⟩
 |T9 lo hi=>obtain⟨t,u,v,e⟩:=x; exact⟨t,u,v,k _ _ (.inl rfl) e⟩
 |Cr ob u ih=>obtain⟨e,q⟩:=x; exact⟨k _ _ (.inl rfl) e,ih q⟩
 |nJ ps=>
  have e:h.get? a=some {cls:= .none,data:= .fields ps}:=x
  show h'.get? a=some {cls:= .none,data:= .fields ps}
  exact k a _ (.inl rfl) e
 |met f y=>
  have e:h.get? a=some (PySem.W.methodObj (.ref f) (.ref y)):=x
  show h'.get? a=some (PySem.W.methodObj (.ref f) (.ref y))
  exact k a _ (.inl rfl) e
 |ext φ=>obtain⟨p,⟨o,e⟩,st⟩:=x; exact⟨st _ _ p fun o q=>k _ _ (.inl rfl) q,⟨o,k _ _ (.inl rfl) e⟩,st⟩
theorem nY.lt (x:nY P w H h)(e:H a=some o):a < h.objs.size:=(x a o e).lt
theorem nY.fresh (x:nY P w H h)(e:h.objs.size<=a):H a=none:=by
 cases q:H a with
 |none=>rfl
 |some u=>exact absurd (ba (x.lt q) e) (iI _)
theorem nY.kept (x:nY P w H h)(k: ∀b u,h.get? b=some u->h'.get? b=some u):nY P w H h':=fun a o e=>
 (x a o e).tj (fun b u _ q=>k b u q) (fun _ q=>q) fun _ _ q=>q
theorem nY.laid (x:nY P w H h)(k: ∀b u,h.get? b=some u->h'.get? b=some u)(hp:h.objs.size<=a)(new:dr P w (upd H a o) h' a o):nY P w (upd H a o) h':=fun b u e=>by
 have hn:=x.fresh hp
 by_cases hb:b=a
 ·subst hb; rw[ag] at e; cases e; exact new
 ·rw[aA hb] at e
  exact(x b u e).tj (fun c v _ q=>k c v q) (fun c q=>by rw[aA (aJ q hn)]; exact q) fun c xs q=>by rw[aA (aJ q hn)]; exact q
end
def Rd (H:Hp)(a:Addr)(u:HO):Prop:=H a=some u∨ ∃o,H a=some (.Cr o u)
theorem Rd.ok {P:Program}{w:World}{H:Hp}{h:Heap}{a:Addr}{u:HO}(r:Rd H a u)(x:nY P w H h):dr P w H h a u:=by
 rcases r with r|⟨o,r⟩
 ·exact x a u r
 ·obtain⟨_,q⟩:=x a _ r
  exact q
def P1:Option HO->Prop
 |some (.lst _)=>True
 |some (.dK _)=>True
 |some (.dT _)=>True
 |some (.set _ _)=>True
 |some (.ins _ _ _)=>True
 |some (.ext _)=>True
 |_=>False
section
variable {P:Program}{w:World}{H:Hp}{h h':Heap}{x e:Addr}{o':HO}
theorem nY.write (ok:nY P w H h)(mu:P1 (H x))(he:e=x∨H e=some (.own x))(k: ∀b u,b≠e->h.get? b=some u->h'.get? b=some u)(O9: ∃u,h'.get? e=some u)
  (new:dr P w (upd H x o') h' x o'):nY P w (upd H x o') h':=fun b u q=>by
 have P2: ∀c y,H c=some (.own y)->c≠x:=fun c y r z=>by subst z; rw[r] at mu; exact mu
 have Ua: ∀c xs,H c=some (.tup xs)->c≠x:=fun c xs r z=>by subst z; rw[r] at mu; exact mu
 by_cases hb:b=x
 ·subst hb; rw[ag] at q; cases q; exact new
 ·rw[aA hb] at q
  by_cases MW:b=e
  ·have q':H b=some (.own x):=by
    rcases he with z|z
    ·exact absurd (MW.trans z) hb
    ·rw[MW]; exact z
   rw[q] at q'; cases q'
   obtain⟨v,hv⟩:=O9
   exact⟨v,by rw[MW]; exact hv⟩
  ·refine(ok b u q).tj (fun c v hc r=>k c v ?_ r) (fun c r=>by rw[aA (P2 c b r)]; exact r) fun c xs r=>by rw[aA (Ua c xs r)]; exact r
   rcases hc with rfl|hc
   ·exact MW
   ·rintro rfl
    rcases he with z|z
    ·exact P2 c b hc z
    ·rw[hc] at z; cases z; exact hb rfl
end
structure Un (fs ex:List Addr)(H H':Hp)(h h':Heap):Prop where
 keep: ∀b o,h.get? b=some o->H b=none->b∉fs->b∉ex->h'.get? b=some o
 slot: ∀b o,h.get? b=some o->H b=none->b∈fs->b∉ex-> ∃sl,h'.get? b=some {o with slots:=sl}
 free: ∀b o,h.get? b=some o->H b=none->b∉ex->H' b=none
 there: ∀b o,h.get? b=some o->b∉ex-> ∃o',h'.get? b=some o'
 pX: ∀b xs,H b=some (.tup xs)->H' b=some (.tup xs)
 oT: ∀b o u,H b=some (.Cr o u)->H' b=some (.Cr o u)
 oU: ∀b ps,H b=some (.nJ ps)-> ∃more,H' b=some (.nJ (ps ++ more))
section
variable {fs Zc ex ex':List Addr}{H H1 H2:Hp}{h h1 h2 h':Heap}{a x e:Addr}{o:HO}
theorem Un.any (u:Un fs ex H H1 h h1){b:Addr}{ob:Obj}(q:h.get? b=some ob)(n:H b=none)(hx:b∉ex): ∃sl,h1.get? b=some {ob with slots:=sl}:=by
 by_cases hb:b∈fs
 ·exact u.slot b ob q n hb hx
 ·exact⟨ob.slots,u.keep b ob q n hb hx⟩
theorem Un.kept (k: ∀b u,h.get? b=some u->h'.get? b=some u):Un fs ex H H h h':=
 ⟨fun b ob q _ _ _=>k b ob q,fun b ob q _ _ _=>⟨ob.slots,k b ob q⟩,fun _ _ _ n _=>n,fun b ob q _=>⟨ob,k b ob q⟩,fun _ _ q=>q,fun _ _ _ q=>q,fun _ ps q=>⟨#[],by rw[q]; simp⟩⟩
theorem Un.refl:Un fs ex H H h h:=Un.kept fun _ _ q=>q
theorem Un.laid (k: ∀b u,h.get? b=some u->h'.get? b=some u)(hp:h.objs.size<=a)(hn:H a=none):Un fs ex H (upd H a o) h h' where
 keep:=fun b u q _ _ _=>k b u q
 slot:=fun b u q _ _ _=>⟨u.slots,k b u q⟩
 free:=fun b u q n _=>by rw[aA (a0 (ba (aK q) hp))]; exact n
 there:=fun b u q _=>⟨u,k b u q⟩
 pX:=fun b xs q=>by rw[aA (aJ q hn)]; exact q
 oT:=fun b u xs q=>by rw[aA (aJ q hn)]; exact q
 oU:=fun b ps q=>⟨#[],by rw[aA (aJ q hn),q]; simp⟩
theorem Un.write (mu:P1 (H x))(he:e=x∨H e=some (.own x))(k: ∀b u,b≠e->h.get? b=some u->h'.get? b=some u)(O9: ∃u,h'.get? e=some u):Un fs ex H (upd H x o) h h':=by
 have hx: ∀b,H b=none->b≠x:=fun b n z=>by subst z; rw[n] at mu; exact mu
 have hb: ∀b,H b=none->b≠e:=fun b n z=>by
  subst z
  rcases he with r|r
  ·exact hx b n r
  ·rw[n] at r; cases r
 have hm: ∀b u,H b=some u-> ¬ P1 (some u)->b≠x:=fun b u q nm z=>by subst z; rw[q] at mu; exact nm mu
 refine⟨fun b u q n _ _=>k b u (hb b n) q,fun b u q n _ _=>⟨u.slots,k b u (hb b n) q⟩,fun b u q n _=>by rw[aA (hx b n)]; exact n,fun b u q _=>?_,
  fun b xs q=>by rw[aA (hm b _ q fun z=>z)]; exact q,fun b u xs q=>by rw[aA (hm b _ q fun z=>z)]; exact q,fun b ps q=>⟨#[],by rw[aA (hm b _ q fun z=>z),q]; simp⟩⟩
 by_cases MW:b=e
 ·subst MW; exact O9
 ·exact⟨u,k b u MW q⟩
end
def SY (h:Heap)(H:Hp):List Addr:=(List.range h.objs.size).filter fun a=>(H a).isSome
def v9 (h:Heap)(H:Hp):Heap:=PySem.W.hideAll h (SY h H)
theorem Fh (h:Heap)(H:Hp):(v9 h H).objs.size=h.objs.size:=PySem.W.hideAll_size _ _
theorem Hr {h:Heap}{H:Hp}{b:Addr}{o:Obj}(e:h.get? b=some o)(n:H b=none):(v9 h H).get? b=some o:=
 PySem.W.hideAll_get _ e fun hm=>by
  have q:(H b).isSome=true:=(eM.mp hm).2
  rw[n] at q; simp at q
theorem Km {h:Heap}{H:Hp}{b:Addr}{o:Obj}(e:(v9 h H).get? b=some o):h.get? b=some o/\H b=none:=by
 have e':h.get? b=some o:=PySem.W.of_hideAll (SY h H) e
 refine⟨e',?_⟩
 cases q:H b with
 |none=>rfl
 |some x=>
  have hm:b∈SY h H:=List.mem_filter.mpr ⟨List.mem_range.mpr (Heap.lt_size e'),by simp[q]⟩
  have z:(v9 h H).get? b=none:=PySem.W.hideAll_none (SY h H) hm
  rw[z] at e; cases e
structure Mod (K:PySem.W.Frag)(mg:Str->Option Value)(base:Heap):Prop where
 Kn:K.In base
 glob:base.Ns mainGlobals mg
 blt: ∃mb,base.Ns builtinsNs mb/\ ∀x:Str,x≠"__name__"->mb x=bootBuiltins x
 nolimit:base.NoLimit
structure Cx where
 prog:Program
 w:World
 K:PySem.W.Frag
 mg:Str->Option Value
 base:Heap
 A:Around
 N:List Str
 s₀:Shared
 H₀:Hp
 env:Env
 outer:List Env
 stack:List Env
 ex:List Addr
 fn:Str->Bool
 calm:Bool
 pn:List (Addr×Obj)
 xe:Value->Shared->Prop
def CB (l:List Env):List Addr:=l.filterMap (·.frame)
abbrev Cx.fs (X:Cx):List Addr:=CB X.outer
def P4 (sc:Scope)(x:Str):Prop:=sc.names.lookup x=some .local∨sc.names.lookup x=some .cell∨sc.names.lookup x=some .free
def Loc (sc:Scope)(x:Str):Prop:=sc.names.lookup x=some .local∨sc.names.lookup x=some .cell
def Look (env:Env)(h:Heap)(m:Str->Option Value)(x:Str)(u:Value):Prop:=
 (env.kindOf x=some .local/\m x=some u)∨((env.kindOf x=some .cell∨env.kindOf x=some .free)/\ ∃c,env.cells.lookup x=some c/\h.IsCell c (some u))
structure Cx.Ok (X:Cx):Prop where
 mod:Mod X.K X.mg X.base
 kind:X.env.scope.kind= .function
 glob:X.env.globals=mainGlobals
 blt:X.env.builtins=builtinsNs
 above:X.s₀.heap.objs.size<=X.env.locals
 inj: ∀x y c,X.env.cells.lookup x=some c->X.env.cells.lookup y=some c->x=y
 has: ∀x,(X.env.kindOf x=some .cell∨X.env.kindOf x=some .free)-> ∃c,X.env.cells.lookup x=some c
 JU: ∀x c,X.fn x=true->X.env.cells.lookup x=some c->X.s₀.heap.objs.size<=c
 hd:X.calm=true->X.A.handled=none
 frames:X.A.frames=some X.stack
 G5:X.stack=X.outer∨(X.stack=X.env :: X.outer/\X.env.frame=some X.env.locals)
 Ko: ∀b∈X.ex,b≠X.env.locals/\ ∀x c,X.env.cells.lookup x=some c->c≠b
 bs: ∀b o,X.base.get? b=some o->X.s₀.heap.get? b=some o/\X.H₀ b=none
 AH:X.base.objs.size<=X.s₀.heap.objs.size
 wa: ∀b o,X.base.get? b=some o->b∉X.ex
 wb: ∀b∈X.ex,b∉X.fs
 lF:X.s₀.heap.FunFrames X.base X.outer
 DS: ∀b∈X.fs,X.H₀ b=none
structure Inv (X:Cx)(pins:List (Addr×Obj))(σ:List (Option V))(H:Hp)(s:Shared):Prop where
 ok:X.Ok
 os:s.os=X.s₀.os
 bare:AllBare s.gens
 base:Un X.fs X.ex X.H₀ H X.s₀.heap s.heap
 loc: ∃m,s.heap.Ns X.env.locals m/\ ∀(i:Nat) (x:Str) (v:V),X.N[i]? =some x->σ[i]? =some (some v)->P4 X.env.scope x-> ∃u,RelV v u/\Look X.env s.heap m x u
 cell: ∀x c,X.env.cells.lookup x=some c-> ∃v,s.heap.IsCell c v
 free:H X.env.locals=none
 iF: ∀x c,X.env.cells.lookup x=some c->H c=none
 pin: ∀p∈X.pn ++ pins,s.heap.get? p.1=some p.2/\H p.1=none/\p.1≠X.env.locals/\p.1∉X.fs/\ ∀v,p.2.data≠ .cell v
 cw:nY X.prog X.w H s.heap
 len:σ.length=X.N.length
section
variable {X:Cx}{pins:List (Addr×Obj)}{σ:List (Option V)}{H H':Hp}{s:Shared}{h':Heap}
theorem Cx.Ok.Ub (ok:X.Ok){b:Addr}{o:Obj}(e:X.base.get? b=some o):b∉X.fs:=fun hb=>by
 have:=(ok.lF.mem hb).1
 rw[e] at this; cases this
theorem Inv.bs (I:Inv X pins σ H s): ∀b o,X.base.get? b=some o->s.heap.get? b=some o/\H b=none:=fun b o e=>
 ⟨I.base.keep b o (I.ok.bs b o e).1 (I.ok.bs b o e).2 (I.ok.Ub e) (I.ok.wa b o e),I.base.free b o (I.ok.bs b o e).1 (I.ok.bs b o e).2 (I.ok.wa b o e)⟩
theorem Inv.bk (I:Inv X pins σ H s): ∀b o,X.base.get? b=some o->s.heap.get? b=some o:=fun b o e=>(I.bs b o e).1
theorem Inv.mod (I:Inv X pins σ H s):Mod X.K X.mg X.base:=I.ok.mod
theorem Inv.gE (I:Inv X pins σ H s):X.K.In s.heap:=I.ok.mod.Kn.keeps I.bk
theorem Inv.nolimit (I:Inv X pins σ H s):s.heap.NoLimit:=I.ok.mod.nolimit.keeps I.bk
theorem Inv.fr (I:Inv X pins σ H s): ∃m,Fr X.base X.env.locals s.heap m:=
 let⟨m,hn,_⟩:=I.loc
 ⟨m,hn,I.bk,aY I.ok.AH I.ok.above⟩
theorem Inv.lt (I:Inv X pins σ H s):X.env.locals < s.heap.objs.size:=let⟨_,hn,_⟩:=I.loc; hn.lt
theorem Inv.sz (I:Inv X pins σ H s):X.s₀.heap.objs.size<=s.heap.objs.size:=aY I.ok.above (dG I.lt)
theorem Inv.Fj (I:Inv X pins σ H s){a:Addr}(h:s.heap.objs.size<=a):a∉X.fs:=fun hb=>by
 obtain⟨_,o,ho,_⟩:=I.ok.lF.mem hb
 exact absurd (ba (aK ho) (aY I.sz h)) (iI _)
theorem Inv.Ma (I:Inv X pins σ H s): ∀x c,X.env.cells.lookup x=some c->c≠X.env.locals:=fun x c e z=>by
 obtain⟨v,o,ho,hd⟩:=I.cell x c e
 obtain⟨m,⟨o',es,ep,Kp,G6,_⟩,_⟩:=I.loc
 rw[z,Kp] at ho; cases ho; rw[G6] at hd; cases hd
theorem Inv.lF (I:Inv X pins σ H s):s.heap.FunFrames X.base X.outer:=by
 have all: ∀(l:List Env),(∀b∈CB l,b∈X.fs)->X.s₀.heap.FunFrames X.base l->s.heap.FunFrames X.base l:=by
  intro l
  induction l with
  |nil=>intro _ _; trivial
  |cons env r ih=>
   intro hs hl
   obtain⟨hk,⟨L,o,hf,hn,ho,hd⟩,hr⟩:=hl
   have hL:L∈X.fs:=hs L (by unfold CB; rw[List.filterMap_cons,hf]; exact List.mem_cons_self)
   obtain⟨sl,e⟩:=I.base.slot L o ho (I.ok.DS L hL) hL fun z=>I.ok.wb L z hL
   exact⟨hk,⟨L,_,hf,hn,e,hd⟩,ih (fun b hb=>hs b (by unfold CB; rw[List.filterMap_cons,hf]; exact List.mem_cons_of_mem _ hb)) hr⟩
 exact all X.outer (fun _ hb=>hb) I.ok.lF
theorem Inv.stack (I:Inv X pins σ H s):s.heap.FunFrames X.base X.stack:=by
 rcases I.ok.G5 with e|⟨e,hf⟩
 ·rw[e]; exact I.lF
 ·rw[e]
  obtain⟨m,hn,_⟩:=I.loc
  refine .cons (by rw[I.ok.kind]; decide) hf hn ?_ I.lF
  exact Heap.get?_none_of_le (aY I.ok.AH I.ok.above)
theorem Inv.uq (I:Inv X pins σ H s): ∀b∈CB X.stack,b∈X.env.locals :: X.fs:=fun b hb=>by
 rcases I.ok.G5 with e|⟨e,hf⟩
 ·rw[e] at hb; exact bc _ hb
 ·rw[e] at hb
  unfold CB at hb
  rw[List.filterMap_cons,hf] at hb
  exact hb
theorem Inv.pY (I:Inv X pins σ H s): ∀b∈CB X.stack,H b=none:=fun b hb=>by
 rcases aw.mp (I.uq b hb) with e|hb
 ·rw[e]; exact I.free
 ·obtain⟨_,o,ho,_⟩:=I.ok.lF.mem hb
  exact I.base.free b o ho (I.ok.DS b hb) fun z=>I.ok.wb b z hb
theorem Inv.step {g':Array GenState}{t':Nat}{d':Drawn}{ch:List Addr}(I:Inv X pins σ H s)
  (AI: ∀b∈ch,(b∈X.ex∨X.s₀.heap.objs.size<=b)/\b≠X.env.locals/\(∀x c,X.env.cells.lookup x=some c->c≠b)/\ ∀p∈X.pn ++ pins,p.1≠b)
  (keep: ∀b o,b≠X.env.locals->b∉X.fs->b∉ch->s.heap.get? b=some o->H b=none->h'.get? b=some o)
  (slot: ∀b o,b≠X.env.locals->b∈X.fs->b∉ch->s.heap.get? b=some o->H b=none-> ∃sl,h'.get? b=some {o with slots:=sl}) (free: ∀b o,b∉ch->s.heap.get? b=some o->H b=none->H' b=none)
  (there: ∀b o,b∉ch->s.heap.get? b=some o-> ∃o',h'.get? b=some o')
  (pX: ∀b xs,H b=some (.tup xs)->H' b=some (.tup xs)) (oT: ∀b o u,H b=some (.Cr o u)->H' b=some (.Cr o u)) (oU: ∀b ps,H b=some (.nJ ps)-> ∃more,H' b=some (.nJ (ps ++ more)))
  (ns: ∀m,s.heap.Ns X.env.locals m->h'.Ns X.env.locals m) (cw:nY X.prog X.w H' h') (hg:AllBare g'):
  Inv X pins σ H' {s with heap:=h',gens:=g',drawn:=d',toks:=t'}:=by
 have Xj: ∀b o,X.s₀.heap.get? b=some o->b≠X.env.locals:=fun b o e=>a0 (ba (aK e) I.ok.above)
 have S4: ∀b o,X.s₀.heap.get? b=some o->b∉X.ex->b∉ch:=fun b o e hx hb=>by
  rcases(AI b hb).1 with z|z
  ·exact hx z
  ·exact absurd (ba (aK e) z) (iI _)
 have cellK: ∀x c,X.env.cells.lookup x=some c-> ∀v,s.heap.IsCell c v->h'.IsCell c v:=fun x c e v ⟨o,ho,hd⟩=>by
  have P5:c∉ch:=fun z=>(AI c z).2.2.1 x c e rfl
  by_cases hc:c∈X.fs
  ·obtain⟨sl,q⟩:=slot c o (I.Ma x c e) hc P5 ho (I.iF x c e)
   exact⟨_,q,hd⟩
  ·exact⟨o,keep c o (I.Ma x c e) hc P5 ho (I.iF x c e),hd⟩
 refine⟨I.ok,I.os,hg,⟨fun b o e n hb hx=>?_,fun b o e n hb hx=>?_,fun b o e n hx=>?_,fun b o e hx=>?_,fun b xs e=>pX b xs (I.base.pX b xs e),fun b o xs e=>oT b o xs (I.base.oT b o xs e),fun b ps e=>?_⟩,?_,fun x c e=>?_,?_,fun x c e=>?_,fun p hp=>?_,cw,I.len⟩
 ·exact keep b o (Xj b o e) hb (S4 b o e hx) (I.base.keep b o e n hb hx) (I.base.free b o e n hx)
 ·obtain⟨sl,e1⟩:=I.base.slot b o e n hb hx
  obtain⟨Zd,e2⟩:=slot b _ (Xj b o e) hb (S4 b o e hx) e1 (I.base.free b o e n hx)
  exact⟨Zd,e2⟩
 ·obtain⟨o',e1⟩:=I.base.there b o e hx
  exact free b o' (S4 b o e hx) e1 (I.base.free b o e n hx)
 ·obtain⟨o',e1⟩:=I.base.there b o e hx
  exact there b o' (S4 b o e hx) e1
 ·obtain⟨m1,e1⟩:=I.base.oU b ps e
  obtain⟨m2,e2⟩:=oU b _ e1
  exact⟨m1 ++ m2,by rw[e2,Array.append_assoc]⟩
 ·obtain⟨m,hn,hl⟩:=I.loc
  refine⟨m,ns m hn,fun i x v e1 e2 e3=>?_⟩
  obtain⟨u,r,l⟩:=hl i x v e1 e2 e3
  refine⟨u,r,?_⟩
  rcases l with l|⟨k,c,e,z⟩
  ·exact .inl l
  ·exact .inr ⟨k,c,e,cellK x c e _ z⟩
 ·obtain⟨v,z⟩:=I.cell x c e
  exact⟨v,cellK x c e v z⟩
 ·obtain⟨m,⟨o,_,_,ho,_⟩,_⟩:=I.loc
  exact free _ o (fun z=>(AI _ z).2.1 rfl) ho I.free
 ·obtain⟨v,o,ho,hd⟩:=I.cell x c e
  exact free c o (fun z=>(AI c z).2.2.1 x c e rfl) ho (I.iF x c e)
 ·obtain⟨e,n,ne,nf,d⟩:=I.pin p hp
  have P5:p.1∉ch:=fun z=>(AI p.1 z).2.2.2 p hp rfl
  exact⟨keep p.1 p.2 ne nf P5 e n,free p.1 p.2 P5 e n,ne,nf,d⟩
theorem Inv.un {t':Nat}(I:Inv X pins σ H s)(u:Un X.fs [] H H' s.heap h')(cw:nY X.prog X.w H' h'):Inv X pins σ H' {s with heap:=h',toks:=t'}:=by
 obtain⟨m,⟨o,es,ep,ho,r⟩,_⟩:=id I.loc
 obtain⟨sl,hL⟩:=u.any ho I.free (by simp)
 exact I.step (g':=s.gens) (d':=s.drawn) (ch:=[]) (fun _ z=>nomatch z) (fun b o _ hb _ e n=>u.keep b o e n hb (by simp)) (fun b o _ hb _ e n=>u.slot b o e n hb (by simp)) (fun b o _ e n=>u.free b o e n (by simp)) (fun b o _ e=>u.there b o e (by simp)) u.pX u.oT u.oU (fun m' hm=>by
  obtain⟨o',Uc,Ud,Kp,r'⟩:=hm
  rw[ho] at Kp; cases Kp
  exact⟨_,Uc,Ud,hL,r'⟩) cw I.bare
theorem Inv.call {g':Array GenState}{t':Nat}{d':Drawn}{ch:List Addr}(I:Inv X pins σ H s)(u:Un (CB X.stack) ch H H' s.heap h')(cw:nY X.prog X.w H' h')(hg:AllBare g')
  (AI: ∀b∈ch,(b∈X.ex∨X.s₀.heap.objs.size<=b)/\b≠X.env.locals/\(∀x c,X.env.cells.lookup x=some c->c≠b)/\ ∀p∈X.pn ++ pins,p.1≠b):
  Inv X pins σ H' {s with heap:=h',gens:=g',drawn:=d',toks:=t'}:=by
 obtain⟨m,⟨o,es,ep,ho,r⟩,_⟩:=id I.loc
 obtain⟨sl,hL⟩:=u.any ho I.free fun z=>(AI _ z).2.1 rfl
 exact I.step (ch:=ch) AI (fun b o hL hb hc e n=>u.keep b o e n (fun z=>(aw.mp (I.uq b z)).elim hL hb) hc) (fun b o _ _ hc e n=>u.any e n hc) (fun b o hc e n=>u.free b o e n hc) (fun b o hc e=>u.there b o e hc) u.pX u.oT u.oU (fun m' hm=>by
  obtain⟨o',Uc,Ud,Kp,r'⟩:=hm
  rw[ho] at Kp; cases Kp
  exact⟨_,Uc,Ud,hL,r'⟩) cw hg
theorem Inv.turned {t':Nat}{it:Addr}(I:Inv X pins σ H s)(k: ∀b o,b≠it->s.heap.get? b=some o->h'.get? b=some o)(hn:H it=none)(hL:it≠X.env.locals)
  (h1:it∈X.ex∨X.s₀.heap.objs.size<=it) (h2: ∀x c,X.env.cells.lookup x=some c->c≠it) (h3: ∀p∈X.pn ++ pins,p.1≠it):Inv X pins σ H {s with heap:=h',toks:=t'}:=by
 have P6: ∀b u,H b=some u->b≠it:=fun b u e z=>by rw[z,hn] at e; cases e
 refine I.step (g':=s.gens) (d':=s.drawn) (ch:=[it]) (fun b hb=>?_) (fun b o _ _ hc e _=>k b o (fun z=>hc (by simp[z])) e) (fun b o _ _ hc e _=>⟨o.slots,k b o (fun z=>hc (by simp[z])) e⟩) (fun _ _ _ _ n=>n)
  (fun b o hc e=>⟨o,k b o (fun z=>hc (by simp[z])) e⟩) (fun _ _ e=>e) (fun _ _ _ e=>e) (fun b ps e=>⟨#[],by rw[e]; simp⟩) (fun m hm=>?_) (fun b u e=>?_) I.bare
 ·have e:b=it:=by simpa using hb
  subst e
  exact⟨h1,hL,h2,h3⟩
 ·obtain⟨o,es,ep,ho,r⟩:=hm
  exact⟨o,es,ep,k _ o (vW hL) ho,r⟩
 ·refine(I.cw b u e).tj (fun c v hc q=>k c v ?_ q) (fun _ q=>q) fun _ _ q=>q
  rcases hc with z|z
  ·rw[z]; exact P6 b u e
  ·exact P6 c _ z
theorem Inv.tok (I:Inv X pins σ H s)(t:Nat):Inv X pins σ H {s with toks:=t}:=I.un (h':=s.heap) (t':=t) Un.refl I.cw
theorem Inv.kept {t':Nat}(I:Inv X pins σ H s)(k: ∀b u,s.heap.get? b=some u->h'.get? b=some u):Inv X pins σ H {s with heap:=h',toks:=t'}:=I.un (Un.kept k) (I.cw.kept k)
theorem Inv.laid {a:Addr}{o:HO}{t':Nat}(I:Inv X pins σ H s)(k: ∀b u,s.heap.get? b=some u->h'.get? b=some u)(hp:s.heap.objs.size<=a)(new:dr X.prog X.w (upd H a o) h' a o):
  Inv X pins σ (upd H a o) {s with heap:=h',toks:=t'}:=I.un (Un.laid k hp (I.cw.fresh hp)) (I.cw.laid k hp new)
theorem Inv.write {x e:Addr}{o:HO}{t':Nat}(I:Inv X pins σ H s)(mu:P1 (H x))(he:e=x∨H e=some (.own x))(k: ∀b u,b≠e->s.heap.get? b=some u->h'.get? b=some u)(O9: ∃u,h'.get? e=some u)
  (new:dr X.prog X.w (upd H x o) h' x o):Inv X pins σ (upd H x o) {s with heap:=h',toks:=t'}:=I.un (Un.write mu he k O9) (I.cw.write mu he k O9 new)
theorem Inv.tV {AJ:List (Addr×Obj)}(I:Inv X pins σ H s)(h: ∀p∈AJ,s.heap.get? p.1=some p.2/\H p.1=none/\p.1≠X.env.locals/\p.1∉X.fs/\ ∀v,p.2.data≠ .cell v):Inv X AJ σ H s:=
 ⟨I.ok,I.os,I.bare,I.base,I.loc,I.cell,I.free,I.iF,fun p hp=>(bA.mp hp).elim (fun z=>I.pin p (cQ _ z)) (h p),I.cw,I.len⟩
theorem AK {N:List Str}(hN:N.Nodup){i j:Nat}{x:Str}(a:N[i]? =some x)(b:N[j]? =some x):i=j:=by
 obtain⟨h1,e1⟩:=au.mp a
 obtain⟨h2,e2⟩:=au.mp b
 exact(List.getElem_inj hN).mp (e1.trans e2.symm)
theorem xx {M:Model}{A:Around}{E:Value->Shared->Prop}{i:Nat}{x:Str}{v:V}{u:Value}{Q:Unit->Shared->Prop}(I:Inv X pins σ H s)(hN:X.N.Nodup)(hi:X.N[i]? =some x)(hx:Loc X.env.scope x)(r:RelV v u)
  (h: ∀s',Inv X pins (σ.set i (some v)) H s'->(∃a,Heap.SameBut a s.heap s'.heap/\(a=X.env.locals∨X.env.cells.lookup x=some a))->Q () s') (hf:X.fn x=true∨X.env.scope.names.lookup x=some .local:=by first|exact .inl rfl|exact .inr rfl|assumption):wpAny M A (storeName X.env x u) Q E s:=by
 obtain⟨m,hn,hl⟩:=id I.loc
 have MX:(X.env.scope.kind == .class || (X.env.scope.kind == .module && X.env.locals != X.env.globals))=false:=by rw[I.ok.kind]; rfl
 have Xk:i < σ.length:=by rw[I.len]; exact(au.mp hi).1
 have Ma:=I.Ma
 have tracked: ∀{a:Addr} {h':Heap},(∃o,s.heap.get? a=some o/\H a=none)->Heap.SameBut a s.heap h'->nY X.prog X.w H h':=fun{a h'} ha hs b ob e=>by
  obtain⟨_,_,xy⟩:=ha
  refine(I.cw b ob e).tj (fun c w' hc q=>(hs.2 c ?_).trans q) (fun _ q=>q) fun _ _ q=>q
  rintro rfl
  rcases hc with rfl|hc
  ·rw[xy] at e; cases e
  ·rw[xy] at hc; cases hc
 rcases hx with hk|hk
 ·refine wpAny_storeName_local hk hn (fun h' Ue hs=>?_) MX
  obtain⟨oL,_,_,MY,_⟩:=id hn
  refine h _ ⟨I.ok,I.os,I.bare,⟨fun b o e n hb hx=>?_,fun b o e n hb hx=>?_,I.base.free,fun b o e hx=>?_,I.base.pX,I.base.oT,I.base.oU⟩,⟨_,Ue,fun j y v' e1 e2 e3=>?_⟩,fun y c e=>?_,I.free,I.iF,fun p hp=>?_,tracked ⟨oL,MY,I.free⟩ hs,by simpa using I.len⟩ ⟨_,hs,.inl rfl⟩
  ·exact(hs.2 b (a0 (ba (aK e) I.ok.above))).trans (I.base.keep b o e n hb hx)
  ·obtain⟨sl,e1⟩:=I.base.slot b o e n hb hx
   exact⟨sl,(hs.2 b (a0 (ba (aK e) I.ok.above))).trans e1⟩
  ·obtain⟨o',e1⟩:=I.base.there b o e hx
   exact⟨o',(hs.2 b (a0 (ba (aK e) I.ok.above))).trans e1⟩
  ·by_cases hj:j=i
   ·subst hj
    rw[hi] at e1; cases e1
    rw[kM Xk] at e2
    cases e2
    exact⟨u,r,.inl ⟨hk,by simp⟩⟩
   ·rw[mq (vW hj)] at e2
    obtain⟨u',r',q⟩:=hl j y v' e1 e2 e3
    refine⟨u',r',?_⟩
    rcases q with⟨k,e⟩|⟨k,c,e,z⟩
    ·refine .inl ⟨k,?_⟩
     have:y≠x:=fun e=>hj (AK hN e1 (e▸hi))
     simp[this,e]
    ·exact .inr ⟨k,c,e,z.sameBut hs (Ma y c e)⟩
  ·obtain⟨w',z⟩:=I.cell y c e
   exact⟨w',z.sameBut hs (Ma y c e)⟩
  ·obtain⟨e,n,ne,nf,d⟩:=I.pin p hp
   exact⟨(hs.2 p.1 ne).trans e,n,ne,nf,d⟩
 ·have Kq:X.fn x=true:=by
   rcases hf with z|z
   ·exact z
   ·rw[z] at hk; cases hk
  obtain⟨c,hc⟩:=I.ok.has x (.inl hk)
  obtain⟨w',z⟩:=I.cell x c hc
  refine wpAny_storeName_cell I.ok.kind hk hc z (fun h' P7 hs=>?_)
  obtain⟨oc,Pa,Ug⟩:=id z
  refine h {s with heap:=h'} ⟨I.ok,I.os,I.bare,⟨fun b o e n hb hx=>?_,fun b o e n hb hx=>?_,I.base.free,fun b o e hx=>?_,I.base.pX,I.base.oT,I.base.oU⟩,⟨m,hn.sameBut hs (Ne.symm (Ma x c hc)),fun j y v' e1 e2 e3=>?_⟩,fun y c' e=>?_,I.free,I.iF,fun p hp=>?_,tracked ⟨oc,Pa,I.iF x c hc⟩ hs,by simpa using I.len⟩ ⟨c,hs,.inr hc⟩
  ·exact(hs.2 b (a0 (ba (aK e) (I.ok.JU x c Kq hc)))).trans (I.base.keep b o e n hb hx)
  ·obtain⟨sl,e1⟩:=I.base.slot b o e n hb hx
   exact⟨sl,(hs.2 b (a0 (ba (aK e) (I.ok.JU x c Kq hc)))).trans e1⟩
  ·obtain⟨o',e1⟩:=I.base.there b o e hx
   exact⟨o',(hs.2 b (a0 (ba (aK e) (I.ok.JU x c Kq hc)))).trans e1⟩
  ·by_cases hj:j=i
   ·subst hj
    rw[hi] at e1; cases e1
    rw[kM Xk] at e2
    cases e2
    exact⟨u,r,.inr ⟨.inl hk,c,hc,P7⟩⟩
   ·rw[mq (vW hj)] at e2
    obtain⟨u',r',q⟩:=hl j y v' e1 e2 e3
    refine⟨u',r',?_⟩
    rcases q with q|⟨k,c',e,z'⟩
    ·exact .inl q
    ·refine .inr ⟨k,c',e,z'.sameBut hs ?_⟩
     rintro rfl
     exact hj (AK hN e1 (I.ok.inj _ _ _ e hc▸hi))
  ·by_cases S5:c'=c
   ·subst S5; exact⟨_,P7⟩
   ·obtain⟨w2,z2⟩:=I.cell y c' e
    exact⟨w2,z2.sameBut hs S5⟩
  ·obtain⟨e,n,ne,nf,d⟩:=I.pin p hp
   refine⟨(hs.2 p.1 ?_).trans e,n,ne,nf,d⟩
   intro q
   rw[q,Pa] at e
   have q':oc=p.2:=aF e
   exact d w' (by rw[← q']; exact Ug)
theorem ur {M:Model}{A:Around}{E:Value->Shared->Prop}{i:Nat}{x:Str}{v:V}{u:Value}{Q:Unit->Shared->Prop}(I:Inv X pins σ H s)(hN:X.N.Nodup)(hi:X.N[i]? =some x)(hx:Loc X.env.scope x)(r:RelV v u)
  (h: ∀s',Inv X pins (σ.set i (some v)) H s'->Q () s') (hf:X.fn x=true∨X.env.scope.names.lookup x=some .local:=by first|exact .inl rfl|exact .inr rfl|assumption):wpAny M A (storeName X.env x u) Q E s:=
 xx I hN hi hx r (fun s' I' _=>h s' I') hf
theorem Inv.DT {s':Shared}{ch:List Addr}(I:Inv X pins σ H s)(ho:s'.os=s.os)(u:Un (CB X.stack) ch H H' s.heap s'.heap)(cw:nY X.prog X.w H' s'.heap)(hg:AllBare s'.gens)
  (AI: ∀b∈ch,(b∈X.ex∨X.s₀.heap.objs.size<=b)/\b≠X.env.locals/\(∀x c,X.env.cells.lookup x=some c->c≠b)/\ ∀p∈X.pn ++ pins,p.1≠b):Inv X pins σ H' s':=by
 obtain⟨h',g',d',t',o'⟩:=s'
 have e:o'=s.os:=ho
 subst e
 exact I.call (g':=g') (t':=t') (d':=d') u cw hg AI
end
abbrev XK:=Value->Option Addr->Hp->Prop
abbrev St:=List (Option V)
abbrev VK:=V->Hp->Prop
abbrev TE:=St->Hp->VK->Prop
abbrev TT:=St->Hp->(Bool->Hp->Prop)->Prop
abbrev TA:=St->Hp->(List V->Hp->Prop)->Prop
structure Ends where
 nx:St->Hp->Prop
 rt:VK
 bk:St->Hp->Prop:=fun _ _=>False
 ct:St->Hp->Prop:=fun _ _=>False
abbrev TS:=Ends->St->Hp->Prop
def EP (X:Cx)(pins:List (Addr×Obj))(σ:St)(Q:VK)(u:Value)(s':Shared):Prop:= ∃v H',Inv X pins σ H' s'/\RelV v u/\Q v H'
def TP (X:Cx)(pins:List (Addr×Obj))(σ:St)(Q:Bool->Hp->Prop)(b:Bool)(s':Shared):Prop:= ∃H',Inv X pins σ H' s'/\Q b H'
def AP (X:Cx)(pins:List (Addr×Obj))(σ:St)(Q:List V->Hp->Prop)(us:List Value)(s':Shared):Prop:= ∃vs H',Inv X pins σ H' s'/\Vals vs us/\Q vs H'
def SP (X:Cx)(pins:List (Addr×Obj))(D:Ends)(f:Flow)(s':Shared):Prop:=
 match f with
 | .next=> ∃σ' H',Inv X pins σ' H' s'/\D.nx σ' H'
 | .brk=> ∃σ' H',Inv X pins σ' H' s'/\D.bk σ' H'
 | .cont=> ∃σ' H',Inv X pins σ' H' s'/\D.ct σ' H'
 | .ret u=> ∃v σ' H',Inv X pins σ' H' s'/\RelV v u/\D.rt v H'
def PE (X:Cx)(e:Expr)(t:TE):Prop:=
 ∀(pins:List (Addr×Obj)) (s:Shared) (σ:St) (H:Hp) (Q:VK),Inv X pins σ H s->t σ H Q->wpAny (model X.prog X.w) X.A (eval e X.env) (EP X pins σ Q) X.xe s
def PT (X:Cx)(e:Expr)(t:TT):Prop:=
 ∀(pins:List (Addr×Obj)) (s:Shared) (σ:St) (H:Hp) (Q:Bool->Hp->Prop),Inv X pins σ H s->t σ H Q->wpAny (model X.prog X.w) X.A (isTrue e X.env (eval e X.env)) (TP X pins σ Q) X.xe s
def PW (X:Cx)(e:Expr)(t:TT):Prop:=
 ∀(whole:Sem Value) (pins:List (Addr×Obj)) (s:Shared) (σ:St) (H:Hp) (Q:Bool->Hp->Prop),Inv X pins σ H s->t σ H Q->wpAny (model X.prog X.w) X.A (isTrue e X.env whole) (TP X pins σ Q) X.xe s
theorem PW.pt {X:Cx}{e:Expr}{t:TT}(h:PW X e t):PT X e t:=h _
def PA (X:Cx)(es:List Expr)(t:TA):Prop:=
 ∀(pos:Pos) (pins:List (Addr×Obj)) (s:Shared) (σ:St) (H:Hp) (Q:List V->Hp->Prop),Inv X pins σ H s->t σ H Q->wpAny (model X.prog X.w) X.A (spliced (backTo pos (starEach es X.env))) (AP X pins σ Q) X.xe s
def PS (X:Cx)(st:Stmt)(t:TS):Prop:=
 ∀(pins:List (Addr×Obj)) (s:Shared) (σ:St) (H:Hp) (D:Ends),Inv X pins σ H s->t D σ H->wpAny (model X.prog X.w) X.A (exec st X.env) (SP X pins D) X.xe s
def oV (X:Cx)(st:List Stmt)(t:TS):Prop:=
 ∀(pins:List (Addr×Obj)) (s:Shared) (σ:St) (H:Hp) (D:Ends),Inv X pins σ H s->t D σ H->wpAny (model X.prog X.w) X.A (execs st X.env) (SP X pins D) X.xe s
theorem dP {α:Type}{t:Sem α}{Q Q':α->Shared->Prop}{M:Model}{A:Around}{E:Value->Shared->Prop}{s:Shared}(h:wpAny M A t Q E s)(hQ: ∀a s,Q a s->Q' a s):wpAny M A t Q' E s:=cf h hQ fun _ _ x=>x
section
variable {X:Cx}
inductive Xl (o:Option (Option V))(k:V->Prop):Prop
 |mk (v:V)(h:o=some (some v))(q:k v):Xl o k
def P8 (i:Nat):TE:=fun σ H Q=>Xl σ[i]? fun v=>Q v H
def tC (v:V):TE:=fun _ H Q=>Q v H
theorem CC {i:Nat}{x:Str}{pos:Pos}(hN:X.N[i]? =some x)(hv:P4 X.env.scope x)(hd:(x == ("__debug__":Str))=false:=by decide)(rg:(x == ("__classdict__":Str))=false:=by decide):PE X (.Name x pos) (P8 i):=by
 intro pins s σ H Q I h
 obtain⟨v,e,h⟩:=h
 obtain⟨m,hn,hl⟩:=I.loc
 obtain⟨u,r,l⟩:=hl i x v hN e hv
 have fin:EP X pins σ Q u s:=⟨v,H,I,r,h⟩
 rcases l with⟨hk,hm⟩|⟨hk,c,hc,l5⟩
 ·exact wpAny_Name (wpAny_loadName_local I.ok.kind hk hn hm fin) hd
 ·rcases hk with hk|hk
  ·exact wpAny_Name (wpAny_loadName_cell I.ok.kind hk hc l5 fin) hd
  ·exact wpAny_Name (wpAny_loadName_free I.ok.kind hk hc l5 fin rg) hd
theorem ah {i j pos}:PE X (.Constant (.int i) j pos) (tC (.int i)):=fun _ _ _ H _ I h=>wpAny_Constant_int ⟨.int i,H,I.tok _,⟨_,rfl⟩,h⟩
theorem kP {b j pos}:PE X (.Constant (.bool b) j pos) (tC (.bl b)):=fun _ _ _ H _ I h=>Constant_bool ⟨.bl b,H,I,rfl,h⟩
theorem CD {j pos}:PE X (.Constant .none j pos) (tC .d8):=fun _ _ _ H _ I h=>Constant_none ⟨.d8,H,I,rfl,h⟩
theorem aR {x j pos}:PE X (.Constant (.str x) j pos) (tC (.str x)):=fun _ _ _ H _ I h=>Calls.Constant_str ⟨.str x,H,I.tok _,⟨_,rfl⟩,h⟩
def Gl (X:Cx)(x:Str):Prop:=X.env.kindOf x=some .globalImplicit
theorem jk {E:Value->Shared->Prop}{pins:List (Addr×Obj)}{s:Shared}{σ:St}{H:Hp}{x:Str}{u:Value}{pos:Pos}{Q:Value->Shared->Prop}(I:Inv X pins σ H s)(hg:Gl X x)(hm:X.mg x=some u)(h:Q u s)
  (hd:(x == ("__debug__":Str))=false:=by decide):wpAny (model X.prog X.w) X.A (eval (.Name x pos) X.env) Q E s:=
 Calls.Name_function_global I.ok.kind hg (Calls.loadGlobal_global (by rw[I.ok.glob]; exact I.mod.glob.keeps I.bk) hm h) hd
theorem oW {E:Value->Shared->Prop}{pins:List (Addr×Obj)}{s:Shared}{σ:St}{H:Hp}{x:Str}{u:Value}{pos:Pos}{Q:Value->Shared->Prop}(I:Inv X pins σ H s)(hg:Gl X x)(hm:X.mg x=none)(hv:bootBuiltins x=some u)(h:Q u s)
  (hn:x≠"__name__":=by decide) (hd:(x == ("__debug__":Str))=false:=by decide):wpAny (model X.prog X.w) X.A (eval (.Name x pos) X.env) Q E s:=by
 obtain⟨mb,h1,h2⟩:=I.mod.blt
 exact Calls.Name_function_global I.ok.kind hg (Calls.loadGlobal_builtin (by rw[I.ok.glob]; exact I.mod.glob.keeps I.bk) hm (by rw[I.ok.blt]; exact h1.keeps I.bk) ((h2 x hn).trans hv) h) hd
theorem DU {x:Str}{v:V}{u:Value}{pos:Pos}(hg:Gl X x)(hm:X.mg x=some u)(r:RelV v u)(hd:(x == ("__debug__":Str))=false:=by decide):PE X (.Name x pos) (tC v):=
 fun _ _ _ H _ I h=>jk I hg hm ⟨v,H,I,r,h⟩ hd
theorem gr {x:Str}{v:V}{u:Value}{pos:Pos}(hg:Gl X x)(hm:X.mg x=none)(hv:bootBuiltins x=some u)(r:RelV v u)(hn:x≠"__name__":=by decide)(hd:(x == ("__debug__":Str))=false:=by decide):PE X (.Name x pos) (tC v):=
 fun _ _ _ H _ I h=>oW I hg hm hv ⟨v,H,I,r,h⟩ hn hd
variable {a b:Expr}{ta tb:TE}{pos:Pos}
def PC (X:Cx)(op:CmpOp)(a b:Expr)(t:TE):Prop:=
 ∀(pins:List (Addr×Obj)) (s:Shared) (σ:St) (H:Hp) (Q:VK),Inv X pins σ H s->t σ H Q->
  wpAny (model X.prog X.w) X.A (eval a X.env) (fun v s₁=>wpAny (model X.prog X.w) X.A (eval b X.env) (fun u s₂=>wpAny (model X.prog X.w) X.A (compareOp op v u) (EP X pins σ Q) X.xe s₂) X.xe s₁) X.xe s
theorem AL (b:Expr){op:CmpOp}(h:op≠ .In)(h2:op≠ .NotIn):behindInMarks op b=false:=by
 have e1:(op == CmpOp.In)=false:=by cases op <;> first|rfl|exact absurd rfl h
 have e2:(op == CmpOp.NotIn)=false:=by cases op <;> first|rfl|exact absurd rfl h2
 cases b <;> simp[behindInMarks,e1,e2]
def Uh (ta:TE):TE:=fun σ H Q=>ta σ H fun x H1=>Q (.bl (decide (x= .d8))) H1
def P9 (ta:TE):TE:=fun σ H Q=>ta σ H fun x H1=>Q (.bl (!decide (x= .d8))) H1
theorem RelV.AM {x:V}{v:Value}(r:RelV x v):(v == Value.none)=decide (x= .d8):=by
 cases x with
 |d8=>cases r; rfl
 |bl _=>cases r; rfl
 |int _=>obtain⟨t,rfl⟩:=r; rfl
 |str _=>obtain⟨t,rfl⟩:=r; rfl
 |Fg _=>obtain⟨t,rfl⟩:=r; rfl
 |Kl _=>obtain⟨t,rfl⟩:=r; rfl
 |ref _=>cases r; rfl
 |ty _=>cases r; rfl
theorem Hs {j pos'}(ha:PE X a ta):PC X .Is a (.Constant .none j pos') (Uh ta):=by
 intro pins s σ H Q I h
 refine dP (ha pins s σ H _ I h) fun v s1 ⟨x,H1,I1,r1,q1⟩=>?_
 exact Constant_none (is_none_gen ⟨.bl _,H1,I1,by rw[r1.AM]; rfl,q1⟩)
theorem Kr {j pos'}(ha:PE X a ta):PC X .IsNot a (.Constant .none j pos') (P9 ta):=by
 intro pins s σ H Q I h
 refine dP (ha pins s σ H _ I h) fun v s1 ⟨x,H1,I1,r1,q1⟩=>?_
 exact Constant_none (isnot_none_gen ⟨.bl _,H1,I1,by rw[r1.AM]; rfl,q1⟩)
def tB (t:TE):TT:=fun σ H Q=>t σ H fun x H1=> ∃c,x= .bl c/\Q c H1
theorem MZ {op:CmpOp}{t:TE}(h:PC X op a b t)(h1:behindInMarks op b=false:=by first|exact AL _ (by decide) (by decide)|rfl):PE X (.Compare a [op] [b] pos) t:=fun pins s σ H Q I hw=>wpAny_Compare1 (h pins s σ H Q I hw) h1
theorem yu {op:CmpOp}{t:TE}(h:PC X op a b t)(h1:behindInMarks op b=false:=by first|exact AL _ (by decide) (by decide)|rfl):PT X (.Compare a [op] [b] pos) (tB t):=by
 intro pins s σ H Q I hw
 refine wpAny_isTrue_Compare1 (dP (h pins s σ H _ I hw) fun v s1 h1=>dP h1 fun u s2 h2=>dP h2 fun c s3 ⟨x,H1,I1,r1,q1⟩=>?_) h1
 obtain⟨d,rfl,q⟩:=q1
 cases r1
 exact fM ⟨H1,I1,q⟩
theorem fT {e:Expr}{t:TE}(h:PE X e t)(he: ∀whole,isTrue e X.env whole=(do let v ← whole; standAt e.pos; holding [v] (truthy v)):=by intro _; rfl):PT X e (tB t):=by
 intro pins s σ H Q I hw
 refine isTrue_plain (dP (h pins s σ H _ I hw) fun v s1 ⟨x,H1,I1,r1,q1⟩=>?_) (he _)
 obtain⟨d,rfl,q⟩:=q1
 cases r1
 exact fM ⟨H1,I1,q⟩
variable {tA S6:TT}{rest:List Expr}
def Ui (t u:TT):TT:=fun σ H Q=>t σ H fun c H1=>if c=true then u σ H1 Q else Q false H1
def Ze (t u:TT):TT:=fun σ H Q=>t σ H fun c H1=>if c=true then Q true H1 else u σ H1 Q
def Uj (t:TT):TT:=fun σ H Q=>t σ H fun c H1=>Q (!c) H1
theorem pw_and1 (ha:PT X a tA):PW X (.BoolOp .And [a] pos) tA:=by
 intro wh pins s σ H Q I h
 refine isTrue_and (dP (ha pins s σ H Q I h) fun c s1 e=>?_)
 cases c with
 |true=>exact isTrue_and_nil e
 |false=>exact e
theorem pw_or1 (ha:PT X a tA):PW X (.BoolOp .Or [a] pos) tA:=by
 intro wh pins s σ H Q I h
 refine isTrue_or (dP (ha pins s σ H Q I h) fun c s1 e=>?_)
 cases c with
 |false=>exact isTrue_or_nil e
 |true=>exact e
theorem pw_and (ha:PT X a tA)(hb:PW X (.BoolOp .And (b :: rest) pos) S6):PW X (.BoolOp .And (a :: b :: rest) pos) (Ui tA S6):=by
 intro wh pins s σ H Q I h
 refine isTrue_and (dP (ha pins s σ H _ I h) fun c s1 ⟨H1,I1,q1⟩=>?_)
 cases c with
 |true=>exact hb wh pins s1 σ H1 Q I1 q1
 |false=>exact⟨H1,I1,q1⟩
theorem pw_or (ha:PT X a tA)(hb:PW X (.BoolOp .Or (b :: rest) pos) S6):PW X (.BoolOp .Or (a :: b :: rest) pos) (Ze tA S6):=by
 intro wh pins s σ H Q I h
 refine isTrue_or (dP (ha pins s σ H _ I h) fun c s1 ⟨H1,I1,q1⟩=>?_)
 cases c with
 |true=>exact⟨H1,I1,q1⟩
 |false=>exact hb wh pins s1 σ H1 Q I1 q1
theorem jB (ha:PT X a tA):PT X (.UnaryOp .Not a pos) (Uj tA):=by
 intro pins s σ H Q I h
 exact isTrue_not (ha pins s σ H (fun c H1=>Q (!c) H1) I h)
def Qa (ta tb:TE):TE:=fun σ H Q=>ta σ H fun x H1=> ∃c,x= .bl c/\if c=true then tb σ H1 Q else Q (.bl false) H1
def Uk (ta tb:TE):TE:=fun σ H Q=>ta σ H fun x H1=> ∃c,x= .bl c/\if c=true then Q (.bl true) H1 else tb σ H1 Q
def Qb (ta:TE):TE:=fun σ H Q=>ta σ H fun x H1=> ∃c,x= .bl c/\Q (.bl (!c)) H1
theorem oX {op}{t:TE}(h:PE X a t):PE X (.BoolOp op [a] pos) t:=fun pins s σ H Q I hw=>BoolOp_one (h pins s σ H Q I hw)
theorem rD (ha:PE X a ta)(hb:PE X (.BoolOp .And (b :: rest) pos) tb):PE X (.BoolOp .And (a :: b :: rest) pos) (Qa ta tb):=by
 intro pins s σ H Q I h
 refine BoolOp_and (dP (ha pins s σ H _ I h) fun v s1 ⟨x,H1,I1,r1,q1⟩=>?_)
 obtain⟨c,rfl,q1⟩:=q1
 cases r1
 refine fM ?_
 cases c with
 |true=>exact hb pins s1 σ H1 Q I1 q1
 |false=>exact⟨.bl false,H1,I1,rfl,q1⟩
theorem Qc (ha:PE X a ta)(hb:PE X (.BoolOp .Or (b :: rest) pos) tb):PE X (.BoolOp .Or (a :: b :: rest) pos) (Uk ta tb):=by
 intro pins s σ H Q I h
 refine BoolOp_or (dP (ha pins s σ H _ I h) fun v s1 ⟨x,H1,I1,r1,q1⟩=>?_)
 obtain⟨c,rfl,q1⟩:=q1
 cases r1
 refine fM ?_
 cases c with
 |false=>exact hb pins s1 σ H1 Q I1 q1
 |true=>exact⟨.bl true,H1,I1,rfl,q1⟩
theorem M0 (ha:PE X a ta):PE X (.UnaryOp .Not a pos) (Qb ta):=by
 intro pins s σ H Q I h
 refine UnaryOp_ (dP (ha pins s σ H _ I h) fun v s1 ⟨x,H1,I1,r1,q1⟩=>?_)
 obtain⟨c,rfl,q1⟩:=q1
 cases r1
 exact not_of (fM ⟨.bl (!c),H1,I1,rfl,q1⟩)
end
def bE (K:PySem.W.Frag)(H:Hp)(a:Addr)(xs:List V):Prop:=
 Rd H a (.lst xs)∨
  ∃(o:Obj) (bY:Array Value) (n:Nat),K.lookup a=some o/\o.cls= .type "list"/\o.dict=none/\o.data= .seq bY n/\bY.size<=sizeLine/\Vals xs bY.toList
def cm (K:PySem.W.Frag)(H:Hp)(a:Addr)(xs:List V):Prop:=
 Rd H a (.tup xs)∨
  ∃(o:Obj) (bY:Array Value) (n:Nat),K.lookup a=some o/\o.cls= .type "tuple"/\o.data= .seq bY n/\bY.size<=sizeLine/\Vals xs bY.toList
def Ul:Value->Option V
 | .none=>some .d8
 | .bool b=>some (.bl b)
 | .int i _=>some (.int i)
 | .str x _=>some (.str x)
 | .bytes b _=>some (.Fg b)
 | .float b _=>some (.Kl b)
 | .ref a=>some (.ref a)
 | .type n=>some (.ty n)
 |_=>none
theorem RelV.abs {x:V}{u:Value}(r:RelV x u):Ul u=some x:=by
 cases x with
 |d8=>cases r; rfl
 |bl _=>cases r; rfl
 |int _=>obtain⟨t,rfl⟩:=r; rfl
 |str _=>obtain⟨t,rfl⟩:=r; rfl
 |Fg _=>obtain⟨t,rfl⟩:=r; rfl
 |Kl _=>obtain⟨t,rfl⟩:=r; rfl
 |ref _=>cases r; rfl
 |ty _=>cases r; rfl
theorem RelV.inj {x y:V}{u:Value}(r:RelV x u)(q:RelV y u):x=y:=aF (r.abs.symm.trans q.abs)
theorem Vals.inj: ∀{xs ys:List V} {us:List Value},Vals xs us->Vals ys us->xs=ys
 |_,_,_,.nil,.nil=>rfl
 |_,_,_,.cons r t,.cons r' t'=>by rw[r.inj r',Vals.inj t t']
section
variable {X:Cx}{pins:List (Addr×Obj)}{σ:St}{H:Hp}{s:Shared}{a:Addr}{xs ys:List V}
theorem bE.of {K:PySem.W.Frag}(h:H a=some (.lst xs)):bE K H a xs:= .inl (.inl h)
theorem cm.of {K:PySem.W.Frag}(h:H a=some (.tup xs)):cm K H a xs:= .inl (.inl h)
theorem Inv.list (I:Inv X pins σ H s)(h:bE X.K H a xs): ∃bY:List Value,Vals xs bY/\PlainL s.heap a bY.toArray/\xs.length<=sizeLine:=by
 rcases h with h|⟨o,bY,n,hk,hc,hd,hs,hz,r⟩
 ·obtain⟨z,bY,n,r,e⟩:=h.ok I.cw
  exact⟨bY,r,⟨_,n,e,rfl,rfl,rfl⟩,z⟩
 ·refine⟨bY.toList,r,⟨o,n,I.gE a o hk,hc,hd,by simpa using hs⟩,?_⟩
  have e:=r.length
  simp only[Array.length_toList] at e
  lia
theorem Inv.tuple (I:Inv X pins σ H s)(h:cm X.K H a xs): ∃bY:List Value,Vals xs bY/\IsTup s.heap a bY.toArray/\xs.length<=sizeLine:=by
 rcases h with h|⟨o,bY,n,hk,hc,hs,hz,r⟩
 ·obtain⟨z,bY,r,p⟩:=h.ok I.cw
  exact⟨bY,r,p,z⟩
 ·refine⟨bY.toList,r,⟨o,I.gE a o hk,hc,n,by simpa using hs⟩,?_⟩
  have e:=r.length
  simp only[Array.length_toList] at e
  lia
theorem Inv.AN (I:Inv X pins σ H s)(h:bE X.K H a xs)(h':bE X.K H a ys):xs=ys:=by
 obtain⟨bY,r,⟨o,n,e,_,_,d⟩,_⟩:=I.list h
 obtain⟨pZ,r',⟨o',n',e',_,_,d'⟩,_⟩:=I.list h'
 rw[e] at e'; cases e'
 rw[d] at d'
 injection d' with d1 _
 have:bY=pZ:=by simpa using congrArg Array.toList d1
 subst this
 exact r.inj r'
theorem Inv.Fl (I:Inv X pins σ H s)(h:cm X.K H a xs)(h':cm X.K H a ys):xs=ys:=by
 obtain⟨bY,r,⟨o,e,_,n,d⟩,_⟩:=I.tuple h
 obtain⟨pZ,r',⟨o',e',_,n',d'⟩,_⟩:=I.tuple h'
 rw[e] at e'; cases e'
 rw[d] at d'
 injection d' with d1 _
 have:bY=pZ:=by simpa using congrArg Array.toList d1
 subst this
 exact r.inj r'
end
abbrev Cx.uu (X:Cx)(E:Value->Shared->Prop):Cx:={X with xe:=E}
abbrev Cx.DV (X:Cx):Cx:=X.uu fun _ _=>False
theorem Cx.Ok.uu {X:Cx}(ok:X.Ok)(E:Value->Shared->Prop):(X.uu E).Ok:=
 ⟨ok.mod,ok.kind,ok.glob,ok.blt,ok.above,ok.inj,ok.has,ok.JU,ok.hd,ok.frames,ok.G5,ok.Ko,ok.bs,ok.AH,ok.wa,ok.wb,ok.lF,ok.DS⟩
theorem Cx.Ok.mx {X:Cx}{E:Value->Shared->Prop}(ok:(X.uu E).Ok):X.Ok:=
 ⟨ok.mod,ok.kind,ok.glob,ok.blt,ok.above,ok.inj,ok.has,ok.JU,ok.hd,ok.frames,ok.G5,ok.Ko,ok.bs,ok.AH,ok.wa,ok.wb,ok.lF,ok.DS⟩
section
variable {X:Cx}{pins:List (Addr×Obj)}{σ:St}{H:Hp}{s:Shared}{E:Value->Shared->Prop}
theorem Inv.uu (I:Inv X pins σ H s)(E:Value->Shared->Prop):Inv (X.uu E) pins σ H s:=⟨I.ok.uu E,I.os,I.bare,I.base,I.loc,I.cell,I.free,I.iF,I.pin,I.cw,I.len⟩
theorem Inv.mx (I:Inv (X.uu E) pins σ H s):Inv X pins σ H s:=⟨I.ok.mx,I.os,I.bare,I.base,I.loc,I.cell,I.free,I.iF,I.pin,I.cw,I.len⟩
theorem SP.mx {D:Ends}{f:Flow}{s':Shared}(h:SP (X.uu E) pins D f s'):SP X pins D f s':=by
 cases f with
 |next=>obtain⟨σ',H',I,q⟩:=h; exact⟨σ',H',I.mx,q⟩
 |brk=>obtain⟨σ',H',I,q⟩:=h; exact⟨σ',H',I.mx,q⟩
 |cont=>obtain⟨σ',H',I,q⟩:=h; exact⟨σ',H',I.mx,q⟩
 |ret u=>obtain⟨v,σ',H',I,r,q⟩:=h; exact⟨v,σ',H',I.mx,r,q⟩
theorem oV.DV {st:List Stmt}{t:TS}(h:oV X.DV st t):oV X st t:=fun pins s σ H D I hw=>
 cf (h pins s σ H D (I.uu _) hw) (fun _ _ q=>q.mx) fun _ _ z=>False.elim z
end
section
variable {X:Cx}{st:Stmt}{rest:List Stmt}{t u:TS}{e:Expr}{te:TE}{pos:Pos}
def Qd:TS:=fun D σ H=>D.nx σ H
def Um (t u:TS):TS:=fun D σ H=>t {D with nx:=u D} σ H
theorem bb:oV X [] Qd:=fun _ _ σ H _ I h=>jb ⟨σ,H,I,h⟩
theorem ai (h1:PS X st t)(h2:oV X rest u):oV X (st :: rest) (Um t u):=by
 intro pins s σ H D I h
 refine wpAny_execs_cons (dP (h1 pins s σ H {D with nx:=u D} I h) fun f s1 q=>?_)
 cases f with
 |next=>
  obtain⟨σ',H',I',q⟩:=q
  exact h2 pins s1 σ' H' D I' q
 |ret v=>exact q
 |brk=>exact q
 |cont=>exact q
theorem ao (h1:PS X st t):oV X [st] t:=by
 intro pins s σ H D I h
 refine wpAny_execs_cons (dP (h1 pins s σ H D I h) fun f s1 q=>?_)
 cases f with
 |next=>exact jb q
 |ret v=>exact q
 |brk=>exact q
 |cont=>exact q
theorem Inv.quiet {pins:List (Addr×Obj)}{σ:St}{H:Hp}{s:Shared}(I:Inv X pins σ H s):interactive X.env=false:=by simp[interactive,I.ok.kind]
def Qe (te:TE):TS:=fun D σ H=>te σ H fun _ H1=>D.nx σ H1
theorem bJ (he:PE X e te)(hs:swapsWith e none pos.line X.env=pure false:=by rfl):PS X (.Expr e pos) (Qe te):=by
 intro pins s σ H D I h
 exact wpAny_Expr_any (dP (he pins s σ H _ I h) fun v s1 ⟨x,H1,I1,r1,q1⟩=>⟨σ,H1,I1,q1⟩) I.quiet hs
def Uo (te:TE):TS:=fun D σ H=>te σ H D.rt
theorem a6 (he:PE X e te):PS X (.Return (some e) pos) (Uo te):=by
 intro pins s σ H D I h
 exact wpAny_Return_some (dP (he pins s σ H _ I h) fun v s1 ⟨x,H1,I1,r1,q1⟩=>⟨x,σ,H1,I1,r1,q1⟩)
def Up (c:TT)(t u:TS):TS:=fun D σ H=>c σ H fun b H1=>if b=true then t D σ H1 else u D σ H1
theorem bM {c:Expr}{a b:List Stmt}{tc:TT}(hc:PT X c tc)(ha:oV X a t)(hb:oV X b u):PS X (.If c a b pos) (Up tc t u):=by
 intro pins s σ H D I h
 refine wpAny_If (dP (hc pins s σ H _ I h) fun d s1 ⟨H1,I1,q1⟩=>?_)
 cases d with
 |true=>exact ha pins s1 σ H1 D I1 q1
 |false=>exact hb pins s1 σ H1 D I1 q1
end
abbrev TG:=V->St->Hp->(St->Hp->Prop)->Prop
abbrev Mb:=List V->St->Hp->(St->Hp->Prop)->Prop
def PG (X:Cx)(target:Expr)(t:TG):Prop:=
 ∀(pins:List (Addr×Obj)) (s:Shared) (σ:St) (H:Hp) (v:V) (u:Value) (Q:St->Hp->Prop),Inv X pins σ H s->RelV v u->t v σ H Q->
  wpAny (model X.prog X.w) X.A (assign target X.env u) (fun _ s'=> ∃σ' H',Inv X pins σ' H' s'/\Q σ' H') X.xe s
def Ks (X:Cx)(ts:List Expr)(t:Mb):Prop:=
 ∀(pins:List (Addr×Obj)) (s:Shared) (σ:St) (H:Hp) (vs:List V) (us:List Value) (Q:St->Hp->Prop),Inv X pins σ H s->Vals vs us->t vs σ H Q->
  wpAny (model X.prog X.w) X.A (assignInOrder ((assignEach ts X.env).map (·.2)) us) (fun _ s'=> ∃σ' H',Inv X pins σ' H' s'/\Q σ' H') X.xe s
abbrev M3:=V->V->V->Hp->(Hp->Prop)->Prop
def Qf (X:Cx)(t:M3):Prop:=
 ∀(pins:List (Addr×Obj)) (s:Shared) (σ:St) (H:Hp) (o i v:V) (ov iv u:Value) (Q:Hp->Prop),Inv X pins σ H s->RelV o ov->RelV i iv->RelV v u->t o i v H Q->
  wpAny (model X.prog X.w) X.A (setItem ov iv u) (fun _ s'=> ∃H',Inv X pins σ H' s'/\Q H') X.xe s
section
variable {X:Cx}{pos:Pos}
def AO (i:Nat):TG:=fun v σ H Q=>Q (σ.set i (some v)) H
theorem eu {i:Nat}{x:Str}(hN:X.N.Nodup)(hi:X.N[i]? =some x)(hx:Loc X.env.scope x)(hf:X.fn x=true∨X.env.scope.names.lookup x=some .local:=by first|exact .inl rfl|exact .inr rfl|assumption):PG X (.Name x pos) (AO i):=by
 intro pins s σ H v u Q I r h
 exact wpAny_assign_Name (ur I hN hi hx r (fun s' I'=>⟨_,H,I',h⟩) hf)
def Uq:Mb:=fun vs σ H Q=>vs=[]/\Q σ H
inductive Xm (vs:List V)(k:V->List V->Prop):Prop
 |mk (v:V)(r:List V)(h:vs=v :: r)(q:k v r):Xm vs k
def Qg (t:TG)(u:Mb):Mb:=fun vs σ H Q=>Xm vs fun v r=>t v σ H fun σ' H'=>u r σ' H' Q
theorem gu:Ks X [] Uq:=by
 intro pins s σ H vs us Q I r h
 obtain⟨e,h⟩:=h
 subst e
 cases r
 exact assignInOrder_nil ⟨σ,H,I,h⟩
theorem bX {e:Expr}{es:List Expr}{t:TG}{u:Mb}(h1:PG X e t)(h2:Ks X es u)
  (hs:(assignEach (e :: es) X.env).map (·.2)=assign e X.env :: (assignEach es X.env).map (·.2):=by rfl):Ks X (e :: es) (Qg t u):=by
 intro pins s σ H vs us Q I r h
 obtain⟨v,vr,e1,h⟩:=h
 subst e1
 cases r with
 |cons r rr=>
  rw[hs]
  refine assignInOrder_cons (dP (h1 pins s σ H _ _ _ I r h) fun _ s1 ⟨σ1,H1,I1,q1⟩=>?_)
  exact h2 pins s1 σ1 H1 _ _ Q I1 rr q1
inductive Xn (K:PySem.W.Frag)(H:Hp)(n:Nat)(v:V)(k:List V->Prop):Prop
 |mk (a:Addr)(xs:List V)(h1:v= .ref a)(h2:cm K H a xs)(h3:xs.length=n)(q:k xs):Xn K H n v k
def Qh (K:PySem.W.Frag)(n:Nat)(t:Mb):TG:=fun v σ H Q=>Xn K H n v fun xs=>t xs σ H Q
theorem iM {es:List Expr}{k:Nat}{t:Mb}{n:Nat}(hc:X.calm=true)(h:Ks X es t)
  (hn:(assignEach es X.env).length=n:=by rfl) (sk:(assignEach es X.env).findIdx? (·.1)=none:=by rfl):PG X (.Tuple es k pos) (Qh X.K n t):=by
 intro pins s σ H v u Q I r hw
 obtain⟨a,xs,e1,hq,hl,hw⟩:=hw
 subst e1
 cases r
 obtain⟨bY,rv,ht,hz⟩:=I.tuple hq
 refine assign_Tuple_tuple (I.ok.hd hc) ht (by simp[hn,← hl,rv.length]) sk fun h' hx=>?_
 have I1:Inv X pins σ H {s with heap:=h'}:=I.kept (t':=s.toks) fun b o e=>hx b o (a0 (aK e)) e
 exact h pins _ σ H xs _ Q I1 (by simpa using rv) hw
def Ur (to ti:TE)(t:M3):TG:=fun v σ H Q=>to σ H fun o H1=>ti σ H1 fun i H2=>t o i v H2 fun H3=>Q σ H3
theorem oY {o i:Expr}{to ti:TE}{t:M3}(ho:PE X o to)(hi:PE X i ti)(hs:Qf X t)
  (ha: ∀v,assign (.Subscript o i pos) X.env v=(do
   let ov ← holding [v] (eval o X.env)
   let iv ← holding [v,ov] (eval i X.env)
   standAt pos
   holding [v,ov,iv] (setItem ov iv v)
   release [v,ov,iv] []):=by intro _; rfl):PG X (.Subscript o i pos) (Ur to ti t):=by
 intro pins s σ H v u Q I r h
 rw[ha]
 refine az (hZ (dP (ho pins s σ H _ I h) fun ov s1 ⟨x,H1,I1,r1,q1⟩=>?_))
 refine az (hZ (dP (hi pins s1 σ H1 _ I1 q1) fun iv s2 ⟨y,H2,I2,r2,q2⟩=>?_))
 refine az (ie (az (hZ (dP (hs pins s2 σ H2 x y v ov iv u _ I2 r1 r2 r q2) fun _ s3 ⟨H3,I3,q3⟩=>?_))))
 exact wpAny_release ⟨σ,H3,I3,q3⟩
def Kt (te:TE)(g:TG):TS:=fun D σ H=>te σ H fun x H1=>g x σ H1 D.nx
theorem lG {tg e:Expr}{te:TE}{g:TG}(he:PE X e te)(hg:PG X tg g)(hs:swapsWithSole [tg] e pos.line X.env=pure false:=by rfl)(hw:swappedStores [tg] e X.env=pure none:=by rfl)
  (h1:(assignEach [tg] X.env).map (·.2)=[assign tg X.env]:=by rfl):PS X (.Assign [tg] e pos) (Kt te g):=by
 intro pins s σ H D I h
 refine wpAny_Assign_stores (dP (he pins s σ H _ I h) fun v s1 ⟨x,H1,I1,r1,q1⟩=>?_) hs hw
 rw[h1]
 exact dP (hg pins s1 σ H1 x v _ I1 r1 q1) fun _ s2 q=>q
theorem M4 {i:Nat}{x:Str}{e:Expr}{te:TE}{pos':Pos}(hN:X.N.Nodup)(hi:X.N[i]? =some x)(hx:Loc X.env.scope x)(he:PE X e te)(hs:swapsWith e (some (.Name x pos')) pos.line X.env=pure false:=by rfl)(hf:X.fn x=true∨X.env.scope.names.lookup x=some .local:=by first|exact .inl rfl|exact .inr rfl|assumption):
  PS X (.Assign [.Name x pos'] e pos) (Kt te (AO i)):=by
 intro pins s σ H D I h
 refine wpAny_Assign_Name (dP (he pins s σ H _ I h) fun v s1 ⟨y,H1,I1,r1,q1⟩=>?_) hs
 exact ur I1 hN hi hx r1 (fun s2 I2=>⟨_,H1,I2,q1⟩) hf
def M5 (c:TT)(tb:TS):TS:=fun D σ H=> ∃W:Nat->St->Hp->Prop,(∃m,W m σ H)/\ ∀m σ H,W m σ H->
 c σ H fun b H1=>if b=true then ∃N:St->Hp->Prop,(∀σ' H',N σ' H'-> ∃m',m' < m/\W m' σ' H')/\tb {D with nx:=N,ct:=N,bk:=D.nx} σ H1 else D.nx σ H1
theorem Ht {c:Expr}{body:List Stmt}{tc:TT}{tb:TS}(hp:PassesOwn (model X.prog X.w) X.A X.env X.xe)(hc:PT X c tc)(hb:oV X body tb):PS X (.While c body [] pos) (M5 tc tb):=by
 intro pins s σ H D I h
 obtain⟨W,⟨m0,w0⟩,turn⟩:=h
 refine wpAny_While (codeAny_whileLoop (fun n s'=> ∃σ' H',Inv X pins σ' H' s'/\W n σ' H') ?_ m0 ⟨σ,H,I,w0⟩)
 rintro n s1 ⟨σ1,H1,I1,w1⟩
 refine dH hp (dP (hc pins s1 σ1 H1 _ I1 (turn n σ1 H1 w1)) fun b s2 ⟨H2,I2,q2⟩=>?_)
 cases b with
 |true=>
  obtain⟨N,hN,q2⟩:=q2
  rw[a7 rfl]
  refine dH hp (dP (hb pins s2 σ1 H2 _ I2 q2) fun f s3 q3=>?_)
  cases f with
  |next=>
   obtain⟨σ3,H3,I3,n3⟩:=q3
   obtain⟨m',hm,w3⟩:=hN σ3 H3 n3
   exact⟨m',hm,σ3,H3,I3,w3⟩
  |cont=>
   obtain⟨σ3,H3,I3,n3⟩:=q3
   obtain⟨m',hm,w3⟩:=hN σ3 H3 n3
   exact⟨m',hm,σ3,H3,I3,w3⟩
  |brk=>exact q3
  |ret v=>exact q3
 |false=>
  rw[aQ aV]
  exact jb ⟨σ1,H2,I2,q2⟩
end
structure It where
 go:Nat->Hp->Prop
 Pb:Nat->Hp->V->Hp->Prop
 stop:Nat->Hp->Prop
def uv (X:Cx)(pins:List (Addr×Obj))(H:Hp)(b:Addr):Prop:=
 H b=none/\b≠X.env.locals/\b∉X.fs/\(b∈X.ex∨X.s₀.heap.objs.size<=b)/\(∀x c,X.env.cells.lookup x=some c->c≠b)/\ ∀p∈X.pn ++ pins,p.1≠b
theorem Inv.Fm {X:Cx}{pins:List (Addr×Obj)}{σ:St}{H H':Hp}{s:Shared}{b:Addr}(I:Inv X pins σ H s)(hb:s.heap.objs.size<=b)(hn:H' b=none):uv X pins H' b:=by
 refine⟨hn,pO (ba I.lt hb),I.Fj hb,.inr (aY I.sz hb),fun x c e z=>?_,fun p hp z=>?_⟩
 ·obtain⟨v,q⟩:=I.cell x c e
  exact absurd (ba q.lt (by rw[z]; exact hb)) (iI _)
 ·exact absurd (ba (aK (I.pin p hp).1) (by rw[z]; exact hb)) (iI _)
structure Turn (P:Program)(w:World)(K:PySem.W.Frag)(tg:Expr)(J:It)(fp:List Addr)(it:Addr)(tn:Nat->Heap->Prop):Prop where
 mem:it∈fp
 obj: ∀i h,tn i h-> ∀b∈fp,∃o,h.get? b=some o/\ ∀v,o.data≠ .cell v
 keep: ∀i h h',tn i h->(∀b∈fp,∀o,h.get? b=some o->h'.get? b=some o)->tn i h'
 item: ∀(X:Cx),X.prog=P->X.w=w->X.K=K->X.calm=true-> ∀(i:Nat) (pins:List (Addr×Obj)) (s:Shared) (σ:St) (H:Hp) (E:Value->Shared->Prop),Inv X pins σ H s->(∀b∈fp,uv X pins H b)->tn i s.heap->J.go i H->
  wpAny (model P w) X.A (pyNext (.ref it)) (fun r s1=> ∃u,r=some u/\
   wpAny (model P w) X.A (letOwnedTupleGo tg (.ref it) u) (fun _ s2=> ∃x H',Inv X pins σ H' s2/\RelV x u/\J.Pb i H x H'/\tn (i + 1) s2.heap/\ ∀b∈fp,H' b=none) E s1) E s
 done: ∀(X:Cx),X.prog=P->X.w=w->X.K=K->X.calm=true-> ∀(i:Nat) (pins:List (Addr×Obj)) (s:Shared) (σ:St) (H:Hp) (E:Value->Shared->Prop),Inv X pins σ H s->(∀b∈fp,uv X pins H b)->tn i s.heap->J.stop i H->
  wpAny (model P w) X.A (pyNext (.ref it)) (fun r s1=>r=none/\Inv X pins σ H s1) E s
 self: ∀(A:Around) (i:Nat) (s:Shared) (Q:Value->Shared->Prop) (E:Value->Shared->Prop),tn i s.heap->Q (.ref it) s->wpAny (model P w) A (pyIter (.ref it)) Q E s
abbrev TI:=St->Hp->(It->Hp->Prop)->Prop
def Xo (X:Cx)(pins:List (Addr×Obj))(σ:St)(tg:Expr)(R:It->Hp->Prop)(S7:Value)(s2:Shared):Prop:=
 ∃(it:Addr) (fp:List Addr) (tn:Nat->Heap->Prop) (J:It) (H':Hp),S7= .ref it/\Inv X pins σ H' s2/\Turn X.prog X.w X.K tg J fp it tn/\tn 0 s2.heap/\(∀b∈fp,uv X pins H' b)/\R J H'
def PI (X:Cx)(tg iter:Expr)(wi:TI):Prop:=
 ∀(pins:List (Addr×Obj)) (s:Shared) (σ:St) (H:Hp) (R:It->Hp->Prop),Inv X pins σ H s->wi σ H R->
  wpAny (model X.prog X.w) X.A (eval iter X.env) (fun v s1=>wpAny (model X.prog X.w) X.A (pyIter v) (Xo X pins σ tg R) X.xe s1) X.xe s
theorem DW {M:Model}{A:Around}{E:Value->Shared->Prop}{s:Shared}{tg:Expr}{it:Addr}{u:Value}{o:Obj}{n:String}{vs:Array Value}{Q:Unit->Shared->Prop}(ho:s.heap.get? it=some o)(hc:o.cls= .type n)(hd:o.data= .fields vs)
  (hn:["enumerate","zip","dict_itemiterator","dict_reverseitemiterator","odict_iterator","itertools.zip_longest","itertools.pairwise"].contains n=false) (hQ:Q () s):wpAny M A (letOwnedTupleGo tg (.ref it) u) Q E s:=by
 unfold letOwnedTupleGo
 cases tg <;> first
  |exact bB hQ
  |(cases u <;> first
    |exact bB hQ
    |(refine az (wpAny_load ho ?_)
      rw[hc,hd]
      show wpAny M A (if(["enumerate","zip","dict_itemiterator","dict_reverseitemiterator","odict_iterator","itertools.zip_longest","itertools.pairwise"].contains n && vs[0]? == some (rawInt _))=true then _ else _) Q E s
      rw[aQ (by intro h; rw[hn,pW] at h; cases h)]
      exact bB hQ))
def Pc (K:PySem.W.Frag)(a:Addr):It:=
 ⟨fun i H=> ∃xs x,bE K H a xs/\xs[i]? =some x,fun i H x H'=>H'=H/\ ∀xs,bE K H a xs->xs[i]? =some x,fun i H=> ∃xs,bE K H a xs/\xs.length<=i⟩
def Us (K:PySem.W.Frag)(a:Addr):It:=
 ⟨fun i H=> ∃xs x,cm K H a xs/\xs[i]? =some x,fun i H x H'=>H'=H/\ ∀xs,cm K H a xs->xs[i]? =some x,fun i H=> ∃xs,cm K H a xs/\xs.length<=i⟩
def Mc (lo:Int)(n:Nat):It:=⟨fun i _=>i < n,fun i H x H'=>H'=H/\x= .int (lo + i),fun i _=>n<=i⟩
theorem Fn {P:Program}{w:World}{K:PySem.W.Frag}{tg:Expr}(a it:Addr):Turn P w K tg (Pc K a) [it] it (fun i h=>h.IsListIter it a i) where
 mem:=by simp
 obj:=fun i h st b hb=>by
  have e:b=it:=by simpa using hb
  subst e
  obtain⟨o,e,c,d⟩:=st
  exact⟨o,e,fun v z=>by rw[d] at z; cases z⟩
 keep:=fun i h h' st k=>st.at fun o e=>k it (by simp) o e
 item:=by
  intro X hP hw hK hc i pins s σ H E I hf st hg
  subst hP hw hK
  obtain⟨xs,x,hq,hx⟩:=hg
  obtain⟨bY,rv,p,hz⟩:=I.list hq
  obtain⟨u,hu,ru⟩:=rv.get hx
  obtain⟨f0,f1,f2,f3,f4,f5⟩:=hf it (by simp)
  refine wpAny_pyNext_list_item st p.isList (x:=u) (by simpa using hu) fun h' Av sb=>?_
  have I1:Inv X pins σ H {s with heap:=h'}:=I.turned (t':=s.toks) (fun b o hb e=>(sb.2 b hb).trans e) f0 f1 f3 f4 f5
  obtain⟨o,e,c,d⟩:=id Av
  exact⟨u,rfl,DW (s:={s with heap:=h'}) e c d (by decide) ⟨x,H,I1,ru,⟨rfl,fun ys hy=>by rw[I.AN hy hq]; exact hx⟩,Av,fun b hb=>(hf b hb).1⟩⟩
 done:=by
  intro X hP hw hK hc i pins s σ H E I hf st hg
  subst hP hw hK
  obtain⟨xs,hq,hx⟩:=hg
  obtain⟨bY,rv,p,hz⟩:=I.list hq
  obtain⟨f0,f1,f2,f3,f4,f5⟩:=hf it (by simp)
  have hl:=rv.length
  exact wpAny_pyNext_list_end (I.ok.hd hc) st p.isList (by simp; lia) fun h' eb=>⟨rfl,I.turned (t':=s.toks) (fun b o hb e=>eb b o hb e) f0 f1 f3 f4 f5⟩
 self:=fun _ _ _ _ _ st h=>wpAny_pyIter_listiter st h
theorem CF {P:Program}{w:World}{K:PySem.W.Frag}{tg:Expr}(a it:Addr):Turn P w K tg (Us K a) [it] it (fun i h=>h.IsTupleIter it a i) where
 mem:=by simp
 obj:=fun i h st b hb=>by
  have e:b=it:=by simpa using hb
  subst e
  obtain⟨o,e,c,d⟩:=st
  exact⟨o,e,fun v z=>by rw[d] at z; cases z⟩
 keep:=fun i h h' st k=>st.at fun o e=>k it (by simp) o e
 item:=by
  intro X hP hw hK hc i pins s σ H E I hf st hg
  subst hP hw hK
  obtain⟨xs,x,hq,hx⟩:=hg
  obtain⟨bY,rv,p,hz⟩:=I.tuple hq
  obtain⟨u,hu,ru⟩:=rv.get hx
  obtain⟨f0,f1,f2,f3,f4,f5⟩:=hf it (by simp)
  refine wpAny_pyNext_tuple_item st (show s.heap.IsTuple a bY.toArray from p) (x:=u) (by simpa using hu) fun h' Av sb=>?_
  have I1:Inv X pins σ H {s with heap:=h'}:=I.turned (t':=s.toks) (fun b o hb e=>(sb.2 b hb).trans e) f0 f1 f3 f4 f5
  obtain⟨o,e,c,d⟩:=id Av
  exact⟨u,rfl,DW (s:={s with heap:=h'}) e c d (by decide) ⟨x,H,I1,ru,⟨rfl,fun ys hy=>by rw[I.Fl hy hq]; exact hx⟩,Av,fun b hb=>(hf b hb).1⟩⟩
 done:=by
  intro X hP hw hK hc i pins s σ H E I hf st hg
  subst hP hw hK
  obtain⟨xs,hq,hx⟩:=hg
  obtain⟨bY,rv,p,hz⟩:=I.tuple hq
  obtain⟨f0,f1,f2,f3,f4,f5⟩:=hf it (by simp)
  have hl:=rv.length
  exact wpAny_pyNext_tuple_end (I.ok.hd hc) st (show s.heap.IsTuple a bY.toArray from p) (by simp; lia) fun h' eb=>⟨rfl,I.turned (t':=s.toks) (fun b o hb e=>eb b o hb e) f0 f1 f3 f4 f5⟩
 self:=fun _ _ _ _ _ st h=>wpAny_pyIter_tupleiter st h
theorem CG {P:Program}{w:World}{K:PySem.W.Frag}{tg:Expr}(it:Addr)(lo:Int)(n:Nat):Turn P w K tg (Mc lo n) [it] it (fun i h=>IsRangeIter h it (lo + (i:Nat) * 1) ((n:Int) - (i:Nat)) 1) where
 mem:=by simp
 obj:=fun i h st b hb=>by
  have e:b=it:=by simpa using hb
  subst e
  exact⟨_,st,fun v z=>by
   have z':Data.fields _ =Data.cell v:=z
   cases z'⟩
 keep:=fun i h h' st k=>k it (by simp) _ st
 item:=by
  intro X hP hw hK hc i pins s σ H E I hf st hg
  subst hP hw hK
  obtain⟨f0,f1,f2,f3,f4,f5⟩:=hf it (by simp)
  have W:=Walks.range (prog:=X.prog) (w:=X.w) (I.ok.hd hc) it lo 1 n
  refine W.item i s _ _ hg st fun v h' tk hv Av kk=>?_
  obtain⟨t,rfl⟩:=hv
  have I1:Inv X pins σ H {s with heap:=h',toks:=tk}:=I.turned (fun b o hb e=>kk b o (by simpa using hb) e) f0 f1 f3 f4 f5
  refine⟨_,rfl,DW (s:={s with heap:=h',toks:=tk}) (n:="range_iterator") Av rfl rfl (by decide) ⟨.int (lo + i),H,I1,⟨t,?_⟩,⟨rfl,rfl⟩,Av,fun b hb=>(hf b hb).1⟩⟩
  rw[Int.mul_one]
 done:=by
  intro X hP hw hK hc i pins s σ H E I hf st hg
  subst hP hw hK
  obtain⟨f0,f1,f2,f3,f4,f5⟩:=hf it (by simp)
  exact wpAny_pyNext_range_end (I.ok.hd hc) st (by have:n<=i:=hg; lia) fun h' eb=>⟨rfl,I.turned (t':=s.toks) (fun b o hb e=>eb b o hb e) f0 f1 f3 f4 f5⟩
 self:=fun _ _ _ _ _ st h=>wpAny_pyIter_rangeiter st h
section
variable {X:Cx}{tg:Expr}
inductive Xp (x:V)(S k:Addr->Prop):Prop
 |mk (a:Addr)(h:x= .ref a)(s:S a)(q:k a):Xp x S k
def Qi (K:PySem.W.Frag)(tl:TE):TI:=fun σ H R=>tl σ H fun x H1=>Xp x (fun a=> ∃xs,bE K H1 a xs) fun a=>R (Pc K a) H1
def Ut (K:PySem.W.Frag)(tl:TE):TI:=fun σ H R=>tl σ H fun x H1=> ∃a,x= .ref a/\(∃xs,cm K H1 a xs)/\R (Us K a) H1
theorem dj {l:Expr}{tl:TE}(hl:PE X l tl):PI X tg l (Qi X.K tl):=by
 intro pins s σ H R I h
 refine dP (hl pins s σ H _ I h) fun v s1 ⟨x,H1,I1,r1,q1⟩=>?_
 obtain⟨a,e,⟨xs,hq⟩,q⟩:=q1
 subst e
 cases r1
 obtain⟨bY,rv,p,hz⟩:=I1.list hq
 refine wpAny_pyIter_list p.isList ?_
 refine⟨s1.heap.objs.size,[s1.heap.objs.size],_,_,H1,rfl,I1.kept (t':=s1.toks) fun b o e=>ay _ e,Fn a _,⟨_,bK _ rfl,rfl,rfl⟩,fun b hb=>?_,q⟩
 have e:b=s1.heap.objs.size:=by simpa using hb
 subst e
 exact I1.Fm (aC _) (I1.cw.fresh (aC _))
theorem Hu {l:Expr}{tl:TE}(hl:PE X l tl):PI X tg l (Ut X.K tl):=by
 intro pins s σ H R I h
 refine dP (hl pins s σ H _ I h) fun v s1 ⟨x,H1,I1,r1,q1⟩=>?_
 obtain⟨a,e,⟨xs,hq⟩,q⟩:=q1
 subst e
 cases r1
 obtain⟨bY,rv,p,hz⟩:=I1.tuple hq
 refine wpAny_pyIter_tuple (show s1.heap.IsTuple a bY.toArray from p) ?_
 refine⟨s1.heap.objs.size,[s1.heap.objs.size],_,_,H1,rfl,I1.kept (t':=s1.toks) fun b o e=>ay _ e,CF a _,⟨_,bK _ rfl,rfl,rfl⟩,fun b hb=>?_,q⟩
 have e:b=s1.heap.objs.size:=by simpa using hb
 subst e
 exact I1.Fm (aC _) (I1.cw.fresh (aC _))
theorem Hv {pins:List (Addr×Obj)}{σ:St}{H:Hp}{s:Shared}{R:It->Hp->Prop}{E:Value->Shared->Prop}{lo hi:Int}{t u v:Tok}{tk:Nat}(I:Inv X pins σ H s)(h1: -(2 ^ 62)<=lo)(h2:lo < 2 ^ 62)(h3: -(2 ^ 62)<=hi)(h4:hi < 2 ^ 62)
  (q:R (Mc lo (hi - lo).toNat) H):wpAny (model X.prog X.w) X.A (pyIter (.ref s.heap.objs.size)) (Xo X pins σ tg R) E {s with heap:=s.heap.push {cls:= .type "range",data:= .fields #[.int lo t,.int hi u,.int 1 v]},toks:=tk}:=by
 refine wpAny_pyIter_range (IsRange.new ..) (small_one h1 h2 h3 h4) ?_
 have I1:Inv X pins σ H {s with heap:=s.heap.push {cls:= .type "range",data:= .fields #[.int lo t,.int hi u,.int 1 v]},toks:=tk}:=I.kept fun b o e=>ay _ e
 refine⟨(s.heap.push {cls:= .type "range",data:= .fields #[.int lo t,.int hi u,.int 1 v]}).objs.size,[(s.heap.push {cls:= .type "range",data:= .fields #[.int lo t,.int hi u,.int 1 v]}).objs.size],_,_,H,rfl,
  I1.kept (t':=tk) fun b o e=>ay _ e,CG _ lo (hi - lo).toNat,?_,fun b hb=>?_,q⟩
 ·have e1:lo + ((0:Nat):Int) * 1=lo:=by simp
  have e2:(((hi - lo).toNat:Nat):Int) - ((0:Nat):Int)=Builtin.Range.rangeSize lo hi 1:=by rw[rangeSize_one]; split <;> lia
  show IsRangeIter _ _ (lo + ((0:Nat):Int) * 1) ((((hi - lo).toNat:Nat):Int) - ((0:Nat):Int)) 1
  rw[e1,e2]
  exact bK _ rfl
 ·have e:b=(s.heap.push {cls:= .type "range",data:= .fields #[.int lo t,.int hi u,.int 1 v]}).objs.size:=by simpa using hb
  subst e
  exact I1.Fm (aC _) (I1.cw.fresh (aC _))
def Qj (ta:TA):TI:=fun σ H R=>ta σ H fun vs H1=> ∃j:Int,vs=[.int j]/\ -(2 ^ 62)<=j/\j < 2 ^ 62/\R (Mc 0 j.toNat) H1
theorem iN {a:Expr}{ta:TA}{p pos:Pos}(hg:Gl X "range")(hm:X.mg "range"=none)(ha:PA X [a] ta)(hs:starEach [a] X.env=[(false,eval a X.env)]:=by rfl):PI X tg (.Call (.Name "range" p) [a] [] pos) (Qj ta):=by
 intro pins s σ H R I h
 refine Call_ (oW I hg hm boot_range (nR (dP (ha pos pins s σ H _ I h) fun us s1 ⟨vs,H1,I1,r1,q1⟩=>?_) hs rfl))
 obtain⟨j,e,q1,q2,q⟩:=q1
 subst e
 cases r1 with
 |cons r rr=>
  cases rr
  obtain⟨t,rfl⟩:=r
  exact call_range_1 (Hv I1 (by lia) (by lia) q1 q2 (by simpa using q))
def Uu (wi:TI)(g:TG)(tb:TS):TS:=fun D σ H=>wi σ H fun J H1=> ∃W:Nat->Nat->St->Hp->Prop,(∃m,W 0 m σ H1)/\ ∀i m σ H,W i m σ H->
 (J.stop i H/\D.nx σ H)∨(J.go i H/\ ∃N:St->Hp->Prop,(∀σ' H',N σ' H'-> ∃m',m' < m/\W (i + 1) m' σ' H')/\ ∀x H',J.Pb i H x H'->g x σ H' fun σ2 H2=>tb {D with nx:=N,ct:=N,bk:=D.nx} σ2 H2)
def oZ (fp:List Addr)(h:Heap):List (Addr×Obj):=fp.filterMap fun b=>(h.get? b).map fun o=>(b,o)
theorem jC {fp:List Addr}{h:Heap}{b:Addr}{o:Obj}(hb:b∈fp)(e:h.get? b=some o):(b,o)∈oZ fp h:=List.mem_filterMap.mpr ⟨b,hb,by rw[e]; rfl⟩
theorem Fo {fp:List Addr}{h:Heap}{p:Addr×Obj}(hp:p∈oZ fp h):p.1∈fp/\h.get? p.1=some p.2:=by
 obtain⟨b,hb,e⟩:=List.mem_filterMap.mp hp
 cases q:h.get? b with
 |none=>rw[q] at e; cases e
 |some o=>
  rw[q] at e
  have e':(b,o)=p:=aF e
  subst e'
  exact⟨hb,q⟩
theorem Inv.pinned {pins:List (Addr×Obj)}{σ:St}{H:Hp}{s:Shared}{fp:List Addr}(I:Inv X pins σ H s)(hf: ∀b∈fp,uv X pins H b)(ho: ∀b∈fp,∃o,s.heap.get? b=some o/\ ∀v,o.data≠ .cell v):Inv X (pins ++ oZ fp s.heap) σ H s:=
 I.tV fun p hp=>(bA.mp hp).elim (fun z=>I.pin p (bo _ z)) fun z=>by
  obtain⟨hb,e⟩:=Fo z
  obtain⟨f0,f1,f2,_⟩:=hf p.1 hb
  obtain⟨o,e',d⟩:=ho p.1 hb
  rw[e] at e'; cases e'
  exact⟨e,f0,f1,f2,d⟩
theorem Inv.iX {pins pl:List (Addr×Obj)}{σ:St}{H:Hp}{s:Shared}(I:Inv X (pins ++ pl) σ H s):Inv X pins σ H s:=I.tV fun p hp=>I.pin p (bo _ (cQ _ hp))
theorem eQ {iter:Expr}{body:List Stmt}{wi:TI}{g:TG}{tb:TS}{pos:Pos}(hp:PassesOwn (model X.prog X.w) X.A X.env X.xe)(hc:X.calm=true)(hi:PI X tg iter wi)(hg:PG X tg g)(hb:oV X body tb)
  (hs: ∀x,foldedSetIterable iter X.env x=pure x:=by intro _; rfl):PS X (.For tg iter body [] pos) (Uu wi g tb):=by
 intro pins s σ H D I h
 refine wpAny_For (dP (hi pins s σ H _ I h) fun v s1 h1=>dP h1 fun S7 s2 h2=>?_) hs
 obtain⟨it,fp,tn,J,H2,e,I2,T,Md,f2,W,⟨m0,w0⟩,turn⟩:=h2
 subst e
 have rE: ∀{H':Hp},(∀b∈fp,H' b=none)-> ∀b∈fp,uv X pins H' b:=fun hn b hb=>⟨hn b hb,(f2 b hb).2⟩
 refine codeAny_forLoop_any (fun n s'=> ∃i σ' H',Inv X pins σ' H' s'/\tn i s'.heap/\(∀b∈fp,H' b=none)/\W i n σ' H') ?_ m0 ⟨0,σ,H2,I2,Md,fun b hb=>(f2 b hb).1,w0⟩
 rintro n s3 ⟨i,σ3,H3,I3,Qk,Ku,w3⟩
 rcases turn i n σ3 H3 w3 with⟨stop,qn⟩|⟨go,N,hN,step⟩
 ·refine dH hp (dP (T.done X rfl rfl rfl hc i pins s3 σ3 H3 X.xe I3 (rE Ku) Qk stop) fun r s4 ⟨hr,I4⟩=>?_)
  subst hr
  exact jb ⟨σ3,H3,I4,qn⟩
 ·refine dH hp (dP (T.item X rfl rfl rfl hc i pins s3 σ3 H3 X.xe I3 (rE Ku) Qk go) fun r s4 ⟨u,hr,h4⟩=>?_)
  subst hr
  refine dH hp (dP h4 fun _ s5 ⟨x,H5,I5,r5,y5,M6,Pd⟩=>?_)
  have Zf:=I5.pinned (rE Pd) (T.obj _ _ M6)
  refine dH hp (dP (hg _ s5 σ3 H5 x u _ Zf r5 (step x H5 y5)) fun _ s6 ⟨σ6,H6,I6,q6⟩=>?_)
  refine dH hp (dP (hb _ s6 σ6 H6 _ I6 q6) fun f s7 q7=>?_)
  have again: ∀{σ7:St} {H7:Hp},Inv X (pins ++ oZ fp s5.heap) σ7 H7 s7->N σ7 H7-> ∃m,m < n/\ ∃i σ' H',Inv X pins σ' H' s7/\tn i s7.heap/\(∀b∈fp,H' b=none)/\W i m σ' H':=fun{σ7 H7} I7 n7=>by
   obtain⟨m',hm,w7⟩:=hN σ7 H7 n7
   refine⟨m',hm,i + 1,σ7,H7,I7.iX,T.keep _ _ _ M6 fun b hb o e=>(I7.pin (b,o) (bo _ (bo _ (jC hb e)))).1,fun b hb=>?_,w7⟩
   obtain⟨o,e,d⟩:=T.obj _ _ M6 b hb
   exact(I7.pin (b,o) (bo _ (bo _ (jC hb e)))).2.1
  cases f with
  |next=>obtain⟨σ7,H7,I7,n7⟩:=q7; exact again I7 n7
  |cont=>obtain⟨σ7,H7,I7,n7⟩:=q7; exact again I7 n7
  |brk=>obtain⟨σ7,H7,I7,q7⟩:=q7; exact⟨σ7,H7,I7.iX,q7⟩
  |ret v=>obtain⟨x7,σ7,H7,I7,r7,q7⟩:=q7; exact⟨x7,σ7,H7,I7.iX,r7,q7⟩
end
theorem fX {K:PySem.W.Frag}{a:Addr}{xs:List V}{g:TG}{tb:TS}{D:Ends}{σ:St}{H:Hp}(Pv:Nat->St->Hp->Prop)(h0:Pv 0 σ H)(hl: ∀i σ H,i<=xs.length->Pv i σ H->bE K H a xs)
  (hs: ∀i x σ H,xs[i]? =some x->Pv i σ H->g x σ H fun σ2 H2=>tb {D with nx:=Pv (i + 1),ct:=Pv (i + 1),bk:=D.nx} σ2 H2) (hd: ∀σ H,Pv xs.length σ H->D.nx σ H):
  ∃W:Nat->Nat->St->Hp->Prop,(∃m,W 0 m σ H)/\ ∀i m σ H,W i m σ H->
   ((Pc K a).stop i H/\D.nx σ H)∨((Pc K a).go i H/\ ∃N:St->Hp->Prop,(∀σ' H',N σ' H'-> ∃m',m' < m/\W (i + 1) m' σ' H')/\ ∀x H',(Pc K a).Pb i H x H'->g x σ H' fun σ2 H2=>tb {D with nx:=N,ct:=N,bk:=D.nx} σ2 H2):=by
 refine⟨fun i m σ H=>m=xs.length - i/\i<=xs.length/\Pv i σ H,⟨xs.length,by simp,Nat.zero_le _,h0⟩,?_⟩
 rintro i m σ H ⟨rfl,hi,p⟩
 have q:=hl i σ H hi p
 by_cases iO:i < xs.length
 ·refine .inr ⟨⟨xs,xs[i],q,by simp[iO]⟩,Pv (i + 1),fun σ' H' p'=>⟨xs.length - (i + 1),by lia,rfl,iO,p'⟩,fun x H' y=>?_⟩
  obtain⟨e,y⟩:=y
  subst e
  exact hs i x σ _ (y xs q) p
 ·have e:i=xs.length:=by lia
  subst e
  exact .inl ⟨⟨xs,q,aC _⟩,hd σ H p⟩
theorem jr {lo:Int}{n:Nat}{g:TG}{tb:TS}{D:Ends}{σ:St}{H:Hp}(Pv:Nat->St->Hp->Prop)(h0:Pv 0 σ H)
  (hs: ∀i σ H,i < n->Pv i σ H->g (.int (lo + i)) σ H fun σ2 H2=>tb {D with nx:=Pv (i + 1),ct:=Pv (i + 1),bk:=D.nx} σ2 H2) (hd: ∀σ H,Pv n σ H->D.nx σ H):
  ∃W:Nat->Nat->St->Hp->Prop,(∃m,W 0 m σ H)/\ ∀i m σ H,W i m σ H->
   ((Mc lo n).stop i H/\D.nx σ H)∨((Mc lo n).go i H/\ ∃N:St->Hp->Prop,(∀σ' H',N σ' H'-> ∃m',m' < m/\W (i + 1) m' σ' H')/\ ∀x H',(Mc lo n).Pb i H x H'->g x σ H' fun σ2 H2=>tb {D with nx:=N,ct:=N,bk:=D.nx} σ2 H2):=by
 refine⟨fun i m σ H=>m=n - i/\i<=n/\Pv i σ H,⟨n,by simp,Nat.zero_le _,h0⟩,?_⟩
 rintro i m σ H ⟨rfl,hi,p⟩
 by_cases iO:i < n
 ·refine .inr ⟨iO,Pv (i + 1),fun σ' H' p'=>⟨n - (i + 1),by lia,rfl,iO,p'⟩,fun x H' y=>?_⟩
  obtain⟨e,y⟩:=y
  subst e y
  exact hs i σ _ iO p
 ·have e:i=n:=by lia
  subst e
  exact .inl ⟨aC _,hd σ H p⟩
abbrev R2:=V->V->Hp->VK->Prop
def ox (X:Cx)(f:Value->Value->Sem Value)(r:R2):Prop:=
 ∀(pins:List (Addr×Obj)) (s:Shared) (σ:St) (H:Hp) (x y:V) (v u:Value) (Q:VK),Inv X pins σ H s->RelV x v->RelV y u->r x y H Q->
  wpAny (model X.prog X.w) X.A (f v u) (EP X pins σ Q) X.xe s
def M7 (X:Cx)(f:Value->Sem Value)(r:V->Hp->VK->Prop):Prop:=
 ∀(pins:List (Addr×Obj)) (s:Shared) (σ:St) (H:Hp) (x:V) (v:Value) (Q:VK),Inv X pins σ H s->RelV x v->r x H Q->
  wpAny (model X.prog X.w) X.A (f v) (EP X pins σ Q) X.xe s
def iY (X:Cx)(f:Value)(r:List V->Hp->VK->Prop):Prop:=
 ∀(pins:List (Addr×Obj)) (s:Shared) (σ:St) (H:Hp) (xs:List V) (us:List Value) (Q:VK),Inv X pins σ H s->Vals xs us->r xs H Q->
  wpAny (model X.prog X.w) X.A (call f us) (EP X pins σ Q) X.xe s
def Pe (r:R2)(ta tb:TE):TE:=fun σ H Q=>ta σ H fun x H1=>tb σ H1 fun y H2=>r x y H2 Q
def Zg (r:V->Hp->VK->Prop)(ta:TE):TE:=fun σ H Q=>ta σ H fun x H1=>r x H1 Q
inductive Xq (x y:V)(C k:Int->Int->Prop):Prop
 |mk (i j:Int)(h1:x= .int i)(h2:y= .int j)(c:C i j)(q:k i j):Xq x y C k
inductive Xr (x y:V)(k:Int->Int->Prop):Prop
 |mk (i j:Int)(h1:x= .int i)(h2:y= .int j)(q:k i j):Xr x y k
def rI (C:Int->Int->Prop)(g:Int->Int->V):R2:=fun x y H Q=>Xq x y C fun i j=>Q (g i j) H
def JV (g:Int->Int->V):R2:=fun x y H Q=>Xr x y fun i j=>Q (g i j) H
def rU (g:Int->V):V->Hp->VK->Prop:=fun x H Q=> ∃i,x= .int i/\Q (g i) H
section
variable {X:Cx}{a b c:Expr}{ta tb tc:TE}{pos:Pos}
theorem M8 (ha:PE X a ta)(hb:PE X b tb){pins:List (Addr×Obj)}{s:Shared}{σ:St}{H:Hp}{R:V->V->Hp->Prop}(I:Inv X pins σ H s)
  (h:ta σ H fun x H1=>tb σ H1 fun y H2=>R x y H2) {Q:Value->Shared->Prop} {f:Value->Value->Sem Value}
  (hf: ∀v u s2 x y H2,Inv X pins σ H2 s2->RelV x v->RelV y u->R x y H2->wpAny (model X.prog X.w) X.A (f v u) Q X.xe s2):
  wpAny (model X.prog X.w) X.A (eval a X.env) (fun v s₁=>wpAny (model X.prog X.w) X.A (eval b X.env) (fun u s₂=>wpAny (model X.prog X.w) X.A (f v u) Q X.xe s₂) X.xe s₁) X.xe s:=by
 refine dP (ha pins s σ H _ I h) fun v s1 ⟨x,H1,I1,r1,q1⟩=>?_
 refine dP (hb pins s1 σ H1 _ I1 q1) fun u s2 ⟨y,H2,I2,r2,q2⟩=>?_
 exact hf v u s2 x y H2 I2 r1 r2 q2
theorem aU {op:Operator}{r:R2}(ho:ox X (binaryOp op) r)(ha:PE X a ta)(hb:PE X b tb):PE X (.BinOp a op b pos) (Pe r ta tb):=by
 intro pins s σ H Q I h
 exact wpAny_BinOp (M8 ha hb I h fun v u s2 x y H2 I2 rx ry q=>ho pins s2 σ H2 x y v u Q I2 rx ry q)
theorem oy {op:UnaryOp}{r:V->Hp->VK->Prop}(ho:M7 X (unaryOp op) r)(ha:PE X a ta):PE X (.UnaryOp op a pos) (Zg r ta):=by
 intro pins s σ H Q I h
 exact UnaryOp_ (dP (ha pins s σ H _ I h) fun v s1 ⟨x,H1,I1,r1,q1⟩=>ho pins s1 σ H1 x v Q I1 r1 q1)
theorem Ql {f:Value->Value->Sem Value}{C:Int->Int->Prop}{g:Int->Int->Int}
  (rule: ∀(i j:Int) (t u:Tok) (s:Shared) (Q:Value->Shared->Prop) (E:Value->Shared->Prop),C i j->Q (.int (g i j) s.toks) {s with toks:=s.toks + 1}->wpAny (model X.prog X.w) X.A (f (.int i t) (.int j u)) Q E s):
  ox X f (rI C fun i j=> .int (g i j)):=by
 intro pins s σ H x y v u Q I rx ry h
 obtain⟨i,j,rfl,rfl,hc,q⟩:=h
 obtain⟨t,rfl⟩:=rx
 obtain⟨t',rfl⟩:=ry
 exact rule i j t t' s _ _ hc ⟨.int (g i j),H,I.tok _,⟨_,rfl⟩,q⟩
theorem Qm {f:Value->Value->Sem Value}{g:Int->Int->Int}
  (rule: ∀(i j:Int) (t u:Tok) (s:Shared) (Q:Value->Shared->Prop) (E:Value->Shared->Prop),Q (.int (g i j) s.toks) {s with toks:=s.toks + 1}->wpAny (model X.prog X.w) X.A (f (.int i t) (.int j u)) Q E s):
  ox X f (JV fun i j=> .int (g i j)):=by
 intro pins s σ H x y v u Q I rx ry h
 obtain⟨i,j,rfl,rfl,q⟩:=h
 obtain⟨t,rfl⟩:=rx
 obtain⟨t',rfl⟩:=ry
 exact rule i j t t' s _ _ ⟨.int (g i j),H,I.tok _,⟨_,rfl⟩,q⟩
theorem Kv {f:Value->Value->Sem Value}{g:Int->Int->Bool}
  (rule: ∀(i j:Int) (t u:Tok) (s:Shared) (Q:Value->Shared->Prop) (E:Value->Shared->Prop),Q (.bool (g i j)) s->wpAny (model X.prog X.w) X.A (f (.int i t) (.int j u)) Q E s):
  ox X f (JV fun i j=> .bl (g i j)):=by
 intro pins s σ H x y v u Q I rx ry h
 obtain⟨i,j,rfl,rfl,q⟩:=h
 obtain⟨t,rfl⟩:=rx
 obtain⟨t',rfl⟩:=ry
 exact rule i j t t' s _ _ ⟨.bl (g i j),H,I,rfl,q⟩
def Uv (i j:Int):Prop:=0 < j/\j < 1073741824
def Uw (i j:Int):Prop:=0<=j/\j<=1000000/\i.natAbs < 2 ^ 64
def M9 (i j:Int):Prop:=(-(2 ^ 64) < i/\i < 2 ^ 64)∨(-(2 ^ 64) < j/\j < 2 ^ 64)
theorem M9.ok {i j:Int}(h:M9 i j):IntMulOk i j:=by
 rcases h with⟨h1,h2⟩|⟨h1,h2⟩
 ·exact .of_left (intBits_le_64 h1 h2)
 ·exact .of_right (intBits_le_64 h1 h2)
theorem cW:ox X (binaryOp .Add) (JV fun i j=> .int (i + j)):=Qm fun _ _ _ _ _ _ _ q=>add_int q
theorem eR:ox X (binaryOp .Sub) (JV fun i j=> .int (i - j)):=Qm fun _ _ _ _ _ _ _ q=>sub_int q
theorem lH:ox X (binaryOp .Mult) (rI M9 fun i j=> .int (i * j)):=Ql fun _ _ _ _ _ _ _ hc q=>mul_int q hc.ok
theorem jl:ox X (binaryOp .FloorDiv) (rI Uv fun i j=> .int (i / j)):=Ql fun i j _ _ _ _ _ hc q=>by
 have h1:(0:Int) < j:=hc.1
 have h2:j < 1073741824:=hc.2
 exact floordiv_int (by lia) (by rw[Int.fdiv_eq_ediv_of_nonneg i (by lia)]; exact q) (.inl (PyProof.noPylong_small (by lia)))
theorem cg:ox X (binaryOp .Mod) (rI (fun _ j=>0 < j) fun i j=> .int (i % j)):=Ql fun i j _ _ _ _ _ hc q=>by
 have h1:(0:Int) < j:=hc
 exact mod_int' (by lia) (by rw[Int.fmod_eq_emod_of_nonneg i (by lia)]; exact q)
theorem jc:ox X (binaryOp .Pow) (rI Uw fun i j=> .int (i ^ j.toNat)):=Ql fun _ _ _ _ _ _ _ hc q=>pow_int_small hc.1 hc.2.1 hc.2.2 q
theorem Zh {f:Value->Sem Value}{g:Int->Int}
  (rule: ∀(i:Int) (t:Tok) (s:Shared) (Q:Value->Shared->Prop) (E:Value->Shared->Prop),Q (.int (g i) s.toks) {s with toks:=s.toks + 1}->wpAny (model X.prog X.w) X.A (f (.int i t)) Q E s):
  M7 X f (rU fun i=> .int (g i)):=by
 intro pins s σ H x v Q I rx h
 obtain⟨i,rfl,q⟩:=h
 obtain⟨t,rfl⟩:=rx
 exact rule i t s _ _ ⟨.int (g i),H,I.tok _,⟨_,rfl⟩,q⟩
theorem kC:M7 X (unaryOp .USub) (rU fun i=> .int (-i)):=Zh fun _ _ _ _ _ q=>neg_int q
end
def Qn:V->V->Bool
 | .d8,.d8=>true| .d8,.int _=>true| .int _,.d8=>true| .d8,.bl _=>true| .bl _,.d8=>true| .d8,.str _=>true| .str _,.d8=>true
 | .int _,.int _=>true| .bl _,.bl _=>true| .str _,.str _=>true| .Fg _,.Fg _=>true
 | .int _,.str _=>true| .str _,.int _=>true| .bl _,.str _=>true| .str _,.bl _=>true
 |_,_=>false
def Zi:R2:=fun x y H Q=>Qn x y=true/\Q (.bl (decide (x=y))) H
def Zj:R2:=fun x y H Q=>Qn x y=true/\Q (.bl (!decide (x=y))) H
theorem DX {i j:Int}:decide (V.int i=V.int j)=(i == j):=by
 rw[nS]
 simp
theorem Hw {i j:Bool}:decide (V.bl i=V.bl j)=(i == j):=by
 rw[nS]
 simp
theorem DY {i j:Str}:decide (V.str i=V.str j)=(i == j):=by
 rw[nS]
 simp
theorem DZ {i j:Array UInt8}:decide (V.Fg i=V.Fg j)=(i.toList == j.toList):=by
 rw[nS]
 cases i
 cases j
 simp
section
variable {X:Cx}{a b c:Expr}{ta tb tc:TE}{pos:Pos}
theorem dk {pins:List (Addr×Obj)}{σ:St}{H:Hp}{s:Shared}{Q:VK}{k k':Bool}(I:Inv X pins σ H s)(q:Q (.bl k) H)(e:k=k'):EP X pins σ Q (.bool k') s:=by
 subst e
 exact⟨.bl k,H,I,rfl,q⟩
theorem cG:ox X (compareOp .Eq) Zi:=by
 intro pins s σ H x y v u Q I rx ry h
 obtain⟨hs,q⟩:=h
 cases x with
 |d8=>
  cases rx
  cases y with
  |d8=>cases ry; exact PySem.EqNone.eq_none_none (dk I q (by simp))
  |bl j=>cases ry; exact PySem.EqNone.eq_none_bool (dk I q (by simp))
  |int j=>obtain⟨t',rfl⟩:=ry; exact PySem.EqNone.eq_none_int (dk I q (by simp))
  |str j=>obtain⟨t',rfl⟩:=ry; exact PySem.EqNone.eq_none_str (dk I q (by simp))
  |_=>exact absurd (show false=true from hs) aV
 |bl i=>
  cases rx
  cases y with
  |d8=>cases ry; exact PySem.EqNone.eq_bool_none (dk I q (by simp))
  |bl j=>cases ry; exact eq_bool (dk I q Hw)
  |str j=>obtain⟨t',rfl⟩:=ry; exact PySem.EqMixed.eq_bool_str (dk I q (by simp))
  |_=>exact absurd (show false=true from hs) aV
 |int i=>
  obtain⟨t,rfl⟩:=rx
  cases y with
  |d8=>cases ry; exact PySem.EqNone.eq_int_none (dk I q (by simp))
  |int j=>obtain⟨t',rfl⟩:=ry; exact eq_int (dk I q DX)
  |str j=>obtain⟨t',rfl⟩:=ry; exact PySem.EqMixed.eq_int_str (dk I q (by simp))
  |_=>exact absurd (show false=true from hs) aV
 |str i=>
  obtain⟨t,rfl⟩:=rx
  cases y with
  |d8=>cases ry; exact PySem.EqNone.eq_str_none (dk I q (by simp))
  |bl j=>cases ry; exact PySem.EqMixed.eq_str_bool (dk I q (by simp))
  |int j=>obtain⟨t',rfl⟩:=ry; exact PySem.EqMixed.eq_str_int (dk I q (by simp))
  |str j=>obtain⟨t',rfl⟩:=ry; exact eq_str (dk I q DY)
  |_=>exact absurd (show false=true from hs) aV
 |Fg i=>
  obtain⟨t,rfl⟩:=rx
  cases y with
  |Fg j=>obtain⟨t',rfl⟩:=ry; exact PySem.W.eq_bytes (dk I q DZ)
  |_=>exact absurd (show false=true from hs) aV
 |_=>cases y <;> exact absurd (show false=true from hs) aV
theorem qa:ox X (compareOp .NotEq) Zj:=by
 intro pins s σ H x y v u Q I rx ry h
 obtain⟨hs,q⟩:=h
 cases x with
 |d8=>
  cases rx
  cases y with
  |d8=>cases ry; exact PySem.EqNone.ne_none_none (dk I q (by simp))
  |bl j=>cases ry; exact PySem.EqNone.ne_none_bool (dk I q (by simp))
  |int j=>obtain⟨t',rfl⟩:=ry; exact PySem.EqNone.ne_none_int (dk I q (by simp))
  |str j=>obtain⟨t',rfl⟩:=ry; exact PySem.EqNone.ne_none_str (dk I q (by simp))
  |_=>exact absurd (show false=true from hs) aV
 |bl i=>
  cases rx
  cases y with
  |d8=>cases ry; exact PySem.EqNone.ne_bool_none (dk I q (by simp))
  |bl j=>cases ry; exact ne_bool (dk I q (cL not Hw))
  |str j=>obtain⟨t',rfl⟩:=ry; exact PySem.EqMixed.ne_bool_str (dk I q (by simp))
  |_=>exact absurd (show false=true from hs) aV
 |int i=>
  obtain⟨t,rfl⟩:=rx
  cases y with
  |d8=>cases ry; exact PySem.EqNone.ne_int_none (dk I q (by simp))
  |int j=>obtain⟨t',rfl⟩:=ry; exact ne_int (dk I q (cL not DX))
  |str j=>obtain⟨t',rfl⟩:=ry; exact PySem.EqMixed.ne_int_str (dk I q (by simp))
  |_=>exact absurd (show false=true from hs) aV
 |str i=>
  obtain⟨t,rfl⟩:=rx
  cases y with
  |d8=>cases ry; exact PySem.EqNone.ne_str_none (dk I q (by simp))
  |bl j=>cases ry; exact PySem.EqMixed.ne_str_bool (dk I q (by simp))
  |int j=>obtain⟨t',rfl⟩:=ry; exact PySem.EqMixed.ne_str_int (dk I q (by simp))
  |str j=>obtain⟨t',rfl⟩:=ry; exact ne_str (dk I q (cL not DY))
  |_=>exact absurd (show false=true from hs) aV
 |Fg i=>
  obtain⟨t,rfl⟩:=rx
  cases y with
  |Fg j=>obtain⟨t',rfl⟩:=ry; exact PySem.W.ne_bytes (dk I q (cL not DZ))
  |_=>exact absurd (show false=true from hs) aV
 |_=>cases y <;> exact absurd (show false=true from hs) aV
theorem jD:ox X (compareOp .Lt) (JV fun i j=> .bl (decide (i < j))):=Kv fun _ _ _ _ _ _ _ q=>lt_int q
theorem sm:ox X (compareOp .LtE) (JV fun i j=> .bl (decide (i<=j))):=Kv fun _ _ _ _ _ _ _ q=>le_int q
theorem iG:ox X (compareOp .Gt) (JV fun i j=> .bl (decide (j < i))):=Kv fun _ _ _ _ _ _ _ q=>gt_int q
theorem Hx:ox X (compareOp .GtE) (JV fun i j=> .bl (decide (j<=i))):=Kv fun _ _ _ _ _ _ _ q=>ge_int q
theorem aZ (b:Expr){op:CmpOp}(h:op≠ .In:=by decide)(h2:op≠ .NotIn:=by decide):behindInMarks op b=false:=by
 have e1:(op == CmpOp.In)=false:=by cases op <;> first|rfl|exact absurd rfl h
 have e2:(op == CmpOp.NotIn)=false:=by cases op <;> first|rfl|exact absurd rfl h2
 cases b <;> simp[behindInMarks,e1,e2]
theorem fb {op:CmpOp}{r:R2}(ho:ox X (compareOp op) r)(ha:PE X a ta)(hb:PE X b tb)(hm:behindInMarks op b=false):PE X (.Compare a [op] [b] pos) (Pe r ta tb):=by
 intro pins s σ H Q I h
 exact wpAny_Compare1 (M8 ha hb I h fun v u s2 x y H2 I2 rx ry q=>ho pins s2 σ H2 x y v u Q I2 rx ry q) hm
inductive Xs (x:V)(k:Bool->Prop):Prop
 |mk (b:Bool)(h:x= .bl b)(q:k b):Xs x k
def Hy (t:TE):TT:=fun σ H Q=>t σ H fun x H'=>Xs x fun b=>Q b H'
theorem aW {op:CmpOp}{r:R2}(ho:ox X (compareOp op) r)(ha:PE X a ta)(hb:PE X b tb)(hm:behindInMarks op b=false):PT X (.Compare a [op] [b] pos) (Hy (Pe r ta tb)):=by
 intro pins s σ H Q I h
 refine wpAny_isTrue_Compare1 (dP (ha pins s σ H _ I h) fun v s1 ⟨x,H1,I1,r1,q1⟩=>dP (hb pins s1 σ H1 _ I1 q1) fun u s2 ⟨y,H2,I2,r2,q2⟩=>
  dP (ho pins s2 σ H2 x y v u _ I2 r1 r2 q2) fun c s3 ⟨z,H3,I3,r3,k,e,q3⟩=>?_) hm
 subst e
 cases r3
 exact fM ⟨H3,I3,q3⟩
def HA (r r':R2)(ta tb tc:TE):TE:=fun σ H Q=>ta σ H fun x H1=>tb σ H1 fun y H2=>r x y H2 fun z H3=> ∃k,z= .bl k/\
 (if k=true then tc σ H3 fun w' H4=>r' y w' H4 Q else Q (.bl false) H3)
theorem AQ {op Ux:CmpOp}{r r':R2}(ho:ox X (compareOp op) r)(Kp:ox X (compareOp Ux) r')(ha:PE X a ta)(hb:PE X b tb)(hc:PE X c tc)
  (hm:lastMarks [op,Ux] [b,c]=false:=by with_unfolding_all rfl):PT X (.Compare a [op,Ux] [b,c] pos) (Hy (HA r r' ta tb tc)):=by
 intro pins s σ H Q I h
 refine isTrue_chain (dP (ha pins s σ H _ I h) fun v s1 ⟨x,H1,I1,r1,q1⟩=>test_link (dP (hb pins s1 σ H1 _ I1 q1) fun u s2 ⟨y,H2,I2,r2,q2⟩=>
  dP (ho pins s2 σ H2 x y v u _ I2 r1 r2 q2) fun d s3 ⟨z,H3,I3,r3,k,e,q3⟩=>?_)) hm
 subst e
 cases r3
 refine fM ?_
 cases k with
 |false=>
  obtain⟨k',e',q'⟩:=q3
  cases e'
  exact ite_ff ⟨H3,I3,q'⟩
 |true=>
  refine ite_tt (test_last (dP (hc pins s3 σ H3 _ I3 q3) fun w' s4 ⟨z',H4,I4,r4,q4⟩=>dP (Kp pins s4 σ H4 y z' u w' _ I4 r2 r4 q4) fun d' s5 ⟨z2,H5,I5,r5,k2,e2,q5⟩=>?_))
  subst e2
  cases r5
  exact fM ⟨H5,I5,q5⟩
theorem yw:(sizeLine:Nat) < 2 ^ 63:=by rw[en]; decide
theorem uw:ox X (binaryOp .Add) (fun x y H Q=> ∃i j,x= .str i/\y= .str j/\i.length + j.length<=sizeLine/\Q (.str (i ++ j)) H):=by
 intro pins s σ H x y v u Q I rx ry h
 obtain⟨i,j,rfl,rfl,hz,q⟩:=h
 obtain⟨t,rfl⟩:=rx
 obtain⟨t',rfl⟩:=ry
 exact add_str (fun t' tk=>⟨.str (i ++ j),H,I.tok _,⟨_,rfl⟩,q⟩) hz
theorem vals1 {x:V}{us:List Value}(r:Vals [x] us): ∃u,us=[u]/\RelV x u:=by
 cases r with
 |cons r1 r2=>cases r2; exact⟨_,rfl,r1⟩
theorem vals2 {x y:V}{us:List Value}(r:Vals [x,y] us): ∃u w',us=[u,w']/\RelV x u/\RelV y w':=by
 cases r with
 |cons r1 r2=>
  cases r2 with
  |cons r3 r4=>cases r4; exact⟨_,_,rfl,r1,r3⟩
theorem xA (hc:X.calm=true):iY X (.builtin "max") (fun xs H Q=> ∃i j,xs=[.int i,.int j]/\Q (.int (if j > i then j else i)) H):=by
 intro pins s σ H xs us Q I r h
 obtain⟨i,j,rfl,q⟩:=h
 obtain⟨u,w',rfl,⟨t,rfl⟩,⟨t',rfl⟩⟩:=vals2 r
 refine max_two_ints (I.ok.hd hc) fun h' tk k=>⟨_,H,I.kept k,?_,q⟩
 by_cases hj:j > i
 ·rw[a7 hj,a7 hj]; exact⟨_,rfl⟩
 ·rw[aQ hj,aQ hj]; exact⟨_,rfl⟩
theorem rF (hc:X.calm=true):iY X (.builtin "min") (fun xs H Q=> ∃i j,xs=[.int i,.int j]/\Q (.int (if j < i then j else i)) H):=by
 intro pins s σ H xs us Q I r h
 obtain⟨i,j,rfl,q⟩:=h
 obtain⟨u,w',rfl,⟨t,rfl⟩,⟨t',rfl⟩⟩:=vals2 r
 refine min_two_ints (I.ok.hd hc) fun h' tk k=>⟨_,H,I.kept k,?_,q⟩
 by_cases hj:j < i
 ·rw[a7 hj,a7 hj]; exact⟨_,rfl⟩
 ·rw[aQ hj,aQ hj]; exact⟨_,rfl⟩
theorem js:iY X (.type "int") (fun xs H Q=>(∃i,xs=[.int i]/\Q (.int i) H)∨ ∃k,xs=[.bl k]/\Q (.int (if k then 1 else 0)) H):=by
 intro pins s σ H xs us Q I r h
 rcases h with⟨i,rfl,q⟩|⟨k,rfl,q⟩
 ·obtain⟨u,rfl,t,rfl⟩:=vals1 r
  exact call_int_int ⟨.int i,H,I,⟨_,rfl⟩,q⟩
 ·obtain⟨u,rfl,r1⟩:=vals1 r
  cases r1
  exact call_int_bool ⟨.int (if k then 1 else 0),H,I.tok _,⟨_,rfl⟩,q⟩
end
structure CI (h:Heap)(x dx C:Addr)(mA:Str->Option Value):Prop where
 obj:h.get? x=some (PySem.W.instObj C dx)
 ns:h.Ns1 dx mA
 ne:dx≠x
theorem Fp {h:Heap}{dx:Addr}{mA:Str->Option Value}(n:h.Ns1 dx mA): ∃od,h.get? dx=some od/\ ∀name,PySem.W.lookIn name od=some (mA name):=by
 obtain⟨o,es,ep,ho,hd,hk,_,hm⟩:=n
 refine⟨o,ho,fun name=>?_⟩
 have e:=hm name
 unfold nsFind findBy at e
 rw[← Array.find?_toList] at e
 unfold PySem.W.lookIn
 rw[hd]
 dsimp only
 split
 ·rename_i y q
  rw[q] at e
  exact cL some e
 ·rename_i q
  rw[q] at e
  have a:es.toList.any (·.refKey)=false:=by
   rw[rj]
   intro y hy
   obtain⟨z,t,HB⟩:=hk y (Array.mem_toList_iff.mp hy)
   simp[DictEntry.refKey,HB]
  have a': ¬ es.toList.any (·.refKey)=true:=by rw[a]; exact aV
  rw[aQ a']
  exact cL some e
theorem CI.look {h:Heap}{x dx C:Addr}{mA:Str->Option Value}(I:CI h x dx C mA): ∃od,PySem.W.InstAt h x (PySem.W.instObj C dx) C (some od)/\ ∀name,PySem.W.lookIn name od=some (mA name):=
 let⟨od,ho,hl⟩:=Fp I.ns
 ⟨od,⟨I.obj,rfl,rfl,ho⟩,hl⟩
section
variable {prog:Program}{w:World}{A:Around}{E:Value->Shared->Prop}{s:Shared}{K:PySem.W.Frag}{x dx C f:Addr}{mA:Str->Option Value}{name:Str}{v:Value}
theorem get_map {expr:Bool}{Q:Value->Shared->Prop}(X:K.In s.heap)(I:CI s.heap x dx C mA)(hg:PySem.W.plainGet K C name=true)(hh:PySem.W.hasDictIn K C=true)
  (ha:PySem.W.findIn K (.ref C) name=some none) (hv:mA name=some v) (Zk:PySem.W.handedIn v=true) (h:Q v {s with toks:=s.toks + 1}):
  wpAny (model prog w) A (getAttr (.ref x) name expr) Q E s:=by
 obtain⟨od,J,hl⟩:=I.look
 exact PySem.W.get_value X J (AA hg).1 (PySem.W.findObj_own hh ha rfl (by rw[hl,hv])) Zk h
theorem HC {pl:Sem Bool}{Q:Value×List Value->Shared->Prop}(X:K.In s.heap)(I:CI s.heap x dx C mA)(hg:PySem.W.plainGet K C name=true)
  (hf:PySem.W.findIn K (.ref C) name=some (some (.ref f))) (ht:PySem.W.isFn K (.ref f)=true) (hv:mA name=none) (h:Q (.ref f,[.ref x]) s):
  wpAny (model prog w) A (getMethod (.ref x) name pl) Q E s:=by
 obtain⟨od,J,hl⟩:=I.look
 exact PySem.W.method_fn X J (AA hg).1 (AA hg).2 hf (E6.mp ht) (by show(PySem.W.lookIn name od).map (·.isSome)=some false; rw[hl,hv]; rfl) h
theorem Kw {ns:List Str}{Q:Unit->Shared->Prop}(X:K.In s.heap)(I:CI s.heap x dx C mA)
  (hs:PySem.W.findIn K (.ref C) "__setattr__"=some (some (.builtin "object.__setattr__"))) (hp:PySem.W.plainOver K C=true) (ht:PySem.W.takerIn K C name=some none) (hh:PySem.W.hasDictIn K C=true)
  (hw:PySem.Within mA ns) (hsz:ns.length<=sizeLine)
  (h: ∀h',CI h' x dx C (fun y=>if y=name then some v else mA y)->Heap.SameBut dx s.heap h'->Q () {s with heap:=h',toks:=s.toks + 2}):
  wpAny (model prog w) A (setAttr (.ref x) name v) Q E s:=by
 obtain⟨od,J,hl⟩:=I.look
 refine PySem.W.set_plain X J hs (PySem.W.osa_open (s:={s with toks:=s.toks + 1}) (r:=none) X J hp ht fun b=>?_)
 obtain⟨cd,hc,G6⟩:=PySem.W.any_some hh
 have hx:s.heap.get? x=some ⟨.ref C,some dx,.plain,#[]⟩:=I.obj
 refine az (bB (az (az (wpAny_loadPart hx (az (PySem.W.Looks.here (s:={s with toks:=s.toks + 1}) (PySem.W.looks_clsIn X hc) ?_))))))
 rw[G6]
 refine bB (a:=some dx) (az (bB (az ?_)))
 refine wpAny_nsSet1 (s:={s with toks:=s.toks + 1}) I.ns fun h' S8 Pf=>?_
 obtain⟨oD,Zl,Zm,Uy,Uz,UA⟩:=S8.count (PySem.Within.cons name v hw)
 refine az (wpAny_lookBehind Uy (by rw[Uz]; exact pastItsLine_dict (aY UA (by rw[bZ]; lia))) ?_)
 exact bB (h _ ⟨(Pf.2 _ (vW I.ne)).trans I.obj,S8,I.ne⟩ Pf)
theorem HE {R:Result->Shared->Prop}{vs:List Value}{kw:List (Str×Value)}(X:K.In s.heap)(hm:PySem.W.makesIn K C=true)
  (hi:PySem.W.findIn K (.ref C) "__init__"=some (some (.ref f))) (hf:PySem.W.typeIn K (.ref f)=some (.type "function"))
  (h:codeAny (model prog w) (A.under (.builtin "type.__call__" ⟨.ref C :: vs,kw⟩)) (.call (.ref f) ⟨.ref (s.heap.objs.size + 1) :: vs,kw⟩) (PySem.W.InitBack (s.heap.objs.size + 1) R)
   {s with heap:=(s.heap.push PySem.W.emptyDict).push (PySem.W.instObj C s.heap.objs.size)}):
  codeAny (model prog w) A (.call (.ref C) ⟨vs,kw⟩) R s:=by
 obtain⟨hh,g,d,t,os⟩:=s
 exact PySem.W.make_core (PySem.W.makes_of X hm) (PySem.W.looks_findIn X hi) (fun self=>PySem.W.bind_fn X self hf) (.inl rfl) h
end
def ej (f:Str)(v:V):List (Str×V)->List (Str×V)
 |[]=>[(f,v)]
 |(g,x) :: r=>if g=f then(g,v) :: r else(g,x) :: ej f v r
theorem sq (f g:Str)(v:V): ∀fs:List (Str×V),(ej f v fs).lookup g=if g=f then some v else fs.lookup g
 |[]=>by
  show List.lookup g [(f,v)]=_
  by_cases h:g=f
  ·have hb:(g == f)=true:=E6.mpr h
   simp only[List.lookup,hb,if_pos h]
  ·have hb:(g == f)=false:=gG.mpr h
   simp only[List.lookup,hb,if_neg h]
 |(k,x) :: r=>by
  have ih:=sq f g v r
  rw[show ej f v ((k,x) :: r)=(if k=f then(k,v) :: r else(k,x) :: ej f v r) from rfl]
  by_cases hk:k=f
  ·rw[a7 hk]
   by_cases h:g=k
   ·have hb:(g == k)=true:=E6.mpr h
    simp only[List.lookup,hb,if_pos (h.trans hk)]
   ·have hb:(g == k)=false:=gG.mpr h
    simp only[List.lookup,hb,if_neg (fun e:g=f=>h (e.trans hk.symm))]
  ·rw[aQ hk]
   by_cases h:g=k
   ·have hb:(g == k)=true:=E6.mpr h
    simp only[List.lookup,hb,if_neg (fun e:g=f=>hk (h.symm.trans e))]
   ·have hb:(g == k)=false:=gG.mpr h
    simp only[List.lookup,hb]
    exact ih
theorem rG (f:Str)(v:V): ∀fs:List (Str×V),f∈(ej f v fs).map (·.1)/\ ∀g,g∈fs.map (·.1)->g∈(ej f v fs).map (·.1)
 |[]=>⟨by simp[ej],fun g h=>by simp at h⟩
 |(k,x) :: r=>by
  obtain⟨i1,i2⟩:=rG f v r
  rw[show ej f v ((k,x) :: r)=(if k=f then(k,v) :: r else(k,x) :: ej f v r) from rfl]
  by_cases hk:k=f
  ·rw[a7 hk]
   subst hk
   exact⟨by simp,fun g h=>by simpa using h⟩
  ·rw[aQ hk]
   refine⟨?_,fun g h=>?_⟩
   ·rw[cU]
    exact bc _ i1
   ·rw[cU] at h ⊢
    rcases aw.mp h with e|e
    ·exact aw.mpr (.inl e)
    ·exact bc _ (i2 g e)
theorem my (f:Str)(v:V): ∀fs:List (Str×V),(ej f v fs).length<=fs.length + 1
 |[]=>by simp[ej]
 |(k,x) :: r=>by
  have ih:=my f v r
  rw[show ej f v ((k,x) :: r)=(if k=f then(k,v) :: r else(k,x) :: ej f v r) from rfl]
  by_cases hk:k=f
  ·rw[a7 hk,bZ,bZ]; lia
  ·rw[aQ hk,bZ,bZ]; lia
theorem kO.some_of {v:V}{o:Option Value}(r:kO (some v) o): ∃u,o=some u/\RelV v u:=by
 cases o with
 |none=>exact(show False from r).elim
 |some u=>exact⟨u,rfl,r⟩
theorem kO.none_of {o:Option Value}(r:kO none o):o=none:=by
 cases o with
 |none=>rfl
 |some u=>exact(show False from r).elim
theorem Fq {v:V}{u:Value}(r:RelV v u):PySem.W.handedIn u=true:=by
 cases v with
 |d8=>cases(show u=Value.none from r); rfl
 |bl b=>cases(show u=Value.bool b from r); rfl
 |int i=>obtain⟨t,e⟩:=(show ∃t,u=Value.int i t from r); cases e; rfl
 |str x=>obtain⟨t,e⟩:=(show ∃t,u=Value.str x t from r); cases e; rfl
 |Fg b=>obtain⟨t,e⟩:=(show ∃t,u=Value.bytes b t from r); cases e; rfl
 |Kl b=>obtain⟨t,e⟩:=(show ∃t,u=Value.float b t from r); cases e; rfl
 |ref a=>cases(show u=Value.ref a from r); rfl
 |ty n=>cases(show u=Value.type n from r); rfl
section
variable {P:Program}{w:World}{H H':Hp}{h h':Heap}{a C dx:Addr}{fs Zc:List (Str×V)}
theorem qd (cw:nY P w H h)(e:H a=some (.ins C dx fs)): ∃mA,CI h a dx C mA/\(∀f,kO (fs.lookup f) (mA f))/\PySem.Within mA (fs.map (·.1))/\fs.length<=1000/\H dx=some (.own a):=by
 obtain⟨d,z,ne,ob,mA,n,r,q⟩:=(show dr P w H h a (.ins C dx fs) from cw a _ e)
 exact⟨mA,⟨ob,n,ne⟩,r,q,z,d⟩
end
structure wc (K:PySem.W.Frag)(C:Addr):Prop where
 pg:PySem.W.plainGet K C Str.empty=true
 hd:PySem.W.hasDictIn K C=true
 po:PySem.W.plainOver K C=true
 sa:PySem.W.findIn K (.ref C) "__setattr__"=some (some (.builtin "object.__setattr__"))
theorem wc.get {K:PySem.W.Frag}{C:Addr}(c:wc K C)(f:Str):PySem.W.plainGet K C f=true:=c.pg
def b0 (K:PySem.W.Frag)(C:Addr)(f:Str):Prop:=PySem.W.findIn K (.ref C) f=some none
theorem b0.Qo {K:PySem.W.Frag}{C:Addr}{f:Str}(n:b0 K C f):PySem.W.takerIn K C f=some none:=by
 unfold PySem.W.takerIn
 rw[show PySem.W.findIn K (.ref C) f=some none from n]
 rfl
structure Meth (K:PySem.W.Frag)(C:Addr)(m:Str)(f:Addr):Prop where
 at_:PySem.W.findIn K (.ref C) m=some (some (.ref f))
 fn:PySem.W.isFn K (.ref f)=true
 kp:PySem.W.keepIn K (.ref f)=true
section
variable {X:Cx}{pins:List (Addr×Obj)}{σ:St}{H:Hp}{s:Shared}{a C dx:Addr}{fs:List (Str×V)}{f:Str}{v:V}{A:Around}{E:Value->Shared->Prop}
theorem CJ {b:Bool}{Q:Value->Shared->Prop}(I:Inv X pins σ H s)(e:H a=some (.ins C dx fs))(c:wc X.K C)(n:b0 X.K C f)(l:fs.lookup f=some v)
  (h: ∀u s',Inv X pins σ H s'->RelV v u->Q u s'):wpAny (model X.prog X.w) A (getAttr (.ref a) f b) Q E s:=by
 obtain⟨mA,O,r,_,_,_⟩:=qd I.cw e
 obtain⟨u,hu,ru⟩:=kO.some_of (v:=v) (o:=mA f) (by rw[← l]; exact r f)
 exact get_map I.gE O (c.get f) c.hd n hu (Fq ru) (h u _ (I.tok _) ru)
theorem CK {m:Str}{g:Addr}{pl:Sem Bool}{Q:Value×List Value->Shared->Prop}(I:Inv X pins σ H s)(e:H a=some (.ins C dx fs))(c:wc X.K C)(k:Meth X.K C m g)(l:fs.lookup m=none)
  (h:Q (.ref g,[.ref a]) s):wpAny (model X.prog X.w) A (getMethod (.ref a) m pl) Q E s:=by
 obtain⟨mA,O,r,_,_,_⟩:=qd I.cw e
 have hn:mA m=none:=kO.none_of (by rw[← l]; exact r m)
 exact HC I.gE O (c.get m) k.at_ k.fn hn h
theorem CL {y:V}{u:Value}{Q:Unit->Shared->Prop}(I:Inv X pins σ H s)(e:H a=some (.ins C dx fs))(c:wc X.K C)(n:b0 X.K C f)(hl:fs.length < 1000)(ry:RelV y u)
  (h: ∀s',Inv X pins σ (upd H a (.ins C dx (ej f y fs))) s'->Q () s'):wpAny (model X.prog X.w) A (setAttr (.ref a) f u) Q E s:=by
 obtain⟨mA,O,r,wi,_,ho⟩:=qd I.cw e
 have hz:(fs.map (·.1)).length<=sizeLine:=by rw[ae,en]; lia
 refine Kw I.gE O c.sa c.po n.Qo c.hd wi hz fun h' O' sb=>h _ ?_
 have hd: ∃o,h'.get? dx=some o:=let⟨o,_,_,e',_⟩:=O'.ns; ⟨o,e'⟩
 refine I.write (x:=a) (e:=dx) (by rw[e]; exact True.intro) (.inr ho) (fun b q hb z=>(sb.2 b hb).trans z) hd ?_
 refine⟨by rw[aA O.ne]; exact ho,?_,O.ne,O'.obj,_,O'.ns,fun g=>?_,fun g hg=>?_⟩
 ·have:=my f y fs; lia
 ·show kO ((ej f y fs).lookup g) (if g=f then some u else mA g)
  rw[sq]
  by_cases q:g=f
  ·rw[a7 q,a7 q]; exact ry
  ·rw[aQ q,aQ q]; exact r g
 ·by_cases q:g=f
  ·rw[q]; exact(rG f y fs).1
  ·refine(rG f y fs).2 g (wi g fun z=>hg ?_)
   show(if g=f then some u else mA g)=none
   rw[aQ q]; exact z
theorem Inv.made (I:Inv X pins σ H s):Inv X pins σ (upd (upd H s.heap.objs.size (.own (s.heap.objs.size + 1))) (s.heap.objs.size + 1) (.ins C s.heap.objs.size []))
  {s with heap:=(s.heap.push PySem.W.emptyDict).push (PySem.W.instObj C s.heap.objs.size)}:=by
 have e1:(s.heap.push PySem.W.emptyDict).get? s.heap.objs.size=some PySem.W.emptyDict:=bK s.heap rfl
 have e2:((s.heap.push PySem.W.emptyDict).push (PySem.W.instObj C s.heap.objs.size)).get? (s.heap.objs.size + 1)=some (PySem.W.instObj C s.heap.objs.size):=by
  have:=bK (s.heap.push PySem.W.emptyDict) (o:=PySem.W.instObj C s.heap.objs.size) rfl
  rwa [nI] at this
 have e3:(s.heap.push PySem.W.emptyDict).Ns s.heap.objs.size (fun _=>none):=⟨PySem.W.emptyDict,#[],_,e1,rfl,(fun e he=>absurd he (by simp)),fun _=>rfl⟩
 have I1:=I.laid (a:=s.heap.objs.size) (o:= .own (s.heap.objs.size + 1)) (h':=s.heap.push PySem.W.emptyDict) (t':=s.toks) (fun b u q=>ay _ q) (aC _) ⟨_,e1⟩
 refine I1.laid (a:=s.heap.objs.size + 1) (o:= .ins C s.heap.objs.size []) (t':=s.toks) (fun b u q=>ay _ q) (iA (nI _ _)) ?_
 have ne:s.heap.objs.size≠s.heap.objs.size + 1:=a0 (fP _)
 refine⟨by rw[aA ne,ag],bp _,ne,e2,fun _=>none,(Heap.Ns1.of_empty e3).at fun o q=>ay _ q,fun _=>True.intro,fun y hy=>absurd rfl hy⟩
theorem D0 {prog:Program}{w:World}{env:Env}{e:Expr}{f:Str}{pos:Pos}{s:Shared}{Q:Value->Shared->Prop}(hb:attributeBase e f env (eval e env)=eval e env)
  (h:wpAny (model prog w) A (eval e env) (fun o s₁=>wpAny (model prog w) A (getAttr o f true) Q E s₁) E s):wpAny (model prog w) A (eval (.Attribute e f pos) env) Q E s:=
 Attribute_any_ h (by rw[arm_eval_Attribute,hb])
end
def Qp (K:PySem.W.Frag)(ta:TE)(f:Str):TE:=fun σ H Q=>ta σ H fun x H1=> ∃a C dx fs v,x= .ref a/\H1 a=some (.ins C dx fs)/\wc K C/\b0 K C f/\fs.lookup f=some v/\Q v H1
def UB (K:PySem.W.Frag)(ta tv:TE)(f:Str):TS:=fun D σ H=>tv σ H fun y H1=>ta σ H1 fun x H2=> ∃a C dx fs,x= .ref a/\H2 a=some (.ins C dx fs)/\wc K C/\b0 K C f/\fs.length < 1000/\
 D.nx σ (upd H2 a (.ins C dx (ej f y fs)))
section
variable {X:Cx}{o e value:Expr}{f:Str}{pos pos' Na:Pos}{ta tv:TE}
theorem bV (he:PE X e ta)(hb:attributeBase e f X.env (eval e X.env)=eval e X.env):PE X (.Attribute e f pos) (Qp X.K ta f):=by
 intro pins s σ H Q I h
 refine D0 hb (dP (he pins s σ H _ I h) fun u s1 ⟨x,H1,I1,rx,a,C,dx,fs,v,ex,ea,c,n,l,q⟩=>?_)
 subst ex
 obtain rfl:u=Value.ref a:=rx
 exact CJ I1 ea c n l fun u' s2 I2 ru=>⟨v,H1,I2,ru,q⟩
theorem fH (ha:PE X o ta)(hv:PE X value tv)(hs:swapsWith value (some (.Attribute o f pos')) pos.line X.env=pure false):PS X (.Assign [.Attribute o f pos'] value pos) (UB X.K ta tv f):=by
 intro pins s σ H D I h
 refine MM (dP (hv pins s σ H _ I h) fun u s1 ⟨y,H1,I1,ry,q⟩=>dP (ha pins s1 σ H1 _ I1 q) fun ov s2 ⟨x,H2,I2,rx,a,C,dx,fs,ex,ea,c,n,l,q2⟩=>?_) hs
 subst ex
 obtain rfl:ov=Value.ref a:=rx
 exact CL I2 ea c n l ry fun s3 I3=>⟨σ,_,I3,q2⟩
end
section
variable {X:Cx}{pins:List (Addr×Obj)}{σ:St}{H:Hp}{s:Shared}{A:Around}{E:Value->Shared->Prop}{Q:Value->Shared->Prop}{c:Value}{b:Bool}
inductive mz (K:PySem.W.Frag)(H:Hp):V->Value->Prop where
 |d8:mz K H .d8 (.type "NoneType")
 |bl (x:Bool):mz K H (.bl x) (.type "bool")
 |int (i:Int):mz K H (.int i) (.type "int")
 |str (x:Str):mz K H (.str x) (.type "str")
 |Kl (x:UInt64):mz K H (.Kl x) (.type "float")
 |lst {a:Addr} {xs:List V} (e:H a=some (.lst xs)):mz K H (.ref a) (.type "list")
 |Cr {a:Addr} {o:Obj} {xs:List V} (e:H a=some (.Cr o (.lst xs))):mz K H (.ref a) (.type "list")
 |tup {a:Addr} {xs:List V} (e:H a=some (.tup xs)):mz K H (.ref a) (.type "tuple")
 |dK {a:Addr} {a9:List (Key×V)} (e:H a=some (.dK a9)):mz K H (.ref a) (.type "dict")
 |dT {a:Addr} {a9:List (List Key×V)} (e:H a=some (.dT a9)):mz K H (.ref a) (.type "dict")
 |ins {a C dx:Addr} {fs:List (Str×V)} (e:H a=some (.ins C dx fs)) (cl:wc K C) (ha:PySem.W.findIn K (.ref C) "__class__"=some (some (.builtin "object.__class__")))
   (hn:PySem.W.specialIn K (.builtin "object.__class__") "__get__"=some (some (.builtin "getset_descriptor.__get__"))) (nK:PySem.W.takesIn K (.builtin "object.__class__")=some true)
   (hm:PySem.W.mroIn K C (.type "object")=some true):mz K H (.ref a) (.ref C)
theorem Fs {x:V}{u t:Value}(I:Inv X pins σ H s)(rx:RelV x u)(ty:mz X.K H x t)(e:PySem.W.kitOne X.K t c=some b)(h: ∀tk,Q (.bool b) {s with toks:=tk}):
  wpAny (model X.prog X.w) A (call (.builtin "isinstance") [u,c]) Q E s:=by
 cases ty with
 |d8=>cases(show u=Value.none from rx); exact dW PySem.W.kitx_none I.gE True.intro e (fun z=>nomatch z) h
 |bl y=>cases(show u=Value.bool y from rx); exact dW PySem.W.kitx_bool I.gE True.intro e (fun z=>nomatch z) h
 |int i=>obtain⟨t,q⟩:=(show ∃t,u=Value.int i t from rx); cases q; exact dW PySem.W.kitx_int I.gE True.intro e (fun z=>nomatch z) h
 |str y=>obtain⟨t,q⟩:=(show ∃t,u=Value.str y t from rx); cases q; exact dW PySem.W.kitx_str I.gE True.intro e (fun z=>nomatch z) h
 |Kl y=>obtain⟨t,q⟩:=(show ∃t,u=Value.float y t from rx); cases q; exact dW PySem.W.kitx_float I.gE True.intro e (fun z=>nomatch z) h
 | @lst a xs ea=>
  cases(show u=Value.ref a from rx)
  obtain⟨_,_,n,_,h1⟩:=(show dr X.prog X.w H s.heap a (.lst xs) from I.cw a _ ea)
  exact dW rm I.gE ⟨_,h1,rfl⟩ e (fun z=>nomatch z) h
 | @Cr a ob xs ea=>
  cases(show u=Value.ref a from rx)
  obtain⟨_,_,_,n,_,h1⟩:=(show dr X.prog X.w H s.heap a (.Cr ob (.lst xs)) from I.cw a _ ea)
  exact dW rm I.gE ⟨_,h1,rfl⟩ e (fun z=>nomatch z) h
 | @tup a xs ea=>
  cases(show u=Value.ref a from rx)
  obtain⟨_,_,_,p⟩:=(show dr X.prog X.w H s.heap a (.tup xs) from I.cw a _ ea)
  obtain⟨o,h1,h2,_⟩:=p
  exact dW PySem.W.kitx_tuple I.gE ⟨o,h1,h2⟩ e (fun z=>nomatch z) h
 | @dK a a9 ea=>
  cases(show u=Value.ref a from rx)
  obtain⟨_,_,vs,_,p⟩:=(show dr X.prog X.w H s.heap a (.dK a9) from I.cw a _ ea)
  obtain⟨o,es,ep,h1,h2,_⟩:=p
  exact dW rn I.gE ⟨o,h1,h2.1⟩ e (fun z=>nomatch z) h
 | @dT a a9 ea=>
  cases(show u=Value.ref a from rx)
  obtain⟨_,_,xs,_,o,es,ep,h1,h2,_⟩:=(show dr X.prog X.w H s.heap a (.dT a9) from I.cw a _ ea)
  exact dW rn I.gE ⟨o,h1,h2.1⟩ e (fun z=>nomatch z) h
 | @ins a C dx fs ea cl ha hn nK hm=>
  cases(show u=Value.ref a from rx)
  obtain⟨mA,O,_⟩:=qd I.cw ea
  obtain⟨od,J,_⟩:=O.look
  exact dW (PySem.W.kitx_own (cl.get _) cl.hd ha hn nK hm) I.gE J e (fun z=>nomatch z) h
end
structure eT (k:Nat)(A:Around):Prop where
 hd:A.handled=none
 dp:A.depth + 3 * k + 5 < recursionLimit
 un:A.units + 16 * k + 200 < cLine
theorem eT.mono {j k:Nat}{A:Around}(r:eT k A)(h:j<=k):eT j A:=⟨r.hd,by have:=r.dp; lia,by have:=r.un; lia⟩
theorem eT.deeper {k:Nat}{A:Around}(r:eT (k + 1) A)(env:Env):eT k (A.deeper env):=
 ⟨r.hd,by have:=r.dp; show A.depth + 1 + 3 * k + 5 < _; lia,by have:=r.un; show A.units + 3 + 16 * k + 200 < _; lia⟩
theorem ux {A:Around}{C:Addr}{us:List Value}{kw:List (Str×Value)}:(A.under (.builtin "type.__call__" ⟨.ref C :: us,kw⟩)).depth=A.depth + 1:=by
 first|rfl|simp[Around.under,Code.weight,Code.isCreation,Code.isGuard,Code.isCaller,Code.frames,Code.isFrame,guardIds]
theorem uy {A:Around}{C:Addr}{us:List Value}{kw:List (Str×Value)}:(A.under (.builtin "type.__call__" ⟨.ref C :: us,kw⟩)).units=A.units + 1:=by
 first|rfl|simp[Around.under,Code.cUnits,Code.frames,Code.isFrame]
theorem eT.make {k:Nat}{A:Around}(r:eT (k + 1) A)(C:Addr)(us:List Value)(kw:List (Str×Value)):eT k (A.under (.builtin "type.__call__" ⟨.ref C :: us,kw⟩)):=
 ⟨r.hd,by have:=r.dp; rw[ux]; lia,by have:=r.un; rw[uy]; lia⟩
theorem eT.depth {k:Nat}{A:Around}(r:eT k A):A.depth < recursionLimit:=by have:=r.dp; lia
theorem eT.units {k:Nat}{A:Around}(r:eT k A):A.units + 64 < cLine:=by have:=r.un; lia
def CM:TA:=fun _ H Q=>Q [] H
def HF (ta:TE)(tr:TA):TA:=fun σ H Q=>ta σ H fun x H1=>tr σ H1 fun xs H2=>Q (x :: xs) H2
section
variable {X:Cx}{e:Expr}{es:List Expr}{te:TE}{t:TA}{pos:Pos}
theorem av:PA X [] CM:=fun _ _ _ _ H Q I h=>Calls.spliced_nil ⟨[],H,I,.nil,h⟩
theorem aa (ha:PE X e te)(hr:PA X es t)(hs:starEach (e :: es) X.env=(false,eval e X.env) :: starEach es X.env:=by rfl):PA X (e :: es) (HF te t):=by
 intro pos pins s σ H Q I h
 rw[hs]
 show wpAny _ _ (spliced ((false,eval e X.env) :: backTo pos (starEach es X.env))) _ _ s
 refine Calls.spliced_cons (dP (ha pins s σ H _ I h) fun u s1 ⟨x,H1,I1,r1,q1⟩=>?_)
 exact dP (hr pos pins s1 σ H1 _ I1 q1) fun us s2 ⟨xs,H2,I2,r2,q2⟩=>⟨x :: xs,H2,I2,.cons r1 r2,q2⟩
def UC (t:TA):TE:=fun σ H Q=>t σ H fun xs H1=>xs.length<=sizeLine/\ ∀p,H1 p=none->Q (.ref p) (upd H1 p (.tup xs))
def UD (t:TA):TE:=fun σ H Q=>t σ H fun xs H1=>xs.length<=sizeLine/\ ∀p,H1 p=none->Q (.ref p) (upd H1 p (.lst xs))
theorem dg {x1}(h:PA X es t):PE X (.Tuple es x1 pos) (UC t):=by
 intro pins s σ H Q I hq
 refine wpAny_Tuple_spliced (dP (h pos pins s σ H _ I hq) fun us s1 ⟨xs,H1,I1,r,z,q⟩=>⟨by rw[← r.length]; exact z,?_⟩)
 have hf:H1 s1.heap.objs.size=none:=I1.cw.fresh (aC _)
 refine⟨.ref s1.heap.objs.size,upd H1 s1.heap.objs.size (.tup xs),I1.laid (t':=s1.toks) (fun b u e=>ay _ e) (aC _) ?_,rfl,q _ hf⟩
 exact⟨z,us,r,⟨_,bK _ rfl,rfl,_,rfl⟩⟩
theorem bQ (h:PA X es t):PE X (.List es pos) (UD t):=by
 intro pins s σ H Q I hq
 refine wpAny_List_spliced (dP (h pos pins s σ H _ I hq) fun us s1 ⟨xs,H1,I1,r,z,q⟩=>⟨by rw[← r.length]; exact z,?_⟩)
 have hf:H1 s1.heap.objs.size=none:=I1.cw.fresh (aC _)
 refine⟨.ref s1.heap.objs.size,upd H1 s1.heap.objs.size (.lst xs),I1.laid (t':=s1.toks) (fun b u e=>ay _ e) (aC _) ?_,rfl,q _ hf⟩
 exact⟨z,us,0,r,bK _ rfl⟩
end
abbrev Sp:=List V->Hp->VK->XK->Prop
abbrev Ft:=List Env->Hp->Shared->XK->Value->Shared->Prop
structure qe (P:Program)(w:World)(K:PySem.W.Frag)(mg:Str->Option Value)(base:Heap)(A:Around)(outer:List Env)(s:Shared)(H:Hp):Prop where
 frames:A.frames=some outer
 mod:Mod K mg base
 bs: ∀b o,base.get? b=some o->s.heap.get? b=some o/\H b=none
 AH:base.objs.size<=s.heap.objs.size
 lF:s.heap.FunFrames base outer
 DS: ∀b∈CB outer,H b=none
 cw:nY P w H s.heap
 bare:AllBare s.gens
def CE (outer:List Env)(P:Program)(w:World)(H:Hp)(s:Shared)(Q:VK)(u:Value)(s':Shared):Prop:=
 ∃v H',s'.os=s.os/\AllBare s'.gens/\Un (CB outer) [] H H' s.heap s'.heap/\nY P w H' s'.heap/\RelV v u/\Q v H'
def CR (CX:Ft)(outer:List Env)(P:Program)(w:World)(H:Hp)(s:Shared)(Q:VK)(E:XK)(r:Result)(s':Shared):Prop:=
 match r with
 | .ok (.ret u)=>CE outer P w H s Q u s'
 | .ok _=>False
 | .error e=>CX outer H s E e s'
structure lI (P:Program)(w:World)(K:PySem.W.Frag)(mg:Str->Option Value)(base:Heap)(CX:Ft)(k:Nat)(f:Addr)(fd:FuncData)(ps:List Str)(sp:Sp):Prop where
 len: ∀vs H Q E,sp vs H Q E->vs.length=ps.length
 run: ∀(A:Around) (outer:List Env) (s:Shared) (H:Hp) (args:Args) (us:List Value) (vs:List V) (Q:VK) (E:XK),eT k A->qe P w K mg base A outer s H->BindsTo s fd args (ps.zip us)->Vals vs us->sp vs H Q E->
  codeAny (model P w) A (.call (.ref f) args) (CR CX outer P w H s Q E) s
theorem qe.make {P:Program}{w:World}{K:PySem.W.Frag}{mg:Str->Option Value}{base:Heap}{A:Around}{outer:List Env}{s:Shared}{H:Hp}(e:qe P w K mg base A outer s H)(C:Addr)(us:List Value)(kw:List (Str×Value)):
  qe P w K mg base (A.under (.builtin "type.__call__" ⟨.ref C :: us,kw⟩)) outer s H:=⟨by first|exact e.frames|(simpa[Around.under,Code.envs,Code.isFrame,pushEnvs] using e.frames),e.mod,e.bs,e.AH,e.lF,e.DS,e.cw,e.bare⟩
theorem qe.in1 {P:Program}{w:World}{K:PySem.W.Frag}{mg:Str->Option Value}{base:Heap}{A:Around}{outer:List Env}{s:Shared}{H:Hp}(e:qe P w K mg base A outer s H):
  qe P w K mg base A.in1 outer s H:=⟨e.frames,e.mod,e.bs,e.AH,e.lF,e.DS,e.cw,e.bare⟩
section
variable {X:Cx}{pins:List (Addr×Obj)}{σ:St}{H:Hp}{s s':Shared}
theorem Inv.HG (I:Inv X pins σ H s):qe X.prog X.w X.K X.mg X.base X.A X.stack s H:=
 ⟨I.ok.frames,I.ok.mod,I.bs,aY I.ok.AH I.sz,I.stack,I.pY,I.cw,I.bare⟩
theorem Inv.after {Q:VK}{u:Value}(I:Inv X pins σ H s)(h:CE X.stack X.prog X.w H s Q u s'):EP X pins σ Q u s':=by
 obtain⟨v,H',os,bare,un,cw,r,q⟩:=h
 obtain⟨hh,g,d,t,Zn⟩:=s'
 obtain rfl:Zn=s.os:=os
 exact⟨v,H',I.call (h':=hh) (g':=g) (d':=d) (t':=t) (ch:=[]) un cw bare (fun b z=>absurd z (by simp)),r,q⟩
end
def uz (sp:Sp)(uA:List V)(E:XK)(t:TA):TE:=fun σ H Q=>t σ H fun vs H1=>sp (vs ++ uA) H1 Q E
def Me (C:Addr)(m:Str)(sp:Sp)(uA:List V)(E:XK)(ta:TE)(t:TA):TE:=fun σ H Q=>ta σ H fun x H1=> ∃a dx fs,x= .ref a/\H1 a=some (.ins C dx fs)/\fs.lookup m=none/\
 t σ H1 fun vs H2=>sp (x :: (vs ++ uA)) H2 Q E
def D3 (C:Addr)(sp:Sp)(uA:List V)(E:XK)(t:TA):TE:=fun σ H Q=>t σ H fun vs H1=> ∀x dx,H1 x=none->H1 dx=none->dx≠x->
 sp (.ref x :: (vs ++ uA)) (upd (upd H1 dx (.own x)) x (.ins C dx [])) (fun v H2=>v= .d8/\Q (.ref x) H2) E
def Binds (K:PySem.W.Frag)(fd:FuncData)(ps:List Str)(ds:List Value):Prop:=
 ∀(s:Shared) (us:List Value),K.In s.heap->(us ++ ds).length=ps.length->BindsTo s fd ⟨us,[]⟩ (ps.zip (us ++ ds))
theorem Binds.all {K:PySem.W.Frag}{fd:FuncData}{ps:List Str}(h: ∀us:List Value,us.length=ps.length->bindArgs fd ⟨us,[]⟩=pure (ps.zip us)):Binds K fd ps []:=fun s us _ hl=>by
 rw[bP] at hl ⊢
 exact .of_eq (h us hl)
def Passes (CX:Ft)(X:Cx)(E:XK):Prop:= ∀(pins:List (Addr×Obj)) (σ:St) (H:Hp) (s:Shared) (e:Value) (s':Shared),Inv X pins σ H s->CX X.stack H s E e s'->X.xe e s'
section
variable {X:Cx}{CX:Ft}{k:Nat}{f C:Addr}{fd:FuncData}{ps:List Str}{sp:Sp}{uA:List V}{ds:List Value}{E:XK}{x m:Str}{p pos apos:Pos}{e o:Expr}{es:List Expr}{ta:TE}{t:TA}
theorem yx {pins:List (Addr×Obj)}{σ:St}{H:Hp}{s:Shared}{Q:VK}{us:List Value}{vs:List V}(F:lI X.prog X.w X.K X.mg X.base CX k f fd ps sp)(hr:eT k X.A)(hb:Binds X.K fd ps ds)(hd:Vals uA ds)(hx:Passes CX X E)
  (I:Inv X pins σ H s) (r:Vals vs us) (h:sp (vs ++ uA) H Q E):wpAny (model X.prog X.w) X.A (call (.ref f) us) (EP X pins σ Q) X.xe s:=by
 have r2:Vals (vs ++ uA) (us ++ ds):=r.append hd
 have hl:(us ++ ds).length=ps.length:=by rw[← r2.length]; exact F.len _ _ _ _ h
 refine DR (Cz (F.run X.A X.stack s H ⟨us,[]⟩ (us ++ ds) (vs ++ uA) Q E hr I.HG (hb s us I.gE hl) r2 h) fun r s' hq=>?_)
 cases r with
 |error e=>exact hx pins σ H s e s' I hq
 |ok fl=>
  cases fl with
  |ret u=>exact I.after hq
  |next=>exact False.elim hq
  |brk=>exact False.elim hq
  |cont=>exact False.elim hq
theorem D4 (F:lI X.prog X.w X.K X.mg X.base CX k f fd ps sp)(hr:eT k X.A)(hg:Gl X x)(hm:X.mg x=some (.ref f))(hk:PySem.W.keepIn X.K (.ref f)=true)(hb:Binds X.K fd ps ds)(hd:Vals uA ds)(hx:Passes CX X E)
  (ha:PA X (e :: es) t) (qf:(x == ("__debug__":Str))=false:=by decide) (he:starEach (e :: es) X.env=(false,eval e X.env) :: starEach es X.env:=by rfl) (hV:(backTo pos (starEach es X.env)).any (·.1)=false:=by rfl):
  PE X (.Call (.Name x p) (e :: es) [] pos) (uz sp uA E t):=by
 intro pins s σ H Q I h
 refine eo (jk I hg hm ?_ qf)
 refine j7 (h₀:=X.base) I.ok.mod.Kn hk (dP (ha pos pins s σ H _ I h) fun us s1 ⟨vs,H1,I1,r,q⟩=>⟨I1.gE,?_⟩) he hV
 exact yx F hr hb hd hx I1 r q
theorem HI (F:lI X.prog X.w X.K X.mg X.base CX k f fd ps sp)(hr:eT k X.A)(hg:Gl X x)(hm:X.mg x=some (.ref f))(hk:PySem.W.keepIn X.K (.ref f)=true)(hb:Binds X.K fd ps ds)(hd:Vals uA ds)(hx:Passes CX X E)
  (qf:(x == ("__debug__":Str))=false:=by decide):PE X (.Call (.Name x p) [] [] pos) (uz sp uA E CM):=by
 intro pins s σ H Q I h
 refine eo (jk I hg hm ?_ qf)
 exact AB I.gE hk (yx (us:=[]) F hr hb hd hx I .nil h)
theorem Kx {pl:Sem Bool}(he:PE X o ta)(c:wc X.K C)(hm:Meth X.K C m f)(F:lI X.prog X.w X.K X.mg X.base CX k f fd ps sp)(hr:eT k X.A)(hb:Binds X.K fd ps ds)(hd:Vals uA ds)(hx:Passes CX X E)(ha:PA X (e :: es) t)
  (sk:starEach (e :: es) X.env=(false,eval e X.env) :: starEach es X.env:=by rfl) (hV:(backTo pos (starEach es X.env)).any (·.1)=false:=by rfl)
  (ht:eval (.Call (.Attribute o m apos) (e :: es) [] pos) X.env=(do
   let ov ← eval o X.env
   standAt apos.atName
   let(f,first) ← holding [ov] (getMethod ov m pl)
   callWith pos f first (backTo pos (starEach (e :: es) X.env)) (backToKw pos (keywordEach [] X.env))):=by rfl):
  PE X (.Call (.Attribute o m apos) (e :: es) [] pos) (Me C m sp uA E ta t):=by
 intro pins s σ H Q I h
 refine vX (pl:=pl) (dP (he pins s σ H _ I h) fun u s1 ⟨x,H1,I1,rx,a,dx,fs,ex,ea,l,q⟩=>?_) ht
 subst ex
 obtain rfl:u=Value.ref a:=rx
 refine CK I1 ea c hm l ?_
 refine j7 (first:=[.ref a]) (h₀:=X.base) I.ok.mod.Kn hm.kp (dP (ha pos pins s1 σ H1 _ I1 q) fun us s2 ⟨vs,H2,I2,r,q2⟩=>⟨I2.gE,?_⟩) sk hV
 exact yx (us:= .ref a :: us) (vs:= .ref a :: vs) F hr hb hd hx I2 (.cons rfl r) q2
structure Mk (K:PySem.W.Frag)(C f:Addr):Prop where
 makes:PySem.W.makesIn K C=true
 init:PySem.W.findIn K (.ref C) "__init__"=some (some (.ref f))
 fn:PySem.W.isFn K (.ref f)=true
 kp:PySem.W.keepIn K (.ref C)=true
theorem AR {pins:List (Addr×Obj)}{σ:St}{H:Hp}{s:Shared}{Q:VK}{us:List Value}{vs:List V}(M:Mk X.K C f)(F:lI X.prog X.w X.K X.mg X.base CX k f fd ps sp)(hr:eT (k + 1) X.A)(hb:Binds X.K fd ps ds)(hd:Vals uA ds)
  (hx:Passes CX X E) (I:Inv X pins σ H s) (r:Vals vs us)
  (h: ∀x dx,H x=none->H dx=none->dx≠x->sp (.ref x :: (vs ++ uA)) (upd (upd H dx (.own x)) x (.ins C dx [])) (fun v H2=>v= .d8/\Q (.ref x) H2) E):
  wpAny (model X.prog X.w) X.A (call (.ref C) us) (EP X pins σ Q) X.xe s:=by
 have hq:=h (s.heap.objs.size + 1) s.heap.objs.size (I.cw.fresh (dF _)) (I.cw.fresh (aC _)) (a0 (fP _))
 have I2:=Inv.made (C:=C) I
 have r2:Vals (V.ref (s.heap.objs.size + 1) :: (vs ++ uA)) (Value.ref (s.heap.objs.size + 1) :: (us ++ ds)):= .cons rfl (r.append hd)
 have hl:(Value.ref (s.heap.objs.size + 1) :: us ++ ds).length=ps.length:=by
  have e:=r2.length
  rw[F.len _ _ _ _ hq] at e
  exact e.symm
 refine DR (HE (f:=f) I.gE M.makes M.init (E6.mp M.fn) (Cz (F.run _ X.stack _ _ ⟨Value.ref (s.heap.objs.size + 1) :: us,[]⟩ (Value.ref (s.heap.objs.size + 1) :: (us ++ ds)) _ _ E (hr.make C us [])
  (I2.HG.make C us []) (hb _ (Value.ref (s.heap.objs.size + 1) :: us) I2.gE hl) r2 hq) fun r s' su=>?_))
 cases r with
 |error e=>exact hx pins σ _ _ e s' I2 su
 |ok fl=>
  cases fl with
  |ret u=>
   obtain⟨v,H',I3,rv,ev,q3⟩:=I2.after su
   subst ev
   exact⟨rv,⟨V.ref (s.heap.objs.size + 1),H',I3,rfl,q3⟩⟩
  |next=>exact False.elim su
  |brk=>exact False.elim su
  |cont=>exact False.elim su
theorem Ky (M:Mk X.K C f)(F:lI X.prog X.w X.K X.mg X.base CX k f fd ps sp)(hr:eT (k + 1) X.A)(hg:Gl X x)(hm:X.mg x=some (.ref C))(hb:Binds X.K fd ps ds)(hd:Vals uA ds)(hx:Passes CX X E)
  (ha:PA X (e :: es) t) (qf:(x == ("__debug__":Str))=false:=by decide) (he:starEach (e :: es) X.env=(false,eval e X.env) :: starEach es X.env:=by rfl) (hV:(backTo pos (starEach es X.env)).any (·.1)=false:=by rfl):
  PE X (.Call (.Name x p) (e :: es) [] pos) (D3 C sp uA E t):=by
 intro pins s σ H Q I h
 refine eo (jk I hg hm ?_ qf)
 refine j7 (h₀:=X.base) I.ok.mod.Kn M.kp (dP (ha pos pins s σ H _ I h) fun us s1 ⟨vs,H1,I1,r,q⟩=>⟨I1.gE,?_⟩) he hV
 exact AR M F hr hb hd hx I1 r q
theorem HJ (M:Mk X.K C f)(F:lI X.prog X.w X.K X.mg X.base CX k f fd ps sp)(hr:eT (k + 1) X.A)(hg:Gl X x)(hm:X.mg x=some (.ref C))(hb:Binds X.K fd ps ds)(hd:Vals uA ds)(hx:Passes CX X E)
  (qf:(x == ("__debug__":Str))=false:=by decide):PE X (.Call (.Name x p) [] [] pos) (D3 C sp uA E CM):=by
 intro pins s σ H Q I h
 refine eo (jk I hg hm ?_ qf)
 exact AB I.gE M.kp (AR (us:=[]) M F hr hb hd hx I .nil h)
end
section
variable {X:Cx}{CX:Ft}{k:Nat}{f C:Addr}{fd:FuncData}{ps ks:List Str}{sp:Sp}{E:XK}{x m:Str}{p pos apos Qq:Pos}{e o:Expr}{es:List Expr}{kws:List Keyword}{te ta:TE}{t tk:TA}{nm:Option Str}
variable {g:List Value->List Value->List Value}{gV:List V->List V->List V}
end
structure aS (N P:List Str)(sc:Scope):Prop where
 kind:sc.kind= .function:=by rfl
 co:sc.isCoroutine=false:=by rfl
 gen:sc.isGenerator=false:=by rfl
 nd:N.Nodup:=by decide +kernel
 pre:N.take P.length=P:=by rfl
 par: ∀x∈P,sc.names.lookup x=some .local∨sc.names.lookup x=some .cell:=by decide +kernel
 Nb: ∀y∈sc.names,y.2≠ .free:=by decide +kernel
theorem xB {kindOf:Str->Option NameKind}{x:Str}: ∀{binds:List (Str×Value)} {m:Str->Option Value},(∀v,(x,v)∉binds)->bindL kindOf binds m x=m x
 |[],_,_=>rfl
 |(n,v) :: r,m,h=>by
  unfold bindL
  rw[xB fun w hw=>h w (bc _ hw)]
  split
  ·have:x≠n:=by rintro rfl; exact h v bI
   simp[this]
  ·rfl
theorem xC {kindOf:Str->Option NameKind}{x:Str}: ∀{binds:List (Str×Value)} {m:Str->Option Value},(∀v,(x,v)∉binds)->bindC kindOf binds m x=m x
 |[],_,_=>rfl
 |(n,v) :: r,m,h=>by
  unfold bindC
  rw[xC fun w hw=>h w (bc _ hw)]
  split
  ·rfl
  ·have:x≠n:=by rintro rfl; exact h v bI
   simp[this]
theorem xD {kindOf:Str->Option NameKind}{x:Str}{v:Value}: ∀{P:List Str} {vs:List Value} {i:Nat} {m:Str->Option Value},P.Nodup->P[i]? =some x->vs[i]? =some v->kindOf x=some .local->
  bindL kindOf (P.zip vs) m x=some v
 |[],_,_,_,_,h,_,_=>by simp at h
 |_ :: _,[],_,_,_,_,h,_=>by simp at h
 |p :: P,w :: vs,0,m,nd,h1,h2,hk=>by
  simp at h1 h2; subst h1; subst h2
  show bindL kindOf ((p,w) :: P.zip vs) m p=_
  unfold bindL
  rw[xB fun v hv=>(fE.mp nd).1 (nU hv).1,a7 hk]
  simp
 |p :: P,w :: vs,i + 1,m,nd,h1,h2,hk=>by
  show bindL kindOf ((p,w) :: P.zip vs) m x=_
  unfold bindL
  exact xD (i:=i) (List.nodup_cons.mp nd).2 (by simpa using h1) (by simpa using h2) hk
theorem xE {kindOf:Str->Option NameKind}{x:Str}{v:Value}: ∀{P:List Str} {vs:List Value} {i:Nat} {m:Str->Option Value},P.Nodup->P[i]? =some x->vs[i]? =some v->kindOf x≠some .local->
  bindC kindOf (P.zip vs) m x=some v
 |[],_,_,_,_,h,_,_=>by simp at h
 |_ :: _,[],_,_,_,_,h,_=>by simp at h
 |p :: P,w :: vs,0,m,nd,h1,h2,hk=>by
  simp at h1 h2; subst h1; subst h2
  show bindC kindOf ((p,w) :: P.zip vs) m p=_
  unfold bindC
  rw[xC fun v hv=>(fE.mp nd).1 (nU hv).1,aQ hk]
  simp
 |p :: P,w :: vs,i + 1,m,nd,h1,h2,hk=>by
  show bindC kindOf ((p,w) :: P.zip vs) m x=_
  unfold bindC
  exact xE (i:=i) (List.nodup_cons.mp nd).2 (by simpa using h1) (by simpa using h2) hk
def start (N:List Str)(vs:List V):St:=vs.map some ++ List.replicate (N.length - vs.length) none
def kQ (CX:Ft)(P:Program)(w:World)(K:PySem.W.Frag)(mg:Str->Option Value)(base:Heap)(N:List Str)(qual:Str)(scope:Scope)(f:Addr)(cd:Value)(A:Around)(outer:List Env)(s:Shared)(H:Hp)(E:XK):Cx where
 prog:=P
 w:=w
 K:=K
 mg:=mg
 base:=base
 A:=A.deeper (envOfC qual scope s.heap.objs.size f cd)
 N:=N
 s₀:=s
 H₀:=H
 env:=envOfC qual scope s.heap.objs.size f cd
 outer:=outer
 stack:=envOfC qual scope s.heap.objs.size f cd :: outer
 ex:=[]
 calm:=true
 fn:=fun _=>true
 pn:=[]
 xe:=fun e s'=>wpAny (model P w) (A.deeper (envOfC qual scope s.heap.objs.size f cd)) (leaving (envOfC qual scope s.heap.objs.size f cd) e) (fun _ D5=>CX outer H s E e D5) (fun e' D5=>CX outer H s E e' D5) s'
theorem AS {sc:Scope}{n:Nat}{x:Str}(h:sc.names.lookup x=some .cell): ∃c,(cellsFrom n sc.names []).lookup x=some c:=by
 have q:=kN sc.names n [] (.inl h)
 exact O7.mp q
theorem xF {CX:Ft}{P:Program}{w:World}{K:PySem.W.Frag}{mg:Str->Option Value}{base:Heap}{N ps:List Str}{qual:Str}{scope:Scope}{f:Addr}{cd:Value}{A:Around}{outer:List Env}{s s1:Shared}{H:Hp}{E:XK}{us:List Value}{vs:List V}
  (S:aS N ps scope) (hd:A.handled=none) (e0:qe P w K mg base A outer s H) (hl:vs.length=ps.length) (r:Vals vs us)
  (x:InCallC s s.heap.objs.size (bindL (envOfC qual scope s.heap.objs.size f cd).kindOf (ps.zip us) fun _=>none) (cellsFrom (s.heap.objs.size + 1) scope.names []) (bindC (envOfC qual scope s.heap.objs.size f cd).kindOf (ps.zip us) fun _=>none) s1):
  Inv (kQ CX P w K mg base N qual scope f cd A outer s H E) [] (start N vs) H s1:=by
 have hV:ps.length<=N.length:=by have:=cL List.length S.pre; rw[bh] at this; lia
 obtain⟨h1,tk,rfl,hk⟩:=x.done
 have UE: ∀b:Addr,b∉(kQ CX P w K mg base N qual scope f cd A outer s H E).ex:=fun b z=>absurd (show b∈([]:List Addr) from z) (by simp)
 refine⟨⟨e0.mod,S.kind,rfl,rfl,aC _,fun y z c h1 h2=>?_,fun y hy=>?_,fun y c _ h=>?_,fun _=>hd,Around.frames_deeper e0.frames,.inr ⟨rfl,rfl⟩,fun b z=>absurd z (UE b),e0.bs,e0.AH,fun b _ _=>UE b,fun b z=>absurd z (UE b),e0.lF,e0.DS⟩,
  rfl,e0.bare,Un.kept hk,⟨_,x.toInCall.ns,fun i y v h1 h2 h3=>?_⟩,fun y c h=>⟨_,x.cell y c h⟩,e0.cw.fresh (Nat.le_refl _),fun y c h=>?_,fun p hp=>absurd (show p∈([]:List (Addr×Obj)) from hp) (by simp),e0.cw.kept hk,?_⟩
 ·exact name_of_addr x.apart (b9 h1) (b9 h2)
 ·have hy:scope.names.lookup y=some .cell∨scope.names.lookup y=some .free:=hy
  rcases hy with hy|hy
  ·exact AS hy
  ·exact absurd rfl (S.Nb _ (b9 hy))
 ·exact dG (x.above y c (b9 h))
 ·have hi:i < vs.length:=by
   unfold start at h2
   by_cases hi:i < vs.length
   ·exact hi
   ·rw[List.getElem?_append_right (by simpa using hi)] at h2
    rw[List.getElem?_replicate] at h2
    split at h2 <;> cases h2
  have ha:vs[i]? =some v:=by
   unfold start at h2
   rw[List.getElem?_append_left (by simpa using hi),List.getElem?_map] at h2
   cases e:vs[i]? with
   |none=>rw[e] at h2; cases h2
   |some a=>rw[e] at h2; cases h2; rfl
  obtain⟨u,hu,rv⟩:=r.get ha
  have hp:ps[i]? =some y:=by
   rw[← S.pre,List.getElem?_take_of_lt (by lia)]; exact h1
  have Xt:ps.Nodup:=by rw[← S.pre]; exact S.nd.sublist (List.take_sublist _ _)
  refine⟨u,rv,?_⟩
  rcases S.par y (gp hp) with k|k
  ·exact .inl ⟨k,xD Xt hp hu k⟩
  ·obtain⟨c,e⟩:=AS (n:=s.heap.objs.size + 1) k
   refine .inr ⟨.inl k,c,e,?_⟩
   have q:=x.cell y c e
   rw[xE Xt hp hu (by show scope.names.lookup y≠_; rw[k]; decide)] at q
   exact q
 ·exact e0.cw.fresh (dG (x.above y c (b9 h)))
 ·unfold start
  show _ =N.length
  rw[aH,ae,eN]
  lia
theorem HL {CX:Ft}{P:Program}{w:World}{K:PySem.W.Frag}{mg:Str->Option Value}{base:Heap}{k:Nat}{f:Addr}{name qual:Str}{params:Arguments}{body:List Stmt}{scope:Scope}{dV kV doc pm cK ct oc:Value}{an od:Option Addr}
  {Fu:Array (Option Value)} {N ps:List Str} {sp:Sp} (lk:K.lookup f=some ⟨oc,od,.func (PySem.W.fnOf name qual params body scope dV kV doc pm an cK ct),Fu⟩) (rg:PySem.W.codeIn K cK qual=true) (S:aS N ps scope)
  (len: ∀vs H Q E,sp vs H Q E->vs.length=ps.length)
  (fN: ∀(A:Around) (outer:List Env) (s:Shared) (H:Hp) (vs:List V) (Q:VK) (E:XK),eT k (A.deeper (envOfC qual scope s.heap.objs.size f cK))->sp vs H Q E->
   ∃t,oV (kQ CX P w K mg base N qual scope f cK A outer s H E) body t/\t {nx:=fun _ H'=>Q .d8 H',rt:=Q} (start N vs) H):
  lI P w K mg base CX (k + 1) f (PySem.W.fnOf name qual params body scope dV kV doc pm an cK ct) ps sp:=by
 refine⟨len,fun A outer s H args us vs Q E hr e0 hb r yy=>?_⟩
 have hl:=len _ _ _ _ yy
 have KX:K.In s.heap:=e0.mod.Kn.keeps fun b o e=>(e0.bs b o e).1
 have lim:s.heap.NoLimit:=e0.mod.nolimit.keeps fun b o e=>(e0.bs b o e).1
 have mB: ∀y∈ps.zip us,scope.names.lookup y.1=some .local∨(scope.names.lookup y.1=some .cell/\((cellsFrom (s.heap.objs.size + 1) scope.names []).lookup y.1).isSome=true):=fun⟨n,v⟩ hy=>by
  rcases S.par n (nU hy).1 with q|q
  ·exact .inl q
  ·exact .inr ⟨q,kN _ _ _ (.inl q)⟩
 refine codeAny_call_function hr.depth (KX _ _ lk) rfl S.co S.gen rfl (PySem.W.codeRec_of KX rg) (hb _ _ _ _ ?_)
 refine sZ S.kind mB fun env he s1 x=>?_
 subst he
 refine⟨lim.keeps x.toInCall.keep,codeAny_func ?_⟩
 obtain⟨t,ht,hq⟩:=fN A outer s H vs Q E (hr.deeper _) yy
 have I:Inv (kQ CX P w K mg base N qual scope f cK A outer s H E) [] (start N vs) H s1:=xF S hr.hd e0 hl r x
 refine cf (ht [] s1 (start N vs) H _ I hq) (fun fl s' hs=>?_) fun e s' hs=>hs
 have fin: ∀{σ':St} {H':Hp} {v:V} {u:Value},Inv (kQ CX P w K mg base N qual scope f cK A outer s H E) [] σ' H' s'->RelV v u->Q v H'->CE outer P w H s Q u s':=
  fun{σ' H' v u} J rv q=>⟨v,H',J.os,J.bare,J.base,J.cw,rv,q⟩
 cases fl with
 |ret u=>
  obtain⟨v,σ',H',J,rv,q⟩:=hs
  exact fin J rv q
 |next=>
  obtain⟨σ',H',J,q⟩:=hs
  exact fin (v:=V.d8) (u:=Value.none) J rfl q
 |brk=>
  obtain⟨_,_,_,q⟩:=hs
  exact False.elim q
 |cont=>
  obtain⟨_,_,_,q⟩:=hs
  exact False.elim q
section
variable {X:Cx}{x:Str}{p pos:Pos}{e:Expr}{es:List Expr}{t:TA}{id T:String}{r:List V->Hp->VK->Prop}
def UG (r:List V->Hp->VK->Prop)(t:TA):TE:=fun σ H Q=>t σ H fun vs H1=>r vs H1 Q
theorem cI (hc:iY X (.builtin id) r)(hg:Gl X x)(hm:X.mg x=none)(hv:bootBuiltins x=some (.builtin id))(ha:PA X (e :: es) t)(hn:x≠"__name__":=by decide)(qf:(x == ("__debug__":Str))=false:=by decide)
  (he:starEach (e :: es) X.env=(false,eval e X.env) :: starEach es X.env:=by rfl) (hV:(backTo pos (starEach es X.env)).any (·.1)=false:=by rfl):PE X (.Call (.Name x p) (e :: es) [] pos) (UG r t):=by
 intro pins s σ H Q I h
 refine eo (oW I hg hm hv ?_ hn qf)
 exact PyProof.Rows.callWith_builtin1 (dP (ha pos pins s σ H _ I h) fun us s1 ⟨vs,H1,I1,r1,q1⟩=>hc pins s1 σ H1 vs us Q I1 r1 q1) he hV
theorem fQ (hc:iY X (.type T) r)(hg:Gl X x)(hm:X.mg x=none)(hv:bootBuiltins x=some (.type T))(ha:PA X (e :: es) t)(hn:x≠"__name__":=by decide)(qf:(x == ("__debug__":Str))=false:=by decide)
  (he:starEach (e :: es) X.env=(false,eval e X.env) :: starEach es X.env:=by rfl) (hV:(backTo pos (starEach es X.env)).any (·.1)=false:=by rfl):PE X (.Call (.Name x p) (e :: es) [] pos) (UG r t):=by
 intro pins s σ H Q I h
 refine eo (oW I hg hm hv ?_ hn qf)
 exact nR (dP (ha pos pins s σ H _ I h) fun us s1 ⟨vs,H1,I1,r1,q1⟩=>hc pins s1 σ H1 vs us Q I1 r1 q1) he hV
end
end L2
namespace HT
open PySem PyProof.Rows
def lexLt:List Int->List Int->Bool
 |[],[]=>false
 |[],_ :: _=>true
 |_ :: _,[]=>false
 |x :: xs,y :: ys=>if x=y then lexLt xs ys else decide (x < y)
theorem lJ (x y:Int)(xs ys:List Int):lexLt (x :: xs) (y :: ys)=if x=y then lexLt xs ys else decide (x < y):=rfl
section
open PySem.SeqAt
open PySem.AutoSeq1 (wpAny_loadPart')
open PySem.MeetsSeq PySem.MeetsSeq2 PySem.MeetsSeq3
end
section
variable {prog:Program}{w:World}{A:Around}{E:Value->Shared->Prop}{s:Shared}
def AU (n d:Nat):Option Int->Nat
 |none=>d
 |some v=>if v < 0 then(v + (n:Int)).toNat else min v.toNat n
theorem HM (n d:Nat):AU n d none=d:=rfl
theorem yz (n d k:Nat):AU n d (some (k:Int))=min k n:=by
 show(if(k:Int) < 0 then((k:Int) + (n:Int)).toNat else min (k:Int).toNat n)=min k n
 rw[aQ (by lia),dI]
end
end HT
namespace L2
open PySem PySem.Spec PyProof.Rows
abbrev TO:=St->Hp->(Option Int->Hp->Prop)->Prop
def PO (X:Cx)(e:Option Expr)(t:TO):Prop:=
 ∀(pins:List (Addr×Obj)) (s:Shared) (σ:St) (H:Hp) (Q:Option Int->Hp->Prop),Inv X pins σ H s->t σ H Q->
  wpAny (model X.prog X.w) X.A (evalPart e X.env) (fun u s'=> ∃o H',Inv X pins σ H' s'/\IsPart u o/\Q o H') X.xe s
def Kz:TO:=fun _ H Q=>Q none H
inductive Xu (x:V)(k:Int->Prop):Prop
 |mk (i:Int)(h:x= .int i)(q:k i):Xu x k
def Qr (t:TE):TO:=fun σ H Q=>t σ H fun x H1=>Xu x fun i=>Q (some i) H1
theorem intsAre_of {ns:List Int}: ∀{us:List Value},Vals (ns.map V.int) us->IntsAre us ns:=by
 induction ns with
 |nil=>intro us r; rw[vY] at r; cases r; exact .nil
 |cons n ns ih=>
  intro us r
  rw[cU] at r
  cases r with
  |cons r1 r2=>
   obtain⟨t,e⟩:=r1
   subst e
   exact .cons n t (ih r2)
section
variable {X:Cx}{e:Expr}{te:TE}{lo hi:Option Expr}{tl th:TO}{pos p2:Pos}
theorem yA:PO X none Kz:=by
 intro pins s σ H Q I h
 rw[evalPart_none]
 exact bB ⟨none,H,I,.none,h⟩
theorem qg (h:PE X e te):PO X (some e) (Qr te):=by
 intro pins s σ H Q I hw
 rw[evalPart_some]
 refine dP (h pins s σ H _ I hw) fun u s1 ⟨x,H1,I1,r1,q1⟩=>?_
 obtain⟨i,rfl,q⟩:=q1
 obtain⟨t,rfl⟩:=r1
 exact⟨some i,H1,I1,.int i t,q⟩
def Pg (X:Cx)(r:V->Option Int->Option Int->Hp->VK->Prop):Prop:=
 ∀(pins:List (Addr×Obj)) (s:Shared) (σ:St) (H:Hp) (x:V) (v vl vu:Value) (lo hi:Option Int) (sl:Addr) (Q:VK),Inv X pins σ H s->RelV x v->s.heap.IsSliceOf sl vl vu .none->IsPart vl lo->IsPart vu hi->r x lo hi H Q->
  ∃T id,typeLookup (.type T) "__getitem__"=pure (some (.builtin id))/\s.TypeIs v T/\wpAny (model X.prog X.w) X.A (getItem v (.ref sl)) (EP X pins σ Q) X.xe s
def Zo (r:V->Option Int->Option Int->Hp->VK->Prop)(te:TE)(tl th:TO):TE:=fun σ H Q=>te σ H fun x H1=>tl σ H1 fun l H2=>th σ H2 fun u H3=>r x l u H3 Q
theorem qh {r:V->Option Int->Option Int->Hp->VK->Prop}(hr:Pg X r)(he:PE X e te)(hl:PO X lo tl)(hu:PO X hi th):PE X (.Subscript e (.Slice lo hi none p2) pos) (Zo r te tl th):=by
 intro pins s σ H Q I h
 refine Subscript_ (dP (he pins s σ H _ I h) fun v s1 ⟨x,H1,I1,r1,q1⟩=>?_)
 refine wpAny_Slice (dP (hl pins s1 σ H1 _ I1 q1) fun vl s2 ⟨l,H2,I2,pl,q2⟩=>dP (hu pins s2 σ H2 _ I2 q2) fun vu s3 ⟨u,H3,I3,pu,q3⟩=>?_)
 rw[evalPart_none]
 refine bB ?_
 have I4:Inv X pins σ H3 {s3 with heap:=s3.heap.push {cls:= .type "slice",data:= .fields #[vl,vu,.none]}}:=I3.kept (t':=s3.toks) fun b ob q=>ay _ q
 obtain⟨T,id,hT,ht,hg⟩:=hr pins {s3 with heap:=s3.heap.push {cls:= .type "slice",data:= .fields #[vl,vu,.none]}} σ H3 x v vl vu l u s3.heap.objs.size Q I4 r1 (Heap.IsSliceOf.new ..) pl pu q3
 show wpAny (model X.prog X.w) X.A (subscriptTail e (.Slice lo hi none p2) v (.ref s3.heap.objs.size)) (EP X pins σ Q) X.xe {s3 with heap:=s3.heap.push {cls:= .type "slice",data:= .fields #[vl,vu,.none]}}
 exact tail_any (ops:=[.ref s3.heap.objs.size,v]) ht hT hg (by with_unfolding_all rfl)
def qj (xs:List V)(lo hi:Option Int):List V:=(xs.drop (HT.AU xs.length 0 lo)).take (HT.AU xs.length xs.length hi - HT.AU xs.length 0 lo)
theorem AV (xs:List V)(lo hi:Option Int):(qj xs lo hi).length<=xs.length:=by
 unfold qj
 rw[bh,md]
 lia
end
def KA (n:Nat)(i:Int):Option Nat:=if 0<=i then(if i < n then some i.toNat else none) else if -(n:Int)<=i then some (i + n).toNat else none
def rH {α:Type}(xs:List α)(i:Int):Option α:=(KA xs.length i).bind fun j=>xs[j]?
theorem D7 {n:Nat}{i:Int}{j:Nat}(h:KA n i=some j):seqIndex? i n=some j/\j < n/\ -(n:Int)<=i/\i < n:=by
 unfold KA at h
 by_cases h0:0<=i
 ·rw[a7 h0] at h
  by_cases h1:i < n
  ·rw[a7 h1] at h
   have e:i.toNat=j:=aF h
   exact⟨by rw[seqIndex_of h0 h1,e],by lia,by lia,h1⟩
  ·rw[aQ h1] at h; cases h
 ·rw[aQ h0] at h
  by_cases h1: -(n:Int)<=i
  ·rw[a7 h1] at h
   have e:(i + n).toNat=j:=aF h
   exact⟨by rw[seqIndex_neg (by lia) h1,e],by lia,h1,by lia⟩
  ·rw[aQ h1] at h; cases h
theorem D8 {α:Type}{xs:List α}{i:Int}{v:α}(h:rH xs i=some v): ∃j,seqIndex? i xs.length=some j/\xs[j]? =some v/\j < xs.length/\ -(xs.length:Int)<=i/\i < xs.length:=by
 unfold rH at h
 cases e:KA xs.length i with
 |none=>rw[e] at h; cases h
 |some j=>
  rw[e] at h
  obtain⟨h1,h2,h3,h4⟩:=D7 e
  exact⟨j,h1,h,h2,h3,h4⟩
theorem cz {α:Type}{xs:List α}{j:Nat}{v:α}(h:xs[j]? =some v):rH xs (j:Int)=some v:=by
 have hj:j < xs.length:=(au.mp h).1
 have e:KA xs.length (j:Int)=some j:=by
  unfold KA
  rw[if_pos (by lia),if_pos (by lia)]; simp
 unfold rH; rw[e]; exact h
def yB (b:Expr):Prop:= ∀o i,subscripted b false o i=operate [o,i] (getItem o i)
def JW (X:Cx)(r:R2):Prop:=
 ∀(value slice:Expr) (pins:List (Addr×Obj)) (s:Shared) (σ:St) (H:Hp) (x y:V) (v u:Value) (Q:VK),Inv X pins σ H s->RelV x v->RelV y u->r x y H Q->
  subscripted slice false v u=operate [v,u] (getItem v u)->wpAny (model X.prog X.w) X.A (subscriptTail value slice v u) (EP X pins σ Q) X.xe s
def Xv (X:Cx)(id:String)(r:V->List V->Hp->VK->Prop):Prop:=
 ∀(pins:List (Addr×Obj)) (s:Shared) (σ:St) (H:Hp) (x:V) (xs:List V) (v:Value) (us:List Value) (Q:VK),Inv X pins σ H s->RelV x v->Vals xs us->r x xs H Q->
  wpAny (model X.prog X.w) X.A (call (.builtin id) (v :: us)) (EP X pins σ Q) X.xe s
section
variable {X:Cx}{a b:Expr}{ta tb:TE}{pos:Pos}
theorem jg {r:R2}(hr:JW X r)(ha:PE X a ta)(hb:PE X b tb)(hs:yB b):PE X (.Subscript a b pos) (Pe r ta tb):=by
 intro pins s σ H Q I h
 exact Subscript_ (M8 ha hb I h fun v u s2 x y H2 I2 rx ry q=>hr a b pins s2 σ H2 x y v u Q I2 rx ry q (hs _ _))
inductive UH (x y:V)(S:Addr->List V->Prop)(k:V->Prop):Prop
 |mk (p:Addr)(xs:List V)(i:Int)(v:V)(h1:x= .ref p)(h2:y= .int i)(s:S p xs)(a:rH xs i=some v)(q:k v):UH x y S k
def Nc (K:PySem.W.Frag):R2:=fun x y H Q=>UH x y (bE K H) fun v=>Q v H
def Nd (K:PySem.W.Frag):R2:=fun x y H Q=>UH x y (cm K H) fun v=>Q v H
theorem yC:JW X (Nc X.K):=by
 intro value slice pins s σ H x y v u Q I rx ry h hs
 obtain⟨p,xs,i,z,rfl,rfl,hq,he,q⟩:=h
 cases rx
 obtain⟨t,rfl⟩:=ry
 obtain⟨bY,r,pl,hz⟩:=I.list hq
 obtain⟨j,h1,h2,h3,h4,h5⟩:=D8 he
 obtain⟨w,ew,Fv⟩:=r.get h2
 have hl:=r.length
 have hn:=yw
 have fin:EP X pins σ Q w s:=⟨z,H,I,Fv,q⟩
 by_cases h0:0<=i
 ·have hj:i.toNat=j:=by
   rw[seqIndex_of h0 h5] at h1
   exact aF h1
  exact item_listR pl.isList h0 (by lia) (by rw[hj]; simpa using ew) fin hs
 ·have hj:(i + (bY.toArray.size:Int)).toNat=j:=by
   rw[seqIndex_neg (by lia) h4] at h1
   rw[bw,← hl]
   exact aF h1
  exact subscriptTail_builtinR (x:=w) pl.isList.typeIs slot_list_getitem.lookup
   (wpAny_getItem_list_neg (Q:=fun r s'=>r=w/\EP X pins σ Q r s') pl.isList (by lia) (by rw[List.size_toArray] <;> lia) (by lia) (by rw[hj]; simpa using ew) ⟨rfl,fin⟩) hs
theorem CO:JW X (Nd X.K):=by
 intro value slice pins s σ H x y v u Q I rx ry h hs
 obtain⟨p,xs,i,z,rfl,rfl,hq,he,q⟩:=h
 cases rx
 obtain⟨t,rfl⟩:=ry
 obtain⟨bY,r,pl,hz⟩:=I.tuple hq
 obtain⟨j,h1,h2,h3,h4,h5⟩:=D8 he
 obtain⟨w,ew,Fv⟩:=r.get h2
 have hl:=r.length
 have hn:=yw
 have fin:EP X pins σ Q w s:=⟨z,H,I,Fv,q⟩
 exact subscriptTail_builtinR (x:=w) pl.typeIs slot_tuple_getitem.lookup
  (getItem_tuple (j:=j) (Q:=fun r s'=>r=w/\EP X pins σ Q r s') pl (by lia) (by lia) (by rw[List.size_toArray,← hl]; exact h1) (by simpa using ew) ⟨rfl,fin⟩) hs
theorem CP (bY:List Value)(n j:Nat)(u:Value):Obj.mapSeq (·.setIfInBounds j u) {cls:= .type "list",data:= .seq bY.toArray n}={cls:= .type "list",data:= .seq (bY.set j u).toArray n}:=by
 simp[Obj.mapSeq]
theorem Inv.lst {pins:List (Addr×Obj)}{σ:St}{H:Hp}{s:Shared}{p:Addr}{xs:List V}(I:Inv X pins σ H s)(h:H p=some (.lst xs)):
  ∃(bY:List Value) (n:Nat),Vals xs bY/\s.heap.get? p=some {cls:= .type "list",data:= .seq bY.toArray n}/\xs.length<=sizeLine:=by
 obtain⟨z,bY,n,r,e⟩:=I.cw p _ h
 exact⟨bY,n,r,e,z⟩
theorem Inv.Nf {pins:List (Addr×Obj)}{σ:St}{H:Hp}{s:Shared}{p:Addr}{xs ys:List V}{bY pZ:List Value}{n n':Nat}{f:Obj->Obj}(I:Inv X pins σ H s)(h:H p=some (.lst xs))
  (ho:s.heap.get? p=some {cls:= .type "list",data:= .seq bY.toArray n}) (hf:f {cls:= .type "list",data:= .seq bY.toArray n}={cls:= .type "list",data:= .seq pZ.toArray n'}) (r:Vals ys pZ) (hz:ys.length<=sizeLine) (t:Nat):
  Inv X pins σ (upd H p (.lst ys)) {s with heap:=s.heap.update p f,toks:=t}:=by
 have e:(s.heap.update p f).get? p=some {cls:= .type "list",data:= .seq pZ.toArray n'}:=by
  rw[CA f ho (by rw[hf] <;> rfl),hf]
 refine I.write (x:=p) (e:=p) (by rw[h]; trivial) (.inl rfl) (fun b u hb q=>(mr _ _ (vW hb)).trans q) ⟨_,e⟩ ?_
 exact⟨hz,pZ,n',r,e⟩
def Qs:V->V->V->Hp->(Hp->Prop)->Prop:=fun o i v H Q=> ∃p xs k j,o= .ref p/\i= .int k/\H p=some (.lst xs)/\KA xs.length k=some j/\Q (upd H p (.lst (xs.set j v)))
theorem set_list:Qf X Qs:=by
 intro pins s σ H o i v ov iv u Q I ro ri rv h
 obtain⟨p,xs,k,j,rfl,rfl,hp,hj,q⟩:=h
 cases ro
 obtain⟨t,rfl⟩:=ri
 obtain⟨bY,n,r,ho,hz⟩:=I.lst hp
 obtain⟨h1,h2,h3,h4⟩:=D7 hj
 have hl:=r.length
 have hn:=yw
 have I':Inv X pins σ (upd H p (.lst (xs.set j v))) {s with heap:=s.heap.update p (Obj.mapSeq (·.setIfInBounds j u))}:=
  I.Nf hp ho (CP bY n j u) (r.set rv j) (by rw[dX]; exact hz) s.toks
 by_cases h0:0<=k
 ·have hk:k.toNat=j:=by
   rw[seqIndex_of h0 h4] at h1
   exact aF h1
  exact PySem.W.ki_setAt ho h0 (by lia) (by rw[bw,← hl]; exact h4) (by rw[hk]; exact⟨_,I',q⟩)
 ·have hk:(k + (bY.toArray.size:Int)).toNat=j:=by
   rw[seqIndex_neg (by lia) h3] at h1
   rw[bw,← hl]
   exact aF h1
  exact PySem.W.ki_setBack ho (by lia) (by rw[bw,← hl]; exact h3) (by lia) (by rw[hk]; exact⟨_,I',q⟩)
theorem yD (lo hi:Option Int)(n:Nat):(sliceBounds lo hi none n).1=((HT.AU n 0 lo:Nat):Int)/\(sliceBounds lo hi none n).2.1=((HT.AU n n hi:Nat):Int)/\(sliceBounds lo hi none n).2.2=1:=by
 refine⟨?_,?_,rfl⟩
 ·cases lo with
  |none=>simp[sliceBounds,HT.AU]
  |some i=>
   simp only[sliceBounds,HT.AU,Option.getD_none,show(1:Int) > 0 by decide,if_true]
   by_cases h:i < 0
   ·simp only[h,if_true] <;> lia
   ·simp only[h,if_false] <;> lia
 ·cases hi with
  |none=>simp[sliceBounds,HT.AU]
  |some i=>
   simp only[sliceBounds,HT.AU,Option.getD_none,show(1:Int) > 0 by decide,if_true]
   by_cases h:i < 0
   ·simp only[h,if_true] <;> lia
   ·simp only[h,if_false] <;> lia
theorem we (bY:List Value)(lo hi:Option Int):slicePick bY.toArray lo hi none=((bY.drop (HT.AU bY.length 0 lo)).take (HT.AU bY.length bY.length hi - HT.AU bY.length 0 lo)).toArray:=by
 obtain⟨h1,h2,h3⟩:=yD lo hi bY.toArray.size
 unfold slicePick
 rw[h1,h2,h3]
 simp only[sliceRange_one,pick_run,List.size_toArray] <;> rfl
def UI (K:PySem.W.Frag):V->Option Int->Option Int->Hp->VK->Prop:=fun x lo hi H Q=> ∃a xs,x= .ref a/\bE K H a xs/\ ∀p,H p=none->Q (.ref p) (upd H p (.lst (qj xs lo hi)))
theorem tW:Pg X (UI X.K):=by
 intro pins s σ H x v vl vu lo hi sl Q I rx hs pl pu h
 obtain⟨a,xs,rfl,hx,q⟩:=h
 cases rx
 obtain⟨bY,r,ht,hz⟩:=I.list hx
 have hlen:=r.length
 refine⟨"list",_,slot_list_getitem.lookup,ht.isList.typeIs,?_⟩
 refine wpAny_getItem_list_slice ht.isList hs pl pu .none (by simp) ?_ (by rw[List.size_toArray] <;> lia)
 rw[we,← hlen]
 refine⟨.ref s.heap.objs.size,_,I.laid (t':=s.toks) (o:= .lst (qj xs lo hi)) (fun b ob q=>ay _ q) (aC _) ?_,rfl,q _ (I.cw.fresh (aC _))⟩
 exact⟨aY (AV xs lo hi) hz,_,0,(r.drop (HT.AU xs.length 0 lo)).take (HT.AU xs.length xs.length hi - HT.AU xs.length 0 lo),bK _ rfl⟩
def sx:V->Bool
 | .d8=>true
 | .bl _=>true
 | .int _=>true
 | .str _=>true
 |_=>false
def KC:V->V->Bool
 | .d8,.d8=>true
 | .bl a,.bl b=>a == b
 | .bl a,.int b=>(if a then 1 else 0) == b
 | .int a,.bl b=>a == (if b then 1 else 0)
 | .int a,.int b=>a == b
 | .str a,.str b=>a == b
 |_,_=>false
theorem Ng {A:Around}{s:Shared}{y x:V}{u v:Value}(ry:RelV y u)(rx:RelV x v)(fy:sx y=true)(fx:sx x=true):SeqAt.EqAt A s u v (KC y x):=by
 cases y with
 |d8=>
  cases ry
  cases x with
  |d8=>cases rx; exact SeqAt.EqAt.same _
  |bl b=>cases rx; exact SeqAt.EqAt.none_bool b
  |int b=>obtain⟨t,rfl⟩:=rx; exact SeqAt.EqAt.none_int b t
  |str b=>obtain⟨t,rfl⟩:=rx; exact SeqAt.EqAt.none_str b t
  |_=>exact absurd (show false=true from fx) aV
 |bl a=>
  cases ry
  cases x with
  |d8=>cases rx; exact SeqAt.EqAt.bool_none a
  |bl b=>cases rx; exact SeqAt.EqAt.bool_bool a b
  |int b=>obtain⟨t,rfl⟩:=rx; exact SeqAt.EqAt.bool_int a b t
  |str b=>obtain⟨t,rfl⟩:=rx; exact SeqAt.EqAt.bool_str a b t
  |_=>exact absurd (show false=true from fx) aV
 |int a=>
  obtain⟨t',rfl⟩:=ry
  cases x with
  |d8=>cases rx; exact SeqAt.EqAt.int_none a t'
  |bl b=>cases rx; exact SeqAt.EqAt.int_bool a t' b
  |int b=>obtain⟨t,rfl⟩:=rx; exact SeqAt.EqAt.int_int a t' b t
  |str b=>obtain⟨t,rfl⟩:=rx; exact SeqAt.EqAt.int_str a t' b t
  |_=>exact absurd (show false=true from fx) aV
 |str a=>
  obtain⟨t',rfl⟩:=ry
  cases x with
  |d8=>cases rx; exact SeqAt.EqAt.str_none a t'
  |bl b=>cases rx; exact SeqAt.EqAt.str_bool a t' b
  |int b=>obtain⟨t,rfl⟩:=rx; exact SeqAt.EqAt.str_int a t' b t
  |str b=>obtain⟨t,rfl⟩:=rx; exact SeqAt.EqAt.str_str a t' b t
  |_=>exact absurd (show false=true from fx) aV
 |_=>exact absurd (show false=true from fy) aV
def CQ (x:V)(u:Value):Bool:=match u with
 | .none=>KC .d8 x
 | .bool b=>KC (.bl b) x
 | .int i _=>KC (.int i) x
 | .str z _=>KC (.str z) x
 |_=>false
theorem HN {x y:V}{u:Value}(r:RelV y u)(f:sx y=true):CQ x u=KC y x:=by
 cases y with
 |d8=>cases r; rfl
 |bl b=>cases r; rfl
 |int i=>obtain⟨t,rfl⟩:=r; rfl
 |str z=>obtain⟨t,rfl⟩:=r; rfl
 |_=>exact absurd (show false=true from f) aV
theorem qk {x:V}: ∀{xs:List V} {us:List Value},Vals xs us->xs.all sx=true->us.any (CQ x)=xs.any fun y=>KC y x
 |_,_,.nil,_=>rfl
 |y :: xs,u :: us,.cons r t,f=>by
  rw[List.all_cons,Hn] at f
  rw[tf,tf,HN r f.1,qk t f.2]
theorem mC {A:Around}{s:Shared}{x:V}{v:Value}(rx:RelV x v)(fx:sx x=true): ∀{xs:List V} {us:List Value},Vals xs us->xs.all sx=true-> ∀u∈us,SeqAt.EqAt A s u v (CQ x u)
 |_,_,.nil,_=>fun u hu=>by cases hu
 |y :: xs,u :: us,.cons r t,f=>fun u' hu=>by
  rw[List.all_cons,Hn] at f
  rcases aw.mp hu with rfl|hu
  ·rw[HN r f.1]; exact Ng r rx f.1 fx
  ·exact mC rx fx t f.2 u' hu
def wg (x:V)(xs:List V):Bool:=xs.any fun y=>KC y x
def Xw (K:PySem.W.Frag)(neg:Bool):R2:=fun x y H Q=> ∃p xs,y= .ref p/\(bE K H p xs∨cm K H p xs)/\sx x=true/\xs.all sx=true/\Q (.bl (if neg then !wg x xs else wg x xs)) H
theorem nL:ox X (compareOp .In) (Xw X.K false):=by
 intro pins s σ H x y v u Q I rx ry h
 obtain⟨p,xs,rfl,hq,fx,fs,q⟩:=h
 cases ry
 rcases hq with hq|hq
 ·obtain⟨bY,r,pl,hz⟩:=I.list hq
  refine SeqAt.in_listAt (CQ x) pl.isList (fun w hw=>mC rx fx r fs w (by simpa using hw)) ⟨.bl _,H,I,rfl,?_⟩
  rw[show bY.toArray.any (CQ x)=bY.any (CQ x) by simp,qk r fs]
  exact q
 ·obtain⟨bY,r,pl,hz⟩:=I.tuple hq
  refine SeqAt.in_tupleAt (CQ x) pl (fun w hw=>mC rx fx r fs w (by simpa using hw)) ⟨.bl _,H,I,rfl,?_⟩
  rw[show bY.toArray.any (CQ x)=bY.any (CQ x) by simp,qk r fs]
  exact q
theorem yE:ox X (compareOp .NotIn) (Xw X.K true):=by
 intro pins s σ H x y v u Q I rx ry h
 obtain⟨p,xs,rfl,hq,fx,fs,q⟩:=h
 cases ry
 rcases hq with hq|hq
 ·obtain⟨bY,r,pl,hz⟩:=I.list hq
  refine SeqAt.notIn_listAt (CQ x) pl.isList (fun w hw=>mC rx fx r fs w (by simpa using hw)) ⟨.bl _,H,I,rfl,?_⟩
  rw[show bY.toArray.any (CQ x)=bY.any (CQ x) by simp,qk r fs]
  exact q
 ·obtain⟨bY,r,pl,hz⟩:=I.tuple hq
  refine SeqAt.notIn_tupleAt (CQ x) pl (fun w hw=>mC rx fx r fs w (by simpa using hw)) ⟨.bl _,H,I,rfl,?_⟩
  rw[show bY.toArray.any (CQ x)=bY.any (CQ x) by simp,qk r fs]
  exact q
theorem yF:iY X (.builtin "len") (fun xs H Q=> ∃p ys,xs=[.ref p]/\(bE X.K H p ys∨cm X.K H p ys)/\Q (.int ys.length) H):=by
 intro pins s σ H xs us Q I r h
 obtain⟨p,ys,rfl,hq,q⟩:=h
 obtain⟨u,rfl,rx⟩:=vals1 r
 cases rx
 have hn:=yw
 rcases hq with hq|hq
 ·obtain⟨bY,r',pl,hz⟩:=I.list hq
  have hlen:=r'.length
  exact Calls.call_len_list pl.isList (by simp only[List.size_toArray] <;> lia) ⟨.int ys.length,H,I.tok _,⟨s.toks + 1,by rw[List.size_toArray,hlen]⟩,q⟩
 ·obtain⟨bY,r',pl,hz⟩:=I.tuple hq
  have hlen:=r'.length
  exact len_tuple pl (by simp only[List.size_toArray] <;> lia) ⟨.int ys.length,H,I.tok _,⟨s.toks + 1,by rw[List.size_toArray,hlen]⟩,q⟩
theorem ql:iY X (.type "list") (fun xs H Q=> ∃p ys,xs=[.ref p]/\(bE X.K H p ys∨cm X.K H p ys)/\ ∀l,H l=none->Q (.ref l) (upd H l (.lst ys))):=by
 intro pins s σ H xs us Q I r h
 obtain⟨p,ys,rfl,hq,q⟩:=h
 obtain⟨u,rfl,rx⟩:=vals1 r
 cases rx
 have fin: ∀(bY:List Value),Vals ys bY->ys.length<=sizeLine-> ∀(h':Heap) (c':Nat),(∀b o',s.heap.get? b=some o'->h'.get? b=some o')->
   h'.get? s.heap.objs.size=some {cls:= .type "list",dict:=none,data:= .seq bY.toArray c',slots:= #[]}->EP X pins σ Q (.ref s.heap.objs.size) {s with heap:=h'}:=fun bY r' hz h' c' kp e=>
  ⟨.ref s.heap.objs.size,_,I.laid (t':=s.toks) kp (aC _) (show dr X.prog X.w _ h' _ (.lst ys) from⟨hz,bY,c',r',e⟩),rfl,q _ (I.cw.fresh (aC _))⟩
 rcases hq with hq|hq
 ·obtain⟨bY,r',pl,hz⟩:=I.list hq
  have hlen:=r'.length
  obtain⟨o,ho,hc,n,hd⟩:=pl.isList
  exact call_list_seq p (.inl rfl) ho hc hd (fun h' c' kp e=>fin bY r' hz h' c' kp e) (by simp only[List.size_toArray] <;> lia)
 ·obtain⟨bY,r',pl,hz⟩:=I.tuple hq
  have hlen:=r'.length
  obtain⟨o,ho,hc,n,hd⟩:=pl
  exact call_list_seq p (.inr rfl) ho hc hd (fun h' c' kp e=>fin bY r' hz h' c' kp e) (by simp only[List.size_toArray] <;> lia)
theorem wj:iY X (.type "tuple") (fun xs H Q=> ∃p ys,xs=[.ref p]/\((bE X.K H p ys/\ ∀l,H l=none->Q (.ref l) (upd H l (.tup ys)))∨(cm X.K H p ys/\Q (.ref p) H))):=by
 intro pins s σ H xs us Q I r h
 obtain⟨p,ys,rfl,h⟩:=h
 obtain⟨u,rfl,rx⟩:=vals1 r
 cases rx
 rcases h with⟨hq,q⟩|⟨hq,q⟩
 ·obtain⟨bY,r',pl,hz⟩:=I.list hq
  have hlen:=r'.length
  refine call_tuple_list pl.isList (fun h' kp=>?_) (by simp only[List.size_toArray] <;> lia)
  have I1:Inv X pins σ H {s with heap:=h'}:=I.kept (t':=s.toks) kp
  have I2:Inv X pins σ (upd H h'.objs.size (.tup ys)) {s with heap:=h'.push {cls:= .type "tuple",data:= .seq bY.toArray}}:=
   I1.laid (t':=s.toks) (fun b o e=>ay _ e) (aC _) (show dr X.prog X.w _ _ _ (.tup ys) from⟨hz,bY,r',IsTup.new _ _⟩)
  exact⟨.ref h'.objs.size,_,I2,rfl,q _ (I1.cw.fresh (aC _))⟩
 ·obtain⟨bY,r',pl,hz⟩:=I.tuple hq
  exact call_tuple_same pl ⟨.ref p,H,I,rfl,q⟩
def UJ (K:PySem.W.Frag)(T:String)(x:V)(H:Hp):Prop:=match x with
 | .str _=>T="str"
 | .int _=>T="int"
 | .ref p=>(T="list"/\ ∃xs,bE K H p xs)∨(T="tuple"/\ ∃o,K.lookup p=some o/\o.cls= .type "tuple"/\o.dict=none)∨
   (T="dict"/\((∃a9,H p=some (.dK a9))∨ ∃a9,H p=some (.dT a9)))∨(T="set"/\ ∃S n,H p=some (.set S n))
 |_=>False
theorem HP {pins:List (Addr×Obj)}{σ:St}{H:Hp}{s:Shared}{T:String}{x:V}{v:Value}(I:Inv X pins σ H s)(r:RelV x v)(ty:UJ X.K T x H):
  s.TypeIs v T/\ ∀a,v= .ref a-> ∃ob,s.heap.get? a=some ob/\ob.dict=none:=by
 cases x with
 |str z=>
  obtain⟨t,rfl⟩:=r
  cases(show T="str" from ty)
  exact⟨typeIs_str s z t,fun _ e=>nomatch e⟩
 |int i=>
  obtain⟨t,rfl⟩:=r
  cases(show T="int" from ty)
  exact⟨typeIs_int s i t,fun _ e=>nomatch e⟩
 |ref p=>
  cases r
  rcases ty with⟨rfl,xs,hq⟩|⟨rfl,o,hk,hc,hd⟩|⟨rfl,hk⟩|⟨rfl,S,n,hk⟩
  ·obtain⟨bY,_,pl,_⟩:=I.list hq
   refine⟨pl.isList.typeIs,fun a e=>?_⟩
   cases e
   obtain⟨o,n,e,c,hd,_⟩:=pl
   exact⟨o,e,hd⟩
  ·refine⟨⟨o,I.gE p o hk,hc⟩,fun a e=>?_⟩
   cases e
   exact⟨o,I.gE _ o hk,hd⟩
  ·have z: ∃o,s.heap.get? p=some o/\o.ExactDict:=by
    rcases hk with⟨a9,hk⟩|⟨a9,hk⟩
    ·obtain⟨_,_,_,_,o,_,_,e,ex,_⟩:=I.cw p _ hk
     exact⟨o,e,ex⟩
    ·obtain⟨_,_,_,_,o,_,_,e,ex,_⟩:=I.cw p _ hk
     exact⟨o,e,ex⟩
   obtain⟨o,e,ex⟩:=z
   refine⟨⟨o,e,ex.1⟩,fun a e2=>?_⟩
   cases e2
   exact⟨o,e,ex.2.1⟩
  ·obtain⟨o,_,_,_,e,ex,_⟩:=I.cw p _ hk
   refine⟨⟨o,e,ex.1⟩,fun a e2=>?_⟩
   cases e2
   exact⟨o,e,ex.2.1⟩
 |_=>exact False.elim ty
def UK (K:PySem.W.Frag)(T:String)(r:V->List V->Hp->VK->Prop)(to:TE):TE:=fun σ H Q=>to σ H fun x H1=>UJ K T x H1/\r x [] H1 Q
def Xx (K:PySem.W.Frag)(T:String)(r:V->List V->Hp->VK->Prop)(to:TE)(t:TA):TE:=fun σ H Q=>to σ H fun x H1=>UJ K T x H1/\t σ H1 fun xs H2=>r x xs H2 Q
variable {o e:Expr}{es:List Expr}{to:TE}{t:TA}{name:Str}{apos gv:Pos}{T id:String}{r:V->List V->Hp->VK->Prop}
theorem Nh (pa:PlainAttrs T)(slot:Slot T name id)(S9:typeOf (.builtin id)=pure (.type "method_descriptor"))(hm:Xv X id r)(ho:PE X o to)
  (qm:attributeBase o name X.env (eval o X.env)=eval o X.env:=by rfl) (uB:(apos.endLine == gv.line)=true:=by rfl):PE X (.Call (.Attribute o name apos) [] [] gv) (UK X.K T r to):=by
 intro pins s σ H Q I h
 refine wpAny_Call_method0_late qm uB (dP (ho pins s σ H _ I h) fun v s1 ⟨x,H1,I1,r1,ty,q1⟩=>?_)
 obtain⟨h1,h2⟩:=HP I1 r1 ty
 exact⟨T,id,pa,slot,S9,h1,h2,iJ rfl (PySem.evalArgs_none (hm pins s1 σ H1 x [] v [] Q I1 r1 .nil q1))⟩
theorem Qt (pa:PlainAttrs T)(slot:Slot T name id)(S9:typeOf (.builtin id)=pure (.type "method_descriptor"))(hm:Xv X id r)(ho:PE X o to)(ha:PA X (e :: es) t)
  (qm:attributeBase o name X.env (eval o X.env)=eval o X.env:=by rfl)
  (Ni:((backTo gv (starEach (e :: es) X.env)).all (fun x=> !x.1) && (backToKw gv (keywordEach [] X.env)).all (fun x=>x.1.isSome)
   && decide ((e :: es).length + ([]:List Keyword).length + (if([]:List Keyword).isEmpty then 0 else 1) < 30))=true:=by rfl)
  (uB:(apos.endLine == gv.line)=true:=by rfl) (hs:starEach (e :: es) X.env=(false,eval e X.env) :: starEach es X.env:=by rfl) (uC:(backTo gv (starEach es X.env)).any (·.1)=false:=by rfl):
  PE X (.Call (.Attribute o name apos) (e :: es) [] gv) (Xx X.K T r to t):=by
 intro pins s σ H Q I h
 refine wpAny_Call_method_late qm Ni uB rfl (dP (ho pins s σ H _ I h) fun v s1 ⟨x,H1,I1,r1,ty,q1⟩=>?_)
 obtain⟨h1,h2⟩:=HP I1 r1 ty
 refine⟨T,id,pa,slot,S9,h1,h2,?_⟩
 have hA:=ha gv pins s1 σ H1 _ I1 q1
 rw[hs] at hA ⊢
 refine iJ (by show(false || (backTo gv (starEach es X.env)).any (·.1))=false; rw[uC] <;> rfl) (E7 ?_)
 exact dP hA fun us s2 ⟨vs,H2,I2,r2,q2⟩=>hm pins s2 σ H2 x vs v us Q I2 r1 r2 q2
end
def Xy (X:Cx)(id:String)(r:V->List V->Hp->VK->Prop):Prop:=
 ∀(pins:List (Addr×Obj)) (s:Shared) (σ:St) (H:Hp) (x:V) (xs:List V) (v:Value) (us:List Value) (Q:VK),Inv X pins σ H s->RelV x v->Vals xs us->r x xs H Q->
  wpAny (model X.prog X.w) X.A (call (.builtin id) (v :: us)) (EP X pins σ Q) X.xe s
theorem Vals.one: ∀{x:V} {us:List Value},Vals [x] us-> ∃u,us=[u]/\RelV x u
 |_,_,.cons r .nil=>⟨_,rfl,r⟩
theorem Vals.zero: ∀{us:List Value},Vals [] us->us=[]
 |_,.nil=>rfl
theorem Vals.dropLast {xs:List V}{us:List Value}(h:Vals xs us):Vals xs.dropLast us.dropLast:=by
 induction h with
 |nil=>exact .nil
 |cons r t ih=>
  cases t with
  |nil=>exact .nil
  |cons q t'=>exact .cons r ih
theorem Vals.rep {xs:List V}{us:List Value}(h:Vals xs us): ∀k:Nat,Vals (List.replicate k xs).flatten (List.replicate k us).flatten
 |0=> .nil
 |k + 1=>by
  rw[c8,c8,iK,iK]
  exact Vals.append h (Vals.rep h k)
theorem CS {α:Type}(l:List α):l.eraseIdx (l.length - 1)=l.dropLast:=by
 induction l with
 |nil=>rfl
 |cons a r ih=>
  cases r with
  |nil=>rfl
  |cons b r=>
   have e:(a :: b :: r).length - 1=((b :: r).length - 1) + 1:=by
    have h1:(a :: b :: r).length=r.length + 2:=rfl
    have h2:(b :: r).length=r.length + 1:=rfl
    lia
   rw[e,List.eraseIdx_cons_succ,ih]
   all_goals rfl
theorem foldl_rep (bY:List Value): ∀(k:Nat) (acc:List Value),
  List.foldl (fun x1 x2=>x1 ++ x2) acc.toArray (List.replicate k bY.toArray)=(acc ++ (List.replicate k bY).flatten).toArray
 |0,acc=>by simp
 |k + 1,acc=>by
  have e:acc.toArray ++ bY.toArray=(acc ++ bY).toArray:=by simp
  have e2:(acc ++ bY) ++ (List.replicate k bY).flatten=acc ++ (List.replicate (k + 1) bY).flatten:=by
   rw[c8,iK,gq]
  rw[← e2,← foldl_rep bY k (acc ++ bY),← e,c8,fF]
section
variable {X:Cx}{pins:List (Addr×Obj)}{σ:St}{H:Hp}{s:Shared}{l b:Addr}{xs ys zs:List V}
theorem Inv.Qu {bY pZ:List Value}{n:Nat}{f:Array Value->Array Value}{t':Nat}(I:Inv X pins σ H s)(hH:H l=some (.lst xs))
  (e:s.heap.get? l=some {cls:= .type "list",data:= .seq bY.toArray n}) (hf:f bY.toArray=pZ.toArray) (hv:Vals ys pZ) (hz:ys.length<=sizeLine):
  Inv X pins σ (upd H l (.lst ys)) {s with heap:=s.heap.update l (Obj.mapSeq f),toks:=t'}:=by
 have q:=PySem.IsL.update e f
 rw[hf] at q
 refine I.write (x:=l) (e:=l) (by rw[hH]; exact trivial) (.inl rfl) (fun b' u hb hu=>(mr s.heap (Obj.mapSeq f) (vW hb)).trans hu) ⟨_,q⟩ ?_
 exact⟨hz,pZ,_,hv,q⟩
theorem Inv.Nj {bY:List Value}{t':Nat}(I:Inv X pins σ H s)(hv:Vals ys bY)(hz:ys.length<=sizeLine):
  Inv X pins σ (upd H s.heap.objs.size (.lst ys)) {s with heap:=s.heap.push {cls:= .type "list",data:= .seq bY.toArray},toks:=t'}:=
 I.laid (fun _ _ q=>ay _ q) (aC _) ⟨hz,bY,0,hv,bK _ rfl⟩
theorem Inv.fresh (I:Inv X pins σ H s):H s.heap.objs.size=none:=I.cw.fresh (aC _)
theorem Inv.HQ (I:Inv X pins σ H s)(hH:H l=some (.lst xs)):xs.length<=sizeLine/\ ∃(bY:List Value) (n:Nat),Vals xs bY/\xs.length=bY.length/\s.heap.get? l=some {cls:= .type "list",data:= .seq bY.toArray n}:=by
 obtain⟨z,bY,n,r,e⟩:=I.cw l _ hH
 exact⟨z,bY,n,r,r.length,e⟩
theorem HR {n:Nat}(h:n<=sizeLine):Builtin.List.listTooLong n=false:=by
 unfold Builtin.List.listTooLong
 exact bf (by lia)
end
section
variable {X:Cx}
inductive UL (x:V)(vs:List V)(H:Hp)(k:Addr->List V->V->Prop):Prop
 |mk (l:Addr)(xs:List V)(y:V)(h1:x= .ref l)(h2:vs=[y])(h3:H l=some (.lst xs))(h4:xs.length < sizeLine)(q:k l xs y):UL x vs H k
def D9:V->List V->Hp->VK->Prop:=fun x vs H Q=>UL x vs H fun l xs y=>Q .d8 (upd H l (.lst (xs ++ [y])))
theorem xG:Xy X "list.append" D9:=by
 intro pins s σ H x vs v us Q I rx rv h
 obtain⟨l,xs,y,rfl,rfl,hH,hz,q⟩:=h
 cases rx
 obtain⟨u,rfl,ru⟩:=rv.one
 obtain⟨z,bY,n,r,hl,e⟩:=I.HQ hH
 refine call_meets F.slot_list_append ⟨_,e,rfl⟩ F.entry_list_append (F.args_list_append_2 _ _) (PySem.list_append l bY.toArray n u (by rw[bw]; lia)) ⟨e,?_⟩
 refine⟨.d8,_,I.Qu (pZ:=bY ++ [u]) hH e (by simp) (r.append (.cons ru .nil)) ?_,rfl,q⟩
 rw[aH,List.length_singleton]
 lia
def UM:V->List V->Hp->VK->Prop:=fun x vs H Q=> ∃l xs y,x= .ref l/\vs=[]/\H l=some (.lst xs)/\xs[xs.length - 1]? =some y/\Q y (upd H l (.lst xs.dropLast))
theorem Nk:Xy X "list.pop" UM:=by
 intro pins s σ H x vs v us Q I rx rv h
 obtain⟨l,xs,y,rfl,rfl,hH,hy,q⟩:=h
 cases rx
 have Qv:=rv.zero
 subst Qv
 obtain⟨z,bY,n,r,hl,e⟩:=I.HQ hH
 obtain⟨u,hu,ru⟩:=r.get hy
 have Zp:bY.toArray[bY.toArray.size - 1]? =some u:=by
  show bY.toArray[bY.length - 1]? =some u
  rw[← Array.getElem?_toList,← hl]
  exact hu
 refine call_meets F.slot_list_pop ⟨_,e,rfl⟩ F.entry_list_pop (F.args_list_pop_1 _) (MeetsSeq.list_pop_last l bY.toArray n u Zp (by rw[bw]; lia)) ⟨e,?_⟩
 refine⟨y,_,I.Qu (pZ:=bY.dropLast) hH e ?_ r.dropLast ?_,ru,q⟩
 ·show bY.toArray.eraseIdxIfInBounds (bY.toArray.size - 1)=bY.dropLast.toArray
  rw[bw,List.eraseIdxIfInBounds_toArray,CS]
 ·rw[List.length_dropLast]
  lia
def Qw:R2:=fun x y H Q=> ∃l b xs zs,x= .ref l/\y= .ref b/\H l=some (.lst xs)/\H b=some (.lst zs)/\xs.length + zs.length<=sizeLine/\ ∀p,H p=none->Q (.ref p) (upd H p (.lst (xs ++ zs)))
theorem o4:ox X (binaryOp .Add) Qw:=by
 intro pins s σ H x y v u Q I rx ry h
 obtain⟨l,b,xs,zs,rfl,rfl,hH,hB,hz,q⟩:=h
 cases rx
 cases ry
 obtain⟨z,bY,n,r,hl,e⟩:=I.HQ hH
 obtain⟨z2,Fw,n2,r2,hl2,e2⟩:=I.HQ hB
 refine PySem.P.add_list e e2 ?_ (by rw[bw,bw]; lia)
 have ea:bY.toArray ++ Fw.toArray=(bY ++ Fw).toArray:=by simp
 rw[ea]
 exact⟨.ref _,_,I.Nj (t':=s.toks) (r.append r2) (by rw[aH]; lia),rfl,q _ I.fresh⟩
def Qx:R2:=fun x y H Q=> ∃l k xs,x= .ref l/\y= .int k/\H l=some (.lst xs)/\ -(2 ^ 63)<=k/\k < 2 ^ 63/\xs.length * k.toNat<=sizeLine/\
 ∀p,H p=none->Q (.ref p) (upd H p (.lst (List.replicate k.toNat xs).flatten))
theorem len_rep {α:Type}(xs:List α)(k:Nat):(List.replicate k xs).flatten.length=k * xs.length:=by
 induction k with
 |zero=>simp
 |succ k ih=>rw[c8,iK,aH,ih,vZ,Nat.add_comm]
theorem yG:ox X (binaryOp .Mult) Qx:=by
 intro pins s σ H x y v u Q I rx ry h
 obtain⟨l,k,xs,rfl,rfl,hH,h1,h2,hz,q⟩:=h
 cases rx
 obtain⟨t,rfl⟩:=ry
 obtain⟨z,bY,n,r,hl,e⟩:=I.HQ hH
 have hlen:bY.toArray.size * k.toNat<=sizeLine:=by rw[bw,← hl]; exact hz
 have UN: ¬ bY.toArray.size * k.toNat > (2 ^ 63 - 1) / 8:=by
  have:(sizeLine:Nat)<=(2 ^ 63 - 1) / 8:=by decide
  lia
 have UO: ¬ (!Builtin.List.listFitsIndex k)=true:=by
  rw[fitsIndex_both h1 h2]
  exact aV
 have Qy: ¬ Builtin.List.listTooLong (bY.toArray.size * k.toNat)=true:=by
  rw[HR hlen]
  exact aV
 have UP:List.foldl (fun x1 x2=>x1 ++ x2) #[] (List.replicate (if bY.toArray.isEmpty=true then 0 else k.toNat) bY.toArray)=(List.replicate k.toNat bY).flatten.toArray:=by
  have f0: ∀m:Nat,List.foldl (fun x1 x2=>x1 ++ x2) #[] (List.replicate m bY.toArray)=(List.replicate m bY).flatten.toArray:=fun m=>by
   have:=foldl_rep bY m []
   rw[List.nil_append] at this
   exact this
  rw[f0]
  cases bY with
  |nil=>simp
  |cons a r'=>rw[if_neg (by simp)]
 refine wpAny_binaryOp_repeat_ref (T:="list") (U:="int") (by decide) ⟨_,e,rfl⟩ (fun s'=>typeIs_int s' k t) noFill_list_mul F.fills_int_mul F.slot_int_rmul repeat_list F.slot_int_index.lookup
  (call_meets F.slot_int_rmul (typeIs_int s k t) F.entry_int_rmul (F.args_int_rmul_2 _ _) (int___rmul___int_list k t l bY.toArray n)
   ⟨e,rfl,⟨_,e,rfl⟩,call_meets F.slot_list_mul ⟨_,e,rfl⟩ F.entry_list_mul (F.args_list_mul_2 _ _) (AutoListH.list___mul___list_int_3 l bY.toArray n k t UO UN Qy) ⟨e,?_⟩⟩)
 rw[UP]
 exact⟨.ref _,_,I.Nj (t':=s.toks) (r.rep k.toNat) (by rw[len_rep,Nat.mul_comm]; exact hz),rfl,q _ I.fresh⟩
end
section
variable {prog:Program}{w:World}{A:Around}{E:Value->Shared->Prop}{s:Shared}
end
section
variable {X:Cx}
end
section
variable {κ:Type}[DecidableEq κ]
def fW (a9:List (κ×V))(k:κ):Option V:=(a9.find? fun kv=>decide (kv.1=k)).map (·.2)
def putK (a9:List (κ×V))(k:κ)(v:V):List (κ×V):=
 if(a9.any fun kv=>decide (kv.1=k))=true then a9.map (fun kv=>if kv.1=k then(kv.1,v) else kv) else a9 ++ [(k,v)]
def kW (a9:List (κ×V))(k:κ):List (κ×V):=a9.filter fun kv=>decide (kv.1≠k)
theorem fz {p:κ×V}{r:List (κ×V)}{k:κ}(e:p.1=k):fW (p :: r) k=some p.2:=by simp[fW,List.find?_cons,e]
theorem fe {p:κ×V}{r:List (κ×V)}{k:κ}(e: ¬ p.1=k):fW (p :: r) k=fW r k:=by simp[fW,List.find?_cons,e]
theorem mD (k:κ): ∀a9:List (κ×V),(a9.any fun kv=>decide (kv.1=k))=(fW a9 k).isSome
 |[]=>rfl
 |p :: r=>by
  rw[tf]
  by_cases e:p.1=k
  ·simp only[fz e,decide_eq_true e,Bool.true_or,Option.isSome_some]
  ·rw[fe e,bf e,Bool.false_or]; exact mD k r
theorem AW (k j:κ)(y:V): ∀a9:List (κ×V),fW (a9.map fun kv=>if kv.1=k then(kv.1,y) else kv) j=(fW a9 j).map fun x=>if j=k then y else x
 |[]=>rfl
 |p :: r=>by
  have ih:=AW k j y r
  rw[cU]
  by_cases h:p.1=k
  ·rw[a7 h]
   by_cases e:p.1=j
   ·rw[fz (p:=(p.1,y)) e,fz e,nV,a7 (e.symm.trans h)]
   ·rw[fe (p:=(p.1,y)) e,fe e,ih]
  ·rw[aQ h]
   by_cases e:p.1=j
   ·rw[fz (p:=p) e,fz e,nV,aQ (fun z=>h (e.trans z))]
   ·rw[fe (p:=p) e,fe e,ih]
theorem xH (k j:κ)(y:V): ∀a9:List (κ×V),fW a9 k=none->fW (a9 ++ [(k,y)]) j=if j=k then some y else fW a9 j
 |[],_=>by
  by_cases e:k=j
  ·rw[a7 e.symm]; exact fz (p:=(k,y)) e
  ·rw[aQ (fun z=>e z.symm)]; exact fe (p:=(k,y)) e
 |p :: r,hn=>by
  rw[List.cons_append]
  have hk: ¬ p.1=k:=fun z=>by rw[fz z] at hn; cases hn
  rw[fe hk] at hn
  have ih:=xH k j y r hn
  by_cases e:p.1=j
  ·rw[fz e,fz e,aQ (fun z=>hk (e.trans z))]
  ·rw[fe e,fe e,ih]
theorem HS (a9:List (κ×V))(k j:κ)(y:V):fW (putK a9 k y) j=if j=k then some y else fW a9 j:=by
 unfold putK
 by_cases a:(a9.any fun kv=>decide (kv.1=k))=true
 ·rw[a7 a,AW]
  rw[mD] at a
  by_cases e:j=k
  ·obtain⟨x,hx⟩:=O7.mp a
   rw[a7 e,e,hx,nV,a7 rfl]
  ·rw[aQ e]
   cases fW a9 j with
   |none=>rfl
   |some x=>rw[nV,aQ e]
 ·rw[aQ a]
  refine xH k j y a9 ?_
  rw[mD] at a
  cases q:fW a9 k with
  |none=>rfl
  |some x=>rw[q] at a; exact(a rfl).elim
theorem kg (a9:List (κ×V))(k:κ)(v:V):(putK a9 k v).length<=a9.length + 1:=by
 unfold putK
 split
 ·rw[ae]; lia
 ·rw[aH,bZ,v7]; lia
theorem HU {a9:List (κ×V)}{k:κ}(v:V)(h:fW a9 k=none):putK a9 k v=a9 ++ [(k,v)]:=by
 unfold putK
 rw[mD,h]
 exact aQ (by decide)
theorem kO.kX {o:Option V}{u:Option Value}(r:kO o u):o.isSome=u.isSome:=by
 cases o with
 |none=>cases u with
  |none=>rfl
  |some _=>exact(show False from r).elim
 |some _=>cases u with
  |none=>exact(show False from r).elim
  |some _=>rfl
theorem KV.val {a9:List (κ×V)}{vs:List (κ×Value)}(r:KV a9 vs)(k:κ):kO (fW a9 k) (valueAt vs k):=by
 unfold KV at r
 induction r with
 |nil=>exact True.intro
 | @cons p q ps qs h t ih=>
  obtain⟨h1,h2⟩:=h
  by_cases e:p.1=k
  ·have e':q.1=k:=h1.symm.trans e
   have b:valueAt (q :: qs) k=some q.2:=by simp[valueAt,List.find?_cons,e']
   rw[fz e,b]; exact h2
  ·have e': ¬ q.1=k:=fun z=>e (h1.trans z)
   have b:valueAt (q :: qs) k=valueAt qs k:=by simp[valueAt,List.find?_cons,e']
   rw[fe e,b]; exact ih
theorem KV.any {a9:List (κ×V)}{vs:List (κ×Value)}(r:KV a9 vs)(k:κ):(a9.any fun kv=>decide (kv.1=k))=vs.any fun kv=>decide (kv.1=k):=by
 unfold KV at r
 induction r with
 |nil=>rfl
 |cons h t ih=>rw[tf,tf,ih,h.1]
theorem KV.Nl {a9:List (κ×V)}{vs:List (κ×Value)}(r:KV a9 vs)(k:κ){y:V}{u:Value}(ry:RelV y u):
  KV (a9.map fun kv=>if kv.1=k then(kv.1,y) else kv) (vs.map fun kv=>if kv.1=k then(kv.1,u) else kv):=by
 unfold KV at r ⊢
 induction r with
 |nil=>exact .nil
 | @cons p q ps qs h t ih=>
  rw[cU,cU]
  refine .cons ?_ ih
  obtain⟨h1,h2⟩:=h
  by_cases e:p.1=k
  ·rw[a7 e,a7 (h1.symm.trans e)]; exact⟨h1,ry⟩
  ·rw[aQ e,aQ (fun z=>e (h1.trans z))]; exact⟨h1,h2⟩
theorem KV.put {a9:List (κ×V)}{vs:List (κ×Value)}(r:KV a9 vs)(k:κ){y:V}{u:Value}(ry:RelV y u):KV (putK a9 k y) (stored vs k u):=by
 unfold putK stored
 rw[r.any k]
 by_cases e:(vs.any fun kv=>decide (kv.1=k))=true
 ·rw[a7 e,a7 e]; exact r.Nl k ry
 ·rw[aQ e,aQ e]; exact cA r ⟨rfl,ry⟩
theorem KV.drop {a9:List (κ×V)}{vs:List (κ×Value)}(r:KV a9 vs)(k:κ):KV (kW a9 k) (without vs k):=by
 unfold KV at r ⊢
 unfold kW without
 induction r with
 |nil=>exact .nil
 | @cons p q ps qs h t ih=>
  obtain⟨h1,h2⟩:=h
  rw[List.filter_cons,List.filter_cons]
  by_cases e:p.1=k
  ·have a: ¬ decide (p.1≠k)=true:=by simp[e]
   have b: ¬ decide (q.1≠k)=true:=by simp[h1.symm.trans e]
   rw[aQ a,aQ b]; exact ih
  ·have e': ¬ q.1=k:=fun z=>e (h1.trans z)
   have a:decide (p.1≠k)=true:=by simp[e]
   have b:decide (q.1≠k)=true:=by simp[e']
   rw[a7 a,a7 b]; exact .cons ⟨h1,h2⟩ ih
theorem KV.length {a9:List (κ×V)}{vs:List (κ×Value)}(r:KV a9 vs):a9.length=vs.length:=aL r
theorem HV (a9:List (κ×V))(k:κ):(kW a9 k).length<=a9.length:=aX _ _
end
theorem uD {P:Program}{w:World}{k:Key}{u:Value}(r:RelV (kV k) u):(dN P w).is k u=true:=by
 cases k with
 |inl i=>obtain⟨t,e⟩:=(show ∃t,u=Value.int i t from r); subst e; exact AF P w i t
 |inr x=>obtain⟨t,e⟩:=(show ∃t,u=Value.str x t from r); subst e; exact AG P w x t
theorem xI {P:Program}{w:World}: ∀{ks:List Key} {us:List Value},Vals (ks.map kV) us->ItemsAre (dN P w) ks us
 |[],_,r=>by rw[vY] at r; cases r; exact .nil
 |k :: ks,_,r=>by
  rw[cU] at r
  cases r with
  |cons h t=>exact .cons (uD h) (xI t)
abbrev KT (H:Hp):List (List Key×V)->List (List Key×Addr×Value)->Prop:=Paired fun p q=>p.1=q.1/\H q.2.1=some (.tup (p.1.map kV))/\RelV p.2 q.2.2
theorem KT.val {H:Hp}{a9:List (List Key×V)}{xs:List (List Key×Addr×Value)}(r:KT H a9 xs)(k:List Key):kO (fW a9 k) ((atKey xs k).map (·.2)):=by
 induction r with
 |nil=>exact True.intro
 | @cons p q ps qs h t ih=>
  obtain⟨h1,_,h2⟩:=h
  by_cases e:p.1=k
  ·have e':q.1=k:=h1.symm.trans e
   have b:atKey (q :: qs) k=some q.2:=by simp[atKey,List.find?_cons,e']
   rw[fz e,b]; exact h2
  ·have e': ¬ q.1=k:=fun z=>e (h1.trans z)
   have b:atKey (q :: qs) k=atKey qs k:=by simp[atKey,List.find?_cons,e']
   rw[fe e,b]; exact ih
theorem KT.Nl {H:Hp}{a9:List (List Key×V)}{xs:List (List Key×Addr×Value)}(r:KT H a9 xs)(k:List Key){y:V}{u:Value}(ry:RelV y u):
  KT H (a9.map fun kv=>if kv.1=k then(kv.1,y) else kv) (xs.map (putAt k u)):=by
 induction r with
 |nil=>exact .nil
 | @cons p q ps qs h t ih=>
  rw[cU,cU]
  refine .cons ?_ ih
  obtain⟨h1,h2,h3⟩:=h
  unfold putAt
  by_cases e:p.1=k
  ·rw[a7 e,a7 (h1.symm.trans e)]; exact⟨h1,h2,ry⟩
  ·rw[aQ e,aQ (fun z=>e (h1.trans z))]; exact⟨h1,h2,h3⟩
theorem KT.put {H:Hp}{a9:List (List Key×V)}{xs:List (List Key×Addr×Value)}(r:KT H a9 xs)(k:List Key){b:Addr}{y:V}{u:Value}(hb:H b=some (.tup (k.map kV)))(ry:RelV y u):
  KT H (putK a9 k y) (storedH xs k b u):=by
 have e:(a9.any fun kv=>decide (kv.1=k))=(atKey xs k).isSome:=by
  rw[mD,(r.val k).kX,E8]
 unfold putK storedH
 rw[e]
 by_cases q:(atKey xs k).isSome=true
 ·rw[a7 q,a7 q]; exact r.Nl k ry
 ·rw[aQ q,aQ q]; exact cA r ⟨rfl,hb,ry⟩
theorem KT.keeps {H H':Hp}{a9:List (List Key×V)}{xs:List (List Key×Addr×Value)}(r:KT H a9 xs)(ht: ∀b ys,H b=some (.tup ys)->H' b=some (.tup ys)):KT H' a9 xs:=
 Paired.gR r fun _ _ z=>⟨z.1,ht _ _ z.2.1,z.2.2⟩
section
variable {P:Program}{w:World}{H:Hp}{h:Heap}{a:Addr}
theorem Mf {u:HO}(ok:nY P w H h)(e:Rd H a u):dr P w H h a u:=e.ok ok
theorem uE {a9:List (Key×V)}(ok:nY P w H h)(e:Rd H a (.dK a9)):a9.length<=sizeLine/\(a == sysModules)=false/\ ∃vs,KV a9 vs/\h.DictOf (dN P w) a vs:=
 show dr P w H h a (.dK a9) from Mf ok e
theorem Ea {a9:List (Key×V)}(ok:nY P w H h)(e:H a=some (.dK a9)):a9.length<=sizeLine/\(a == sysModules)=false/\ ∃vs,KV a9 vs/\h.DictOf (dN P w) a vs:=uE ok (.inl e)
theorem uF {ks:List Key}(ok:nY P w H h)(e:H a=some (.tup (ks.map kV))):(tupleKind (dN P w)).is h ks a:=by
 obtain⟨_,bY,r,o,h1,h2,n,h3⟩:=(show dr P w H h a (.tup (ks.map kV)) from ok a _ e)
 exact⟨o,bY.toArray,n,h1,h2,h3,by simpa using xI r⟩
theorem xJ {a9:List (List Key×V)}(ok:nY P w H h)(e:Rd H a (.dT a9)):a9.length<=sizeLine/\(a == sysModules)=false/\
  ∃xs,KT H a9 xs/\h.DictOfH (tupleKind (dN P w)) a xs:=by
 obtain⟨z,y,xs,r,o,es,ep,h1,h2,h3,h4,h5⟩:=(show dr P w H h a (.dT a9) from Mf ok e)
 refine⟨z,y,xs,r,o,es,ep,h1,h2,h3,h4,fun x hx=>?_,h5⟩
 have all: ∀{l:List (List Key×V)} {m:List (List Key×Addr×Value)},KT H l m-> ∀x∈m,(tupleKind (dN P w)).is h x.1 x.2.1:=by
  intro l m q
  induction q with
  |nil=>intro x hx; exact nomatch hx
  | @cons p q ps qs hq t ih=>
   intro x hx
   rcases aw.mp hx with e|hx
   ·subst e
    exact uF ok (by rw[← hq.1]; exact hq.2.1)
   ·exact ih x hx
 exact all r x hx
theorem Qz {a9:List (List Key×V)}(ok:nY P w H h)(e:H a=some (.dT a9)):a9.length<=sizeLine/\(a == sysModules)=false/\
  ∃xs,KT H a9 xs/\h.DictOfH (tupleKind (dN P w)) a xs:=xJ ok (.inl e)
end
def mh (H:Hp)(a:Addr)(y:V)(r:Option V):Prop:=
 (∃a9 k,Rd H a (.dK a9)/\y=kV k/\r=fW a9 k)∨ ∃a9 k b,Rd H a (.dT a9)/\y= .ref b/\H b=some (.tup (k.map kV))/\r=fW a9 k
def Fx (H:Hp)(a:Addr)(y v:V)(H':Hp):Prop:=
 (∃a9 k,H a=some (.dK a9)/\y=kV k/\a9.length < sizeLine/\H'=upd H a (.dK (putK a9 k v)))∨
 ∃a9 k b,H a=some (.dT a9)/\y= .ref b/\H b=some (.tup (k.map kV))/\a9.length < sizeLine/\H'=upd H a (.dT (putK a9 k v))
theorem mh.k {H:Hp}{a:Addr}{a9:List (Key×V)}{k:Key}(e:H a=some (.dK a9)):mh H a (kV k) (fW a9 k):= .inl ⟨a9,k,.inl e,rfl,rfl⟩
theorem Fx.k {H:Hp}{a:Addr}{a9:List (Key×V)}{k:Key}{v:V}(e:H a=some (.dK a9))(hl:a9.length < sizeLine):Fx H a (kV k) v (upd H a (.dK (putK a9 k v))):= .inl ⟨a9,k,e,rfl,hl,rfl⟩
section
variable {X:Cx}{pins:List (Addr×Obj)}{σ:St}{H:Hp}{s:Shared}{a:Addr}{y v:V}{u r:Value}{o:Option V}{A:Around}{E:Value->Shared->Prop}
theorem Inv.big (I:Inv X pins σ H s):sysModules < s.heap.objs.size:=by
 have h:mainGlobals < s.heap.objs.size:=(I.mod.glob.keeps I.bk).lt
 exact Nat.lt_trans (by decide) h
theorem Fy {Q:Value->Shared->Prop}(hu:A.units + 1 < cLine)(I:Inv X pins σ H s)(g:mh H a y (some v))(ry:RelV y u)(h: ∀w' s',Inv X pins σ H s'->RelV v w'->Q w' s'):
  wpAny (model X.prog X.w) A (getItem (.ref a) u) Q E s:=by
 rcases g with⟨a9,k,e,ey,l⟩|⟨a9,k,b,e,ey,eb,l⟩
 ·subst ey
  obtain⟨z,hd,vs,rel,dd⟩:=uE I.cw e
  obtain⟨w',hw,Fv⟩:=kO.some_of (v:=v) (o:=valueAt vs k) (by rw[l]; exact rel.val k)
  exact wpAny_getItem_of (uD ry) dd.mapOf hw (h w' _ (I.tok _) Fv)
 ·subst ey
  cases(show u=Value.ref b from ry)
  obtain⟨z,hd,xs,rel,dd⟩:=xJ I.cw e
  obtain⟨w',hw,Fv⟩:=kO.some_of (v:=v) (o:=(atKey xs k).map (·.2)) (by rw[l]; exact rel.val k)
  obtain⟨p,hp,tq⟩:=bq.mp hw
  refine wpAny_getItem_heap (tU hu) (uF I.cw eb) dd hp ?_
  rw[tq]
  exact h w' _ (I.tok _) Fv
theorem UQ {Q:Value->Shared->Prop}(hu:A.units + 1 < cLine)(I:Inv X pins σ H s)(g:mh H a y o)(ry:RelV y u)(h: ∀s',Inv X pins σ H s'->Q (.bool o.isSome) s'):
  wpAny (model X.prog X.w) A (compareOp .In u (.ref a)) Q E s:=by
 rcases g with⟨a9,k,e,ey,l⟩|⟨a9,k,b,e,ey,eb,l⟩
 ·subst ey
  obtain⟨z,hd,vs,rel,dd⟩:=uE I.cw e
  refine wpAny_in_of (uD ry) hd dd.mapOf ?_
  rw[← (rel.val k).kX,← l]
  exact h _ (I.tok _)
 ·subst ey
  cases(show u=Value.ref b from ry)
  obtain⟨z,hd,xs,rel,dd⟩:=xJ I.cw e
  refine wpAny_in_heap (tU hu) (uF I.cw eb) hd dd ?_
  have q:=(rel.val k).kX
  rw[E8] at q
  rw[← q,← l]
  exact h _ (I.tok _)
theorem KD {Q:Value->Shared->Prop}(hu:A.units + 1 < cLine)(I:Inv X pins σ H s)(g:mh H a y o)(ry:RelV y u)(h: ∀s',Inv X pins σ H s'->Q (.bool (!o.isSome)) s'):
  wpAny (model X.prog X.w) A (compareOp .NotIn u (.ref a)) Q E s:=by
 rcases g with⟨a9,k,e,ey,l⟩|⟨a9,k,b,e,ey,eb,l⟩
 ·subst ey
  obtain⟨z,hd,vs,rel,dd⟩:=uE I.cw e
  refine wpAny_notIn_of (uD ry) hd dd.mapOf ?_
  rw[← (rel.val k).kX,← l]
  exact h _ (I.tok _)
 ·subst ey
  cases(show u=Value.ref b from ry)
  obtain⟨z,hd,xs,rel,dd⟩:=xJ I.cw e
  refine wpAny_notIn_heap (tU hu) (uF I.cw eb) hd dd ?_
  have q:=(rel.val k).kX
  rw[E8] at q
  rw[← q,← l]
  exact h _ (I.tok _)
theorem tX {h':Heap}{t':Nat}{ob:HO}(I:Inv X pins σ H s)(mu:P1 (H a))(hs:Heap.SameBut a s.heap h')(he: ∃q,h'.get? a=some q)(new:dr X.prog X.w (upd H a ob) h' a ob):
  Inv X pins σ (upd H a ob) {s with heap:=h',toks:=t'}:=
 I.write (x:=a) (e:=a) mu (.inl rfl) (fun b q hb z=>(hs.2 b hb).trans z) he new
theorem yH {P:Program}{w:World}{H':Hp}{h':Heap}{a9:List (Key×V)}{vs:List (Key×Value)}(z:a9.length<=sizeLine)(hd:(a == sysModules)=false)(rel:KV a9 vs)(dd:h'.DictOf (dN P w) a vs):
  dr P w H' h' a (.dK a9):=⟨z,hd,vs,rel,dd⟩
theorem Fz {H':Hp}{Q:Unit->Shared->Prop}(hu:A.units + 1 < cLine)(I:Inv X pins σ H s)(g:Fx H a y v H')(ry:RelV y u)(rv:RelV v r)(h: ∀s',Inv X pins σ H' s'->Q () s'):
  wpAny (model X.prog X.w) A (setItem (.ref a) u r) Q E s:=by
 rcases g with⟨a9,k,e,ey,l,eH⟩|⟨a9,k,b,e,ey,eb,l,eH⟩
 ·subst ey eH
  obtain⟨z,hd,vs,rel,dd⟩:=Ea I.cw e
  have hz:vs.length<=sizeLine:=by rw[← rel.length]; exact z
  have hl:(putK a9 k v).length<=sizeLine:=by have:=kg a9 k v; lia
  refine wpAny_setItem_pairs (hsz:=hz) (uD ry) dd fun h' Eb hs=>h _ ?_
  have he: ∃q,h'.get? a=some q:=let⟨q,_,_,hq,_⟩:=Eb; ⟨q,hq⟩
  exact tX I (by rw[e]; exact True.intro) hs he (yH hl hd (rel.put k rv) Eb)
 ·subst ey eH
  cases(show u=Value.ref b from ry)
  obtain⟨z,hd,xs,rel,dd⟩:=Qz I.cw e
  have hz:xs.length<=sizeLine:=by rw[← aL rel]; exact z
  have hl:(putK a9 k v).length<=sizeLine:=by have:=kg a9 k v; lia
  refine wpAny_setItem_heap (hsz:=hz) (tU hu) (uF I.cw eb) dd fun h' Eb hs=>h _ ?_
  obtain⟨q,es,ep,hq,h2,h3,h4,_,h5⟩:=Eb
  refine tX I (by rw[e]; exact True.intro) hs ⟨q,hq⟩ ⟨hl,hd,_,(rel.put k eb rv).keeps fun c ys ec=>?_,q,es,ep,hq,h2,h3,h4,h5⟩
  rw[aA (mw ec e (fun z=>nomatch z))]
  exact ec
end
section
variable {X:Cx}{pins:List (Addr×Obj)}{σ:St}{H:Hp}{s:Shared}{a:Addr}{a9:List (Key×V)}{k:Key}{u:Value}{A:Around}{E:Value->Shared->Prop}
theorem QA {v:V}{more:List Value}{Q:Value->Shared->Prop}(I:Inv X pins σ H s)(e:H a=some (.dK a9))(ry:RelV (kV k) u)(l:fW a9 k=some v)(hm:more=[]∨ ∃x,more=[x])
  (h: ∀w' s',Inv X pins σ (upd H a (.dK (kW a9 k))) s'->RelV v w'->Q w' s'):wpAny (model X.prog X.w) A (call (.builtin "dict.pop") (.ref a :: u :: more)) Q E s:=by
 obtain⟨z,hd,vs,rel,dd⟩:=Ea I.cw e
 obtain⟨w',hw,Fv⟩:=kO.some_of (v:=v) (o:=valueAt vs k) (by rw[← l]; exact rel.val k)
 have hp:(keyPart u).isSome=true:=by
  cases k with
  |inl i=>obtain⟨t,q⟩:=(show ∃t,u=Value.int i t from ry); subst q; rfl
  |inr x=>obtain⟨t,q⟩:=(show ∃t,u=Value.str x t from ry); subst q; rfl
 have ha:argsOk "dict.pop" ⟨.ref a :: u :: more,[]⟩:=by
  rcases hm with q|⟨x,q⟩
  ·subst q; exact PySem.F.args_dict_pop_2 _ _
  ·subst q; exact PySem.F.args_dict_pop_3 _ _ _
 refine call_meetsIn PySem.F.slot_dict_pop dd.typeIs PySem.F.entry_dict_pop ha (meets_dict_pop_there (dN X.prog X.w) a (uD ry) more hm hp)
  ⟨vs,w',dd,by rw[← rel.length]; exact z,hw,fun h' Eb hs=>h w' _ ?_ Fv⟩
 have he: ∃q,h'.get? a=some q:=let⟨q,_,_,hq,_⟩:=Eb; ⟨q,hq⟩
 exact tX I (by rw[e]; exact True.intro) hs he (yH (aY (HV a9 k) z) hd (rel.drop k) Eb)
end
def QB (i:Expr):Prop:= ∀ov iv,subscripted i false ov iv=operate [ov,iv] (getItem ov iv)
theorem KG {prog:Program}{w:World}{A:Around}{E:Value->Shared->Prop}{s:Shared}{env:Env}{value slice:Expr}{pos:Pos}{T id:String}{Q:Value->Shared->Prop}
  (hl:typeLookup (.type T) "__getitem__"=pure (some (.builtin id))) (hs:QB slice)
  (h:wpAny (model prog w) A (eval value env) (fun o s₁=>wpAny (model prog w) A (eval slice env) (fun i s₂=>s₂.TypeIs o T/\wpAny (model prog w) A (getItem o i) Q E s₂) E s₁) E s):
  wpAny (model prog w) A (eval (.Subscript value slice pos) env) Q E s:=by
 refine Subscript_ (cf h (fun o s₁ h₁=>cf h₁ (fun i s₂ h₂=>?_) fun _ _ x=>x) fun _ _ x=>x)
 obtain⟨hT,h₂⟩:=h₂
 unfold subscriptTail
 refine az ?_
 rw[getitemInPython_of_ne hT.not_modules]
 refine az (wpAny_specialOf hT hl ?_)
 have fin:wpAny (model prog w) A (subscripted slice false o i) (fun r s₃=>wpAny (model prog w) A (letTemporaryGo value o r >>=fun _=>pure r) Q E s₃) E s₂:=by
  rw[hs o i]
  exact wpAny_operating (cf h₂ (fun r s₃ h₃=>az (wpAny_letTemporaryGo (bB h₃))) fun _ _ x=>x)
 first
  |exact bB (az fin)
  |exact az (bB (az fin))
  |exact az fin
theorem AX {X:Cx}{pins:List (Addr×Obj)}{σ:St}{H:Hp}{s:Shared}{a:Addr}{y:V}{o:Option V}(I:Inv X pins σ H s)(g:mh H a y o):s.TypeIs (.ref a) "dict":=by
 rcases g with⟨a9,k,e,_,_⟩|⟨a9,k,b,e,_,_,_⟩
 ·obtain⟨_,_,vs,_,dd⟩:=uE I.cw e
  exact dd.typeIs
 ·obtain⟨_,_,xs,_,dd⟩:=xJ I.cw e
  exact dd.typeIs
def QC (td ty:TE):TE:=fun σ H Q=>td σ H fun x H1=>ty σ H1 fun y H2=> ∃a v,x= .ref a/\mh H2 a y (some v)/\Q v H2
def UR (ty td:TE):TE:=fun σ H Q=>ty σ H fun y H1=>td σ H1 fun x H2=> ∃a o,x= .ref a/\mh H2 a y o/\Q (.bl o.isSome) H2
def KH (ty td:TE):TE:=fun σ H Q=>ty σ H fun y H1=>td σ H1 fun x H2=> ∃a o,x= .ref a/\mh H2 a y o/\Q (.bl (!o.isSome)) H2
def QD (td ty tv:TE):TS:=fun D σ H=>tv σ H fun v H1=>td σ H1 fun x H2=>ty σ H2 fun y H3=> ∃a H4,x= .ref a/\Fx H3 a y v H4/\D.nx σ H4
section
variable {X:Cx}{o i e value:Expr}{pos pos' Na:Pos}{td ty tv:TE}
theorem cB (hu:X.A.units + 1 < cLine)(ho:PE X o td)(hi:PE X i ty)(hs:QB i):PE X (.Subscript o i pos) (QC td ty):=by
 intro pins s σ H Q I h
 refine KG PySem.F.slot_dict_getitem.lookup hs (dP (ho pins s σ H _ I h) fun u s1 ⟨x,H1,I1,rx,q1⟩=>dP (hi pins s1 σ H1 _ I1 q1) fun iv s2 ⟨y,H2,I2,ry,a,v,ex,g,q2⟩=>?_)
 subst ex
 obtain rfl:u=Value.ref a:=rx
 exact⟨AX I2 g,Fy hu I2 g ry fun w' s3 I3 Fv=>⟨v,H2,I3,Fv,q2⟩⟩
theorem Nm (hu:X.A.units + 1 < cLine)(hi:PE X i ty)(ho:PE X o td):PC X .In i o (UR ty td):=by
 intro pins s σ H Q I h
 refine dP (hi pins s σ H _ I h) fun iv s1 ⟨y,H1,I1,ry,q1⟩=>dP (ho pins s1 σ H1 _ I1 q1) fun u s2 ⟨x,H2,I2,rx,a,ov,ex,g,q2⟩=>?_
 subst ex
 obtain rfl:u=Value.ref a:=rx
 exact UQ hu I2 g ry fun s3 I3=>⟨.bl ov.isSome,H2,I3,rfl,q2⟩
theorem FA (hu:X.A.units + 1 < cLine)(hi:PE X i ty)(ho:PE X o td):PC X .NotIn i o (KH ty td):=by
 intro pins s σ H Q I h
 refine dP (hi pins s σ H _ I h) fun iv s1 ⟨y,H1,I1,ry,q1⟩=>dP (ho pins s1 σ H1 _ I1 q1) fun u s2 ⟨x,H2,I2,rx,a,ov,ex,g,q2⟩=>?_
 subst ex
 obtain rfl:u=Value.ref a:=rx
 exact KD hu I2 g ry fun s3 I3=>⟨.bl (!ov.isSome),H2,I3,rfl,q2⟩
theorem Ec (hu:X.A.units + 1 < cLine)(ho:PE X o td)(hi:PE X i ty)(hv:PE X value tv)(hs:swapsWith value (some (.Subscript o i pos')) pos.line X.env=pure false):
  PS X (.Assign [.Subscript o i pos'] value pos) (QD td ty tv):=by
 intro pins s σ H D I h
 refine wpAny_Assign_Subscript (dP (hv pins s σ H _ I h) fun r s1 ⟨v,H1,I1,rv,q1⟩=>dP (ho pins s1 σ H1 _ I1 q1) fun u s2 ⟨x,H2,I2,rx,q2⟩=>dP (hi pins s2 σ H2 _ I2 q2) fun iv s3 ⟨y,H3,I3,ry,a,H4,ex,g,q3⟩=>?_) hs
 subst ex
 obtain rfl:u=Value.ref a:=rx
 exact Fz hu I3 g ry rv fun s4 I4=>⟨σ,H4,I4,q3⟩
end
theorem AY {P:Program}{w:World}{H:Hp}(h:Heap)(hb:sysModules < h.objs.size):dr P w H (h.push {cls:= .type "dict",data:= .dict #[]}) h.objs.size (.dK []):=
 ⟨bp _,gG.mpr (vW (a0 hb)),[],.nil,Heap.DictOf.new h⟩
def Nn:TE:=fun _ H Q=> ∀p,H p=none->Q (.ref p) (upd H p (.dK []))
section
variable {X:Cx}{pos:Pos}
theorem AZ:PE X (.Dict [] [] pos) Nn:=fun pins s σ H Q I h=>
 wpAny_Dict_empty ⟨.ref s.heap.objs.size,_,I.laid (a:=s.heap.objs.size) (o:= .dK []) (t':=s.toks) (fun _ _ q=>ay _ q) (aC _) (AY s.heap I.big),rfl,h _ (I.cw.fresh (aC _))⟩
end
def CU:List (TE×TE)->St->Hp->(List (V×V)->Hp->Prop)->Prop
 |[],_,H,Q=>Q [] H
 |(tk,tv) :: r,σ,H,Q=>tk σ H fun x H1=>tv σ H1 fun y H2=>CU r σ H2 fun ps H3=>Q ((x,y) :: ps) H3
abbrev VV:List (V×V)->List (Value×Value)->Prop:=Paired fun p q=>RelV p.1 q.1/\RelV p.2 q.2
def Mg (X:Cx)(pos:Pos)(keys:List (Option Expr))(values:List Expr)(KI:List (TE×TE)):Prop:=
 ∀(pins:List (Addr×Obj)) (s:Shared) (σ:St) (H:Hp) (Q:List (V×V)->Hp->Prop),Inv X pins σ H s->CU KI σ H Q->
  wpAny (model X.prog X.w) X.A (evalPairs (pairTrees keys values X.env pos)) (fun vs s'=> ∃ps H',Inv X pins σ H' s'/\VV ps vs/\Q ps H') X.xe s
theorem KJ {X:Cx}{pos:Pos}:Mg X pos [] [] []:=fun pins s σ H Q I h=>pairTrees_nil_walk ⟨[],H,I,.nil,h⟩
theorem uG {X:Cx}{pos:Pos}{k v:Expr}{ks:List (Option Expr)}{vs:List Expr}{tk tv:TE}{KI:List (TE×TE)}(hk:PE X k tk)(hv:PE X v tv)(hr:Mg X pos ks vs KI):
  Mg X pos (some k :: ks) (v :: vs) ((tk,tv) :: KI):=fun pins s σ H Q I h=>
 pairTrees_cons_walk (dP (hk pins s σ H _ I h) fun u s1 ⟨x,H1,I1,rx,q1⟩=>dP (hv pins s1 σ H1 _ I1 q1) fun w2 s2 ⟨y,H2,I2,ry,q2⟩=>
  dP (hr pins s2 σ H2 _ I2 q2) fun ws s3 ⟨ps,H3,I3,rel,q3⟩=>⟨(x,y) :: ps,H3,I3,.cons ⟨rx,ry⟩ rel,q3⟩)
def o5 (a9 more:List (Key×V)):List (Key×V):=more.foldl (fun acc kv=>putK acc kv.1 kv.2) a9
theorem KV.merge: ∀{more:List (Key×V)} {rs:List (Key×Value)} {a9:List (Key×V)} {vs:List (Key×Value)},KV more rs->KV a9 vs->KV (o5 a9 more) (merged vs rs):=by
 intro more rs a9 vs r
 unfold KV at r
 induction r generalizing a9 vs with
 |nil=>intro q; exact q
 | @cons p q ps qs h t ih=>
  intro r0
  have e:KV (putK a9 p.1 p.2) (stored vs q.1 q.2):=by
   have:=r0.put p.1 h.2
   rw[← h.1]; exact this
  exact ih e
theorem oz: ∀(more a9:List (Key×V)),(o5 a9 more).length<=a9.length + more.length
 |[],a9=>by show a9.length<=a9.length + 0; lia
 |p :: r,a9=>by
  have h1:=oz r (putK a9 p.1 p.2)
  have h2:=kg a9 p.1 p.2
  show(o5 (putK a9 p.1 p.2) r).length<=_
  rw[bZ]; lia
theorem uH {P:Program}{w:World}: ∀{a9:List (Key×V)} {ws:List (Value×Value)},VV (a9.map fun kv=>(kV kv.1,kv.2)) ws-> ∃rs,Carries (dN P w) ws rs/\KV a9 rs
 |[],_,r=>by rw[vY] at r; cases r; exact⟨[],True.intro,.nil⟩
 |p :: a9,_,r=>by
  rw[cU] at r
  cases r with
  | @cons a b as bs h t=>
   obtain⟨rs,c,q⟩:=uH (P:=P) (w:=w) t
   obtain⟨b1,b2⟩:=b
   exact⟨(p.1,b2) :: rs,⟨uD h.1,rfl,c⟩,.cons ⟨rfl,h.2⟩ q⟩
def QE (KI:List (TE×TE)):TE:=fun σ H Q=> ∀p,H p=none->CU KI σ (upd H p (.dK [])) fun ps H2=>H2 p=some (.dK [])/\ ∃a9:List (Key×V),ps=a9.map (fun kv=>(kV kv.1,kv.2))/\a9.length<=15/\Q (.ref p) (upd H2 p (.dK (o5 [] a9)))
theorem KL {X:Cx}{pos:Pos}{keys:List (Option Expr)}{values:List Expr}{KI:List (TE×TE)}(h:Mg X pos keys values KI)(Np:keys.all (·.isSome)=true)(hl:keys.length=values.length)(h0:keys≠[])
  (US:keys.length<=15):PE X (.Dict keys values pos) (QE KI):=by
 intro pins s σ H Q I q
 have hn:=I.cw.fresh (aC s.heap.objs.size)
 have I1:=I.laid (a:=s.heap.objs.size) (o:= .dK []) (h':=s.heap.push {cls:= .type "dict",data:= .dict #[]}) (t':=s.toks) (fun _ _ q=>ay _ q) (aC _) (AY s.heap I.big)
 refine wpAny_Dict_walk (knd:=dN X.prog X.w) Np hl h0 US (dP (h pins _ σ _ _ I1 (q _ hn)) fun ws s2 ⟨ps,H2,I2,rel,e,a9,ep,lk,q2⟩=>?_)
 subst ep
 obtain⟨rs,c,rk⟩:=uH (P:=X.prog) (w:=X.w) rel
 obtain⟨z,hd,QF,r0,dd⟩:=Ea I2.cw e
 cases r0
 refine⟨rs,c,dd,fun h' Eb hs=>⟨.ref s.heap.objs.size,_,?_,rfl,q2⟩⟩
 have hz:(o5 [] a9).length<=sizeLine:=by
  have h1:=oz a9 []
  rw[v7] at h1
  rw[en]; lia
 have he: ∃q,h'.get? s.heap.objs.size=some q:=let⟨q,_,_,hq,_⟩:=Eb; ⟨q,hq⟩
 exact tX I2 (by rw[e]; exact True.intro) hs he (yH hz hd (rk.merge .nil) Eb)
structure M1 (X:Cx)(o:Expr)(m:Str)(apos:Pos)(e:Expr)(gv:Pos):Prop where
 base:attributeBase o m X.env (eval o X.env)=eval o X.env
 Zq:((backTo gv (starEach [e] X.env)).all (fun x=> !x.1) && (backToKw gv (keywordEach [] X.env)).all (fun x=>x.1.isSome)
  && decide (([e]:List Expr).length + ([]:List Keyword).length + (if([]:List Keyword).isEmpty then 0 else 1) < 30))=true
 line:(apos.endLine == gv.line)=true
 trees:backTo gv (starEach [e] X.env)=[(false,eval e X.env)]
def Xz (H:Hp)(a:Addr):Prop:=(∃a9,Rd H a (.dK a9))∨ ∃a9,Rd H a (.dT a9)
theorem Nq {X:Cx}{pins:List (Addr×Obj)}{σ:St}{H:Hp}{s:Shared}{a:Addr}(I:Inv X pins σ H s)(d:Xz H a):
  s.TypeIs (.ref a) "dict"/\(∀b,Value.ref a= .ref b-> ∃ob,s.heap.get? b=some ob/\ob.dict=none)/\(a == sysModules)=false:=by
 rcases d with⟨a9,e⟩|⟨a9,e⟩
 ·obtain⟨_,hd,vs,_,dd⟩:=uE I.cw e
  refine⟨dd.typeIs,fun b q=>?_,hd⟩
  cases q
  obtain⟨ob,_,_,h1,h2,_⟩:=dd
  exact⟨ob,h1,h2.2.1⟩
 ·obtain⟨_,hd,xs,_,dd⟩:=xJ I.cw e
  refine⟨dd.typeIs,fun b q=>?_,hd⟩
  cases q
  obtain⟨ob,_,_,h1,h2,_⟩:=dd
  exact⟨ob,h1,h2.2.1⟩
section
variable {X:Cx}{pins:List (Addr×Obj)}{σ:St}{H:Hp}{s:Shared}{a:Addr}{y d:V}{u r:Value}{o:Option V}{A:Around}{E:Value->Shared->Prop}
end
def Nr (td ty:TE):TE:=fun σ H Q=>td σ H fun x H1=> ∃a,x= .ref a/\Xz H1 a/\ty σ H1 fun y H2=> ∃a9 k v,H2 a=some (.dK a9)/\y=kV k/\fW a9 k=some v/\Q v (upd H2 a (.dK (kW a9 k)))
section
variable {X:Cx}{o e f:Expr}{apos gv:Pos}{td ty tx:TE}
theorem HW (ho:PE X o td)(he:PE X e ty)(m:M1 X o "pop" apos e gv):PE X (.Call (.Attribute o "pop" apos) [e] [] gv) (Nr td ty):=by
 intro pins s σ H Q I h
 refine wpAny_Call_method m.base m.Zq m.line PySem.F.plainAttrs_dict PySem.F.slot_dict_pop PySem.F.type_dict_pop (dP (ho pins s σ H _ I h) fun u s1 ⟨x,H1,I1,rx,a,ex,d,q1⟩=>?_)
 subst ex
 obtain rfl:u=Value.ref a:=rx
 obtain⟨t1,t2,_⟩:=Nq I1 d
 refine⟨t1,t2,?_⟩
 rw[m.trees]
 refine iJ rfl (E7 (Calls.spliced_cons (dP (he pins s1 σ H1 _ I1 q1) fun iv s2 ⟨y,H2,I2,ry,a9,k,v,ea,ey,l,q2⟩=>Calls.spliced_nil ?_)))
 subst ey
 exact QA I2 ea ry l (.inl rfl) fun w' s3 I3 Fv=>⟨v,_,I3,Fv,q2⟩
end
section
variable {X:Cx}{pins:List (Addr×Obj)}{σ:St}{H:Hp}{s:Shared}{a:Addr}{a9:List (Key×V)}{A:Around}{E:Value->Shared->Prop}
theorem HX {Q:Value->Shared->Prop}(I:Inv X pins σ H s)(e:Rd H a (.dK a9))(h: ∀p s',H p=none->Inv X pins σ (upd H p (.dK a9)) s'->Q (.ref p) s'):wpAny (model X.prog X.w) A (call (.type "dict") [.ref a]) Q E s:=by
 obtain⟨z,hd,vs,rel,dd⟩:=uE I.cw e
 refine kt_call_dict hd dd (by rw[← rel.length]; exact z) fun h' Eb hs=>?_
 refine h _ _ (I.cw.fresh (aC _)) (I.laid (a:=s.heap.objs.size) (o:= .dK a9) (t':=s.toks) (fun b q hq=>?_) (aC _) (yH z (gG.mpr (vW (a0 I.big))) rel Eb))
 exact(hs.2 b (a0 (aK hq))).trans (ay _ hq)
end
section
variable {X:Cx}{pins:List (Addr×Obj)}{σ:St}{H:Hp}{s:Shared}{a:Addr}{y:V}{u:Value}{A:Around}{E:Value->Shared->Prop}
end
end L2
namespace XA
open PySem PySem.W PySem.Calls PyProof.Rows
theorem tu {P:Params}{h:Heap}: ∀(ns:List Int) (vs:List Value),WellAll P h vs (ns.map WData.int)->IntsAre vs ns:=by
 intro ns
 induction ns with
 |nil=>
  intro vs w
  rw[vY] at w
  cases w
  exact .nil
 |cons n ns ih=>
  intro vs w
  rw[cU] at w
  cases w with
  |cons a b=>
   cases a
   exact .cons _ _ (ih _ b)
theorem FC {l:OpenLaw}{n:Nat}(hn:l.most=some n){P:Params}{h:Heap}{args:List WData}{vals:List Value}
  (KN:l.row.toRowW.claim.pre args=true) (G7:WellAll P h vals args):
  ∃a vs ns,vals=[Value.ref a]/\args=[WData.list (ns.map WData.int)]/\h.get? a=some {cls:= .type "list",data:= .seq vs.toArray}/\IntsAre vs ns/\ns.length<=n:=by
 have Zr:WShape.hasAll [] args [.list .int]=true:=(pre_splitW KN).1
 have hc:l.pre.holds [] {args:=args}=true:=(pre_splitW KN).2
 obtain⟨d,r,rfl,h1,h2⟩:=hasAllW_cons Zr
 obtain rfl:=hasAllW_nil h2
 obtain⟨xs,rfl,h3⟩:=hasW_list h1
 obtain⟨ns,rfl⟩:=items_int h3
 have hlen:ns.length<=n:=by
  unfold OpenLaw.pre at hc
  have h4:(WTm.not (.lt (.lit (.int (n:Int))) (.len (.arg 0)))).holds [] {args:=[.list (ns.map .int)]}=true:=by
   have h4:=(holds_andW hc).1
   rw[hn] at h4
   exact h4
  have h5:=condW_of h4 (w_not (w_lt w_lit (w_len_list (w_arg rfl))))
  rw[ae] at h5
  refine Nat.le_of_not_lt fun q=>?_
  have q':(n:Int) < ((ns.length:Nat):Int):=by lia
  first
   |(rw[aE q'] at h5; exact absurd h5 (by decide))
   |(simp at h5; lia)
 cases G7 with
 |cons w1 w2=>
  cases w2
  cases w1 with
  |list ho Np=>exact⟨_,_,ns,rfl,rfl,ho,tu ns _ Np,hlen⟩
theorem FD (l:OpenLaw)(args:List WData):l.row.toRowW.claim.post args (.bool true) args=true:=
 postW_of (r:=l.row.toRowW) (X:=(true == true))
  (show WShape.has [] (.bool true) .bool=true by first|rfl|decide|simp[WShape.has,WShape.arms,WShape.armsAll])
  (show(WTm.eq .res (.lit (.bool true))).value [] {args:=args,res:=some (.bool true),after:=args}=some (.bool (true == true)) from w_eq_bool (w_res rfl) w_lit) rfl
theorem A0 {l:OpenLaw}{n:Nat}{q:Program}{loose:List Str}{XP:(Str->Option Value)->Heap->Prop}{YP:World->Heap->Prop}{d:DefRec}
  (hn:l.most=some n) (UT:d.params.defaults=[])
  (call: ∀(w:World) (s₀ s₁:Shared) (mg mb:Str->Option Value) (fa:Addr) (o:Obj) (pm cd doc:Value) (a:Addr) (vs:List Value) (ns:List Int),
   Ground q loose [] XP w s₀ mg mb s₁.heap->YP w s₁.heap->
   s₁.heap.get? fa=some o->o.data= .func (docDef d.name d.params d.body d.scope pm cd doc)->s₁.heap.CodeRec cd d.name->mg d.name=some (.ref fa)->
   s₁.heap.get? a=some {cls:= .type "list",data:= .seq vs.toArray}->IntsAre vs ns->ns.length<=n->s₁.gens= #[]->
   codeAny (model l.prog w) callerA (.call (.ref fa) ⟨[.ref a],[]⟩) (fun r s'=>r= .ok (.ret (.bool true))/\OldK s₁.heap s'.heap/\s'.os=s₁.os/\AllBare s'.gens) s₁):
  WalkO q loose XP YP l.row.toRowW d [] (fun f vs=>PySem.call f vs):=by
 intro w s₀ s₁ mg mb G Y fa o pm cd doc dV kV ho hd rg hD QG hg args vals as KN Zs XB G7 hlo
 obtain rfl:dV= .none:=Dflts.none hD UT
 obtain rfl:kV= .none:=Dflts.noKw hD
 obtain⟨a,vs,ns,rfl,rfl,Nt,hints,hlen⟩:=FC hn KN G7
 refine enter_call (Cz (call w s₀ s₁ mg mb fa o pm cd doc a vs ns G Y ho (fd_plain hd) rg QG Nt hints hlen hg) fun r s' hq=>?_)
 obtain⟨rfl,h2,h3,h4⟩:=hq
 exact⟨.inl ⟨.bool true,.bool true,[],rfl,fun _=>rfl,.bool true,FD l _,fun _=>⟨List.Pairwise.nil,fun _ hm=>(nomatch hm)⟩⟩,h2,h3,h4⟩
section
variable {prog:Program}{w:World}{A:Around}{E:Value->Shared->Prop}{s:Shared}{K:Frag}
end
end XA
namespace L2
open PySem PySem.Spec PyProof.Rows
theorem xK: ∀{vs:List Value} {ns:List Int},IntsAre vs ns->Vals (ns.map V.int) vs
 |_,_,.nil=> .nil
 |_,_,.cons n t h=> .cons ⟨t,rfl⟩ (xK h)
def gw (s:Stmt):Arguments:=match s with
 | .FunctionDef _ a _ _ _ _ _ _ _ _=>a
 |_=>{posonlyargs:=[],args:=[],vararg:=none,kwonlyargs:=[],kw_defaults:=[],kwarg:=none,defaults:=[]}
def dv (s:Stmt):List Stmt:=match s with
 | .FunctionDef _ _ b _ _ _ _ _ _ _=>b
 |_=>[]
def ax (s:Stmt):Scope:=match s with
 | .FunctionDef _ _ _ _ _ _ sc _ _ _=>sc
 |_=>{kind:= .function,names:=[],isGenerator:=false,isCoroutine:=false}
abbrev rJ:Ft:=fun _ _ _ _ _ _=>False
abbrev E0:XK:=fun _ _ _=>False
theorem mE {X:Cx}:Passes rJ X E0:=fun _ _ _ _ _ _ _ h=>h.elim
structure fY (K:PySem.W.Frag)(x qual:Str)(st:Stmt)(f:Addr)(fd:FuncData):Prop where
 ex: ∃(oc:Value) (od:Option Addr) (kV doc pm:Value) (an:Option Addr) (cK ct:Value) (Fu:Array (Option Value)),
  fd=PySem.W.fnOf x qual (gw st) (dv st) (ax st) .none kV doc pm an cK ct/\K.lookup f=some ⟨oc,od,.func fd,Fu⟩/\PySem.W.codeIn K cK qual=true
 kp:PySem.W.keepIn K (.ref f)=true
section
variable {P:Program}{w:World}{K:PySem.W.Frag}{mg:Str->Option Value}{base:Heap}
theorem fY.ok {x qual:Str}{st:Stmt}{f:Addr}{fd:FuncData}{N ps:List Str}{k:Nat}{sp:Sp}(F:fY K x qual st f fd)(S:aS N ps (ax st))(len: ∀vs H Q E,sp vs H Q E->vs.length=ps.length)
  (fN: ∀(cK:Value) (A:Around) (outer:List Env) (s:Shared) (H:Hp) (vs:List V) (Q:VK) (E:XK),eT k (A.deeper (envOfC qual (ax st) s.heap.objs.size f cK))->sp vs H Q E->
   ∃t,oV (kQ rJ P w K mg base N qual (ax st) f cK A outer s H E).DV (dv st) t/\t {nx:=fun _ H'=>Q .d8 H',rt:=Q} (start N vs) H):lI P w K mg base rJ (k + 1) f fd ps sp:=by
 obtain⟨oc,od,kV,doc,pm,an,cK,ct,Fu,rfl,lk,rg⟩:=F.ex
 refine HL lk rg S len fun A outer s H vs Q E hr yy=>?_
 obtain⟨t,h,q⟩:=fN cK A outer s H vs Q E hr yy
 exact⟨t,h.DV,q⟩
theorem fY.binds {x qual:Str}{st:Stmt}{f:Addr}{fd:FuncData}{ps:List Str}(F:fY K x qual st f fd)
  (h: ∀(kV doc pm:Value) (an:Option Addr) (cK ct:Value) (us:List Value),us.length=ps.length->bindArgs (PySem.W.fnOf x qual (gw st) (dv st) (ax st) .none kV doc pm an cK ct) ⟨us,[]⟩=pure (ps.zip us)):Binds K fd ps []:=by
 obtain⟨oc,od,kV,doc,pm,an,cK,ct,Fu,rfl,lk,rg⟩:=F.ex
 exact .all (h kV doc pm an cK ct)
theorem o6 {x qual:Str}{st:Stmt}{f:Addr}{oc:Value}{od an:Option Addr}{Fu:Array (Option Value)}{kV doc pm cK ct:Value}(l:K.lookup f=some ⟨oc,od,.func (PySem.W.fnOf x qual (gw st) (dv st) (ax st) .none kV doc pm an cK ct),Fu⟩)
  (c:PySem.W.codeIn K cK qual=true) (k:PySem.W.keepIn K (.ref f)=true):fY K x qual st f (PySem.W.fnOf x qual (gw st) (dv st) (ax st) .none kV doc pm an cK ct):=⟨⟨oc,od,kV,doc,pm,an,cK,ct,Fu,rfl,l,c⟩,k⟩
end
theorem jE {A:Around}{k:Nat}(hr:eT k A):A.units + 1 < cLine:=pP (Nat.add_le_add_left (by decide:1<=64) _) hr.units
theorem bg {n:Nat}(h:n<=1000):n < sizeLine:=pP h (by decide)
section
variable {X:Cx}
theorem pv (i:Nat){x:Str}{pos:Pos}(hN:X.N[i]? =some x:=by rfl)(hv:P4 X.env.scope x:=by first|exact Or.inl rfl|exact Or.inr (Or.inl rfl)|exact Or.inr (Or.inr rfl))(hd:(x == ("__debug__":Str))=false:=by decide)
  (rg:(x == ("__classdict__":Str))=false:=by decide):PE X (.Name x pos) (P8 i):=CC hN hv hd rg
end
theorem bR {A B:Prop}(h:B):if false=true then A else B:=by
 rw[aQ aV]
 exact h
theorem fv {A B:Prop}(h:A):if true=true then A else B:=by
 rw[a7 rfl]
 exact h
theorem cy {c A B:Prop}[Decidable c](h1:c->A)(h2: ¬ c->B):if c then A else B:=by
 by_cases h:c
 ·rw[a7 h]
  exact h1 h
 ·rw[aQ h]
  exact h2 h
theorem A1 {c A B:Prop}[Decidable c](hc:c)(h:B):if(!decide c)=true then A else B:=by
 rw[aE hc]
 exact bR h
def aD (H H':Hp):Prop:= ∀b o,H b=some o->H' b=some o
theorem aD.refl (H:Hp):aD H H:=fun _ _ h=>h
theorem aD.trans {H H1 H2:Hp}(a:aD H H1)(b:aD H1 H2):aD H H2:=fun c o h=>b c o (a c o h)
theorem aD.free {H H':Hp}(e:aD H H'){l:Addr}(h:H' l=Option.none):H l=Option.none:=by
 cases q:H l with
 |none=>rfl
 |some o=>
  rw[e l o q] at h
  cases h
theorem aD.seq {K:PySem.W.Frag}{H H':Hp}{a:Addr}{xs:List V}(e:aD H H')(h:bE K H a xs):bE K H' a xs:=by
 rcases h with(h|⟨o,h⟩)|h
 ·exact .inl (.inl (e _ _ h))
 ·exact .inl (.inr ⟨o,e _ _ h⟩)
 ·exact .inr h
section
variable {X:Cx}
end
section
variable {κ:Type}[DecidableEq κ]
end
theorem FE {prog:Program}{w:World}{A:Around}{R:Result->Shared->Prop}{s:Shared}{elt target iter:Expr}{ifs:List Expr}{scope:Scope}{pos:Pos}{it acc:Value}{env:Env}(I:Nat->Shared->Prop)
  (turn: ∀n s,I n s->wpAny (model prog w) A (pyNext it) (fun r s₁=>match r with
   |none=>R (.ok .next) s₁
   |some v=>wpAny (model prog w) A (letOwnedTupleGo target it v) (fun _ XC=>wpAny (model prog w) A (assign target env v) (fun _ s₂=>
     wpAny (model prog w) A (forIn ifs true fun c r=>if r=true then do let ok ← isTrue c env (eval c env); pure (ForInStep.yield ok) else pure (ForInStep.yield r)) (fun ok s₃=>
      if ok=true then wpAny (model prog w) A (eval elt env) (fun x s₄=>
       wpAny (model prog w) A (call (.builtin "list.append") [acc,x]) (fun _ s₅=> ∃m,m < n/\I m s₅) (fun _ _=>False) s₄) (fun _ _=>False) s₃
      else ∃m,m < n/\I m s₃) (fun _ _=>False) s₂) (fun _ _=>False) XC) (fun _ _=>False) s₁) (fun _ _=>False) s)
  (n:Nat) (h:I n s):
  codeAny (model prog w) A (.compLoop (.ListComp elt [⟨target,iter,ifs,0⟩] scope pos) 0 it acc env) R s:=by
 refine codeAny_loop rfl I (fun n s hI=>?_) n h
 show wpAny _ A ((compTurn (.ListComp elt [⟨target,iter,ifs,0⟩] scope pos) 0 it acc env).onRaise (fun x=>do noteFrame x env; theTreesLotGoes x)) _ _ s
 refine wpAny_noted ?_
 rw[compTurn_list]
 refine az (ie (az (cf (turn n s hI) (fun r s₁ h₁=>?_) fun _ _ h'=>h'.elim)))
 cases r with
 |none=>exact bB h₁
 |some v=>
  refine az (cf h₁ (fun _ XC Zt=>?_) fun _ _ h'=>h'.elim)
  refine az (cf Zt (fun _ s₂ h₂=>az (cf h₂ (fun ok s₃ h₃=>?_) fun _ _ h'=>h'.elim)) fun _ _ h'=>h'.elim)
  cases ok with
  |false=>exact bB ⟨rfl,h₃⟩
  |true=>
   exact az (az (cf h₃ (fun x s₄ h₄=>az (cf h₄ (fun _ s₅ h₅=>bB (bB ⟨rfl,h₅⟩)) fun _ _ h'=>h'.elim)) fun _ _ h'=>h'.elim))
def A2 (X:Cx)(N:List Str)(scope:Scope)(cl:List (Str×Addr))(C:Addr)(s3:Shared)(H3:Hp)(fp:List Addr):Cx:=
 {X with N:=N,s₀:=s3,H₀:=H3,env:=compEnvC scope cl C X.env,outer:=X.stack,stack:=X.stack,ex:=fp,fn:=fun _=>false,pn:=[],xe:=fun _ _=>False}
def KO (X:Cx)(ifs:List Expr)(t:TT):Prop:=
 ∀(pins:List (Addr×Obj)) (s:Shared) (σ:St) (H:Hp) (Q:Bool->Hp->Prop),Inv X pins σ H s->t σ H Q->
  wpAny (model X.prog X.w) X.A (forIn ifs true fun c r=>if r=true then do let ok ← isTrue c X.env (eval c X.env); pure (ForInStep.yield ok) else pure (ForInStep.yield r)) (TP X pins σ Q) X.xe s
def UU:TT:=fun _ H Q=>Q true H
theorem mF {X:Cx}:KO X [] UU:=fun pins s σ H Q I h=>wpAny_tests_nil ⟨H,I,h⟩
theorem mG {X:Cx}{c:Expr}{t:TT}(h:PT X c t):KO X [c] t:=fun pins s σ H Q I hw=>wpAny_tests_one (h pins s σ H Q I hw)
def xM (J:It)(g:TG)(tc:TT)(te:TE)(σ0:St)(H2:Hp)(Q:VK):Prop:=
 ∀D,H2 D=none-> ∃W:Nat->Nat->St->Hp->Prop,(∃m,W 0 m σ0 (upd H2 D (.lst [])))/\ ∀i m σ' H',W i m σ' H'->
  (J.stop i H'/\Q (.ref D) H')∨(J.go i H'/\ ∃N:St->Hp->Prop,(∀KP G8,N KP G8-> ∃m',m' < m/\W (i + 1) m' KP G8)/\
   ∀x G8,J.Pb i H' x G8->g x σ' G8 fun σ2 H2=>tc σ2 H2 fun ok H3=>if ok=true then te σ2 H3 fun y H4=> ∃ys,H4 D=some (.lst ys)/\ys.length < sizeLine/\N σ2 (upd H4 D (.lst (ys ++ [y]))) else N σ2 H3)
structure rK (X:Cx)(scope:Scope)(cl:List (Str×Addr))(cn:List Str)(cj:List Nat):Prop where
 FF:closureFor scope X.env=pure cl
 cell: ∀y∈scope.names,y.2≠ .cell
 kind:scope.kind= .function
 names: ∀x∈scope.names,x.2= .local->scope.names.lookup x.1=some .local
 sub: ∀x c,cl.lookup x=some c->X.env.cells.lookup x=some c
 all: ∀x,((relabel scope X.env).names.lookup x=some .cell∨(relabel scope X.env).names.lookup x=some .free)-> ∃c,cl.lookup x=some c
 XD:Paired (fun x j=>X.N[j]? =some x/\(X.env.kindOf x=some .cell∨X.env.kindOf x=some .free)/\((relabel scope X.env).names.lookup x=some .cell∨(relabel scope X.env).names.lookup x=some .free)) cn cj
theorem bG {α β:Type}{F:α->β->Prop}: ∀{l₁:List α} {l₂:List β} {i:Nat} {a:α},Paired F l₁ l₂->l₁[i]? =some a-> ∃b,l₂[i]? =some b/\F a b
 |_,_,_,_,.nil,e=>by simp at e
 |_,_,0,_,.cons r _,e=>by simp at e; subst e; exact⟨_,rfl,r⟩
 |_,_,i + 1,a,.cons _ t,e=>by
  obtain⟨b,h1,h2⟩:=bG (i:=i) (a:=a) t (by simpa using e)
  exact⟨b,by simpa using h1,h2⟩
def uI (tn:List Str)(cj:List Nat)(σ:St):St:=tn.map (fun _=>none) ++ cj.map fun j=>(σ[j]?).join
theorem uJ {X:Cx}{pins:List (Addr×Obj)}{σ:St}{H2:Hp}{s2:Shared}{elt tg iter:Expr}{ifs:List Expr}{scope:Scope}{pos:Pos}{cl:List (Str×Addr)}{tn cn:List Str}{cj:List Nat}{g:TG}{tc:TT}{te:TE}
  {it:Addr} {fp:List Addr} {Nu:Nat->Heap->Prop} {J:It} {RR:Value->Addr->Result->Shared->Prop} {E:Value->Shared->Prop} {Q:VK}
  (xN:X.calm=true) (S:rK X scope cl cn cj)
  (hg: ∀C s3 H3 fp,PG (A2 X (tn ++ cn) scope cl C s3 H3 fp) tg g) (hc: ∀C s3 H3 fp,KO (A2 X (tn ++ cn) scope cl C s3 H3 fp) ifs tc) (he: ∀C s3 H3 fp,PE (A2 X (tn ++ cn) scope cl C s3 H3 fp) elt te)
  (I2:Inv X pins σ H2 s2) (T:Turn X.prog X.w X.K tg J fp it Nu) (Md:Nu 0 s2.heap) (f2: ∀b∈fp,uv X pins H2 b)
  (hw:xM J g tc te (uI tn cj σ) H2 Q)
  (Zu: ∀D C (s':Shared) H' m',Inv X pins σ H' s'->uv X pins H' C->s'.heap.Ns C m'->Q (.ref D) H'->RR (.ref D) C (.ok .next) s'):
  wpAny (model X.prog X.w) X.A (newList []) (fun acc s₃=>wpAny (model X.prog X.w) X.A (newFunctionEnv scope X.env.globals cl [] X.env.qual none .none (some X.env)) (fun QH s₄=>
   codeAny (model X.prog X.w) X.A (.compStart (.ListComp elt [⟨tg,iter,ifs,0⟩] scope pos) 0 (.ref it) acc {QH with scope:=relabel scope X.env}) (RR acc QH.locals) s₄) E s₃) E s2:=by
 have Zv:H2 s2.heap.objs.size=none:=I2.cw.fresh (aC _)
 obtain⟨W,⟨m0,w0⟩,turn⟩:=hw _ Zv
 refine wpAny_newObj_type (wpAny_newFunctionEnv S.cell (by intro y hy; simp at hy) (fun h₁ Nv Nw=>?_) S.kind)
 dsimp only at Nv Nw ⊢
 have I3:Inv X pins σ (upd H2 s2.heap.objs.size (.lst [])) {s2 with heap:=s2.heap.push {cls:= .type "list",dict:=none,data:= .seq ([]:List Value).toArray}}:=I2.Nj (t':=s2.toks) (ys:=[]) (bY:=[]) .nil (bp _)
 generalize Ta:s2.heap.push {cls:= .type "list",dict:=none,data:= .seq ([]:List Value).toArray}=HH at Nv Nw I3 ⊢
 have hC:HH.objs.size=s2.heap.objs.size + 1:=by rw[← Ta,nI]
 have old: ∀b o,HH.get? b=some o->h₁.get? b=some o:=fun b o e=>Nw.extBut b o (a0 (aK e)) (ay _ e)
 have UW: ∀b o,s2.heap.get? b=some o->HH.get? b=some o:=fun b o e=>Ta▸ay _ e
 have QI: ∀b∈fp,b < s2.heap.objs.size:=fun b hb=>by
  obtain⟨o,e,_⟩:=T.obj 0 _ Md b hb
  exact aK e
 have Tc:(A2 X (tn ++ cn) scope cl HH.objs.size {s2 with heap:=HH} (upd H2 s2.heap.objs.size (.lst [])) fp).Ok:=by
  refine⟨I3.ok.mod,S.kind,I3.ok.glob,I3.ok.blt,aC _,fun x y c h1 h2=>I3.ok.inj x y c (S.sub x c h1) (S.sub y c h2),fun x hx=>S.all x hx,fun x c z=>absurd z aV,I3.ok.hd,I3.ok.frames,.inl rfl,fun b hb=>⟨?_,fun x c e z=>?_⟩,I3.bs,?_,fun b o e hb=>?_,fun b hb z=>?_,I3.stack,I3.pY⟩
  ·show b≠HH.objs.size
   rw[hC]
   exact a0 (iL (QI b hb))
  ·exact(f2 b hb).2.2.2.2.1 x c (S.sub x c e) z
  ·exact aY I3.ok.AH I3.sz
  ·rcases(f2 b hb).2.2.2.1 with z|z
   ·exact I3.ok.wa b o e z
   ·have h1:b < X.base.objs.size:=aK e
    exact absurd (ba h1 (aY I3.ok.AH z)) (iI _)
  ·rcases aw.mp (I3.uq b z) with z|z
   ·exact(f2 b hb).2.1 z
   ·exact(f2 b hb).2.2.1 z
 have IY:Inv (A2 X (tn ++ cn) scope cl HH.objs.size {s2 with heap:=HH} (upd H2 s2.heap.objs.size (.lst [])) fp) [] (uI tn cj σ) (upd H2 s2.heap.objs.size (.lst [])) {s2 with heap:=h₁,toks:=s2.toks + ([]:List (Str×Value)).length}:=by
  refine⟨Tc,rfl,I3.bare,Un.kept old,⟨_,Nv,fun i x v e1 e2 e3=>?_⟩,fun x c e=>?_,?_,fun x c e=>I3.iF x c (S.sub x c e),fun p hp=>absurd hp (by intro z; exact nomatch z),I3.cw.kept old,?_⟩
  ·have XE:(tn ++ cn)[i]? =some x:=e1
   by_cases hi:i < tn.length
   ·unfold uI at e2
    rw[List.getElem?_append_left (by simpa using hi),List.getElem?_map] at e2
    cases h:tn[i]? with
    |none=>rw[h] at e2; cases e2
    |some _=>rw[h] at e2; cases e2
   ·rw[oR (by lia)] at XE
    obtain⟨j,hj,hN,hk,Mh⟩:=bG S.XD XE
    unfold uI at e2
    rw[List.getElem?_append_right (by simpa using hi),List.getElem?_map] at e2
    simp only[List.length_map,hj,Option.map_some] at e2
    have QJ:σ[j]? =some (some v):=by
     cases h:σ[j]? with
     |none=>rw[h] at e2; cases e2
     |some q=>
      rw[h] at e2
      have QJ:q=some v:=aF e2
      rw[QJ]
    obtain⟨m,hn,hl⟩:=I3.loc
    have hv:P4 X.env.scope x:=by
     rcases hk with hk|hk
     ·exact .inr (.inl hk)
     ·exact .inr (.inr hk)
    obtain⟨u,r,l⟩:=hl j x v hN QJ hv
    refine⟨u,r,?_⟩
    rcases l with⟨k,_⟩|⟨_,c,hc,l5⟩
    ·rcases hk with hk|hk <;> (rw[k] at hk; cases hk)
    ·obtain⟨c',P7⟩:=S.all x Mh
     have:=S.sub x c' P7
     rw[hc] at this
     cases this
     obtain⟨o,ho,hd⟩:=l5
     exact .inr ⟨Mh,c,P7,⟨o,old _ _ ho,hd⟩⟩
  ·obtain⟨v,o,ho,hd⟩:=I3.cell x c (S.sub x c e)
   exact⟨v,o,old _ _ ho,hd⟩
  ·exact I3.cw.fresh (aC _)
  ·show(uI tn cj σ).length=(tn ++ cn).length
   unfold uI
   rw[aH,aH,ae,ae,S.XD.length]
 have XF:Nu 0 h₁:=T.keep 0 _ _ Md fun b _ o e=>old b o (UW b o e)
 have rE: ∀{H':Hp},(∀b∈fp,H' b=none)-> ∀b∈fp,uv (A2 X (tn ++ cn) scope cl HH.objs.size {s2 with heap:=HH} (upd H2 s2.heap.objs.size (.lst [])) fp) [] H' b:=fun hn b hb=>
  ⟨hn b hb,(Tc.Ko b hb).1,Tc.wb b hb,.inl hb,(Tc.Ko b hb).2,fun p hp=>absurd hp (by intro z; exact nomatch z)⟩
 have Zw: ∀b∈fp,upd H2 s2.heap.objs.size (.lst []) b=none:=fun b hb=>by
  rw[aA (a0 (QI b hb))]
  exact(f2 b hb).1
 have loop:codeAny (model X.prog X.w) X.A (.compLoop (.ListComp elt [⟨tg,iter,ifs,0⟩] scope pos) 0 (.ref it) (.ref s2.heap.objs.size) (compEnvC scope cl HH.objs.size X.env))
    (RR (.ref s2.heap.objs.size) HH.objs.size) {s2 with heap:=h₁,toks:=s2.toks + ([]:List (Str×Value)).length}:=by
  refine FE (fun n s'=> ∃i σ' H',Inv (A2 X (tn ++ cn) scope cl HH.objs.size {s2 with heap:=HH} (upd H2 s2.heap.objs.size (.lst [])) fp) [] σ' H' s'/\Nu i s'.heap/\(∀b∈fp,H' b=none)/\W i n σ' H') ?_ m0 ⟨0,_,_,IY,XF,Zw,w0⟩
  rintro n s3 ⟨i,σ3,H3,J3,Qk,Ku,w3⟩
  rcases turn i n σ3 H3 w3 with⟨stop,qn⟩|⟨go,N,hN,step⟩
  ·refine dP (T.done (A2 X (tn ++ cn) scope cl HH.objs.size {s2 with heap:=HH} (upd H2 s2.heap.objs.size (.lst [])) fp) rfl rfl rfl xN i [] s3 σ3 H3 _ J3 (rE Ku) Qk stop) fun r s4 ⟨hr,J4⟩=>?_
   subst hr
   obtain⟨m',Ue,_⟩:=J4.loc
   exact Zu _ _ s4 H3 m' (I3.DT (ch:=fp) J4.os J4.base J4.cw J4.bare fun b hb=>⟨(f2 b hb).2.2.2.1,(f2 b hb).2.1,(f2 b hb).2.2.2.2.1,(f2 b hb).2.2.2.2.2⟩) (I3.Fm (aC _) J4.free) Ue qn
  ·refine dP (T.item (A2 X (tn ++ cn) scope cl HH.objs.size {s2 with heap:=HH} (upd H2 s2.heap.objs.size (.lst [])) fp) rfl rfl rfl xN i [] s3 σ3 H3 _ J3 (rE Ku) Qk go) fun r s4 ⟨u,hr,h4⟩=>?_
   subst hr
   refine dP h4 fun _ s5 ⟨x,H5,J5,r5,y5,M6,Pd⟩=>?_
   have Zx:=J5.pinned (rE Pd) (T.obj _ _ M6)
   refine dP (hg _ _ _ _ _ s5 σ3 H5 x u _ Zx r5 (step x H5 y5)) fun _ s6 ⟨σ6,H6,J6,q6⟩=>?_
   have again: ∀{s7:Shared} {σ7:St} {H7:Hp},Inv (A2 X (tn ++ cn) scope cl HH.objs.size {s2 with heap:=HH} (upd H2 s2.heap.objs.size (.lst [])) fp) ([] ++ oZ fp s5.heap) σ7 H7 s7->N σ7 H7->
     ∃m,m < n/\ ∃i σ' H',Inv (A2 X (tn ++ cn) scope cl HH.objs.size {s2 with heap:=HH} (upd H2 s2.heap.objs.size (.lst [])) fp) [] σ' H' s7/\Nu i s7.heap/\(∀b∈fp,H' b=none)/\W i m σ' H':=fun{s7 σ7 H7} I7 n7=>by
    obtain⟨m',hm,w7⟩:=hN σ7 H7 n7
    refine⟨m',hm,i + 1,σ7,H7,I7.iX,T.keep _ _ _ M6 fun b hb o e=>(I7.pin (b,o) (bo _ (bo _ (jC hb e)))).1,fun b hb=>?_,w7⟩
    obtain⟨o,e,d⟩:=T.obj _ _ M6 b hb
    exact(I7.pin (b,o) (bo _ (bo _ (jC hb e)))).2.1
   refine dP (hc _ _ _ _ _ s6 σ6 H6 _ J6 q6) fun ok s7 ⟨H7,J7,q7⟩=>?_
   cases ok with
   |false=>exact again J7 q7
   |true=>
    refine dP (he _ _ _ _ _ s7 σ6 H7 _ J7 q7) fun y s8 ⟨yv,H8,J8,r8,ys,hD,hz,q8⟩=>?_
    refine dP (xG _ s8 σ6 H8 (.ref s2.heap.objs.size) [yv] (.ref s2.heap.objs.size) [y] (fun _ H'=>N σ6 H') J8 rfl (.cons r8 .nil) ⟨_,ys,yv,rfl,rfl,hD,hz,q8⟩) fun _ s9 ⟨_,H9,J9,_,q9⟩=>?_
    exact again J9 q9
 exact codeAny_compStart_list loop (T.self _ 0 _ _ _ XF loop)
def Mi (wi:TI)(tn:List Str)(cj:List Nat)(g:TG)(tc:TT)(te:TE):TE:=fun σ H Q=>wi σ H fun J H2=>xM J g tc te (uI tn cj σ) H2 Q
theorem gJ {X:Cx}{elt tg iter:Expr}{ifs:List Expr}{scope:Scope}{pos:Pos}{cl:List (Str×Addr)}{tn cn:List Str}{cj:List Nat}{wi:TI}{g:TG}{tc:TT}{te:TE}
  (xN:X.calm=true) (S:rK X scope cl cn cj) (hi:PI X tg iter wi)
  (hg: ∀C s3 H3 fp,PG (A2 X (tn ++ cn) scope cl C s3 H3 fp) tg g) (hc: ∀C s3 H3 fp,KO (A2 X (tn ++ cn) scope cl C s3 H3 fp) ifs tc) (he: ∀C s3 H3 fp,PE (A2 X (tn ++ cn) scope cl C s3 H3 fp) elt te)
  (hs: ∀x,foldedSetIterable iter X.env x=pure x:=by intro _; rfl):
  PE X (.ListComp elt [⟨tg,iter,ifs,0⟩] scope pos) (Mi wi tn cj g tc te):=by
 intro pins s σ H Q I h
 rw[eval_ListComp]
 refine wpAny_comprehension_free (use:=none) rfl hs S.FF S.kind S.names (dP (hi pins s σ H _ I h) fun v s1 h1=>dP h1 fun S7 s2 h2=>?_)
 obtain⟨it,fp,Nu,J,H2,e,I2,T,Md,f2,hw⟩:=h2
 subst e
 refine uJ (RR:=fun acc C=>compPost (model X.prog X.w) X.A X.xe none (EP X pins σ Q) acc C) xN S hg hc he I2 T Md f2 hw ?_
 intro D C s' H' m' I' FG hn q
 exact⟨m',hn,fun h' KQ=>⟨.ref D,H',I'.turned (t':=s'.toks) (fun b o hb e=>(KQ.2 b hb).trans e) FG.1 FG.2.1 FG.2.2.2.1 FG.2.2.2.2.1 FG.2.2.2.2.2,rfl,q⟩⟩
theorem kY {X:Cx}{i:Nat}{y:Str}{py QK:Pos}{elt tg iter:Expr}{ifs:List Expr}{scope:Scope}{pos:Pos}{cl:List (Str×Addr)}{tn cn:List Str}{cj:List Nat}{wi:TI}{g:TG}{tc:TT}{te:TE}
  (hN:X.N.Nodup) (hy:X.N[i]? =some y) (hx:Loc X.env.scope y)
  (xN:X.calm=true) (S:rK X scope cl cn cj) (hi:PI X tg iter wi)
  (hg: ∀C s3 H3 fp,PG (A2 X (tn ++ cn) scope cl C s3 H3 fp) tg g) (hc: ∀C s3 H3 fp,KO (A2 X (tn ++ cn) scope cl C s3 H3 fp) ifs tc) (he: ∀C s3 H3 fp,PE (A2 X (tn ++ cn) scope cl C s3 H3 fp) elt te)
  (UX:swapsWith (.ListComp elt [⟨tg,iter,ifs,0⟩] scope pos) (some (.Name y py)) QK.line X.env=pure true:=by rfl)
  (hs: ∀x,foldedSetIterable iter X.env x=pure x:=by intro _; rfl)
  (hf:X.fn y=true∨X.env.scope.names.lookup y=some .local:=by first|exact .inl rfl|exact .inr rfl|assumption):
  PS X (.Assign [.Name y py] (.ListComp elt [⟨tg,iter,ifs,0⟩] scope pos) QK) (Kt (Mi wi tn cj g tc te) (AO i)):=by
 intro pins s σ H D I h
 rw[exec_Assign_Name_used _ _ _ _ UX]
 refine az (ie (az ?_))
 show wpAny _ X.A (do let _ ← comprehension (.ListComp elt [⟨tg,iter,ifs,0⟩] scope pos) scope X.env _ (newList []) false (eval iter X.env) (some (assign (.Name y py) X.env))) _ _ s
 refine az (cf (wpAny_comprehension_free (use:=some (assign (.Name y py) X.env)) (Q:=fun _ s'=>SP X pins D .next s') rfl hs S.FF S.kind S.names
  (dP (hi pins s σ H _ I h) fun v s1 h1=>dP h1 fun S7 s2 h2=>?_)) (fun _ s' hq=>bB (bB hq)) fun _ _ e=>e)
 obtain⟨it,fp,Nu,J,H2,e,I2,T,Md,f2,hw⟩:=h2
 subst e
 refine uJ (RR:=fun acc C=>compPost (model X.prog X.w) X.A X.xe (some (assign (.Name y py) X.env)) (fun _ s'=>SP X pins D .next s') acc C) xN S hg hc he I2 T Md f2 hw ?_
 intro D' C s' H' m' I' FG hn q
 show wpAny _ X.A (assign (.Name y py) X.env (.ref D')) _ _ _
 refine wpAny_assign_Name (xx I' hN hy hx (v:= .ref D') rfl (fun D5 Zy ⟨a,sb,ha⟩=>?_) hf)
 have Zz:C≠a:=by
  rcases ha with rfl|ha
  ·exact FG.2.1
  ·exact fun z=>FG.2.2.2.2.1 y a ha z.symm
 refine⟨m',hn.sameBut sb Zz,fun h3 HY=>⟨_,H',Zy.turned (t':=D5.toks) (fun b o hb e=>(HY.2 b hb).trans e) FG.1 FG.2.1 FG.2.2.2.1 FG.2.2.2.2.1 FG.2.2.2.2.2,q⟩⟩
theorem eA {K:PySem.W.Frag}{a:Addr}{xs:List V}{g:TG}{tc:TT}{te:TE}{σ0:St}{H2:Hp}{Q:VK}(Pv:Addr->Nat->St->Hp->Prop)(h0: ∀D,H2 D=none->Pv D 0 σ0 (upd H2 D (.lst [])))
  (hl: ∀D i σ H,i<=xs.length->Pv D i σ H->bE K H a xs)
  (hs: ∀D i x σ H,xs[i]? =some x->Pv D i σ H->g x σ H fun σ2 H2=>tc σ2 H2 fun ok H3=>if ok=true then te σ2 H3 fun y H4=> ∃ys,H4 D=some (.lst ys)/\ys.length < sizeLine/\Pv D (i + 1) σ2 (upd H4 D (.lst (ys ++ [y]))) else Pv D (i + 1) σ2 H3)
  (hd: ∀D σ H,H2 D=none->Pv D xs.length σ H->Q (.ref D) H):xM (Pc K a) g tc te σ0 H2 Q:=by
 intro D hD
 refine⟨fun i m σ H=>m=xs.length - i/\i<=xs.length/\Pv D i σ H,⟨xs.length,by simp,Nat.zero_le _,h0 D hD⟩,?_⟩
 rintro i m σ H ⟨rfl,hi,p⟩
 have q:=hl D i σ H hi p
 by_cases iO:i < xs.length
 ·refine .inr ⟨⟨xs,xs[i],q,by simp[iO]⟩,Pv D (i + 1),fun σ' H' p'=>⟨xs.length - (i + 1),by lia,rfl,iO,p'⟩,fun x H' y=>?_⟩
  obtain⟨e,y⟩:=y
  subst e
  exact hs D i x σ _ (y xs q) p
 ·have e:i=xs.length:=by lia
  subst e
  exact .inl ⟨⟨xs,q,aC _⟩,hd D σ H hD p⟩
theorem A3 {K:PySem.W.Frag}{a:Addr}{xs:List V}{g:TG}{tc:TT}{te:TE}{σ0:St}{H2:Hp}{Q:VK}(Pv:Addr->Nat->St->Hp->Prop)(h0: ∀D,H2 D=none->Pv D 0 σ0 (upd H2 D (.lst [])))
  (hl: ∀D i σ H,i<=xs.length->Pv D i σ H->cm K H a xs)
  (hs: ∀D i x σ H,xs[i]? =some x->Pv D i σ H->g x σ H fun σ2 H2=>tc σ2 H2 fun ok H3=>if ok=true then te σ2 H3 fun y H4=> ∃ys,H4 D=some (.lst ys)/\ys.length < sizeLine/\Pv D (i + 1) σ2 (upd H4 D (.lst (ys ++ [y]))) else Pv D (i + 1) σ2 H3)
  (hd: ∀D σ H,H2 D=none->Pv D xs.length σ H->Q (.ref D) H):xM (Us K a) g tc te σ0 H2 Q:=by
 intro D hD
 refine⟨fun i m σ H=>m=xs.length - i/\i<=xs.length/\Pv D i σ H,⟨xs.length,by simp,Nat.zero_le _,h0 D hD⟩,?_⟩
 rintro i m σ H ⟨rfl,hi,p⟩
 have q:=hl D i σ H hi p
 by_cases iO:i < xs.length
 ·refine .inr ⟨⟨xs,xs[i],q,by simp[iO]⟩,Pv D (i + 1),fun σ' H' p'=>⟨xs.length - (i + 1),by lia,rfl,iO,p'⟩,fun x H' y=>?_⟩
  obtain⟨e,y⟩:=y
  subst e
  exact hs D i x σ _ (y xs q) p
 ·have e:i=xs.length:=by lia
  subst e
  exact .inl ⟨⟨xs,q,aC _⟩,hd D σ H hD p⟩
theorem CV {lo:Int}{n:Nat}{g:TG}{tc:TT}{te:TE}{σ0:St}{H2:Hp}{Q:VK}(Pv:Addr->Nat->St->Hp->Prop)(h0: ∀D,H2 D=none->Pv D 0 σ0 (upd H2 D (.lst [])))
  (hs: ∀D i σ H,i < n->Pv D i σ H->g (.int (lo + i)) σ H fun σ2 H2=>tc σ2 H2 fun ok H3=>if ok=true then te σ2 H3 fun y H4=> ∃ys,H4 D=some (.lst ys)/\ys.length < sizeLine/\Pv D (i + 1) σ2 (upd H4 D (.lst (ys ++ [y]))) else Pv D (i + 1) σ2 H3)
  (hd: ∀D σ H,H2 D=none->Pv D n σ H->Q (.ref D) H):xM (Mc lo n) g tc te σ0 H2 Q:=by
 intro D hD
 refine⟨fun i m σ H=>m=n - i/\i<=n/\Pv D i σ H,⟨n,by simp,Nat.zero_le _,h0 D hD⟩,?_⟩
 rintro i m σ H ⟨rfl,hi,p⟩
 by_cases iO:i < n
 ·refine .inr ⟨iO,Pv D (i + 1),fun σ' H' p'=>⟨n - (i + 1),by lia,rfl,iO,p'⟩,fun x H' y=>?_⟩
  obtain⟨e,y⟩:=y
  subst e y
  exact hs D i σ _ iO p
 ·have e:i=n:=by lia
  subst e
  exact .inl ⟨aC _,hd D σ H hD p⟩
theorem Inv.CW {X:Cx}{pins:List (Addr×Obj)}{σ:St}{H:Hp}{s:Shared}{h':Heap}{a:Addr}{o:HO}{t':Nat}{ch:List Addr}(I:Inv X pins σ H s)(k: ∀b ob,b∉ch->s.heap.get? b=some ob->h'.get? b=some ob)
  (AI: ∀b∈ch,uv X pins H b) (hp:s.heap.objs.size<=a) (new:dr X.prog X.w (upd H a o) h' a o):Inv X pins σ (upd H a o) {s with heap:=h',toks:=t'}:=by
 have hn:H a=none:=I.cw.fresh hp
 have P6: ∀b u,H b=some u->b∉ch:=fun b u e z=>by rw[(AI b z).1] at e; cases e
 refine I.step (g':=s.gens) (d':=s.drawn) (ch:=ch) (fun b hb=>⟨(AI b hb).2.2.2.1,(AI b hb).2.1,(AI b hb).2.2.2.2.1,(AI b hb).2.2.2.2.2⟩) (fun b ob _ _ hc e _=>k b ob hc e) (fun b ob _ _ hc e _=>⟨ob.slots,k b ob hc e⟩)
  (fun b ob _ e n=>by rw[aA (a0 (ba (aK e) hp))]; exact n)
  (fun b ob hc e=>⟨ob,k b ob hc e⟩) (fun b xs e=>by rw[aA (aJ e hn)]; exact e) (fun b ob u e=>by rw[aA (aJ e hn)]; exact e) (fun b ps e=>⟨#[],by rw[aA (aJ e hn),e]; simp⟩) (fun m hm=>?_) (fun b u e=>?_) I.bare
 ·obtain⟨ob,es,ep,ho,r⟩:=hm
  exact⟨ob,es,ep,k _ ob (fun z=>(AI _ z).2.1 rfl) ho,r⟩
 ·by_cases hb:b=a
  ·subst hb
   rw[ag] at e
   cases e
   exact new
  ·rw[aA hb] at e
   refine(I.cw b u e).tj (fun c v hc q=>k c v ?_ q) (fun c q=>by rw[aA (aJ q hn)]; exact q) fun c xs q=>by rw[aA (aJ q hn)]; exact q
   rcases hc with z|z
   ·rw[z]; exact P6 b u e
   ·exact P6 c _ z
def QL (K:PySem.W.Frag)(a:Addr):It:=
 ⟨fun i H=> ∃xs x,bE K H a xs/\xs[i]? =some x,fun i H x H'=> ∃p y,H p=none/\x= .ref p/\H'=upd H p (.tup [.int i,y])/\ ∀xs,bE K H a xs->xs[i]? =some y,fun i H=> ∃xs,bE K H a xs/\xs.length<=i⟩
theorem FH {P:Program}{w:World}{K:PySem.W.Frag}{elts:List Expr}{k1}{pos:Pos}(a e it:Addr)(iZ:e≠it):Turn P w K (.Tuple elts k1 pos) (QL K a) [e,it] e (fun i h=>(∃old,IsEnum h e it i old)/\h.IsListIter it a i) where
 mem:=by simp
 obj:=fun i h st b hb=>by
  obtain⟨⟨old,he⟩,hit⟩:=st
  have e1:b=e∨b=it:=by simpa using hb
  rcases e1 with rfl|rfl
  ·exact⟨_,he,fun v z=>by have z':Data.fields _ =Data.cell v:=z; cases z'⟩
  ·obtain⟨o,e,c,d⟩:=hit
   exact⟨o,e,fun v z=>by rw[d] at z; cases z⟩
 keep:=fun i h h' st k=>by
  obtain⟨⟨old,he⟩,hit⟩:=st
  exact⟨⟨old,k e (by simp) _ he⟩,hit.at fun o e=>k it (by simp) o e⟩
 item:=by
  intro X hP hw hK hc i pins s σ H E I hf st hg
  subst hP hw hK
  obtain⟨⟨old,he⟩,hit⟩:=st
  obtain⟨xs,x,hq,hx⟩:=hg
  obtain⟨bY,rv,p,hz⟩:=I.list hq
  obtain⟨u,hu,ru⟩:=rv.get hx
  refine wpAny_pyNext_enum_item he hit p.isList (x:=u) (by simpa using hu) iZ fun h' ho UY hT hsz hk=>⟨_,rfl,?_⟩
  refine wpAny_letOwnedTupleGo_enum ho fun h2 ZA Pf=>?_
  have iO:e < s.heap.objs.size:=aK he
  have FI:h2.get? s.heap.objs.size=some {cls:= .type "tuple",data:= .seq #[.int i s.toks,u]}:=(Pf.2 _ (pO iO)).trans hT
  have hn:H s.heap.objs.size=none:=I.cw.fresh (aC _)
  have I2:Inv X pins σ (upd H s.heap.objs.size (.tup [.int i,x])) {s with heap:=h2,toks:=s.toks + 1}:=by
   refine I.CW (ch:=[e,it]) (fun b ob hb q=>?_) hf (aC _) ⟨by show 2<=sizeLine; decide,[.int i s.toks,u],.cons ⟨_,rfl⟩ (.cons ru .nil),⟨_,FI,rfl,_,rfl⟩⟩
   have Ed:b≠e/\b≠it:=⟨fun z=>hb (by simp[z]),fun z=>hb (by simp[z])⟩
   exact(Pf.2 b Ed.1).trans (hk b ob Ed.1 Ed.2 q)
  refine⟨.ref s.heap.objs.size,_,I2,rfl,⟨_,x,hn,rfl,rfl,fun ys hy=>by rw[I.AN hy hq]; exact hx⟩,⟨⟨u,by simpa using ZA⟩,UY.at fun o q=>(Pf.2 it iZ.symm).trans q⟩,fun b hb=>?_⟩
  have Td:=hf b hb
  rw[aA]
  ·exact Td.1
  ·have e1:b=e∨b=it:=by simpa using hb
   rcases e1 with rfl|rfl
   ·exact a0 iO
   ·obtain⟨o,q,_⟩:=hit
    exact a0 (aK q)
 done:=by
  intro X hP hw hK hc i pins s σ H E I hf st hg
  subst hP hw hK
  obtain⟨⟨old,he⟩,hit⟩:=st
  obtain⟨xs,hq,hx⟩:=hg
  obtain⟨bY,rv,p,hz⟩:=I.list hq
  obtain⟨f0,f1,f2,f3,f4,f5⟩:=hf it (by simp)
  have hl:=rv.length
  exact wpAny_pyNext_enum_end (I.ok.hd hc) he hit p.isList (by simp; lia) fun h' eb=>⟨rfl,I.turned (t':=s.toks) (fun b o hb e=>eb b o hb e) f0 f1 f3 f4 f5⟩
 self:=fun _ _ _ _ _ st h=>by
  obtain⟨⟨old,he⟩,hit⟩:=st
  exact wpAny_pyIter_enum he h
def QM (K:PySem.W.Frag)(ta:TA):TI:=fun σ H R=>ta σ H fun vs H1=> ∃a,vs=[.ref a]/\(∃xs,bE K H1 a xs)/\R (QL K a) H1
theorem qo {X:Cx}{elts:List Expr}{k1}{Na:Pos}{l:Expr}{ta:TA}{p pos:Pos}(hg:Gl X "enumerate")(hm:X.mg "enumerate"=none)(ha:PA X [l] ta)(hs:starEach [l] X.env=[(false,eval l X.env)]:=by rfl):
  PI X (.Tuple elts k1 Na) (.Call (.Name "enumerate" p) [l] [] pos) (QM X.K ta):=by
 intro pins s σ H R I h
 refine Call_ (oW I hg hm boot_enumerate (nR (dP (ha pos pins s σ H _ I h) fun us s1 ⟨vs,H1,I1,r1,q1⟩=>?_) hs rfl))
 obtain⟨a,e,⟨xs,hq⟩,q⟩:=q1
 subst e
 obtain⟨u,rfl,ru⟩:=vals1 r1
 cases ru
 obtain⟨bY,rv,pl,hz⟩:=I1.list hq
 refine call_enumerate_list pl.isList fun h' he hit hsz kp=>?_
 have I2:Inv X pins σ H1 {s1 with heap:=h'}:=I1.kept (t':=s1.toks) kp
 refine wpAny_pyIter_enum he ⟨s1.heap.objs.size + 1,[s1.heap.objs.size + 1,s1.heap.objs.size],_,_,H1,rfl,I2,FH a _ _ (Nat.succ_ne_self _),⟨⟨_,he⟩,hit⟩,fun b hb=>?_,q⟩
 have e1:b=s1.heap.objs.size + 1∨b=s1.heap.objs.size:=by simpa using hb
 have Ed:s1.heap.objs.size<=b:=by
  rcases e1 with rfl|rfl
  ·exact dF _
  ·exact aC _
 exact I1.Fm Ed (I1.cw.fresh Ed)
theorem mH {K:PySem.W.Frag}{a:Addr}{xs:List V}{g:TG}{tb:TS}{D:Ends}{σ:St}{H:Hp}(Pv:Nat->St->Hp->Prop)(h0:Pv 0 σ H)(hl: ∀i σ H,i<=xs.length->Pv i σ H->bE K H a xs)
  (hs: ∀i x p σ H,xs[i]? =some x->H p=none->Pv i σ H->g (.ref p) σ (upd H p (.tup [.int i,x])) fun σ2 H2=>tb {D with nx:=Pv (i + 1),ct:=Pv (i + 1),bk:=D.nx} σ2 H2) (hd: ∀σ H,Pv xs.length σ H->D.nx σ H):
  ∃W:Nat->Nat->St->Hp->Prop,(∃m,W 0 m σ H)/\ ∀i m σ H,W i m σ H->
   ((QL K a).stop i H/\D.nx σ H)∨((QL K a).go i H/\ ∃N:St->Hp->Prop,(∀σ' H',N σ' H'-> ∃m',m' < m/\W (i + 1) m' σ' H')/\ ∀x H',(QL K a).Pb i H x H'->g x σ H' fun σ2 H2=>tb {D with nx:=N,ct:=N,bk:=D.nx} σ2 H2):=by
 refine⟨fun i m σ H=>m=xs.length - i/\i<=xs.length/\Pv i σ H,⟨xs.length,by simp,Nat.zero_le _,h0⟩,?_⟩
 rintro i m σ H ⟨rfl,hi,p⟩
 have q:=hl i σ H hi p
 by_cases iO:i < xs.length
 ·refine .inr ⟨⟨xs,xs[i],q,by simp[iO]⟩,Pv (i + 1),fun σ' H' p'=>⟨xs.length - (i + 1),by lia,rfl,iO,p'⟩,fun x H' y=>?_⟩
  obtain⟨pp,y,h1,e1,e2,h2⟩:=y
  subst e1 e2
  exact hs i y pp σ _ (h2 xs q) h1 p
 ·have e:i=xs.length:=by lia
  subst e
  exact .inl ⟨⟨xs,q,aC _⟩,hd σ H p⟩
structure eF (P:Program)(w:World)(K:PySem.W.Frag)(mg:Str->Option Value)(base:Heap)(x:Str)(k:Nat)(ps:List Str)(sp:Sp):Prop where
 ex: ∃(f:Addr) (fd:FuncData),lI P w K mg base rJ k f fd ps sp/\mg x=some (.ref f)/\PySem.W.keepIn K (.ref f)=true/\Binds K fd ps []
section
variable {X:Cx}{x:Str}{k:Nat}{ps:List Str}{sp:Sp}{e:Expr}{es:List Expr}{t:TA}{p pos:Pos}
theorem QN (C:eF X.prog X.w X.K X.mg X.base x k ps sp)(hr:eT k X.A)(hg:Gl X x)(ha:PA X (e :: es) t)(qf:(x == ("__debug__":Str))=false:=by decide)
  (he:starEach (e :: es) X.env=(false,eval e X.env) :: starEach es X.env:=by rfl) (hV:(backTo pos (starEach es X.env)).any (·.1)=false:=by rfl):PE X (.Call (.Name x p) (e :: es) [] pos) (uz sp [] E0 t):=by
 obtain⟨f,fd,F,hm,hk,hb⟩:=C.ex
 exact D4 F hr hg hm hk hb .nil mE ha qf he hV
theorem HZ (C:eF X.prog X.w X.K X.mg X.base x k ps sp)(hr:eT k X.A)(hg:Gl X x)(qf:(x == ("__debug__":Str))=false:=by decide):PE X (.Call (.Name x p) [] [] pos) (uz sp [] E0 CM):=by
 obtain⟨f,fd,F,hm,hk,hb⟩:=C.ex
 exact HI F hr hg hm hk hb .nil mE qf
end
structure Df (K:PySem.W.Frag)(mg:Str->Option Value)(x:Str)(st:Stmt):Prop where
 ex: ∃(f:Addr) (fd:FuncData),fY K x x st f fd/\mg x=some (.ref f)
theorem Df.ZC {P:Program}{w:World}{K:PySem.W.Frag}{mg:Str->Option Value}{base:Heap}{x:Str}{st:Stmt}{N ps:List Str}{k:Nat}{sp:Sp}(D:Df K mg x st)(S:aS N ps (ax st))
  (hb: ∀(kV doc pm:Value) (an:Option Addr) (cK ct:Value) (us:List Value),us.length=ps.length->bindArgs (PySem.W.fnOf x x (gw st) (dv st) (ax st) .none kV doc pm an cK ct) ⟨us,[]⟩=pure (ps.zip us))
  (len: ∀vs H Q E,sp vs H Q E->vs.length=ps.length)
  (fN: ∀(f:Addr) (cK:Value) (A:Around) (outer:List Env) (s:Shared) (H:Hp) (vs:List V) (Q:VK) (E:XK),eT k (A.deeper (envOfC x (ax st) s.heap.objs.size f cK))->sp vs H Q E->
   ∃t,oV (kQ rJ P w K mg base N x (ax st) f cK A outer s H E).DV (dv st) t/\t {nx:=fun _ H'=>Q .d8 H',rt:=Q} (start N vs) H):eF P w K mg base x (k + 1) ps sp:=by
 obtain⟨f,fd,F,hm⟩:=D.ex
 exact⟨f,fd,F.ok S len (fN f),hm,F.kp,F.binds hb⟩
theorem Ee {X:Cx}{scope:Scope}(xy: ∀y∈scope.names,y.2≠ .free:=by decide +kernel)(l5: ∀y∈scope.names,y.2≠ .cell:=by decide +kernel)(mB:scope.kind= .function:=by rfl)(uK: ∀x∈scope.names,x.2= .local->scope.names.lookup x.1=some .local:=by decide +kernel):rK X scope [] [] []:=by
 have e:(relabel scope X.env).names=scope.names:=map_eq_self (l:=scope.names) (fun x hx=>by
  obtain⟨n,k⟩:=x
  have:(k == NameKind.free)=false:=by simpa using xy _ hx
  simp[this])
 refine⟨closureFor_none xy,l5,mB,uK,fun x c h=>by simp at h,fun x h=>?_,.nil⟩
 rw[e] at h
 rcases h with h|h
 ·exact absurd rfl (l5 _ (b9 h))
 ·exact absurd rfl (xy _ (b9 h))
theorem ig {X:Cx}{scope:Scope}{x:Str}{c:Addr}{j:Nat}(FF:closureFor scope X.env=pure [(x,c)]:=by rfl)(l5: ∀y∈scope.names,y.2≠ .cell:=by decide +kernel)(mB:scope.kind= .function:=by rfl)(uK: ∀x∈scope.names,x.2= .local->scope.names.lookup x.1=some .local:=by decide +kernel)
  (hx:X.env.cells.lookup x=some c:=by rfl) (yI:List (Str×NameKind)) (QO:(relabel scope X.env).names=yI:=by rfl) (A4: ∀y∈yI,(y.2= .cell∨y.2= .free)->y.1=x:=by decide +kernel) (hN:X.N[j]? =some x:=by rfl) (hk:X.env.kindOf x=some .cell∨X.env.kindOf x=some .free:=by exact Or.inl rfl)
  (Mh:(relabel scope X.env).names.lookup x=some .cell∨(relabel scope X.env).names.lookup x=some .free:=by exact Or.inl rfl):rK X scope [(x,c)] [x] [j]:=by
 refine⟨FF,l5,mB,uK,fun y c' h=>?_,fun y h=>?_,.cons ⟨hN,hk,Mh⟩ .nil⟩
 ·have h':=b9 h
  have e:(y,c')=(x,c):=by simpa using h'
  cases e
  exact hx
 ·have e:y=x:=by
   rcases h with h|h
   ·rw[QO] at h
    exact A4 _ (b9 h) (.inl rfl)
   ·rw[QO] at h
    exact A4 _ (b9 h) (.inr rfl)
  subst e
  exact⟨c,by simp[List.lookup_cons]⟩
section
variable {X:Cx}
def QP (i j:Int):Prop:=Builtin.Int.intBits i<=2 ^ 20/\Builtin.Int.intBits j<=2 ^ 20
theorem KR:ox X (binaryOp .Mult) (rI QP fun i j=> .int (i * j)):=Ql fun _ _ _ _ _ _ _ hc q=>mul_int q (.of_bits hc.1 hc.2)
end
section
variable {prog:Program}{w:World}{A:Around}{E:Value->Shared->Prop}{s:Shared}
end
section
variable {X:Cx}
theorem eG:iY X (.builtin "isinstance") (fun xs H Q=> ∃x c t b,xs=[x,.ty c]/\mz X.K H x t/\PySem.W.kitOne X.K t (.type c)=some b/\Q (.bl b) H):=by
 intro pins s σ H xs us Q I r h
 obtain⟨x,c,t,b,rfl,ty,e,q⟩:=h
 obtain⟨u,u2,rfl,r1,r2⟩:=vals2 r
 obtain rfl:u2=Value.type c:=r2
 exact Fs I r1 ty e fun tk=>⟨.bl b,H,I.tok _,rfl,q⟩
theorem Ef: ∀{cs:List String} {us:List Value},Vals (cs.map V.ty) us->us=cs.map Value.type
 |[],_,r=>by rw[vY] at r; cases r; rfl
 |c :: cs,_,r=>by
  rw[cU] at r
  cases r with
  |cons r1 r2=>
   have e1:_ =Value.type c:=r1
   rw[e1,Ef r2,cU]
theorem CY {pins:List (Addr×Obj)}{σ:St}{H:Hp}{s:Shared}{A:Around}{E:Value->Shared->Prop}{Q:Value->Shared->Prop}{x:V}{u t:Value}{tp:Addr}{cs:List String}{b:Bool}(I:Inv X pins σ H s)(rx:RelV x u)(ty:mz X.K H x t)
  (hp:H tp=some (.tup (cs.map V.ty))) (e:PySem.W.kitAny X.K t (cs.map Value.type)=some b) (h: ∀tk,Q (.bool b) {s with toks:=tk}):
  wpAny (model X.prog X.w) A (call (.builtin "isinstance") [u,.ref tp]) Q E s:=by
 obtain⟨_,bY,rv,⟨cl,dd,dt,sl⟩,hg,hc,n,hd⟩:=(show dr X.prog X.w H s.heap tp (.tup (cs.map V.ty)) from I.cw tp _ hp)
 have ei:=Ef rv
 subst ei
 simp only at hc hd
 subst hc hd
 cases ty with
 |d8=>cases(show u=Value.none from rx); exact dY PySem.W.kitx_none I.gE True.intro hg e (fun z=>nomatch z) h
 |bl y=>cases(show u=Value.bool y from rx); exact dY PySem.W.kitx_bool I.gE True.intro hg e (fun z=>nomatch z) h
 |int i=>obtain⟨t,q⟩:=(show ∃t,u=Value.int i t from rx); cases q; exact dY PySem.W.kitx_int I.gE True.intro hg e (fun z=>nomatch z) h
 |str y=>obtain⟨t,q⟩:=(show ∃t,u=Value.str y t from rx); cases q; exact dY PySem.W.kitx_str I.gE True.intro hg e (fun z=>nomatch z) h
 |Kl y=>obtain⟨t,q⟩:=(show ∃t,u=Value.float y t from rx); cases q; exact dY PySem.W.kitx_float I.gE True.intro hg e (fun z=>nomatch z) h
 | @lst a xs ea=>
  cases(show u=Value.ref a from rx)
  obtain⟨_,_,n,_,h1⟩:=(show dr X.prog X.w H s.heap a (.lst xs) from I.cw a _ ea)
  exact dY rm I.gE ⟨_,h1,rfl⟩ hg e (fun z=>nomatch z) h
 | @Cr a ob xs ea=>
  cases(show u=Value.ref a from rx)
  obtain⟨_,_,_,n,_,h1⟩:=(show dr X.prog X.w H s.heap a (.Cr ob (.lst xs)) from I.cw a _ ea)
  exact dY rm I.gE ⟨_,h1,rfl⟩ hg e (fun z=>nomatch z) h
 | @tup a xs ea=>
  cases(show u=Value.ref a from rx)
  obtain⟨_,_,_,p⟩:=(show dr X.prog X.w H s.heap a (.tup xs) from I.cw a _ ea)
  obtain⟨o,h1,h2,_⟩:=p
  exact dY PySem.W.kitx_tuple I.gE ⟨o,h1,h2⟩ hg e (fun z=>nomatch z) h
 | @dK a a9 ea=>
  cases(show u=Value.ref a from rx)
  obtain⟨_,_,vs,_,p⟩:=(show dr X.prog X.w H s.heap a (.dK a9) from I.cw a _ ea)
  obtain⟨o,es,ep,h1,h2,_⟩:=p
  exact dY rn I.gE ⟨o,h1,h2.1⟩ hg e (fun z=>nomatch z) h
 | @dT a a9 ea=>
  cases(show u=Value.ref a from rx)
  obtain⟨_,_,xs,_,o,es,ep,h1,h2,_⟩:=(show dr X.prog X.w H s.heap a (.dT a9) from I.cw a _ ea)
  exact dY rn I.gE ⟨o,h1,h2.1⟩ hg e (fun z=>nomatch z) h
 | @ins a C dx fs ea cl ha hn nK hm=>
  cases(show u=Value.ref a from rx)
  obtain⟨mA,O,_⟩:=qd I.cw ea
  obtain⟨od,J,_⟩:=O.look
  exact dY (PySem.W.kitx_own (cl.get _) cl.hd ha hn nK hm) I.gE J hg e (fun z=>nomatch z) h
theorem CZ:iY X (.builtin "isinstance") (fun xs H Q=> ∃(x:V) (tp:Addr) (cs:List String) (t:Value) (b:Bool),xs=[x,.ref tp]/\H tp=some (.tup (cs.map V.ty))/\mz X.K H x t/\PySem.W.kitAny X.K t (cs.map Value.type)=some b/\Q (.bl b) H):=by
 intro pins s σ H xs us Q I r h
 obtain⟨x,tp,cs,t,b,rfl,hp,ty,e,q⟩:=h
 obtain⟨u,u2,rfl,r1,r2⟩:=vals2 r
 obtain rfl:u2=Value.ref tp:=r2
 exact CY I r1 ty hp e fun tk=>⟨.bl b,H,I.tok _,rfl,q⟩
def Nx (K:PySem.W.Frag):R2:=fun x y H Q=> ∃a b xs,x= .ref a/\y= .ref b/\bE K H a xs/\bE K H b []/\Q (.bl (!xs.isEmpty)) H
theorem Ia {n:Nat}(hu:X.A.units + n < cLine):ox X (compareOp .NotEq) (Nx X.K):=by
 intro pins s σ H x y v u Q I rx ry h
 obtain⟨a,b,xs,rfl,rfl,ha,hb,q⟩:=h
 cases rx
 cases ry
 obtain⟨bY,r1,p1,_⟩:=I.list ha
 obtain⟨Fw,r2,p2,_⟩:=I.list hb
 have e2:Fw=[]:=r2.zero
 subst e2
 cases xs with
 |nil=>
  have e1:bY=[]:=r1.zero
  subst e1
  exact SeqAt.RcNeAt.lists (e:=fun _=>true) p1.isList p2.isList rfl (by lia) (fun j h1 _=>absurd h1 (by simp)) X.prog X.w X.xe _ ⟨.bl false,H,I,rfl,q⟩
 |cons z zs=>
  have l1:=r1.length
  exact SeqAt.RcNeAt.lists_lengths p1.isList p2.isList (by simp only[List.size_toArray,← l1]; simp) (by lia) X.prog X.w X.xe _ ⟨.bl true,H,I,rfl,q⟩
def UZ (K:PySem.W.Frag):R2:=fun x y H Q=> ∃p xs i v,x= .ref p/\y= .int i/\(bE K H p xs∨cm K H p xs)/\rH xs i=some v/\Q v H
theorem Mj:JW X (UZ X.K):=by
 intro value slice pins s σ H x y v u Q I rx ry h hs
 obtain⟨p,xs,i,z,e1,e2,hq|hq,he,q⟩:=h
 ·exact yC value slice pins s σ H x y v u Q I rx ry ⟨p,xs,i,z,e1,e2,hq,he,q⟩ hs
 ·exact CO value slice pins s σ H x y v u Q I rx ry ⟨p,xs,i,z,e1,e2,hq,he,q⟩ hs
end
theorem aD.new {H:Hp}{p:Addr}{o:HO}(h:H p=none):aD H (upd H p o):=fun b u e=>by rw[aA (aJ e h)]; exact e
def U0 (t u:TS):TS:=fun D σ H=> ∃M:St->Hp->Prop,t {D with nx:=M} σ H/\ ∀σ' H',M σ' H'->u D σ' H'
theorem ij {X:Cx}{st:Stmt}{rest:List Stmt}{t u:TS}(h1:PS X st t)(h2:oV X rest u):oV X (st :: rest) (U0 t u):=by
 intro pins s σ H D I ⟨M,h,hM⟩
 refine wpAny_execs_cons (dP (h1 pins s σ H {D with nx:=M} I h) fun f s1 q=>?_)
 cases f with
 |next=>
  obtain⟨σ',H',I',q⟩:=q
  exact h2 pins s1 σ' H' D I' (hM _ _ q)
 |ret v=>exact q
 |brk=>exact q
 |cont=>exact q
section
variable {X:Cx}{K:PySem.W.Frag}
theorem kZ (h:X.K=K):JW X (Nc K):=by subst h; exact yC
theorem nM (h:X.K=K):JW X (Nd K):=by subst h; exact CO
end
inductive Dt where
 |d8|bl (b:Bool)|int (i:Int)|str (x:Str)|tup (ds:List Dt)|lst (ds:List Dt)
mutual
def Rp (H:Hp):Dt->V->Prop
 | .d8,v=>v= .d8
 | .bl b,v=>v= .bl b
 | .int i,v=>v= .int i
 | .str x,v=>v= .str x
 | .tup ds,v=> ∃a xs,v= .ref a/\H a=some (.tup xs)/\gQ H ds xs
 | .lst ds,v=> ∃a xs,v= .ref a/\H a=some (.lst xs)/\gQ H ds xs
def gQ (H:Hp):List Dt->List V->Prop
 |[],vs=>vs=[]
 |d :: ds,vs=> ∃v r,vs=v :: r/\Rp H d v/\gQ H ds r
end
mutual
def Dt.size:Dt->Nat
 | .tup ds=>1 + Dt.eP ds
 | .lst ds=>1 + Dt.eP ds
 | .d8=>1
 | .bl _=>1
 | .int _=>1
 | .str _=>1
def Dt.eP:List Dt->Nat
 |[]=>0
 |d :: ds=>d.size + Dt.eP ds
end
theorem Dt.size_pos (d:Dt):1<=d.size:=by cases d <;> simp[Dt.size]
theorem Dt.il (a b:List Dt):Dt.eP (a ++ b)=Dt.eP a + Dt.eP b:=by
 induction a with
 |nil=>simp[Dt.eP]
 |cons d ds ih=>simp[Dt.eP,ih]; lia
theorem Dt.qp (a:List Dt):a.length<=Dt.eP a:=by
 induction a with
 |nil=>simp[Dt.eP]
 |cons d ds ih=>
  have:=d.size_pos
  simp[Dt.eP]; lia
theorem uL {H:Hp}{v:V}:Rp H .d8 v↔v= .d8:=by unfold Rp; exact Iff.rfl
theorem qq {H:Hp}{v:V}{b:Bool}:Rp H (.bl b) v↔v= .bl b:=by unfold Rp; exact Iff.rfl
theorem dz {H:Hp}{v:V}{i:Int}:Rp H (.int i) v↔v= .int i:=by unfold Rp; exact Iff.rfl
theorem gF {H:Hp}{v:V}{x:Str}:Rp H (.str x) v↔v= .str x:=by unfold Rp; exact Iff.rfl
theorem jF {H:Hp}{v:V}{ds:List Dt}:Rp H (.tup ds) v↔ ∃a xs,v= .ref a/\H a=some (.tup xs)/\gQ H ds xs:=by unfold Rp; exact Iff.rfl
theorem jG {H:Hp}{v:V}{ds:List Dt}:Rp H (.lst ds) v↔ ∃a xs,v= .ref a/\H a=some (.lst xs)/\gQ H ds xs:=by unfold Rp; exact Iff.rfl
theorem c9 {H:Hp}{vs:List V}:gQ H [] vs↔vs=[]:=by unfold gQ; exact Iff.rfl
theorem bL {H:Hp}{d:Dt}{ds:List Dt}{vs:List V}:gQ H (d :: ds) vs↔ ∃v r,vs=v :: r/\Rp H d v/\gQ H ds r:=by
 conv=>lhs; unfold gQ
mutual
theorem Rp.mono {H H':Hp}(s:aD H H'): ∀(d:Dt) {v:V},Rp H d v->Rp H' d v
 | .d8,_,h=>uL.mpr (uL.mp h)
 | .bl _,_,h=>qq.mpr (qq.mp h)
 | .int _,_,h=>dz.mpr (dz.mp h)
 | .str _,_,h=>gF.mpr (gF.mp h)
 | .tup ds,_,h=>by
  obtain⟨a,xs,e,h1,h2⟩:=jF.mp h
  exact jF.mpr ⟨a,xs,e,s _ _ h1,gQ.mono s ds h2⟩
 | .lst ds,_,h=>by
  obtain⟨a,xs,e,h1,h2⟩:=jG.mp h
  exact jG.mpr ⟨a,xs,e,s _ _ h1,gQ.mono s ds h2⟩
theorem gQ.mono {H H':Hp}(s:aD H H'): ∀(ds:List Dt) {vs:List V},gQ H ds vs->gQ H' ds vs
 |[],_,h=>c9.mpr (c9.mp h)
 |d :: ds,_,h=>by
  obtain⟨v,r,e,h1,h2⟩:=bL.mp h
  exact bL.mpr ⟨v,r,e,Rp.mono s d h1,gQ.mono s ds h2⟩
end
theorem gQ.length {H:Hp}: ∀{ds:List Dt} {vs:List V},gQ H ds vs->ds.length=vs.length
 |[],_,h=>by rw[c9.mp h]; rfl
 |d :: ds,_,h=>by
  obtain⟨v,r,e,_,h2⟩:=bL.mp h
  rw[e,bZ,bZ,gQ.length h2]
theorem gQ.get {H:Hp}: ∀{ds:List Dt} {vs:List V} {i:Nat} {d:Dt},gQ H ds vs->ds[i]? =some d-> ∃v,vs[i]? =some v/\Rp H d v
 |[],_,_,_,_,e=>by simp at e
 |d :: ds,_,0,_,h,e=>by
  obtain⟨v,r,rfl,h1,_⟩:=bL.mp h
  simp at e; subst e
  exact⟨v,rfl,h1⟩
 |d :: ds,_,i + 1,_,h,e=>by
  obtain⟨v,r,rfl,_,h2⟩:=bL.mp h
  obtain⟨u,h3,h4⟩:=gQ.get (i:=i) h2 (by simpa using e)
  exact⟨u,by simpa using h3,h4⟩
theorem gQ.append {H:Hp}: ∀{ds es:List Dt} {vs us:List V},gQ H ds vs->gQ H es us->gQ H (ds ++ es) (vs ++ us)
 |[],_,_,_,h,h'=>by rw[c9.mp h]; exact h'
 |d :: ds,_,_,_,h,h'=>by
  obtain⟨v,r,rfl,h1,h2⟩:=bL.mp h
  exact bL.mpr ⟨v,r ++ _,rfl,h1,gQ.append h2 h'⟩
theorem gQ.one {H:Hp}{d:Dt}{v:V}(h:Rp H d v):gQ H [d] [v]:=bL.mpr ⟨v,[],rfl,h,c9.mpr rfl⟩
theorem gQ.ints {H:Hp}: ∀(ns:List Int),gQ H (ns.map Dt.int) (ns.map V.int)
 |[]=>c9.mpr rfl
 |n :: ns=>bL.mpr ⟨_,_,rfl,dz.mpr rfl,gQ.ints ns⟩
theorem jm {H:Hp}{a:Addr}{xs:List V}{ds:List Dt}(h:H a=some (.lst xs))(r:gQ H ds xs):Rp H (.lst ds) (.ref a):=jG.mpr ⟨a,xs,rfl,h,r⟩
theorem fA {H:Hp}{a:Addr}{xs:List V}{ds:List Dt}(h:H a=some (.tup xs))(r:gQ H ds xs):Rp H (.tup ds) (.ref a):=jF.mpr ⟨a,xs,rfl,h,r⟩
def Ny:Dt->String
 | .d8=>"NoneType"| .bl _=>"bool"| .int _=>"int"| .str _=>"str"| .tup _=>"tuple"| .lst _=>"list"
theorem Rp.ty {K:PySem.W.Frag}{H:Hp}{d:Dt}{v:V}(h:Rp H d v):mz K H v (.type (Ny d)):=by
 cases d with
 |d8=>rw[uL.mp h]; exact .d8
 |bl b=>rw[qq.mp h]; exact .bl b
 |int i=>rw[dz.mp h]; exact .int i
 |str x=>rw[gF.mp h]; exact .str x
 |tup ds=>obtain⟨a,xs,e,h1,_⟩:=jF.mp h; rw[e]; exact .tup h1
 |lst ds=>obtain⟨a,xs,e,h1,_⟩:=jG.mp h; rw[e]; exact .lst h1
def U1:Dt->Bool| .lst _=>true|_=>false
def U2:Dt->Bool| .tup _=>true|_=>false
def isLT:Dt->Bool| .lst _=>true| .tup _=>true|_=>false
def Te:Dt->Bool| .str _=>true|_=>false
def ZD:Dt->Bool| .bl _=>true|_=>false
def XG:Dt->Bool| .int _=>true| .bl _=>true|_=>false
def ZE:Dt->Bool| .int _=>true|_=>false
theorem Eg {K:PySem.W.Frag}(d:Dt):PySem.W.kitOne K (.type (Ny d)) (.type "list")=some (U1 d):=by cases d <;> (first|rfl|decide +kernel)
theorem Ib {K:PySem.W.Frag}(d:Dt):PySem.W.kitOne K (.type (Ny d)) (.type "tuple")=some (U2 d):=by cases d <;> (first|rfl|decide +kernel)
theorem xO {K:PySem.W.Frag}(d:Dt):PySem.W.kitOne K (.type (Ny d)) (.type "str")=some (Te d):=by cases d <;> (first|rfl|decide +kernel)
theorem Ml {K:PySem.W.Frag}(d:Dt):PySem.W.kitOne K (.type (Ny d)) (.type "bool")=some (ZD d):=by cases d <;> (first|rfl|decide +kernel)
theorem QQ {K:PySem.W.Frag}(d:Dt):PySem.W.kitOne K (.type (Ny d)) (.type "int")=some (XG d):=by cases d <;> (first|rfl|decide +kernel)
theorem Nz {K:PySem.W.Frag}(d:Dt):PySem.W.kitAny K (.type (Ny d)) [.type "list",.type "tuple"]=some (isLT d):=by
 unfold PySem.W.kitAny
 rw[Eg]
 cases d <;> (first|rfl|(show PySem.W.kitAny K _ [.type "tuple"]=_; unfold PySem.W.kitAny; rw[Ib]; rfl))
theorem sy {α β:Type}{F:α->β->Prop}: ∀{l₁:List α} {l₂:List β} {y:β},Paired F l₁ l₂->l₂[l₂.length - 1]? =some y-> ∃l d,l₁=l ++ [d]/\F d y/\Paired F l l₂.dropLast
 |_,_,_,.nil,e=>by simp at e
 |a :: l₁,b :: l₂,y,.cons r t,e=>by
  cases t with
  |nil=>
   simp at e; subst e
   exact⟨[],a,rfl,r,.nil⟩
  |cons r' t'=>
   rename_i a' b' m₁ m₂
   have e':(b' :: m₂)[(b' :: m₂).length - 1]? =some y:=by
    have h1:(b :: b' :: m₂).length - 1=((b' :: m₂).length - 1) + 1:=by simp
    rw[h1] at e
    simpa using e
   obtain⟨l,d,e1,h1,h2⟩:=sy (.cons r' t') e'
   refine⟨a :: l,d,by rw[e1]; rfl,h1,?_⟩
   rw[List.dropLast_cons_of_ne_nil (by simp)]
   exact .cons r h2
def lK (H H':Hp)(d:Dt)(v:V):Prop:= ∃t u1 u2,v= .ref t/\H' t=some (.tup [u1,u2])/\Rp H d u1/\Rp H d u2
theorem lK.mono {H H' H2:Hp}{d:Dt}{v:V}(h:lK H H' d v)(k: ∀b xs,H' b=some (.tup xs)->H2 b=some (.tup xs)):lK H H2 d v:=by
 obtain⟨t,u1,u2,e,h1,h2⟩:=h
 exact⟨t,u1,u2,e,k _ _ h1,h2⟩
theorem Ic {H:Hp}{p:Addr}{o:HO}(h:H p=none): ∀b xs,H b=some (.tup xs)->upd H p o b=some (.tup xs):=fun b xs e=>aD.new h b _ e
theorem dA {H:Hp}{p:Addr}{o:HO}{ys:List V}(h:H p=some (.lst ys)): ∀b xs,H b=some (.tup xs)->upd H p o b=some (.tup xs):=fun b xs e=>by
 rw[aA (mw e h (by intro z; cases z))]; exact e
theorem aD.cX {H0 H:Hp}{p:Addr}{o:HO}(s:aD H0 H)(h:H0 p=none):aD H0 (upd H p o):=fun b u e=>by
 rw[aA (aJ e h)]; exact s b u e
def kids:Dt->List Dt
 | .tup ds=>ds
 | .lst ds=>ds
 |_=>[]
theorem Eh {H:Hp}{d:Dt}{v:V}(h:Rp H d v)(hd:isLT d=true): ∃a xs,v= .ref a/\(∀(K:PySem.W.Frag) (H':Hp),aD H H'->bE K H' a xs∨cm K H' a xs)/\gQ H (kids d) xs:=by
 cases d with
 |tup ds=>
  obtain⟨a,xs,e,h1,h2⟩:=jF.mp h
  exact⟨a,xs,e,fun K H' s=> .inr (cm.of (s _ _ h1)),h2⟩
 |lst ds=>
  obtain⟨a,xs,e,h1,h2⟩:=jG.mp h
  exact⟨a,xs,e,fun K H' s=> .inl (bE.of (s _ _ h1)),h2⟩
 |_=>cases hd
theorem FJ {d:Dt}(hd:isLT d=true):d.size=1 + Dt.eP (kids d):=by
 cases d with
 |tup ds=>simp[Dt.size,kids]
 |lst ds=>simp[Dt.size,kids]
 |_=>cases hd
mutual
def Dt.plain:Dt->Bool
 | .int _=>true
 | .str _=>true
 | .tup ds=>Dt.lL ds
 | .lst ds=>Dt.lL ds
 | .d8=>false
 | .bl _=>false
def Dt.lL:List Dt->Bool
 |[]=>true
 |d :: ds=>d.plain && Dt.lL ds
end
theorem Dt.o7 {ds:List Dt}:Dt.lL ds=true↔ ∀d∈ds,d.plain=true:=by
 induction ds with
 |nil=>simp[Dt.lL]
 |cons d ds ih=>simp[Dt.lL,ih]
theorem C0 {d:Dt}(h:d.plain=true): ∀c∈kids d,c.plain=true:=by
 cases d with
 |tup ds=>exact Dt.o7.mp (by simpa[Dt.plain,kids] using h)
 |lst ds=>exact Dt.o7.mp (by simpa[Dt.plain,kids] using h)
 |_=>intro c hc; cases hc
theorem tw {ds:List Dt}{i:Nat}{d:Dt}(h:ds[i]? =some d):ds.take (i + 1)=ds.take i ++ [d]:=by rw[E9,h]; rfl
theorem wm (ds:List Dt)(i:Nat):Dt.eP (ds.take i)<=Dt.eP ds:=by
 have:=Dt.il (ds.take i) (ds.drop i)
 rw[List.take_append_drop] at this
 lia
theorem iU {n:Nat}(h:n<=1000000):n < sizeLine:=pP h (by rw[en]; decide)
open PySem.W
def jH {α:Type}(key:Nat->Int)(n:Nat)(Po:α->Prop):KasT α->Prop
 | .ret a=>Po a
 | .ask i j k=>i < n/\j < n/\jH key n Po (k (decide (key i < key j)))
theorem gS {α:Type}{key:Nat->Int}{n:Nat}{Po XH:α->Prop}(h: ∀a,Po a->XH a): ∀(t:KasT α),jH key n Po t->jH key n XH t
 | .ret a,q=>h a q
 | .ask i j k,q=>⟨q.1,q.2.1,gS h _ q.2.2⟩
theorem iP {α β:Type}{key:Nat->Int}{n:Nat}{Po:β->Prop}{f:α->KasT β}: ∀(t:KasT α),jH key n (fun a=>jH key n Po (f a)) t->jH key n Po (t.bind f)
 | .ret a,q=>q
 | .ask i j k,q=>⟨q.1,q.2.1,iP _ q.2.2⟩
theorem uM {α:Type}{key:Nat->Int}{n:Nat}{Po:α->Prop}{cmp:Nat->Nat->(Bool->Shared->Prop)->Shared->Prop}{s:Shared}{Q:α->Shared->Prop}
  (hc: ∀i j (C:Bool->Shared->Prop),i < n->j < n->C (decide (key i < key j)) s->cmp i j C s) (hq: ∀a,Po a->Q a s): ∀(t:KasT α),jH key n Po t->t.kasWp cmp Q s
 | .ret a,q=>hq a q
 | .ask i j k,q=>hc i j _ q.1 q.2.1 (uM hc hq _ q.2.2)
def kf (key:Nat->Int)(p:Array Nat)(i:Nat):Int:=key (p.getD i 0)
def qr (n:Nat)(p:Array Nat):Prop:=p.Perm (List.toArray (List.range n))
theorem qr.size {n:Nat}{p:Array Nat}(h:qr n p):p.size=n:=by
 have:=Array.Perm.size_eq h
 simpa using this
theorem qr.lt {n:Nat}{p:Array Nat}(h:qr n p)(h0:0 < n)(i:Nat):p.getD i 0 < n:=by
 by_cases hi:i < p.size
 ·have e:p.getD i 0=p[i]:=by simp[Array.getD,hi]
  rw[e]
  have hm:p[i]∈p:=Array.getElem_mem hi
  have:=(Array.Perm.mem_iff h).mp hm
  simpa using this
 ·have e:p.getD i 0=0:=by simp[Array.getD,hi]
  rw[e]; exact h0
theorem qt {p q:Array Nat}{i j:Nat}(h:p[i]? =q[j]?):p.getD i 0=q.getD j 0:=by
 rw[Kh,Kh,h]
theorem o8 {key:Nat->Int}{p:Array Nat}{i j:Nat}(hj:j<=p.size)(a:Nat):kf key (kas_rev p i j) a=if i<=a/\a < j then kf key p (i + j - 1 - a) else kf key p a:=by
 have:=getElem?_mirror_all (xs:=p) (i:=i) hj a
 by_cases h:i<=a/\a < j
 ·rw[a7 h] at this ⊢
  exact cL key (qt this)
 ·rw[aQ h] at this ⊢
  exact cL key (qt this)
theorem qr.rev {n:Nat}{p:Array Nat}(h:qr n p)(i j:Nat):qr n (kas_rev p i j):=(mirror_perm p i j _).trans h
theorem Ie {key:Nat->Int}{p:Array Nat}{src d:Nat}(hs:src < p.size)(hd:d<=src)(k:Nat):kf key (bubble p src d) k=if k=src - d then kf key p src else if src - d < k/\k<=src then kf key p (k - 1) else kf key p k:=by
 have:=getElem?_bubble (xs:=p) hs d hd k
 by_cases h:k=src - d
 ·rw[a7 h] at this ⊢
  exact cL key (qt this)
 ·rw[aQ h] at this ⊢
  by_cases h2:src - d < k/\k<=src
  ·rw[a7 h2] at this ⊢
   exact cL key (qt this)
  ·rw[aQ h2] at this ⊢
   exact cL key (qt this)
def k4 (key:Nat->Int)(p:Array Nat)(m:Nat):Prop:= ∀a b,a<=b->b < m->kf key p a<=kf key p b
def Ig (key:Nat->Int)(p:Array Nat)(m:Nat):Prop:= ∀a b,a<=b->b < m->kf key p b<=kf key p a
section
variable {key:Nat->Int}{n:Nat}
theorem Ih {p:Array Nat}(hp:qr n p)(h0:0 < n): ∀(f m:Nat),1<=m->k4 key p m->jH key n (fun r=>m<=r/\r<=m + f/\k4 key p r/\(r=m + f∨kf key p r < kf key p (r - 1))) (kas_asc p f m)
 |0,m,h1,hs=>⟨aC _,aC _,hs,.inl rfl⟩
 |f + 1,m,h1,hs=>by
  unfold kas_asc
  refine⟨hp.lt h0 _,hp.lt h0 _,?_⟩
  by_cases c:key (p.getD m 0) < key (p.getD (m - 1) 0)
  ·rw[decide_eq_true c]; dsimp only; rw[if_pos rfl]
   exact⟨aC _,by lia,hs,.inr c⟩
  ·rw[decide_eq_false c]; dsimp only; rw[if_neg Bool.false_ne_true]
   have KQ:k4 key p (m + 1):=by
    intro a b G9 hb
    by_cases KS:b < m
    ·exact hs a b G9 KS
    ·have e:b=m:=by lia
     subst e
     by_cases NA:a=b
     ·rw[NA]; exact fG _
     ·have h2:=hs a (b - 1) (by lia) (by lia)
      have h3:kf key p (b - 1)<=kf key p b:=by unfold kf; lia
      lia
   refine gS (fun r ⟨q1,q2,q3,q4⟩=>⟨by lia,by lia,q3,?_⟩) _ (Ih hp h0 f (m + 1) (by lia) KQ)
   rcases q4 with q4|q4
   ·exact .inl (by lia)
   ·exact .inr q4
theorem yJ (h0:0 < n): ∀(f:Nat) (p:Array Nat) (m q:Nat),qr n p->m + f<=n->q + 1<=m->Ig key p m->(∀a,m - (q + 1)<=a->a < m->kf key p a=kf key p (m - 1))->
  jH key n (fun r=>qr n r.1/\1<=r.2.1/\r.2.1<=n/\r.2.2 + 1<=r.2.1/\Ig key r.1 r.2.1/\ ∀a,r.2.1 - (r.2.2 + 1)<=a->a < r.2.1->kf key r.1 a=kf key r.1 (r.2.1 - 1)) (kas_desc f p m q)
 |0,p,m,q,hp,hm,hq,hs,he=>⟨hp,(by show 1<=m; lia),(by show m<=n; lia),hq,hs,he⟩
 |f + 1,p,m,q,hp,hm,hq,hs,he=>by
  unfold kas_desc
  have dn: ∀{r:Array Nat},(∀a,a < m->kf key r a=kf key p a)->kf key r m=kf key p m->kf key p m<=kf key p (m - 1)->Ig key r (m + 1):=by
   intro r hr QR c a b G9 hb
   by_cases KS:b < m
   ·rw[hr a (by lia),hr b KS]; exact hs a b G9 KS
   ·have e:b=m:=by lia
    subst e
    by_cases NA:a=b
    ·rw[NA]; exact fG _
    ·rw[QR,hr a (by lia)]
     have h2:=hs a (b - 1) (by lia) (by lia)
     lia
  refine⟨hp.lt h0 _,hp.lt h0 _,?_⟩
  by_cases c:key (p.getD m 0) < key (p.getD (m - 1) 0)
  ·rw[decide_eq_true c]; dsimp only; rw[if_pos rfl]
   have c':kf key p m<=kf key p (m - 1):=by unfold kf; lia
   have last: ∀{r:Array Nat} (a:Nat),m + 1 - (0 + 1)<=a->a < m + 1->kf key r a=kf key r (m + 1 - 1):=fun{r} a h1 h2=>by
    have e:a=m + 1 - 1:=by lia
    rw[e]
   by_cases XI:q > 0
   ·rw[a7 XI]
    have hz:m<=p.size:=by rw[hp.size]; lia
    have hr: ∀a,a < m->kf key (kas_rev p (m - (q + 1)) m) a=kf key p a:=fun a ha=>by
     rw[o8 hz]
     split
     ·rename_i h
      rw[he a h.1 h.2,he _ (by lia) (by lia)]
     ·rfl
    have QR:kf key (kas_rev p (m - (q + 1)) m) m=kf key p m:=by rw[o8 hz,aQ (by lia)]
    exact yJ h0 f _ (m + 1) 0 (hp.rev _ _) (by lia) (by lia) (dn hr QR c') last
   ·rw[aQ XI]
    exact yJ h0 f p (m + 1) 0 hp (by lia) (by lia) (dn (fun _ _=>rfl) rfl c') last
  ·rw[decide_eq_false c]; dsimp only; rw[if_neg Bool.false_ne_true]
   refine⟨hp.lt h0 _,hp.lt h0 _,?_⟩
   by_cases d:key (p.getD (m - 1) 0) < key (p.getD m 0)
   ·rw[decide_eq_true d]; dsimp only; rw[if_pos rfl]
    exact⟨hp,(by show 1<=m; lia),(by show m<=n; lia),hq,hs,he⟩
   ·rw[decide_eq_false d]; dsimp only; rw[if_neg Bool.false_ne_true]
    have e0:kf key p m=kf key p (m - 1):=by unfold kf; lia
    refine yJ h0 f p (m + 1) (q + 1) hp (by lia) (by lia) (dn (fun _ _=>rfl) rfl (by lia)) (fun a h1 h2=>?_)
    have e1:m + 1 - 1=m:=by lia
    rw[e1]
    by_cases NA:a=m
    ·rw[NA]
    ·rw[e0]; exact he a (by lia) (by lia)
theorem Ei (h0:0 < n){p:Array Nat}{m:Nat}(hp:qr n p)(h1:1<=m)(hm:m<=n)(hs:Ig key p m):jH key n (fun r=>qr n r.2/\1<=r.1/\r.1<=n/\k4 key r.2 r.1) (kas_tail3 m n p):=by
 unfold kas_tail3
 have hz:m<=p.size:=by rw[hp.size]; lia
 have hu:k4 key (kas_rev p 0 m) m:=by
  intro a b G9 hb
  rw[o8 hz,o8 hz,a7 ⟨bp _,by lia⟩,a7 ⟨bp _,hb⟩]
  exact hs _ _ (by lia) (by lia)
 refine iP _ (gS (fun r ⟨q1,q2,q3,_⟩=>?_) _ (Ih (hp.rev 0 m) h0 (n - m) m h1 hu))
 exact⟨hp.rev 0 m,by lia,by lia,q3⟩
theorem uN (h0:0 < n){p:Array Nat}{m:Nat}(hp:qr n p)(hm:m + 1<=n)(hs:Ig key p (m + 1)):jH key n (fun r=>qr n r.2/\1<=r.1/\r.1<=n/\k4 key r.2 r.1) (kas_descPart m n p):=by
 unfold kas_descPart
 refine iP _ (gS (fun r ⟨q1,q2,q3,q4,q5,q6⟩=>?_) _ (yJ h0 (n - (m + 1)) p (m + 1) 0 hp (by lia) (by lia) hs fun a h1 h2=>by
  have e:a=m + 1 - 1:=by lia
  rw[e]))
 by_cases hq:r.2.2 > 0
 ·rw[a7 hq]
  have hz:r.2.1<=r.1.size:=by rw[q1.size]; lia
  refine Ei h0 (q1.rev _ _) q2 q3 fun a b G9 hb=>?_
  have hr: ∀a,a < r.2.1->kf key (kas_rev r.1 (r.2.1 - (r.2.2 + 1)) r.2.1) a=kf key r.1 a:=fun a ha=>by
   rw[o8 hz]
   split
   ·rename_i h
    rw[q6 a h.1 h.2,q6 _ (by lia) (by lia)]
   ·rfl
  rw[hr a (by lia),hr b hb]
  exact q5 a b G9 hb
 ·rw[aQ hq]
  exact Ei h0 q1 q2 q3 q5
theorem KU (h0:0 < n){p:Array Nat}(hp:qr n p):jH key n (fun r=>qr n r.2/\1<=r.1/\r.1<=n/\k4 key r.2 r.1) (kas_count n p):=by
 unfold kas_count
 have ZF:k4 key p 1:=fun a b G9 hb=>by
  have e:a=b:=by lia
  rw[e]; exact fG _
 refine iP _ (gS (fun m ⟨q1,q2,q3,q4⟩=>?_) _ (Ih hp h0 (n - 1) 1 (aC _) ZF))
 by_cases QS:(m == n)=true
 ·rw[a7 QS]
  exact⟨hp,q1,by lia,q3⟩
 ·rw[aQ QS]
  have iZ:m≠n:=fun z=>QS (by simp[z])
  have iO:kf key p m < kf key p (m - 1):=by
   rcases q4 with q4|q4
   ·exact absurd q4 (by lia)
   ·exact q4
  by_cases XJ:m > 1
  ·rw[a7 XJ]
   refine⟨hp.lt h0 _,hp.lt h0 _,?_⟩
   by_cases c:key (p.getD 0 0) < key (p.getD (m - 1) 0)
   ·rw[decide_eq_true c]; dsimp only; rw[if_pos rfl]
    exact⟨hp,q1,by lia,q3⟩
   ·rw[decide_eq_false c]; dsimp only; rw[if_neg Bool.false_ne_true]
    have hz:m<=p.size:=by rw[hp.size]; lia
    have heq: ∀a,a < m->kf key p a=kf key p (m - 1):=fun a ha=>by
     have h1:=q3 0 a (bp _) ha
     have h2:=q3 a (m - 1) (by lia) (by lia)
     have h3:kf key p (m - 1)<=kf key p 0:=by unfold kf; lia
     lia
    have hr: ∀a,a < m->kf key (kas_rev p 0 m) a=kf key p (m - 1):=fun a ha=>by
     rw[o8 hz,a7 ⟨bp _,ha⟩]
     exact heq _ (by lia)
    refine uN h0 (hp.rev _ _) (by lia) fun a b G9 hb=>?_
    by_cases KS:b < m
    ·rw[hr a (by lia),hr b KS]; exact fG _
    ·have e:b=m:=by lia
     subst e
     by_cases NA:a=b
     ·rw[NA]; exact fG _
     ·rw[hr a (by lia),o8 hz,aQ (by lia)]
      lia
  ·rw[aQ XJ]
   have e:m=1:=by lia
   subst e
   refine uN h0 hp (by lia) fun a b G9 hb=>?_
   by_cases U3:a=b
   ·rw[U3]; exact fG _
   ·have e1:a=0:=by lia
    have e2:b=1:=by lia
    subst e1 e2
    have e3:(1:Nat) - 1=0:=rfl
    rw[e3] at iO
    lia
theorem yK (h0:0 < n){p:Array Nat}{k:Nat}(hp:qr n p)(hs:k4 key p k): ∀(f l r:Nat),l<=r->r<=k->r - l<=f->(∀i,i < l->kf key p i<=kf key p k)->(∀i,r<=i->i < k->kf key p k < kf key p i)->
  jH key n (fun m=>m<=k/\(∀i,i < m->kf key p i<=kf key p k)/\ ∀i,m<=i->i < k->kf key p k < kf key p i) (kas_place p k f l r)
 |0,l,r,ZG,Tf,hf,h1,h2=>by
  have e:l=r:=by lia
  subst e
  exact⟨Tf,h1,h2⟩
 |f + 1,l,r,ZG,Tf,hf,h1,h2=>by
  unfold kas_place
  by_cases NB:l≥r
  ·rw[a7 NB]
   have e:l=r:=by lia
   subst e
   exact⟨Tf,h1,h2⟩
  ·rw[aQ NB]
   refine⟨hp.lt h0 _,hp.lt h0 _,?_⟩
   by_cases c:key (p.getD k 0) < key (p.getD ((l + r) / 2) 0)
   ·rw[decide_eq_true c]; dsimp only; rw[if_pos rfl]
    refine yK h0 hp hs f l ((l + r) / 2) (by lia) (by lia) (by lia) h1 fun i hi U4=>?_
    have:=hs ((l + r) / 2) i hi U4
    have c':kf key p k < kf key p ((l + r) / 2):=c
    lia
   ·rw[decide_eq_false c]; dsimp only; rw[if_neg Bool.false_ne_true]
    refine yK h0 hp hs f ((l + r) / 2 + 1) r (by lia) Tf (by lia) (fun i hi=>?_) h2
    have:=hs i ((l + r) / 2) (by lia) (by lia)
    have c': ¬ kf key p k < kf key p ((l + r) / 2):=c
    lia
theorem Mm (h0:0 < n): ∀(f:Nat) (p:Array Nat) (k:Nat),qr n p->k + f=n->k4 key p k->jH key n (fun r=>qr n r/\k4 key r n) (kas_bin f p k)
 |0,p,k,hp,hk,hs=>⟨hp,by rw[← hk]; exact hs⟩
 |f + 1,p,k,hp,hk,hs=>by
  unfold kas_bin
  refine iP _ (gS (fun l ⟨q1,q2,q3⟩=>?_) _ (yK h0 hp hs k 0 k (bp _) (aC _) (by lia) (fun i hi=>absurd hi (iB _)) fun i h1 h2=>by lia))
  have hz:k < p.size:=by rw[hp.size]; lia
  refine Mm h0 f _ (k + 1) ((bubble_perm p k _).trans hp) (by lia) fun a b G9 hb=>?_
  rw[Ie hz (by lia),Ie hz (by lia)]
  have el:k - (k - l)=l:=by lia
  rw[el]
  by_cases ha:a=l
  ·rw[a7 ha]
   by_cases Ed:b=l
   ·rw[a7 Ed]; exact fG _
   ·rw[aQ Ed,a7 ⟨by lia,by lia⟩]
    have:=q3 (b - 1) (by lia) (by lia)
    lia
  ·rw[aQ ha]
   by_cases XM:l < a/\a<=k
   ·rw[a7 XM,aQ (by lia),a7 ⟨by lia,by lia⟩]
    exact hs _ _ (by lia) (by lia)
   ·rw[aQ XM]
    have U5:a < l:=by lia
    by_cases Ed:b=l
    ·rw[a7 Ed]; exact q2 a U5
    ·rw[aQ Ed]
     by_cases Td:l < b/\b<=k
     ·rw[a7 Td]
      exact hs _ _ (by lia) (by lia)
     ·rw[aQ Td]
      exact hs _ _ G9 (by lia)
theorem Ij (h0:0 < n):jH key n (fun r=>qr n r/\k4 key r n) (kas_sort n):=by
 unfold kas_sort
 refine iP _ (gS (fun r ⟨q1,q2,q3,q4⟩=>?_) _ (KU h0 (Ki _)))
 by_cases h:r.1 < n
 ·rw[a7 h]
  have e:max r.1 1=r.1:=by lia
  rw[e]
  exact Mm h0 _ _ _ q1 (by lia) q4
 ·rw[aQ h]
  have e:r.1=n:=by lia
  rw[e] at q4
  exact⟨q1,q4⟩
end
section
variable {prog:Program}{w:World}{A:Around}{E:Value->Shared->Prop}{s:Shared}
theorem yL {a:Addr}{vs:List Value}{n:Nat}{P:PySem.Fin->Shared->Prop}{key:Nat->Int}{κ:SortKind}(ho:s.heap.get? a=some (seqObj "list" vs.toArray n))(Cs:vs.length < 64)
  (hk:2<=vs.length-> ∀(s':Shared) (Q:SortKind->Shared->Prop),(∀b o,b≠a->s.heap.get? b=some o->s'.heap.get? b=some o)->Q κ s'->wpAny (model prog w) A (keyKind' vs.toArray) Q (fun _ _=>False) s')
  (hc: ∀(s':Shared) (i j:Nat) (C:Bool->Shared->Prop),(∀b o,b≠a->s.heap.get? b=some o->s'.heap.get? b=some o)->i < vs.length->j < vs.length->C (decide (key i < key j)) s'->
   wpAny (model prog w) A (keyLt' κ (vs.getD i Value.none) (vs.getD j Value.none)) C (fun _ _=>False) s')
  (h: ∀p:Array Nat,qr vs.length p->k4 key p vs.length->P (.done (.ret .none)) {s with heap:=sortedHeap s.heap a vs (p.toList.map fun i=>vs.getD i Value.none).toArray}):
  wpAny (model prog w) A (Builtin.«list.sort» ⟨[.ref a],[]⟩) P E s:=by
 rw[list_sort_plain]
 have ha:a < s.heap.objs.size:=aK ho
 have hl:sizeLine=16777216:=en
 refine az (listItems_at ho rfl ?_)
 refine az (vU ho rfl ?_ (by rw[bw]; lia) (bp _))
 obtain⟨e1,FK⟩: ∃e1,(s.heap.update a (Obj.mapSeq fun _=>(#[]:Array Value))).get? a=some (seqObj "list" #[] e1):=⟨_,L9 ho (fun _=> #[])⟩
 refine az (seqEpoch_at FK rfl ?_)
 refine az (wpAny_newTuple ?_ (by show vs.length<=_; lia))
 refine az (Kj ?_ (bp _))
 refine hZ ?_
 have Tg:(((s.heap.update a (Obj.mapSeq fun _=>(#[]:Array Value))).push (seqObj "tuple" vs.toArray 0)).push (seqObj "list" #[] 0)).get? a=some (seqObj "list" #[] e1):=by
  rw[mv _ _ _ (by rw[size_push',oS]; exact a0 (iL ha)),mv _ _ _ (by rw[oS]; exact a0 ha)]
  exact FK
 show wpAny (model prog w) A _ P E {s with heap:=((s.heap.update a (Obj.mapSeq fun _=>(#[]:Array Value))).push (seqObj "tuple" vs.toArray 0)).push (seqObj "list" #[] 0)}
 dsimp only
 have keep: ∀b o,b≠a->s.heap.get? b=some o->(((s.heap.update a (Obj.mapSeq fun _=>(#[]:Array Value))).push (seqObj "tuple" vs.toArray 0)).push (seqObj "list" #[] 0)).get? b=some o:=fun b o hb e=>
  ay _ (ay _ ((mr s.heap _ (vW hb)).trans e))
 have hsz:vs.toArray.size=vs.length:=by simp
 by_cases h2:vs.toArray.size < 2
 ·rw[a7 h2,a7 h2]
  refine az (bB ?_)
  rw[StateT.run_pure]
  refine az (bB ?_)
  dsimp only
  have C1:(arrOf (SortSt.mk' general' (vs.toArray.zip vs.toArray) #[] 7 none)).map (·.2)=((List.toArray (List.range vs.length)).toList.map fun i=>vs.getD i Value.none).toArray:=by
   show(vs.toArray.zip vs.toArray).map (·.2)=_
   apply Array.toList_inj.mp
   apply List.ext_getElem?
   intro i
   simp only[Array.toList_map,Array.toList_zip,List.getElem?_map,List.getElem?_zip_eq_some,List.getElem?_range]
   by_cases hi:i < vs.length
   ·simp[hi,List.getElem?_zip_eq_some,List.zip]
   ·simp[hi]
  refine az (seqEpoch_at Tg rfl ?_)
  rw[C1]
  refine wpAny_bind (listUpdate_at Tg rfl ?_ (Nat.zero_le _) (by simp; lia))
  simp only[bne_self_eq_false,Bool.false_eq_true,if_false]
  refine bB (h _ (Ki _) ?_)
  intro i j XN hj
  have:i=j:=by lia
  subst this; exact fG _
 ·rw[aQ h2,aQ h2]
  have QT:2<=vs.length:=by lia
  refine az (cf (hk QT _ (fun κ' s'=>κ'=κ/\s'={s with heap:=((s.heap.update a (Obj.mapSeq fun _=>(#[]:Array Value))).push (seqObj "tuple" vs.toArray 0)).push (seqObj "list" #[] 0)}) keep ⟨rfl,rfl⟩) (fun κ' s' JX=>?_) fun _ _ x=>x.elim)
  obtain⟨rfl,rfl⟩:=JX
  refine az (cf (kat_run (Q:=fun Av s'=>s'={s with heap:=((s.heap.update a (Obj.mapSeq fun _=>(#[]:Array Value))).push (seqObj "tuple" vs.toArray 0)).push (seqObj "list" #[] 0)}/\ ∃p:Array Nat,p.size=vs.length/\arrOf Av=p.map (kas_item (vs.toArray.zip vs.toArray))/\failedOf Av=none/\qr vs.length p/\k4 key p vs.length)
   (G:=fun p s'=>s'={s with heap:=((s.heap.update a (Obj.mapSeq fun _=>(#[]:Array Value))).push (seqObj "tuple" vs.toArray 0)).push (seqObj "list" #[] 0)}/\qr vs.length p/\k4 key p vs.length)
   (κ:=κ') rfl QT Cs (fun p' Av s' a1 a2 a3 a4=>⟨a4.1,p',a1,a2,a3,a4.2⟩) (uM (fun i j C hi hj q=>hc _ i j C keep hi hj q) (fun p q=>⟨rfl,q⟩) _ (Ij (by lia)))) ?_ fun _ _ e=>e)
  rintro⟨⟨⟩,Av⟩ s' ⟨rfl,p,hp,U6,hf,q1,q2⟩
  dsimp only
  have C1:=kat_snds (ks:=vs) (vs:=vs) rfl U6
  rw[C1]
  refine az (seqEpoch_at Tg rfl ?_)
  refine az (vU Tg rfl ?_ (bp _) (by rw[bw,ae,nW,hp]; lia))
  rw[hf]
  simp only[bne_self_eq_false,Bool.false_eq_true,if_false]
  exact bB (h p q1 q2)
theorem FL {l:Addr}{vs:List Value}{Q:Value->Shared->Prop}{key:Nat->Int}{κ:SortKind}(hl:s.heap.IsList l vs.toArray)(Cs:vs.length < 64)
  (hk:2<=vs.length-> ∀(s':Shared) (Q:SortKind->Shared->Prop),(∀b o,s.heap.get? b=some o->s'.heap.get? b=some o)->Q κ s'->wpAny (model prog w) A.in1.in1 (keyKind' vs.toArray) Q (fun _ _=>False) s')
  (hc: ∀(s':Shared) (i j:Nat) (C:Bool->Shared->Prop),(∀b o,s.heap.get? b=some o->s'.heap.get? b=some o)->i < vs.length->j < vs.length->C (decide (key i < key j)) s'->
   wpAny (model prog w) A.in1.in1 (keyLt' κ (vs.getD i Value.none) (vs.getD j Value.none)) C (fun _ _=>False) s')
  (h: ∀p:Array Nat,qr vs.length p->k4 key p vs.length->Q (.ref (s.heap.objs.size + 1)) {s with heap:=sortedAll s.heap vs (p.toList.map fun i=>vs.getD i Value.none).toArray}):
  wpAny (model prog w) A (call (.builtin "sorted") [.ref l]) Q E s:=by
 have Th:sizeLine=16777216:=en
 refine Calls.call_function_entry kind_sorted plain_sorted entry_sorted (args_sorted1 _) ?_
 unfold Builtin.«sorted»
 refine az (m:=checkCount "sorted" 1 1 _) (bB ?_)
 refine az (collect_list hl ?_ (by lia))
 refine az (Kj ?_ (by show vs.length<=_; lia))
 have hsz:((s.heap.push (seqObj "list" #[] 0)).update s.heap.objs.size (Obj.mapSeq (· ++ vs.toArray))).objs.size=s.heap.objs.size + 1:=by
  rw[oS,size_push']
 have MY:(((s.heap.push (seqObj "list" #[] 0)).update s.heap.objs.size (Obj.mapSeq (· ++ vs.toArray))).push (seqObj "list" vs.toArray 0)).get? (s.heap.objs.size + 1)=some (seqObj "list" vs.toArray 0):=by
  rw[← hsz]; exact bK _ rfl
 have keep: ∀b o,s.heap.get? b=some o->b≠s.heap.objs.size + 1/\(((s.heap.push (seqObj "list" #[] 0)).update s.heap.objs.size (Obj.mapSeq (· ++ vs.toArray))).push (seqObj "list" vs.toArray 0)).get? b=some o:=fun b o q=>by
  have iO:b < s.heap.objs.size:=aK q
  refine⟨a0 (iL iO),?_⟩
  rw[mv _ _ _ (by rw[hsz]; exact a0 (iL iO)),Ho _ _ _ _ (a0 iO),mv _ _ _ (a0 iO)]
  exact q
 show wpAny _ _ _ _ _ {s with heap:=((s.heap.push (seqObj "list" #[] 0)).update s.heap.objs.size (Obj.mapSeq (· ++ vs.toArray))).push (seqObj "list" vs.toArray 0)}
 rw[hsz]
 refine az (hZ (wpAny_call_entry slot_list_sort ⟨_,MY,rfl⟩ entry_list_sort (yL (key:=key) (κ:=κ) MY Cs
  (fun h2 s' Q' kp q=>hk h2 s' Q' (fun b o e=>kp b o (keep b o e).1 (keep b o e).2) q) (fun s' i j C kp hi hj q=>hc s' i j C (fun b o e=>kp b o (keep b o e).1 (keep b o e).2) hi hj q) fun p a1 a2=>⟨_,rfl,?_⟩) (args_list_sort _)))
 exact bB ⟨_,rfl,h p a1 a2⟩
theorem mI {b:Bool}{Q:Bool->Shared->Prop}: ∀{ts us:List Int} {vs ws:List Value} (i:Nat),IntsAre vs ts->IntsAre ws us->Q (HT.lexLt ts us) s->
  KatLex prog w A b (decide (ts.length < us.length)) Q (vs.zip ws) i s
 |_,_,_,_,i,.nil,.nil,q=>q
 |_,_,_,_,i,.nil,.cons _ _ _,q=>by
  show Q (decide _) s
  rw[decide_eq_true (by simp)]; exact q
 |_,_,_,_,i,.cons _ _ _,.nil,q=>by
  show Q (decide _) s
  rw[decide_eq_false (by simp)]; exact q
 |_,_,_,_,i,.cons x t r,.cons y u r',q=>by
  refine kat_cons ?_
  have he:=SeqAt.EqAt.int_int (A:=A) (s:=s) x t y u
  refine he prog w _ _ ?_
  rw[HT.lJ] at q
  by_cases e:x=y
  ·rw[a7 e] at q
   have eb:(x == y)=true:=by simp[e]
   rw[eb]
   refine kat_yes ?_
   have hd: ∀(a b:Nat),decide (a + 1 < b + 1)=decide (a < b):=fun a b=>by
    rw[Bool.eq_iff_iff]; simp
   rw[bZ,bZ,hd]
   exact mI (i + 1) r r' q
  ·rw[aQ e] at q
   have eb:(x == y)=false:=by simpa using e
   rw[eb]
   refine kat_no ?_
   cases hb:(b && i == 0) with
   |true=>exact oneLt_int q
   |false=>exact kat_one _ _ (PyProof.Rows.lt_int q)
end
def fZ (H:Hp)(ts:List (List Int))(xs:List V):Prop:=Paired (fun(t:List Int) v=> ∃p,v= .ref p/\H p=some (.tup (t.map V.int))) ts xs
theorem fZ.mono {H H':Hp}{ts:List (List Int)}{xs:List V}(h:fZ H ts xs)(k: ∀b xs,H b=some (.tup xs)->H' b=some (.tup xs)):fZ H' ts xs:=
 Paired.gR h fun _ _ ⟨p,e,q⟩=>⟨p,e,k _ _ q⟩
theorem fZ.get {H:Hp}{ts:List (List Int)}{xs:List V}(h:fZ H ts xs){i:Nat}(hi:i < ts.length): ∃p,xs.getD i .d8= .ref p/\H p=some (.tup ((ts.getD i []).map V.int)):=by
 have g:ts[i]? =some ts[i]:=af hi
 obtain⟨v,hv,p,e,q⟩:=bG h g
 refine⟨p,?_,?_⟩
 ·rw[aj,hv,e]; rfl
 ·rw[aj,g]; exact q
theorem jt {xs:List V}{us:List Value}(r:Vals xs us)(i:Nat):RelV (xs.getD i .d8) (us.getD i .none):=by
 by_cases hi:i < xs.length
 ·have g:xs[i]? =some xs[i]:=af hi
  obtain⟨u,h1,h2⟩:=r.get g
  rw[aj,aj,g,h1]
  exact h2
 ·have h1:xs[i]? =none:=v8 (by lia)
  rw[aj,aj,h1,r.none_of h1]
  rfl
theorem rL {xs:List V}{us:List Value}(r:Vals xs us): ∀l:List Nat,Vals (l.map fun i=>xs.getD i .d8) (l.map fun i=>us.getD i .none)
 |[]=> .nil
 |i :: l=> .cons (jt r i) (rL r l)
theorem xP {H:Hp}{ts:List (List Int)}{xs:List V}(h:fZ H ts xs): ∀l:List Nat,(∀i∈l,i < ts.length)->fZ H (l.map fun i=>ts.getD i []) (l.map fun i=>xs.getD i .d8)
 |[],_=> .nil
 |i :: l,hl=> .cons (by
   obtain⟨p,e,q⟩:=h.get (hl i bI)
   exact⟨p,e,q⟩) (xP h l fun j hj=>hl j (bc _ hj))
theorem range_getD {α:Type}(ts:List α)(d:α):(List.range ts.length).map (fun i=>ts.getD i d)=ts:=by
 apply List.ext_getElem?
 intro i
 rw[aB]
 by_cases hi:i < ts.length
 ·rw[List.getElem?_range hi,nV,aj,af hi]; rfl
 ·rw[List.getElem?_eq_none (by simpa using hi),List.getElem?_eq_none (by lia)]; rfl
theorem qr.list {n:Nat}{p:Array Nat}(h:qr n p):p.toList.Perm (List.range n):=by
 have:=Array.perm_iff_toList_perm.mp h
 simpa using this
theorem sC {p:Array Nat}{n:Nat}{key:Nat->Int}(hp:p.size=n)(h:k4 key p n):p.toList.Pairwise (fun i j=>key i<=key j):=by
 rw[List.pairwise_iff_getElem]
 intro i j hi hj XN
 have vV:i < p.size:=by simpa using hi
 have Ti:j < p.size:=by simpa using hj
 have:=h i j (by lia) (by lia)
 unfold kf at this
 have e1:p.getD i 0=p.toList[i]:=by simp[Array.getD,vV]
 have e2:p.getD j 0=p.toList[j]:=by simp[Array.getD,Ti]
 rw[e1,e2] at this
 exact this
section
variable {X:Cx}
theorem Inv.tupI {pins:List (Addr×Obj)}{σ:St}{H:Hp}{s:Shared}(I:Inv X pins σ H s){p:Addr}{t:List Int}(h:H p=some (.tup (t.map V.int))):
  ∃(o:Obj) (bY:List Value) (n:Nat),s.heap.get? p=some o/\o.cls= .type "tuple"/\o.data= .seq bY.toArray n/\IntsAre bY t:=by
 obtain⟨_,bY,rv,o,ho,hc,n,hd⟩:=(show dr X.prog X.w H s.heap p (.tup (t.map V.int)) from I.cw p _ h)
 exact⟨o,bY,n,ho,hc,hd,intsAre_of rv⟩
theorem rM {pins:List (Addr×Obj)}{σ:St}{H:Hp}{s:Shared}(I:Inv X pins σ H s){h':Heap}(kp: ∀b o,s.heap.get? b=some o->h'.get? b=some o): ∀{ts:List (List Int)} {xs:List V} {us:List Value},fZ H ts xs->Vals xs us->(∀t∈ts,t≠[])->
  ∃fs:List Value,KatTups h' us fs/\fs.length=us.length/\ ∀v∈fs,∃n t,v= .int n t
 |[],_,us,.nil,r,_=>by
  have e:us=[]:=r.zero
  subst e
  exact⟨[],trivial,rfl,fun v hv=>by cases hv⟩
 |t :: ts,_,_,.cons ⟨p,e,q⟩ rest,.cons r1 r2,iZ=>by
  subst e
  obtain⟨fs,h1,h2,h3⟩:=rM I kp rest r2 fun t ht=>iZ t (bc _ ht)
  obtain⟨o,bY,n,ho,hc,hd,hi⟩:=I.tupI q
  have ht:t≠[]:=iZ t bI
  cases hi with
  |nil=>exact absurd rfl ht
  |cons z tk vV=>
   cases r1
   refine⟨.int z tk :: fs,⟨⟨p,o,_,n,rfl,kp _ _ ho,hc,hd,by simp⟩,h1⟩,by rw[List.length_cons,List.length_cons,h2],fun v hv=>?_⟩
   rcases aw.mp hv with rfl|hv
   ·exact⟨z,tk,rfl⟩
   ·exact h3 v hv
def NC (K:PySem.W.Frag):List V->Hp->VK->Prop:=fun vs H Q=> ∃a xs ts,∃key:List Int->Int,vs=[V.ref a]/\bE K H a xs/\xs.length < 64/\fZ H ts xs/\(∀t∈ts,t≠[])/\(∀t∈ts,∀u∈ts,HT.lexLt t u=decide (key t < key u))/\
 ∀D ys us,H D=none->fZ H us ys->us.Perm ts->us.Pairwise (fun t u=>key t<=key u)->Q (V.ref D) (upd H D (.lst ys))
theorem qu:iY X (.builtin "sorted") (NC X.K):=by
 intro pins s σ H xs us Q I r h
 obtain⟨a,xs,ts,key,rfl,hq,Cs,hT,iZ,HB,q⟩:=h
 obtain⟨u,rfl,ru⟩:=vals1 r
 cases ru
 obtain⟨bY,rv,pl,hz⟩:=I.list hq
 have hl:=rv.length
 have iO:ts.length=xs.length:=hT.length
 refine FL (κ:=tuples' true) (key:=fun i=>key (ts.getD i [])) pl.isList (by lia) (fun h2 s' Q' kp q'=>?_) (fun s' i j C kp hi hj q'=>?_) fun p hp ZH=>?_
 ·obtain⟨fs,f1,f2,f3⟩:=rM I kp hT rv iZ
  refine kat_kind (T:= .type "int") f1 (by lia) (fun v hv=>?_) rfl q'
  obtain⟨n,t,rfl⟩:=f3 v hv
  exact Looks.of_pure rfl
 ·obtain⟨p1,e1,g1⟩:=hT.get (i:=i) (by lia)
  obtain⟨p2,e2,g2⟩:=hT.get (i:=j) (by lia)
  have w1:=jt rv i
  have w2:=jt rv j
  rw[e1] at w1
  rw[e2] at w2
  have ZI:bY.getD i Value.none= .ref p1:=w1
  have ZJ:bY.getD j Value.none= .ref p2:=w2
  rw[ZI,ZJ]
  obtain⟨o1,U7,n1,FK,ZK,lM,QU⟩:=I.tupI g1
  obtain⟨o2,Fw,n2,Ph,KW,hd2,QV⟩:=I.tupI g2
  refine kat_lt (kp _ _ FK) lM (kp _ _ Ph) hd2 ?_
  have l1:=QU.length
  have l2:=QV.length
  have m1:ts.getD i []∈ts:=by rw[aj,af (show i < ts.length by lia)]; exact bF _
  have m2:ts.getD j []∈ts:=by rw[aj,af (show j < ts.length by lia)]; exact bF _
  have k:=mI (prog:=X.prog) (w:=X.w) (A:=X.A.in1.in1) (b:=true) (Q:=C) (s:=s') 0 QU QV (by rw[HB _ m1 _ m2]; exact q')
  rw[bw,bw,l1,l2]
  exact k
 ·have l6:=hp.size
  have hD:H (s.heap.objs.size + 1)=none:=I.cw.fresh (dF _)
  obtain⟨e,he⟩:=sortedAll_at s.heap bY (p.toList.map fun i=>bY.getD i Value.none).toArray
  refine⟨.ref (s.heap.objs.size + 1),_,I.laid (t':=s.toks) (a:=s.heap.objs.size + 1) (o:= .lst (p.toList.map fun i=>xs.getD i .d8)) (fun b o q=>sortedAll_old q) (dF _) ⟨?_,_,e,rL rv p.toList,he⟩,rfl,q _ _ (p.toList.map fun i=>ts.getD i []) hD ?_ ?_ ?_⟩
  ·rw[ae,nW,l6]
   exact aY (iA hl.symm) hz
  ·refine xP hT p.toList fun i hi=>?_
   have:=(hp.list.mem_iff).mp hi
   rw[df] at this
   lia
  ·have e1:=hp.list.map (fun i=>ts.getD i [])
   rw[← hl,← iO,range_getD] at e1
   exact e1
  ·rw[rq]
   exact sC l6 ZH
theorem sD (ns:List Int): ∀n,n<=ns.length->preSum (fun i=>ns.getD i 0) n=(ns.take n).sum
 |0,_=>by simp[preSum]
 |n + 1,h=>by
  rw[preSum,sD ns n (by lia),Au,List.sum_append,af (by lia),aj,af (by lia)]
  simp
def QW (K:PySem.W.Frag):List V->Hp->VK->Prop:=fun xs H Q=> ∃(p:Addr) (ns:List Int),xs=[V.ref p]/\bE K H p (ns.map V.int)/\Q (.int ns.sum) H
theorem rN (hc:X.calm=true):iY X (.builtin "sum") (QW X.K):=by
 intro pins s σ H xs us Q I r h
 obtain⟨p,ns,rfl,hq,q⟩:=h
 obtain⟨u,rfl,ru⟩:=vals1 r
 cases ru
 obtain⟨bY,rv,pl,hz⟩:=I.list hq
 have hI:IntsAre bY ns:=intsAre_of rv
 have hl:=hI.length
 have hh:=I.ok.hd hc
 have hT:s.heap.IsList p bY.toArray:=pl.isList
 have hp:p < s.heap.objs.size:=by
  obtain⟨o,ho,_⟩:=hT
  exact aK ho
 have U8:p≠s.heap.objs.size:=a0 hp
 refine call_sum_walkG (wpAny_pyIter_list hT ?_)
 refine⟨_,[_,p],[_],_,_,_,fun i=>ns.getD i 0,rfl,Walks.list (A:=X.A.in1) hh _ p U8 bY.toArray,
  ⟨⟨_,Heap.get?_push_size _ rfl,rfl,rfl⟩,hT.push _⟩,fun c hc=>?_,(fun i v hv=>IntsAre.int_at hI i v (by simpa using hv)),fun h' tk t' hk=>?_⟩
 ·show c < (s.heap.push _).objs.size
  rw[nI]
  rcases aw.mp hc with rfl|hc
  ·exact fP _
  ·rcases aw.mp hc with rfl|hc
   ·exact iL hp
   ·cases hc
 ·refine⟨.int _,H,I.kept (t':=tk) (fun b o e=>hk b o (fun hm=>?_) (ay _ e)),⟨_,rfl⟩,?_⟩
  ·rw[ak] at hm
   exact absurd hm (a0 (aK e))
  ·rw[bw,hl,sD ns ns.length (aC _),a8]
   exact q
theorem xQ (a:Array Nat): ∀(n:Nat) (acc:Array Nat),((List.replicate n a).foldl (· ++ ·) acc).size=acc.size + n * a.size
 |0,acc=>by simp
 |n + 1,acc=>by
  rw[c8,fF,xQ a n,Array.size_append,vZ]
  lia
def QX:R2:=fun x y H Q=> ∃(z:Str) (n:Int),x= .str z/\y= .int n/\z.length=1/\0<=n/\n<=1000/\ ∀z':Str,z'.length<=1000->Q (.str z') H
theorem yM:ox X (binaryOp .Mult) QX:=by
 intro pins s σ H x y v u Q I rx ry h
 obtain⟨z,n,rfl,rfl,hz,h0,h1,q⟩:=h
 obtain⟨t,rfl⟩:=rx
 obtain⟨t',rfl⟩:=ry
 refine P.mul_str ?_ (fun _ _=>?_) (fun _ _=>?_) ?_
 ·rw[bf (by lia),bf (by lia)]; rfl
 ·rw[hz]
  intro KY
  have:(2 ^ 63 - 1:Int) / n≥1:=by
   have hn:0 < n:=by
    by_cases c:0 < n
    ·exact c
    ·have e:n=0:=by lia
     subst e
     simp at KY
     lia
   exact Int.le_ediv_of_mul_le hn (by lia)
  lia
 ·rw[hz]
  unfold Builtin.Str.tooLong
  simp
  rw[en]
  lia
 ·by_cases c:n < 1
  ·rw[a7 c]
   exact⟨by decide,⟨.str Str.empty,H,I.tok _,⟨_,rfl⟩,q _ (by show 0<=1000; lia)⟩⟩
  ·rw[aQ c]
   by_cases c2:(n == 1 || z.length == 0)=true
   ·rw[a7 c2]
    exact⟨.str z,H,I,⟨_,rfl⟩,q _ (by lia)⟩
   ·rw[aQ c2]
    have hsz:((List.replicate n.toNat z.cps).foldl (· ++ ·) #[]).size<=1000:=by
     rw[xQ]
     have:z.cps.size=1:=hz
     rw[this]
     simp
     lia
    refine⟨?_,⟨.str _,H,I.tok _,⟨_,rfl⟩,q _ hsz⟩⟩
    show _<=_
    refine aY hsz ?_
    rw[en]; lia
end
inductive bu where
 |dJ (aI:Str) (day Aw dE:Int)
 |qv (aI:Str) (day dE:Int)
 |note (b day dE:Int)
 |set (c b dE:Int)
 |fu (aI:Str)
 |iQ (n:Int)
 |ask (aO:Bool) (aI:Str) (day:Int)
 |iC (aI:Str) (day:Int) (bO:List Int)
structure Rw where
 aI:Str
 a:Int
 b:Int
 c:Int
 d:Int
instance:Inhabited Rw:=⟨⟨"",0,0,0,0⟩⟩
structure Bk where
 aG:List Rw
 credits:List Rw
 made:List (Nat×Nat×Int)
def Bk.new:Bk:=⟨[],[],[]⟩
def Bk.cr (S:Bk)(c:Nat):Rw:=S.credits.getD c default
def Bk.bl (S:Bk)(b:Nat):Rw:=S.aG.getD b default
def Bk.ez (S:Bk)(c b:Nat):Bool:=decide ((S.cr c).aI=(S.bl b).aI) && (decide ((S.cr c).c= -1) || decide ((S.cr c).c=(b:Int)))
def Rw.less (r:Rw)(x:Int):Rw:={r with d:=r.d - x}
def Bk.put (S:Bk)(c b:Nat)(x:Int):Bk:=⟨S.aG.set b ((S.bl b).less x),S.credits.set c ((S.cr c).less x),S.made ++ [(c,b,x)]⟩
def iD (a b:Int):Int:=if b < a then b else a
def tE (x:Int×Nat):Int:=x.1 * 1000 + (x.2:Int)
def ins (x:Int×Nat):List (Int×Nat)->List (Int×Nat)
 |[]=>[x]
 |y :: l=>if tE x<=tE y then x :: y :: l else y :: ins x l
def d9:List (Int×Nat)->List (Int×Nat)
 |[]=>[]
 |x :: l=>ins x (d9 l)
theorem A5 (x y:Int×Nat)(l:List (Int×Nat)):ins x (y :: l)=if tE x<=tE y then x :: y :: l else y :: ins x l:=rfl
theorem uO (x:Int×Nat): ∀l,(ins x l).Perm (x :: l)
 |[]=>MN _
 |y :: l=>by
  unfold ins
  split
  ·exact MN _
  ·exact(List.Perm.cons y (uO x l)).trans (List.Perm.swap x y l)
theorem cY: ∀l,(d9 l).Perm l
 |[]=>MN _
 |x :: l=>(uO x (d9 l)).trans (List.Perm.cons x (cY l))
theorem Ik (x:Int×Nat): ∀l,l.Pairwise (fun a b=>tE a<=tE b)->(ins x l).Pairwise (fun a b=>tE a<=tE b)
 |[],_=>List.pairwise_singleton _ _
 |y :: l,h=>by
  rw[eX] at h
  unfold ins
  split
  ·rename_i c
   rw[eX]
   refine⟨fun z hz=>?_,eX.mpr h⟩
   rcases aw.mp hz with rfl|hz
   ·exact c
   ·exact lE c (h.1 z hz)
  ·rename_i c
   rw[eX]
   refine⟨fun z hz=>?_,Ik x l h.2⟩
   rcases aw.mp ((uO x l).mem_iff.mp hz) with rfl|hz
   ·lia
   ·exact h.1 z hz
theorem uP: ∀l,(d9 l).Pairwise (fun a b=>tE a<=tE b)
 |[]=>List.Pairwise.nil
 |x :: l=>Ik x _ (uP l)
theorem FN (x:Int×Nat): ∀l,(∀y∈l,tE x<=tE y)->ins x l=x :: l
 |[],_=>rfl
 |y :: l,h=>by
  unfold ins
  rw[a7 (h y bI)]
theorem uQ (p:Int×Nat->Bool)(x:Int×Nat): ∀l,l.Pairwise (fun a b=>tE a<=tE b)->(ins x l).filter p=if p x then ins x (l.filter p) else l.filter p
 |[],_=>by
  unfold ins
  cases h:p x <;> simp[h,ins]
 |y :: l,hs=>by
  rw[eX] at hs
  rw[A5]
  by_cases c:tE x<=tE y
  ·rw[a7 c]
   cases h:p x
   ·rw[List.filter_cons_of_neg (by simp[h])]
    simp
   ·rw[cu h]
    simp only[if_true]
    rw[FN x]
    intro z hz
    rcases aw.mp (eM.mp hz).1 with rfl|ZL
    ·exact c
    ·exact lE c (hs.1 z ZL)
  ·rw[aQ c]
   have ih:=uQ p x l hs.2
   cases hy:p y
   ·rw[List.filter_cons_of_neg (by simp[hy]),ih,List.filter_cons_of_neg (by simp[hy])]
   ·rw[cu hy,ih,cu hy]
    cases h:p x
    ·simp
    ·simp only[if_true]
     rw[A5,aQ c]
theorem lN (p:Int×Nat->Bool): ∀l,d9 (l.filter p)=(d9 l).filter p
 |[]=>rfl
 |x :: l=>by
  show _ =(ins x (d9 l)).filter p
  rw[uQ p x _ (uP l),← lN p l]
  cases h:p x
  ·rw[List.filter_cons_of_neg (by simp[h])]
   simp
  ·rw[cu h]
   simp[d9]
def f7 (rows:List Rw)(aI:Str)(key:Rw->Int):List (Int×Nat):=((List.range rows.length).filter fun k=>decide ((rows.getD k default).aI=aI)).map fun k=>(key (rows.getD k default),k)
def inOrder (rows:List Rw)(aI:Str)(key:Rw->Int):List Nat:=(d9 (f7 rows aI key)).map (·.2)
def uR (rows:List Rw)(aI:Str)(key:Rw->Int):List (Int×Nat):=
 ((List.range rows.length).filter fun k=>decide ((rows.getD k default).aI=aI) && decide (0 < (rows.getD k default).d)).map fun k=>(key (rows.getD k default),k)
def inTurn (rows:List Rw)(aI:Str)(key:Rw->Int):List Nat:=(d9 (uR rows aI key)).map (·.2)
theorem A6 (rows:List Rw)(aI:Str)(key:Rw->Int):uR rows aI key=(f7 rows aI key).filter fun x=>decide (0 < (rows.getD x.2 default).d):=by
 unfold uR f7
 rw[Kk,pQ]
 congr 1
 apply rz
 intro k _
 simp[Bool.and_comm]
theorem sE {α β:Type}(f:α->β)(p:β->Bool)(l:List α):(l.filter fun x=>p (f x)).map f=(l.map f).filter p:=by
 rw[Kk]; rfl
theorem gY (rows:List Rw)(aI:Str)(key:Rw->Int):inTurn rows aI key=(inOrder rows aI key).filter fun k=>decide (0 < (rows.getD k default).d):=by
 unfold inTurn inOrder
 rw[A6,lN]
 exact sE (fun x:Int×Nat=>x.2) (fun k=>decide (0 < (rows.getD k default).d)) _
theorem kh {rows:List Rw}{aI:Str}{key:Rw->Int}{k:Nat}:k∈inOrder rows aI key↔k < rows.length/\(rows.getD k default).aI=aI:=by
 unfold inOrder f7
 rw[bC]
 constructor
 ·rintro⟨x,hx,rfl⟩
  obtain⟨j,hj,rfl⟩:=bC.mp ((cY _).mem_iff.mp hx)
  simpa using hj
 ·rintro⟨h1,h2⟩
  refine⟨(key (rows.getD k default),k),(cY _).mem_iff.mpr (bC.mpr ⟨k,?_,rfl⟩),rfl⟩
  exact List.mem_filter.mpr ⟨List.mem_range.mpr h1,by simpa using h2⟩
theorem eI {rows:List Rw}{aI:Str}{key:Rw->Int}{k:Nat}:k∈inTurn rows aI key↔k < rows.length/\(rows.getD k default).aI=aI/\0 < (rows.getD k default).d:=by
 rw[gY,eM,kh]
 simp[and_assoc]
theorem wo (rows:List Rw)(aI:Str)(key:Rw->Int):(inOrder rows aI key).Nodup:=by
 have h:((d9 (f7 rows aI key)).map (·.2)).Perm ((f7 rows aI key).map (·.2)):=(cY _).map _
 refine h.nodup_iff.mpr ?_
 unfold f7
 rw[eO]
 have e:((fun x:Int×Nat=>x.2) ∘ fun k=>(key (rows.getD k default),k))=id:=rfl
 rw[e,AD]
 exact me.filter _
theorem lO (rows:List Rw)(aI:Str)(key:Rw->Int):(inTurn rows aI key).Nodup:=by
 rw[gY]
 exact(wo rows aI key).filter _
def nZ (r r':Rw):Prop:=r'.aI=r.aI/\r'.a=r.a/\r'.b=r.b/\r'.c=r.c
theorem nZ.refl (r:Rw):nZ r r:=⟨rfl,rfl,rfl,rfl⟩
theorem nZ.trans {r s t:Rw}(h:nZ r s)(k:nZ s t):nZ r t:=⟨k.1.trans h.1,k.2.1.trans h.2.1,k.2.2.1.trans h.2.2.1,k.2.2.2.trans h.2.2.2⟩
theorem A7 {rows ip:List Rw}{aI:Str}{key:Rw->Int}(hk: ∀r r',nZ r r'->key r'=key r)(hl:ip.length=rows.length)(h: ∀k,nZ (rows.getD k default) (ip.getD k default)):f7 ip aI key=f7 rows aI key:=by
 unfold f7
 rw[hl]
 have e:(fun k=>decide ((ip.getD k default).aI=aI))=fun k=>decide ((rows.getD k default).aI=aI):=by
  funext k
  rw[(h k).1]
 rw[e]
 apply gH
 intro k _
 rw[hk _ _ (h k)]
theorem yN {rows ip:List Rw}{aI:Str}{key:Rw->Int}(hk: ∀r r',nZ r r'->key r'=key r)(hl:ip.length=rows.length)(h: ∀k,nZ (rows.getD k default) (ip.getD k default)):inOrder ip aI key=inOrder rows aI key:=by
 unfold inOrder
 rw[A7 hk hl h]
theorem yO {rows ip:List Rw}{aI:Str}{key:Rw->Int}(hk: ∀r r',nZ r r'->key r'=key r)(hl:ip.length=rows.length)(h: ∀k,nZ (rows.getD k default) (ip.getD k default))(hd: ∀k,(ip.getD k default).d<=(rows.getD k default).d):
  inTurn ip aI key=(inTurn rows aI key).filter fun k=>decide (0 < (ip.getD k default).d):=by
 rw[gY,gY,yN hk hl h,pQ]
 apply rz
 intro k _
 have:=hd k
 by_cases c:0 < (ip.getD k default).d
 ·have c2:0 < (rows.getD k default).d:=by lia
  rw[aE c,aE c2]
  rfl
 ·rw[bf c]
  rfl
def cq (exact:Bool)(c:Nat)(S:Bk)(b:Nat):Bk:=
 if 0 < (S.cr c).d/\S.ez c b=true/\((S.cr c).d=(S.bl b).d∨exact=false) then S.put c b (iD (S.cr c).d (S.bl b).d) else S
def cJ (aI:Str)(exact:Bool)(S:Bk)(c:Nat):Bk:=(inTurn S.aG aI (·.b)).foldl (cq exact c) S
def bN (aI:Str)(S:Bk)(exact:Bool):Bk:=(inTurn S.credits aI (·.a)).foldl (cJ aI exact) S
def Bk.jI (S:Bk)(aI:Str):Bk:=bN aI (bN aI S true) false
theorem A8 {α:Type}{l:List α}{i k:Nat}{v d:α}(h:i < l.length):(l.set i v).getD k d=if k=i then v else l.getD k d:=by
 rw[aj,aj]
 by_cases c:k=i
 ·subst c
  rw[a7 rfl,kM h]
  rfl
 ·rw[aQ c,mq (fun z=>c z.symm)]
theorem uS {S:Bk}{c b k:Nat}{x:Int}(h:b < S.aG.length):(S.put c b x).bl k=if k=b then(S.bl b).less x else S.bl k:=A8 h
theorem rO {S:Bk}{c b k:Nat}{x:Int}(h:c < S.credits.length):(S.put c b x).cr k=if k=c then(S.cr c).less x else S.cr k:=A8 h
def ka (S:Bk)(l:List (Nat×Nat×Int)):Bk:=l.foldl (fun S t=>S.put t.1 t.2.1 t.2.2) S
theorem mJ (S:Bk)(l m:List (Nat×Nat×Int)):ka S (l ++ m)=ka (ka S l) m:=by
 unfold ka; rw[List.foldl_append]
theorem ju (S:Bk): ∀l,(ka S l).made=S.made ++ l
 |[]=>by simp[ka]
 |t :: l=>by
  show(ka (S.put t.1 t.2.1 t.2.2) l).made=_
  rw[ju _ l]
  simp[Bk.put]
structure Later (S S':Bk):Prop where
 bl:S'.aG.length=S.aG.length
 cl:S'.credits.length=S.credits.length
 b: ∀k,nZ (S.bl k) (S'.bl k)/\(S'.bl k).d<=(S.bl k).d
 c: ∀k,nZ (S.cr k) (S'.cr k)/\(S'.cr k).d<=(S.cr k).d
theorem Later.refl (S:Bk):Later S S:=⟨rfl,rfl,fun k=>⟨nZ.refl _,fG _⟩,fun k=>⟨nZ.refl _,fG _⟩⟩
theorem Later.trans {S T U:Bk}(h:Later S T)(k:Later T U):Later S U:=
 ⟨k.bl.trans h.bl,k.cl.trans h.cl,fun i=>⟨(h.b i).1.trans (k.b i).1,lE (k.b i).2 (h.b i).2⟩,fun i=>⟨(h.c i).1.trans (k.c i).1,lE (k.c i).2 (h.c i).2⟩⟩
theorem Later.put {S:Bk}{c b:Nat}{x:Int}(hb:b < S.aG.length)(hc:c < S.credits.length)(hx:0<=x):Later S (S.put c b x):=by
 refine⟨dX,dX,fun k=>?_,fun k=>?_⟩
 ·rw[uS hb]
  split
  ·rename_i e
   subst e
   exact⟨nZ.refl _,by show(S.bl k).d - x<=_; lia⟩
  ·exact⟨nZ.refl _,fG _⟩
 ·rw[rO hc]
  split
  ·rename_i e
   subst e
   exact⟨nZ.refl _,by show(S.cr k).d - x<=_; lia⟩
  ·exact⟨nZ.refl _,fG _⟩
theorem Later.ez {S T:Bk}(h:Later S T)(c b:Nat):T.ez c b=S.ez c b:=by
 unfold Bk.ez
 rw[(h.c c).1.1,(h.b b).1.1,(h.c c).1.2.2.2]
theorem Later.Mn {S T:Bk}(h:Later S T)(aI:Str):inTurn T.aG aI (·.b)=(inTurn S.aG aI (·.b)).filter fun k=>decide (0 < (T.bl k).d):=
 yO (fun r r' z=>z.2.2.1) h.bl (fun k=>(h.b k).1) (fun k=>(h.b k).2)
def gT (f:Int)(ls:List Int)(row:List Bool)(tk:Nat->Bool):Option Nat:=(List.range ls.length).find? fun j=>row.getD j false && decide (ls.getD j 0=f) && !tk j
def bS (fs ls:List Int)(al:List (List Bool)):Nat->(Nat->Bool)×List (Nat×Nat×Int)
 |0=>(fun _=>false,[])
 |i + 1=>match gT (fs.getD i 0) ls (al.getD i []) (bS fs ls al i).1 with
  |none=>bS fs ls al i
  |some j=>(fun x=>x == j || (bS fs ls al i).1 x,(bS fs ls al i).2 ++ [(i,j,fs.getD i 0)])
def lP (gs ts:List Nat)(t:Nat×Nat×Int):Nat×Nat×Int:=(gs.getD t.1 0,ts.getD t.2.1 0,t.2.2)
theorem xR {α:Type}(l:List α)(d:α):(List.range l.length).map (fun j=>l.getD j d)=l:=by
 apply List.ext_getElem
 ·rw[ae,di]
 ·intro i h1 h2
  rw[List.getElem_map,List.getElem_range,aj,af h2]
  rfl
theorem C2 {α:Type}(l:List α)(d:α)(p:α->Bool):l.find? p=((List.range l.length).find? fun j=>p (l.getD j d)).map fun j=>l.getD j d:=by
 have e:l.find? p=((List.range l.length).map (fun j=>l.getD j d)).find? p:=by rw[xR]
 rw[e,List.find?_map]
 rfl
theorem jJ {l:List Nat}{i:Nat}(h:i < l.length):l.getD i 0∈l:=by
 rw[aj,af h]
 exact bF _
theorem getD_map {α β:Type}(f:α->β)(l:List α)(i:Nat)(d:α)(e:β)(h:i < l.length):(l.map f).getD i e=f (l.getD i d):=by
 rw[aj,aj,aB,af h]
 rfl
theorem getD_inj {l:List Nat}(nd:l.Nodup){i j:Nat}(hi:i < l.length)(hj:j < l.length)(h:l.getD i 0=l.getD j 0):i=j:=by
 rw[aj,aj,af hi,af hj] at h
 exact(List.getElem_inj nd).mp h
theorem idle {ex:Bool}{c:Nat}: ∀{l:List Nat} {S:Bk},(S.cr c).d<=0->l.foldl (cq ex c) S=S
 |[],_,_=>rfl
 |b :: l,S,h=>by
  rw[fF]
  have e:cq ex c S b=S:=by
   unfold cq
   rw[aQ (fun z=>by lia)]
  rw[e]
  exact idle h
theorem Ej {c:Nat}{S:Bk}(hc:c < S.credits.length): ∀{l:List Nat},(∀b∈l,b < S.aG.length)->0 < (S.cr c).d->l.foldl (cq true c) S=match l.find? (fun b=>S.ez c b && decide ((S.bl b).d=(S.cr c).d)) with
  |none=>S
  |some b=>S.put c b (S.cr c).d
 |[],_,_=>rfl
 |b :: l,hl,h=>by
  rw[fF]
  by_cases z:(S.ez c b && decide ((S.bl b).d=(S.cr c).d))=true
  ·rw[List.find?_cons_of_pos (p:=fun b=>S.ez c b && decide ((S.bl b).d=(S.cr c).d)) z]
   have z':S.ez c b=true/\(S.bl b).d=(S.cr c).d:=by simpa using z
   have e:cq true c S b=S.put c b (S.cr c).d:=by
    unfold cq
    rw[a7 ⟨h,z'.1,.inl z'.2.symm⟩,z'.2]
    congr 1
    unfold iD
    split <;> rfl
   rw[e]
   refine idle ?_
   rw[rO hc,a7 rfl]
   show(S.cr c).d - (S.cr c).d<=0
   lia
  ·rw[List.find?_cons_of_neg (p:=fun b=>S.ez c b && decide ((S.bl b).d=(S.cr c).d)) z]
   have e:cq true c S b=S:=by
    unfold cq
    rw[aQ]
    rintro⟨_,z1,z2⟩
    rcases z2 with z2|z2
    ·exact z (by simp[z1,z2])
    ·cases z2
   rw[e]
   exact Ej hc (fun x hx=>hl x (bc _ hx)) h
structure uT (S:Bk)(aI:Str)(gs ts:List Nat)(fs ls:List Int)(al:List (List Bool)):Prop where
 eg:gs=inTurn S.credits aI (·.a)
 et:ts=inTurn S.aG aI (·.b)
 ef:fs=gs.map fun g=>(S.cr g).d
 el:ls=ts.map fun t=>(S.bl t).d
 ea:al=gs.map fun g=>ts.map fun t=>S.ez g t
section
variable {S:Bk}{aI:Str}{gs ts:List Nat}{fs ls:List Int}{al:List (List Bool)}
theorem uT.g (R:uT S aI gs ts fs ls al){i:Nat}(h:i < gs.length):gs.getD i 0 < S.credits.length/\0 < (S.cr (gs.getD i 0)).d/\fs.getD i 0=(S.cr (gs.getD i 0)).d:=by
 have m:=jJ h
 rw[R.eg] at m
 obtain⟨m1,_,m3⟩:=eI.mp m
 rw[← R.eg] at m1 m3
 exact⟨m1,m3,by rw[R.ef,getD_map _ gs i 0 0 h]⟩
theorem uT.t (R:uT S aI gs ts fs ls al){i:Nat}(h:i < ts.length):ts.getD i 0 < S.aG.length/\0 < (S.bl (ts.getD i 0)).d/\ls.getD i 0=(S.bl (ts.getD i 0)).d:=by
 have m:=jJ h
 rw[R.et] at m
 obtain⟨m1,_,m3⟩:=eI.mp m
 rw[← R.et] at m1 m3
 exact⟨m1,m3,by rw[R.el,getD_map _ ts i 0 0 h]⟩
theorem uT.a (R:uT S aI gs ts fs ls al){i j:Nat}(hi:i < gs.length)(hj:j < ts.length):(al.getD i []).getD j false=S.ez (gs.getD i 0) (ts.getD j 0):=by
 rw[R.ea,getD_map _ gs i 0 [] hi,getD_map _ ts j 0 false hj]
theorem uT.gn (R:uT S aI gs ts fs ls al):gs.Nodup:=by rw[R.eg]; exact lO _ _ _
theorem uT.tn (R:uT S aI gs ts fs ls al):ts.Nodup:=by rw[R.et]; exact lO _ _ _
theorem uT.ll (R:uT S aI gs ts fs ls al):ls.length=ts.length:=by rw[R.el,ae]
theorem uT.tm (R:uT S aI gs ts fs ls al){b:Nat}(h:b∈ts):b < S.aG.length:=by
 rw[R.et] at h
 exact(eI.mp h).1
theorem o9 {l:List Nat}{i:Nat}(h:i < l.length):l.take (i + 1)=l.take i ++ [l.getD i 0]:=by
 rw[Au,af h,aj,af h]
 rfl
structure U9 (S:Bk)(aI:Str)(gs ts:List Nat)(fs ls:List Int)(i:Nat)(st:(Nat->Bool)×List (Nat×Nat×Int))(Si:Bk):Prop where
 run:(gs.take i).foldl (cJ aI true) S=Si
 eq:Si=ka S (st.2.map (lP gs ts))
 later:Later S Si
 b: ∀j,j < ts.length->(Si.bl (ts.getD j 0)).d=if st.1 j=true then 0 else ls.getD j 0
 c: ∀k,i<=k->k < gs.length->(Si.cr (gs.getD k 0)).d=fs.getD k 0
theorem A9 (R:uT S aI gs ts fs ls al){i:Nat}{Si:Bk}(hi:i < gs.length)(J:U9 S aI gs ts fs ls i (bS fs ls al i) Si): ∃S',U9 S aI gs ts fs ls (i + 1) (bS fs ls al (i + 1)) S':=by
 obtain⟨g1,g2,g3⟩:=R.g hi
 have gc:gs.getD i 0 < Si.credits.length:=by rw[J.later.cl]; exact g1
 have fr:(Si.cr (gs.getD i 0)).d=fs.getD i 0:=J.c i (aC _) hi
 have fp:0 < (Si.cr (gs.getD i 0)).d:=by rw[fr,g3]; exact g2
 have find:((inTurn Si.aG aI (·.b)).find? fun b=>Si.ez (gs.getD i 0) b && decide ((Si.bl b).d=(Si.cr (gs.getD i 0)).d))=(gT (fs.getD i 0) ls (al.getD i []) (bS fs ls al i).1).map fun j=>ts.getD j 0:=by
  rw[J.later.Mn,← R.et,List.find?_filter,C2 ts 0]
  unfold gT
  rw[R.ll]
  congr 1
  have q: ∀j∈List.range ts.length,(decide (0 < (Si.bl (ts.getD j 0)).d) && (Si.ez (gs.getD i 0) (ts.getD j 0) && decide ((Si.bl (ts.getD j 0)).d=(Si.cr (gs.getD i 0)).d)))=((al.getD i []).getD j false && decide (ls.getD j 0=fs.getD i 0) && !(bS fs ls al i).1 j):=by
   intro j hj
   have hj:=df.mp hj
   rw[R.a hi hj,J.later.ez,J.b j hj,fr]
   obtain⟨_,t2,t3⟩:=R.t hj
   cases h:(bS fs ls al i).1 j
   ·simp only[Bool.false_eq_true,if_false,Bool.not_false,Bool.and_true]
    rw[t3,aE t2]
    simp
   ·simp
  have key: ∀(l:List Nat) (p q:Nat->Bool),(∀j∈l,p j=q j)->l.find? p=l.find? q:=by
   intro l p q h
   induction l with
   |nil=>rfl
   |cons x l ih=>
    rw[List.find?_cons,List.find?_cons,h x bI,ih fun j hj=>h j (bc _ hj)]
  refine key _ _ _ fun j hj=>?_
  rw[← q j hj]
  simp
 have run:(gs.take (i + 1)).foldl (cJ aI true) S=match(gT (fs.getD i 0) ls (al.getD i []) (bS fs ls al i).1).map (fun j=>ts.getD j 0) with
   |none=>Si
   |some b=>Si.put (gs.getD i 0) b (Si.cr (gs.getD i 0)).d:=by
  rw[o9 hi,rA,J.run]
  show cJ aI true Si (gs.getD i 0)=_
  unfold cJ
  rw[Ej gc (fun b hb=>(eI.mp hb).1) fp,find]
 cases h:gT (fs.getD i 0) ls (al.getD i []) (bS fs ls al i).1 with
 |none=>
  rw[h] at run
  have e:bS fs ls al (i + 1)=bS fs ls al i:=by rw[bS,h]
  rw[e]
  exact⟨Si,run,J.eq,J.later,J.b,fun k h1 h2=>J.c k (by lia) h2⟩
 |some j=>
  rw[h] at run
  have e:bS fs ls al (i + 1)=(fun x=>x == j || (bS fs ls al i).1 x,(bS fs ls al i).2 ++ [(i,j,fs.getD i 0)]):=by rw[bS,h]
  have hj:j < ts.length:=by
   unfold gT at h
   have:=MO h
   rw[R.ll] at this
   exact df.mp this
  have XO:(al.getD i []).getD j false=true/\ls.getD j 0=fs.getD i 0/\(bS fs ls al i).1 j=false:=by
   unfold gT at h
   have:=List.find?_some h
   simpa[and_assoc] using this
  obtain⟨t1,t2,t3⟩:=R.t hj
  have tb:ts.getD j 0 < Si.aG.length:=by rw[J.later.bl]; exact t1
  have f0:0<=fs.getD i 0:=by rw[g3]; lia
  have run':(gs.take (i + 1)).foldl (cJ aI true) S=Si.put (gs.getD i 0) (ts.getD j 0) (fs.getD i 0):=by
   rw[run,← fr]
   rfl
  rw[e]
  refine⟨Si.put (gs.getD i 0) (ts.getD j 0) (fs.getD i 0),run',?_,J.later.trans (Later.put tb gc f0),fun j' Ti=>?_,fun k h1 h2=>?_⟩
  ·rw[aM,mJ,← J.eq]
   rfl
  ·rw[uS tb]
   by_cases q:j'=j
   ·subst q
    rw[a7 rfl]
    simp only[beq_self_eq_true,Bool.true_or,if_true]
    show(Si.bl (ts.getD j' 0)).d - fs.getD i 0=0
    rw[J.b j' hj,XO.2.2,aQ (by decide),XO.2.1]
    lia
   ·rw[aQ fun z=>q (getD_inj R.tn Ti hj z),J.b j' Ti]
    have:(j' == j)=false:=by simpa using q
    show _ =if(j' == j || (bS fs ls al i).1 j')=true then 0 else _
    rw[this,Bool.false_or]
  ·rw[rO gc,aQ fun z=>by have:=getD_inj R.gn h2 hi z; lia]
   exact J.c k (by lia) h2
theorem uU (R:uT S aI gs ts fs ls al): ∀i,i<=gs.length-> ∃Si,U9 S aI gs ts fs ls i (bS fs ls al i) Si
 |0,_=>⟨S,rfl,rfl,Later.refl S,fun j hj=>by
   obtain⟨_,_,t3⟩:=R.t hj
   show _ =if false=true then 0 else _
   rw[aQ (by decide),t3],fun k _ h2=>by
   obtain⟨_,_,g3⟩:=R.g h2
   exact g3.symm⟩
 |i + 1,h=>by
  obtain⟨Si,J⟩:=uU R i (by lia)
  exact A9 R (by lia) J
theorem Il (R:uT S aI gs ts fs ls al):bN aI S true=ka S ((bS fs ls al gs.length).2.map (lP gs ts))/\Later S (bN aI S true):=by
 obtain⟨Si,J⟩:=uU R gs.length (aC _)
 have e:bN aI S true=Si:=by
  unfold bN
  rw[← R.eg,← J.run,a8]
 rw[e]
 exact⟨J.eq,J.later⟩
end
theorem Ek {l:List Int}{i j:Nat}{v:Int}(h:i≠j):(l.set i v).getD j 0=l.getD j 0:=by
 rw[aj,aj,mq h]
theorem KZ {l:List Int}{i:Nat}{v:Int}(h:i < l.length):(l.set i v).getD i 0=v:=by
 rw[aj,kM h]; rfl
def dD (l:List Int)(ps:List (Nat×Int)):List Int:=ps.foldl (fun l x=>l.set x.1 (l.getD x.1 0 - x.2)) l
theorem sF (l:List Int)(ps:List (Nat×Int))(x:Nat×Int):dD l (ps ++ [x])=(dD l ps).set x.1 ((dD l ps).getD x.1 0 - x.2):=by
 unfold dD; rw[List.foldl_append]; rfl
theorem pj (ps:List (Nat×Int)): ∀l:List Int,(dD l ps).length=l.length:=by
 induction ps with
 |nil=>intro l; rfl
 |cons x ps ih=>
  intro l
  show(dD (l.set x.1 _) ps).length=_
  rw[ih,dX]
def bz (f:Int)(l:List Int)(row:List Bool):Nat->Int×List (Nat×Int)
 |0=>(f,[])
 |j + 1=>if row.getD j false=true/\0 < iD (bz f l row j).1 (l.getD j 0) then((bz f l row j).1 - iD (bz f l row j).1 (l.getD j 0),(bz f l row j).2 ++ [(j,iD (bz f l row j).1 (l.getD j 0))]) else bz f l row j
def ck (fs ls:List Int)(al:List (List Bool)):Nat->List Int×List (Nat×Nat×Int)
 |0=>(ls,[])
 |i + 1=>(dD (ck fs ls al i).1 (bz (fs.getD i 0) (ck fs ls al i).1 (al.getD i []) (ck fs ls al i).1.length).2,
   (ck fs ls al i).2 ++ (bz (fs.getD i 0) (ck fs ls al i).1 (al.getD i []) (ck fs ls al i).1.length).2.map fun x=>(i,x.1,x.2))
theorem jv (fs ls:List Int)(al:List (List Bool)): ∀i,(ck fs ls al i).1.length=ls.length
 |0=>rfl
 |i + 1=>by
  show(dD _ _).length=_
  rw[pj,jv fs ls al i]
def fV (c:Nat)(S:Bk)(b:Nat):Bk:=if 0 < (S.bl b).d then cq false c S b else S
theorem Io {c b:Nat}{S:Bk}(hc:c < S.credits.length)(hb:b < S.aG.length):Later S (fV c S b)/\ ∀k,k≠b->((fV c S b).bl k).d=(S.bl k).d:=by
 unfold fV cq
 split
 ·rename_i h1
  split
  ·rename_i h2
   refine⟨Later.put hb hc ?_,fun k hk=>by rw[uS hb,aQ hk]⟩
   unfold iD
   split <;> lia
  ·exact⟨Later.refl S,fun _ _=>rfl⟩
 ·exact⟨Later.refl S,fun _ _=>rfl⟩
theorem El {c:Nat}{S0:Bk}: ∀{l:List Nat} {S:Bk},l.Nodup->c < S.credits.length->(∀b∈l,b < S.aG.length)->(∀b∈l,(S.bl b).d=(S0.bl b).d)->
  (l.filter fun b=>decide (0 < (S0.bl b).d)).foldl (cq false c) S=l.foldl (fV c) S
 |[],_,_,_,_,_=>rfl
 |b :: l,S,nd,hc,hl,hd=>by
  rw[fE] at nd
  obtain⟨lt,ot⟩:=Io (S:=S) hc (hl b bI)
  have ih:=El (S:=fV c S b) (S0:=S0) (l:=l) nd.2 (by rw[lt.cl]; exact hc) (fun x hx=>by rw[lt.bl]; exact hl x (bc _ hx)) (fun x hx=>by
   rw[ot x (fun z=>nd.1 (z▸hx))]
   exact hd x (bc _ hx))
  rw[fF,← ih]
  have e:=hd b bI
  by_cases z:0 < (S0.bl b).d
  ·rw[List.filter_cons_of_pos (by simpa using z),List.foldl_cons]
   congr 1
   unfold fV
   rw[a7 (by lia)]
  ·rw[List.filter_cons_of_neg (by simpa using z)]
   congr 1
   unfold fV
   rw[aQ (by lia)]
section
variable {S:Bk}{aI:Str}{gs ts:List Nat}{fs ls:List Int}{al:List (List Bool)}
structure ND (S:Bk)(ts:List Nat)(c:Nat)(L:List Int)(j:Nat)(st:Int×List (Nat×Int))(Sj:Bk):Prop where
 run:(ts.take j).foldl (fV c) S=Sj
 eq:Sj=ka S (st.2.map fun x=>(c,ts.getD x.1 0,x.2))
 later:Later S Sj
 f:(Sj.cr c).d=st.1
 b: ∀k,k < ts.length->(Sj.bl (ts.getD k 0)).d=(dD L st.2).getD k 0
 lt: ∀x∈st.2,x.1 < j
 oc: ∀k,k≠c->Sj.cr k=S.cr k
theorem yP {c:Nat}{L:List Int}{row:List Bool}(nd:ts.Nodup)(hc:c < S.credits.length)(ht: ∀b∈ts,b < S.aG.length)(hL:L.length=ts.length)(hb: ∀k,k < ts.length->(S.bl (ts.getD k 0)).d=L.getD k 0)
  (hr: ∀k,k < ts.length->row.getD k false=S.ez c (ts.getD k 0)) {j:Nat} (hj:j < ts.length) {Sj:Bk} (J:ND S ts c L j (bz (S.cr c).d L row j) Sj): ∃S',ND S ts c L (j + 1) (bz (S.cr c).d L row (j + 1)) S':=by
 have ap:(dD L (bz (S.cr c).d L row j).2).getD j 0=L.getD j 0:=by
  have other: ∀(ps:List (Nat×Int)) (l:List Int),(∀x∈ps,x.1≠j)->(dD l ps).getD j 0=l.getD j 0:=by
   intro ps
   induction ps with
   |nil=>intro l h; rfl
   |cons x ps ih=>
    intro l h
    show(dD (l.set x.1 _) ps).getD j 0=_
    rw[ih _ fun y hy=>h y (bc _ hy),Ek (h x bI)]
  exact other _ _ fun x hx=>a0 (J.lt x hx)
 have bd:(Sj.bl (ts.getD j 0)).d=L.getD j 0:=by rw[J.b j hj,ap]
 have cj:c < Sj.credits.length:=by rw[J.later.cl]; exact hc
 have bj:ts.getD j 0 < Sj.aG.length:=by rw[J.later.bl]; exact ht _ (jJ hj)
 have run:(ts.take (j + 1)).foldl (fV c) S=fV c Sj (ts.getD j 0):=by
  rw[o9 hj,rA,J.run]
  rfl
 have g:Sj.ez c (ts.getD j 0)=row.getD j false:=by rw[J.later.ez,hr j hj]
 by_cases z:row.getD j false=true/\0 < iD (bz (S.cr c).d L row j).1 (L.getD j 0)
 ·have e:bz (S.cr c).d L row (j + 1)=((bz (S.cr c).d L row j).1 - iD (bz (S.cr c).d L row j).1 (L.getD j 0),(bz (S.cr c).d L row j).2 ++ [(j,iD (bz (S.cr c).d L row j).1 (L.getD j 0))]):=by
   rw[bz,a7 z]
  have z1:0 < (Sj.bl (ts.getD j 0)).d/\0 < (Sj.cr c).d:=by
   rw[bd,J.f]
   have:=z.2
   unfold iD at this
   split at this <;> lia
  have e2:fV c Sj (ts.getD j 0)=Sj.put c (ts.getD j 0) (iD (bz (S.cr c).d L row j).1 (L.getD j 0)):=by
   unfold fV cq
   rw[a7 z1.1,a7 ⟨z1.2,by rw[g]; exact z.1,.inr rfl⟩,J.f,bd]
  rw[e]
  refine⟨_,run.trans e2,?_,J.later.trans (Later.put bj cj (by lia)),?_,fun k hk=>?_,fun x hx=>?_,fun k hk=>?_⟩
  ·rw[aM,mJ,← J.eq]
   rfl
  ·rw[rO cj,a7 rfl]
   show(Sj.cr c).d - _ =_
   rw[J.f]
  ·rw[uS bj,sF]
   have len:(dD L (bz (S.cr c).d L row j).2).length=ts.length:=by rw[pj,hL]
   by_cases q:k=j
   ·subst q
    rw[a7 rfl,KZ (by rw[len]; exact hk)]
    show(Sj.bl (ts.getD k 0)).d - _ =(dD L _).getD k 0 - _
    rw[J.b k hk]
   ·rw[aQ fun w=>q (getD_inj nd hk hj w),J.b k hk,Ek (vW q)]
  ·rcases bA.mp hx with hx|hx
   ·have:=J.lt x hx
    lia
   ·rw[ak.mp hx]
    exact fP _
  ·rw[rO cj,aQ hk]
   exact J.oc k hk
 ·have e:bz (S.cr c).d L row (j + 1)=bz (S.cr c).d L row j:=by rw[bz,aQ z]
  have e2:fV c Sj (ts.getD j 0)=Sj:=by
   unfold fV cq
   split
   ·rename_i h1
    rw[aQ]
    rintro⟨h2,h3,_⟩
    refine z ⟨by rw[← g]; exact h3,?_⟩
    rw[bd] at h1
    rw[J.f] at h2
    unfold iD
    split <;> assumption
   ·rfl
  rw[e]
  exact⟨Sj,run.trans e2,J.eq,J.later,J.f,J.b,fun x hx=>by have:=J.lt x hx; lia,J.oc⟩
theorem Em {c:Nat}{L:List Int}{row:List Bool}(nd:ts.Nodup)(hc:c < S.credits.length)(ht: ∀b∈ts,b < S.aG.length)(hL:L.length=ts.length)(hb: ∀k,k < ts.length->(S.bl (ts.getD k 0)).d=L.getD k 0)
  (hr: ∀k,k < ts.length->row.getD k false=S.ez c (ts.getD k 0)): ∀j,j<=ts.length-> ∃Sj,ND S ts c L j (bz (S.cr c).d L row j) Sj
 |0,_=>⟨S,rfl,rfl,Later.refl S,rfl,hb,(fun _ h=>by cases h),fun _ _=>rfl⟩
 |j + 1,h=>by
  obtain⟨Sj,J⟩:=Em nd hc ht hL hb hr j (by lia)
  exact yP nd hc ht hL hb hr (by lia) J
structure Va (S:Bk)(aI:Str)(gs ts:List Nat)(fs:List Int)(i:Nat)(st:List Int×List (Nat×Nat×Int))(Si:Bk):Prop where
 run:(gs.take i).foldl (cJ aI false) S=Si
 eq:Si=ka S (st.2.map (lP gs ts))
 later:Later S Si
 b: ∀j,j < ts.length->(Si.bl (ts.getD j 0)).d=st.1.getD j 0
 c: ∀k,i<=k->k < gs.length->(Si.cr (gs.getD k 0)).d=fs.getD k 0
theorem Ba (R:uT S aI gs ts fs ls al){i:Nat}{Si:Bk}(hi:i < gs.length)(J:Va S aI gs ts fs i (ck fs ls al i) Si): ∃S',Va S aI gs ts fs (i + 1) (ck fs ls al (i + 1)) S':=by
 obtain⟨g1,g2,g3⟩:=R.g hi
 have gc:gs.getD i 0 < Si.credits.length:=by rw[J.later.cl]; exact g1
 have fr:(Si.cr (gs.getD i 0)).d=fs.getD i 0:=J.c i (aC _) hi
 have tl:(ck fs ls al i).1.length=ts.length:=by rw[jv,R.ll]
 have tb: ∀b∈ts,b < Si.aG.length:=fun b hb=>by rw[J.later.bl]; exact R.tm hb
 obtain⟨S',K⟩:=Em (S:=Si) (ts:=ts) (c:=gs.getD i 0) (L:=(ck fs ls al i).1) (row:=al.getD i []) R.tn gc tb tl J.b (fun k hk=>by rw[R.a hi hk,J.later.ez]) ts.length (aC _)
 have e:(gs.take (i + 1)).foldl (cJ aI false) S=S':=by
  rw[o9 hi,rA,J.run]
  show cJ aI false Si (gs.getD i 0)=_
  unfold cJ
  rw[J.later.Mn,← R.et,El R.tn gc tb (fun _ _=>rfl),← K.run,a8]
 rw[fr] at K
 have pe:bz (fs.getD i 0) (ck fs ls al i).1 (al.getD i []) ts.length=bz (fs.getD i 0) (ck fs ls al i).1 (al.getD i []) (ck fs ls al i).1.length:=by rw[tl]
 rw[pe] at K
 refine⟨S',e,?_,J.later.trans K.later,K.b,fun k h1 h2=>?_⟩
 ·show S'=ka S (((ck fs ls al i).2 ++ _).map (lP gs ts))
  rw[aM,mJ,← J.eq,K.eq,eO]
  rfl
 ·rw[K.oc _ fun z=>by have:=getD_inj R.gn h2 hi z; lia]
  exact J.c k (by lia) h2
theorem uV (R:uT S aI gs ts fs ls al): ∀i,i<=gs.length-> ∃Si,Va S aI gs ts fs i (ck fs ls al i) Si
 |0,_=>⟨S,rfl,rfl,Later.refl S,fun j hj=>by
   obtain⟨_,_,t3⟩:=R.t hj
   exact t3.symm,fun k _ h2=>by
   obtain⟨_,_,g3⟩:=R.g h2
   exact g3.symm⟩
 |i + 1,h=>by
  obtain⟨Si,J⟩:=uV R i (by lia)
  exact Ba R (by lia) J
theorem Iq (R:uT S aI gs ts fs ls al):bN aI S false=ka S ((ck fs ls al gs.length).2.map (lP gs ts))/\Later S (bN aI S false):=by
 obtain⟨Si,J⟩:=uV R gs.length (aC _)
 have e:bN aI S false=Si:=by
  unfold bN
  rw[← R.eg,← J.run,a8]
 rw[e]
 exact⟨J.eq,J.later⟩
end
inductive Ax where
 |int (i:Int)
 |txt (s:Str)
 |sets (l:List (Nat×Nat×Int))
 |pairs (l:List (Nat×Int))
 |ints (l:List Int)
def bu.isSet:bu->Bool
 | .set _ _ _=>true
 | .fu _=>true
 |_=>false
def bu.tells:bu->Bool
 | .dJ _ _ _ _=>true
 | .qv _ _ _=>true
 | .note _ _ _=>true
 | .set _ _ _=>true
 | .fu _=>true
 |_=>false
def pT (x:Int)(n:Nat):Prop:=0<=x/\x < (n:Int)
instance (x:Int) (n:Nat):Decidable (pT x n):=inferInstanceAs (Decidable (_/\_))
def Bk.bar (S:Bk):bu->Str
 | .dJ _ day Aw dE=>if dE < 1 then "no amount" else if Aw < day then "too early" else ""
 | .qv _ _ dE=>if dE < 1 then "no amount" else ""
 | .note b _ dE=>if ¬ pT b S.aG.length then "no bill" else if dE < 1 then "no amount" else ""
 | .set c b dE=>if ¬ pT c S.credits.length then "no credit" else if ¬ pT b S.aG.length then "no bill" else if S.ez c.toNat b.toNat=false then "not theirs" else
   if dE < 1 then "no amount" else if iD (S.cr c.toNat).d (S.bl b.toNat).d < dE then "too much" else ""
 |_=>""
theorem uW (S:Bk)(b d a:Int):S.bar (.note b d a)=(if ¬ pT b S.aG.length then("no bill":Str) else if a < 1 then("no amount":Str) else("":Str)):=rfl
theorem yQ (S:Bk)(c b a:Int):S.bar (.set c b a)=(if ¬ pT c S.credits.length then("no credit":Str) else if ¬ pT b S.aG.length then("no bill":Str) else if S.ez c.toNat b.toNat=false then("not theirs":Str) else
   if a < 1 then("no amount":Str) else if iD (S.cr c.toNat).d (S.bl b.toNat).d < a then("too much":Str) else("":Str)):=rfl
theorem n1:("no credit":Str)≠"":=by decide +kernel
theorem n2:("no bill":Str)≠"":=by decide +kernel
theorem n3:("not theirs":Str)≠"":=by decide +kernel
theorem n4:("no amount":Str)≠"":=by decide +kernel
theorem n6:("too much":Str)≠"":=by decide +kernel
theorem rP {S:Bk}{b d a:Int}(h:S.bar (.note b d a)=""):pT b S.aG.length/\1<=a:=by
 rw[uW] at h
 split at h
 ·exact absurd h n2
 ·rename_i q
  split at h
  ·exact absurd h n4
  ·exact⟨Fb.mp q,by lia⟩
theorem qw {S:Bk}{c b a:Int}(h:S.bar (.set c b a)=""):pT c S.credits.length/\pT b S.aG.length/\S.ez c.toNat b.toNat=true/\1<=a/\a<=(S.cr c.toNat).d/\a<=(S.bl b.toNat).d:=by
 rw[yQ] at h
 split at h
 ·exact absurd h n1
 rename_i q1
 split at h
 ·exact absurd h n2
 rename_i q2
 split at h
 ·exact absurd h n3
 rename_i q3
 split at h
 ·exact absurd h n4
 rename_i q4
 split at h
 ·exact absurd h n6
 rename_i q5
 refine⟨Classical.not_not.mp q1,Classical.not_not.mp q2,by simpa using q3,by lia,?_⟩
 unfold iD at q5
 split at q5 <;> lia
def Bk.kb (S:Bk)(r:Rw):Bk:={S with aG:=S.aG ++ [r]}
def Bk.hX (S:Bk)(r:Rw):Bk:={S with credits:=S.credits ++ [r]}
def Bk.enter (S:Bk):bu->Bk
 | .dJ w d u a=>S.kb ⟨w,d,u,a,a⟩
 | .qv w d a=>S.hX ⟨w,d,a,-1,a⟩
 | .note b d a=>S.hX ⟨(S.bl b.toNat).aI,d,a,b,a⟩
 | .set c b a=>S.put c.toNat b.toNat a
 | .fu w=>S.jI w
 |_=>S
def Bk.Hb (S:Bk):bu->Ax
 | .dJ _ _ _ _=> .int S.aG.length
 | .qv _ _ _=> .int S.credits.length
 | .note _ _ _=> .int S.credits.length
 | .set _ _ a=> .int a
 | .fu w=> .sets ((S.jI w).made.drop S.made.length)
 |_=> .int 0
def cE:List (Int×bu)->Bk->Option Bk
 |[],S=>some S
 |(_,d) :: l,S=>if S.bar d="" then cE l (S.enter d) else none
def iq:List (Int×bu)->Bk->Str
 |[],_=>""
 |(_,d) :: l,S=>if S.bar d="" then iq l (S.enter d) else S.bar d
def Bk.fU (S:Bk)(t:Nat×Nat×Int):Int:=if(S.bl t.2.1).a > (S.cr t.1).a then(S.bl t.2.1).a else(S.cr t.1).a
def spotOf (aO:Bool)(t:Nat×Nat×Int):Nat:=if aO then t.2.1 else t.1
def Bk.cnt (S:Bk)(aO:Bool)(k:Nat)(day:Int)(t:Nat×Nat×Int):Bool:=decide (spotOf aO t=k) && decide (S.fU t<=day)
def Bk.rows (S:Bk)(aO:Bool):List Rw:=if aO then S.aG else S.credits
def sG (aO:Bool)(r:Rw):Int:=if aO then r.c else r.b
def keyOf (aO:Bool)(r:Rw):Int:=if aO then r.b else r.a
def Bk.rest (S:Bk)(aO:Bool)(k:Nat)(day:Int):Int:=sG aO ((S.rows aO).getD k default) - ((S.made.filter (S.cnt aO k day)).map (·.2.2)).sum
def Bk.gK (S:Bk)(aO:Bool)(aI:Str)(day:Int):List (Nat×Int):=
 ((inOrder (S.rows aO) aI (keyOf aO)).filter fun k=>decide (((S.rows aO).getD k default).a<=day) && decide (0 < S.rest aO k day)).map fun k=>(k,S.rest aO k day)
def placeOf (fU:Int)(bO:List Int):Nat:=if fU<=0 then 0 else 1 + (bO.filter fun l=>decide (l < fU)).length
def kj (l:List Int)(i:Nat)(x:Int):List Int:=l.set i (l.getD i 0 + x)
def Bk.wq (S:Bk)(aI:Str)(day:Int)(bO:List Int):List Int:=
 (S.gK true aI day).foldl (fun l t=>kj l (placeOf (day - (S.bl t.1).b) bO) t.2) (List.replicate (bO.length + 2) 0)
structure ja where
 steps:List (Int×bu)
 bk:Bk
def ja.new:ja:=⟨[],Bk.new⟩
def bW (m:Int)(st:Int×bu):Bool:= !(decide (st.1=m) && st.2.isSet)
def dM (T:ja)(n:Int):bu->Ax×ja
 | .iQ m=>if(T.steps.filter (bW m)).length=T.steps.length then(.txt "no setting",T) else
   match cE (T.steps.filter (bW m)) Bk.new with
   |none=>(.txt "needed",T)
   |some S=>(.txt "undone",⟨T.steps.filter (bW m),S⟩)
 | .ask o w d=>(.pairs (T.bk.gK o w d),T)
 | .iC w d l=>(.ints (T.bk.wq w d l),T)
 |d=>if T.bk.bar d="" then(T.bk.Hb d,⟨T.steps ++ [(n,d)],T.bk.enter d⟩) else(.txt (T.bk.bar d),T)
def gU:List bu->ja->Nat->List Ax×ja
 |[],T,_=>([],T)
 |d :: l,T,n=>((dM T n d).1 :: (gU l (dM T n d).2 (n + 1)).1,(gU l (dM T n d).2 (n + 1)).2)
structure WF (S:Bk)(n:Nat):Prop where
 m: ∀t∈S.made,t.1 < S.credits.length/\t.2.1 < S.aG.length
 o: ∀c,c < S.credits.length->(S.cr c).c= -1∨ ∃b:Nat,(S.cr c).c=(b:Int)/\b < S.aG.length/\(S.cr c).aI=(S.bl b).aI
 lb:S.aG.length<=n
 lc:S.credits.length<=n
 lm:S.made.length<=8000 * n
theorem WF.new:WF Bk.new 0:=⟨(fun t h=>by cases h),fun c h=>absurd h (iB _),aC _,aC _,aC _⟩
theorem WF.mono {S:Bk}{n m:Nat}(h:WF S n)(k:n<=m):WF S m:=⟨h.m,h.o,aY h.lb k,aY h.lc k,aY h.lm (Nat.mul_le_mul_left _ k)⟩
theorem getD_snoc {α:Type}{l:List α}{x d:α}{k:Nat}(h:k < l.length):(l ++ [x]).getD k d=l.getD k d:=by
 rw[aj,aj,MP h]
theorem getD_last {α:Type}{l:List α}{x d:α}:(l ++ [x]).getD l.length d=x:=by
 rw[aj,oR (aC _)]
 simp
theorem WF.kb {S:Bk}{n:Nat}(h:WF S n)(r:Rw):WF (S.kb r) (n + 1):=by
 have len:(S.kb r).aG.length=S.aG.length + 1:=by simp[Bk.kb]
 refine⟨fun t ht=>⟨(h.m t ht).1,by rw[len]; have:=(h.m t ht).2; lia⟩,fun c hc=>?_,by rw[len]; have:=h.lb; lia,by have:=h.lc; exact Fc this,by have:=h.lm; show S.made.length<=_; lia⟩
 rcases h.o c hc with z|⟨b,z1,z2,z3⟩
 ·exact .inl z
 ·refine .inr ⟨b,z1,by rw[len]; lia,?_⟩
  show(S.cr c).aI=((S.aG ++ [r]).getD b default).aI
  rw[getD_snoc z2]
  exact z3
theorem WF.hX {S:Bk}{n:Nat}(h:WF S n)(r:Rw)(hr:r.c= -1∨ ∃b:Nat,r.c=(b:Int)/\b < S.aG.length/\r.aI=(S.bl b).aI):WF (S.hX r) (n + 1):=by
 have len:(S.hX r).credits.length=S.credits.length + 1:=by simp[Bk.hX]
 refine⟨fun t ht=>⟨by rw[len]; have:=(h.m t ht).1; lia,(h.m t ht).2⟩,fun c hc=>?_,by have:=h.lb; exact Fc this,by rw[len]; have:=h.lc; lia,by have:=h.lm; show S.made.length<=_; lia⟩
 by_cases q:c < S.credits.length
 ·have e:(S.hX r).cr c=S.cr c:=getD_snoc q
  rw[e]
  exact h.o c q
 ·have q':c=S.credits.length:=by lia
  have e:(S.hX r).cr c=r:=by rw[q']; exact getD_last
  rw[e]
  exact hr
theorem WF.later {S S':Bk}{n m:Nat}(h:WF S n)(l:Later S S')(hm: ∀t∈S'.made,t.1 < S.credits.length/\t.2.1 < S.aG.length)(hn:n<=m)(hl:S'.made.length<=8000 * m):WF S' m:=by
 refine⟨fun t ht=>by rw[l.cl,l.bl]; exact hm t ht,fun c hc=>?_,by rw[l.bl]; exact aY h.lb hn,by rw[l.cl]; exact aY h.lc hn,hl⟩
 rw[l.cl] at hc
 rw[(l.c c).1.2.2.2,(l.c c).1.1]
 rcases h.o c hc with z|⟨b,z1,z2,z3⟩
 ·exact .inl z
 ·exact .inr ⟨b,z1,by rw[l.bl]; exact z2,by rw[(l.b b).1.1]; exact z3⟩
theorem uX: ∀{n:Nat} {l:List Nat},l.Nodup->(∀x∈l,x < n)->l.length<=n
 |0,l,_,h=>by
  cases l with
  |nil=>exact aC _
  |cons x l=>exact absurd (h x bI) (iB _)
 |n + 1,l,nd,h=>by
  by_cases q:n∈l
  ·have h1:=uX (n:=n) (l:=l.erase n) (nd.erase n) (fun x hx=>by
    have h2:=h x (List.mem_of_mem_erase hx)
    have h3:x≠n:=fun z=>(List.Nodup.mem_erase_iff nd).mp hx |>.1 z
    lia)
   rw[List.length_erase_of_mem q] at h1
   lia
  ·have:=uX (n:=n) nd (fun x hx=>by
    have h2:=h x hx
    have h3:x≠n:=fun z=>q (z▸hx)
    lia)
   lia
theorem jK (rows:List Rw)(aI:Str)(key:Rw->Int):(inTurn rows aI key).length<=rows.length:=uX (lO _ _ _) fun _ h=>(eI.mp h).1
theorem gZ (fs ls:List Int)(al:List (List Bool)): ∀i,(bS fs ls al i).2.length<=i
 |0=>aC _
 |i + 1=>by
  have:=gZ fs ls al i
  unfold bS
  split
  ·lia
  ·rw[aH]
   show _ + 1<=_
   lia
theorem f9 (f:Int)(l:List Int)(row:List Bool): ∀j,(bz f l row j).2.length<=j
 |0=>aC _
 |j + 1=>by
  have:=f9 f l row j
  rw[bz]
  split
  ·rw[aH]
   show _ + 1<=_
   lia
  ·lia
theorem pq (fs ls:List Int)(al:List (List Bool)): ∀i,(ck fs ls al i).2.length<=i * ls.length
 |0=>by simp[ck]
 |i + 1=>by
  have h1:=pq fs ls al i
  have h2:=f9 (fs.getD i 0) (ck fs ls al i).1 (al.getD i []) (ck fs ls al i).1.length
  show((ck fs ls al i).2 ++ _).length<=_
  rw[aH,ae,vZ]
  rw[jv] at h2 ⊢
  lia
theorem lQ (fs ls:List Int)(al:List (List Bool)): ∀i,∀t∈(bS fs ls al i).2,t.1 < i/\t.2.1 < ls.length
 |0,t,h=>by cases h
 |i + 1,t,h=>by
  rw[bS] at h
  split at h
  ·have:=lQ fs ls al i t h
   lia
  ·rename_i j hj
   rcases bA.mp h with h|h
   ·have:=lQ fs ls al i t h
    lia
   ·rw[ak.mp h]
    unfold gT at hj
    have:=df.mp (MO hj)
    exact⟨fP _,this⟩
theorem px (f:Int)(l:List Int)(row:List Bool): ∀j,∀x∈(bz f l row j).2,x.1 < j
 |0,x,h=>by cases h
 |j + 1,x,h=>by
  rw[bz] at h
  split at h
  ·rcases bA.mp h with h|h
   ·have:=px f l row j x h
    lia
   ·rw[ak.mp h]
    exact fP _
  ·have:=px f l row j x h
   lia
theorem uY (fs ls:List Int)(al:List (List Bool)): ∀i,∀t∈(ck fs ls al i).2,t.1 < i/\t.2.1 < ls.length
 |0,t,h=>by cases h
 |i + 1,t,h=>by
  rcases bA.mp (show t∈(ck fs ls al i).2 ++ _ from h) with h|h
  ·have:=uY fs ls al i t h
   lia
  ·obtain⟨x,hx,rfl⟩:=bC.mp h
   have:=px _ _ _ _ x hx
   rw[jv] at this
   exact⟨fP _,this⟩
def XQ (S:Bk)(aI:Str):uT S aI (inTurn S.credits aI (·.a)) (inTurn S.aG aI (·.b)) ((inTurn S.credits aI (·.a)).map fun g=>(S.cr g).d) ((inTurn S.aG aI (·.b)).map fun t=>(S.bl t).d)
  ((inTurn S.credits aI (·.a)).map fun g=>(inTurn S.aG aI (·.b)).map fun t=>S.ez g t):=⟨rfl,rfl,rfl,rfl,rfl⟩
theorem En {S:Bk}{gs ts:List Nat}{l:List (Nat×Nat×Int)}(hl: ∀t∈l,t.1 < gs.length/\t.2.1 < ts.length)(hg: ∀g∈gs,g < S.credits.length)(ht: ∀t∈ts,t < S.aG.length): ∀t∈l.map (lP gs ts),t.1 < S.credits.length/\t.2.1 < S.aG.length:=by
 intro t h
 obtain⟨x,hx,rfl⟩:=bC.mp h
 obtain⟨h1,h2⟩:=hl x hx
 exact⟨hg _ (jJ h1),ht _ (jJ h2)⟩
theorem uZ (S:Bk)(aI:Str)(ex:Bool):Later S (bN aI S ex)/\ ∃l,(bN aI S ex).made=S.made ++ l/\(∀t∈l,t.1 < S.credits.length/\t.2.1 < S.aG.length)/\l.length<=S.credits.length + S.credits.length * S.aG.length:=by
 have gl:=jK S.credits aI (·.a)
 have tl:=jK S.aG aI (·.b)
 have hg: ∀g∈inTurn S.credits aI (·.a),g < S.credits.length:=fun g h=>(eI.mp h).1
 have ht: ∀t∈inTurn S.aG aI (·.b),t < S.aG.length:=fun g h=>(eI.mp h).1
 have mul:(inTurn S.credits aI (·.a)).length * (inTurn S.aG aI (·.b)).length<=S.credits.length * S.aG.length:=lC gl tl
 cases ex with
 |true=>
  obtain⟨e,l⟩:=Il (XQ S aI)
  refine⟨l,_,by rw[e]; exact ju _ _,En (fun t h=>?_) hg ht,?_⟩
  ·have:=lQ _ _ _ _ t h
   rwa [ae] at this
  ·rw[ae]
   have:=gZ ((inTurn S.credits aI (·.a)).map fun g=>(S.cr g).d) ((inTurn S.aG aI (·.b)).map fun t=>(S.bl t).d) ((inTurn S.credits aI (·.a)).map fun g=>(inTurn S.aG aI (·.b)).map fun t=>S.ez g t) (inTurn S.credits aI (·.a)).length
   lia
 |false=>
  obtain⟨e,l⟩:=Iq (XQ S aI)
  refine⟨l,_,by rw[e]; exact ju _ _,En (fun t h=>?_) hg ht,?_⟩
  ·have:=uY _ _ _ _ t h
   rwa [ae] at this
  ·rw[ae]
   have:=pq ((inTurn S.credits aI (·.a)).map fun g=>(S.cr g).d) ((inTurn S.aG aI (·.b)).map fun t=>(S.bl t).d) ((inTurn S.credits aI (·.a)).map fun g=>(inTurn S.aG aI (·.b)).map fun t=>S.ez g t) (inTurn S.credits aI (·.a)).length
   rw[ae] at this
   lia
theorem mK (S:Bk)(aI:Str):Later S (S.jI aI)/\ ∃l,(S.jI aI).made=S.made ++ l/\(∀t∈l,t.1 < S.credits.length/\t.2.1 < S.aG.length)/\l.length<=2 * (S.credits.length + S.credits.length * S.aG.length):=by
 obtain⟨l1,m1,e1,h1,n1⟩:=uZ S aI true
 obtain⟨l2,m2,e2,h2,n2⟩:=uZ (bN aI S true) aI false
 refine⟨l1.trans l2,m1 ++ m2,by show(bN aI (bN aI S true) false).made=_; rw[e2,e1,gq],fun t ht=>?_,?_⟩
 ·rcases bA.mp ht with ht|ht
  ·exact h1 t ht
  ·have:=h2 t ht
   rwa [l1.cl,l1.bl] at this
 ·rw[l1.cl,l1.bl] at n2
  rw[aH]
  lia
theorem WF.enter {S:Bk}{n:Nat}{d:bu}(h:WF S n)(hn:n < 60)(hb:S.bar d=""):WF (S.enter d) (n + 1):=by
 cases d with
 |dJ w d u a=>exact h.kb _
 |qv w d a=>exact h.hX _ (.inl rfl)
 |note b d a=>
  refine h.hX _ (.inr ⟨b.toNat,?_⟩)
  have z:=(rP hb).1
  obtain⟨z1,z2⟩:=z
  refine⟨?_,?_,rfl⟩
  ·show b=(b.toNat:Int)
   lia
  ·lia
 |set c b a=>
  obtain⟨zc,zb,_,za,_⟩:=qw hb
  obtain⟨c1,c2⟩:=zc
  obtain⟨b1,b2⟩:=zb
  have l:Later S (S.put c.toNat b.toNat a):=Later.put (by lia) (by lia) (by lia)
  refine h.later l (fun t ht=>?_) (dF _) ?_
  ·rcases bA.mp ht with ht|ht
   ·exact h.m t ht
   ·rw[ak.mp ht]
    show c.toNat < _/\b.toNat < _
    lia
  ·show(S.made ++ [_]).length<=_
   rw[aH]
   have:=h.lm
   show _ + 1<=_
   lia
 |fu w=>
  obtain⟨l,m,e,h1,h2⟩:=mK S w
  refine h.later l (fun t ht=>?_) (dF _) ?_
  ·rw[show(S.enter (.fu w)).made=S.made ++ m from e] at ht
   rcases bA.mp ht with ht|ht
   ·exact h.m t ht
   ·exact h1 t ht
  ·show(S.jI w).made.length<=_
   rw[e,aH]
   have h3:=h.lm
   have h4:=h.lb
   have h5:=h.lc
   have:S.credits.length * S.aG.length<=60 * 60:=lC (by lia) (by lia)
   lia
 |iQ m=>exact h.mono (dF _)
 |ask o w d=>exact h.mono (dF _)
 |iC w d l=>exact h.mono (dF _)
structure mL (S T:Bk):Prop where
 bl:T.aG.length=S.aG.length
 cl:T.credits.length=S.credits.length
 b: ∀k,nZ (S.bl k) (T.bl k)
 c: ∀k,nZ (S.cr k) (T.cr k)
theorem nZ.symm {r s:Rw}(h:nZ r s):nZ s r:=⟨h.1.symm,h.2.1.symm,h.2.2.1.symm,h.2.2.2.symm⟩
theorem mL.refl (S:Bk):mL S S:=⟨rfl,rfl,fun _=>nZ.refl _,fun _=>nZ.refl _⟩
theorem mL.symm {S T:Bk}(h:mL S T):mL T S:=⟨h.bl.symm,h.cl.symm,fun k=>(h.b k).symm,fun k=>(h.c k).symm⟩
theorem mL.trans {S T U:Bk}(h:mL S T)(k:mL T U):mL S U:=⟨k.bl.trans h.bl,k.cl.trans h.cl,fun i=>(h.b i).trans (k.b i),fun i=>(h.c i).trans (k.c i)⟩
theorem Later.rE {S T:Bk}(h:Later S T):mL S T:=⟨h.bl,h.cl,fun k=>(h.b k).1,fun k=>(h.c k).1⟩
theorem mL.ez {S T:Bk}(h:mL S T)(c b:Nat):T.ez c b=S.ez c b:=by
 unfold Bk.ez
 rw[(h.c c).1,(h.b b).1,(h.c c).2.2.2]
theorem rQ {l m:List Rw}{r s:Rw}(hl:m.length=l.length)(h: ∀k,nZ (l.getD k default) (m.getD k default))(hr:nZ r s)(k:Nat):nZ ((l ++ [r]).getD k default) ((m ++ [s]).getD k default):=by
 by_cases q:k < l.length
 ·rw[getD_snoc q,getD_snoc (by rw[hl]; exact q)]
  exact h k
 ·by_cases e:k=l.length
  ·subst e
   rw[getD_last,← hl,getD_last]
   exact hr
  ·have o1:(l ++ [r]).getD k default=default:=by
    rw[aj,v8 (by rw[aH]; show l.length + 1<=k; lia)]
    rfl
   have o2:(m ++ [s]).getD k default=default:=by
    rw[aj,v8 (by rw[aH]; show m.length + 1<=k; lia)]
    rfl
   rw[o1,o2]
   exact nZ.refl _
theorem Ir {S T:Bk}(h:mL S T){d:bu}(hb:S.bar d=""):T.bar d=""∨T.bar d="too much":=by
 cases d with
 |note b d a=>
  obtain⟨z1,z2⟩:=rP hb
  left
  rw[uW,h.bl,aQ (fun z=>z z1),aQ (by lia)]
 |set c b a=>
  obtain⟨z1,z2,z3,z4,_⟩:=qw hb
  rw[yQ,h.bl,h.cl,h.ez,aQ (fun z=>z z1),aQ (fun z=>z z2),aQ (by rw[z3]; decide),aQ (by lia)]
  split
  ·exact .inr rfl
  ·exact .inl rfl
 |dJ w d u a=>exact .inl hb
 |qv w d a=>exact .inl hb
 |fu w=>exact .inl rfl
 |iQ m=>exact .inl rfl
 |ask o w d=>exact .inl rfl
 |iC w d l=>exact .inl rfl
theorem k6 {S:Bk}{d:bu}(hs:d.isSet=true)(hb:S.bar d=""):Later S (S.enter d):=by
 cases d with
 |set c b a=>
  obtain⟨⟨_,_⟩,⟨_,_⟩,_,_,_⟩:=qw hb
  exact Later.put (by lia) (by lia) (by lia)
 |fu w=>exact(mK S w).1
 |dJ w d u a=>cases hs
 |qv w d a=>cases hs
 |note b d a=>cases hs
 |iQ m=>cases hs
 |ask o w d=>cases hs
 |iC w d l=>cases hs
theorem C3 {S T:Bk}(h:mL S T){d:bu}(hs:S.bar d="")(ht:T.bar d=""):mL (S.enter d) (T.enter d):=by
 cases d with
 |dJ w d u a=>exact⟨by simp[Bk.enter,Bk.kb,h.bl],h.cl,rQ h.bl h.b (nZ.refl _),h.c⟩
 |qv w d a=>exact⟨h.bl,by simp[Bk.enter,Bk.hX,h.cl],h.b,rQ h.cl h.c (nZ.refl _)⟩
 |note b d a=>exact⟨h.bl,by simp[Bk.enter,Bk.hX,h.cl],h.b,rQ h.cl h.c ⟨(h.b _).1,rfl,rfl,rfl⟩⟩
 |set c b a=>exact(k6 rfl hs).rE.symm.trans (h.trans (k6 rfl ht).rE)
 |fu w=>exact(k6 (d:= .fu w) rfl hs).rE.symm.trans (h.trans (k6 (d:= .fu w) rfl ht).rE)
 |iQ m=>exact h
 |ask o w d=>exact h
 |iC w d l=>exact h
theorem NF (m:Int): ∀(l:List (Int×bu)) {S T:Bk},mL S T->(cE l S).isSome=true->iq (l.filter (bW m)) T=""∨iq (l.filter (bW m)) T="too much"
 |[],_,_,_,_=> .inl rfl
 |(n,d) :: l,S,T,h,hw=>by
  unfold cE at hw
  split at hw
  ·rename_i hb
   by_cases k:bW m (n,d)=true
   ·rw[cu k]
    unfold iq
    split
    ·rename_i ht
     exact NF m l (C3 h hb ht) hw
    ·rename_i ht
     exact .inr ((Ir h hb).resolve_left ht)
   ·rw[gI k]
    have ds:d.isSet=true:=by
     unfold bW at k
     simp at k
     exact k.2
    exact NF m l ((k6 ds hb).rE.symm.trans h) hw
  ·cases hw
theorem rR: ∀(l:List (Int×bu)) {S T:Bk} {n:Nat},WF S n->cE l S=some T->n + l.length<=60->WF T (n + l.length)
 |[],S,T,n,h,e,_=>by
  cases e
  exact h
 |(k,d) :: l,S,T,n,h,e,hl=>by
  unfold cE at e
  split at e
  ·rename_i hb
   have len:((k,d) :: l).length=l.length + 1:=rfl
   rw[len] at hl ⊢
   have:=rR l (h.enter (by lia) hb) e (by lia)
   rwa [show n + (l.length + 1)=n + 1 + l.length by lia]
  ·cases e
theorem kE: ∀(l m:List (Int×bu)) (S:Bk),cE (l ++ m) S=(cE l S).bind (cE m)
 |[],m,S=>rfl
 |(k,d) :: l,m,S=>by
  show(if S.bar d="" then cE (l ++ m) (S.enter d) else none)=(if S.bar d="" then cE l (S.enter d) else none).bind (cE m)
  split
  ·exact kE l m _
  ·rfl
structure Good (T:ja)(n:Nat):Prop where
 w:cE T.steps Bk.new=some T.bk
 lt: ∀st∈T.steps,0<=st.1/\st.1 < (n:Int)
 inc:T.steps.Pairwise fun a b=>a.1 < b.1
 tl: ∀st∈T.steps,st.2.tells=true
 len:T.steps.length<=n
theorem Good.new:Good ja.new 0:=⟨rfl,(fun _ h=>by cases h),List.Pairwise.nil,(fun _ h=>by cases h),aC _⟩
theorem Good.mono {T:ja}{n m:Nat}(h:Good T n)(k:n<=m):Good T m:=⟨h.w,fun st hs=>⟨(h.lt st hs).1,by have:=(h.lt st hs).2; lia⟩,h.inc,h.tl,aY h.len k⟩
theorem Good.wf {T:ja}{n:Nat}(h:Good T n)(hn:n<=60):WF T.bk n:=by
 have z:=rR T.steps WF.new h.w (by have:=h.len; lia)
 rw[Nat.zero_add] at z
 exact z.mono h.len
theorem Good.add {T:ja}{n:Nat}(h:Good T n){d:bu}(ht:d.tells=true)(hb:T.bk.bar d=""):Good ⟨T.steps ++ [((n:Int),d)],T.bk.enter d⟩ (n + 1):=by
 refine⟨?_,fun st hs=>?_,?_,fun st hs=>?_,?_⟩
 ·show cE (T.steps ++ [((n:Int),d)]) Bk.new=_
  rw[kE,h.w]
  show(if T.bk.bar d="" then some (T.bk.enter d) else none)=_
  rw[a7 hb]
 ·rcases bA.mp hs with hs|hs
  ·have:=h.lt st hs
   lia
  ·rw[ak.mp hs]
   show(0:Int)<=(n:Int)/\(n:Int) < _
   lia
 ·rw[List.pairwise_append]
  refine⟨h.inc,List.pairwise_singleton _ _,fun a ha b hb=>?_⟩
  rw[ak.mp hb]
  exact(h.lt a ha).2
 ·rcases bA.mp hs with hs|hs
  ·exact h.tl st hs
  ·rw[ak.mp hs]
   exact ht
 ·show(T.steps ++ [_]).length<=_
  rw[aH]
  have:=h.len
  show _ + 1<=_
  lia
theorem Good.step {T:ja}{n:Nat}(h:Good T n)(d:bu):Good (dM T n d).2 (n + 1):=by
 have keep:=h.mono (dF n)
 have dflt: ∀d:bu,d.tells=true->Good (if T.bk.bar d="" then(T.bk.Hb d,(⟨T.steps ++ [((n:Int),d)],T.bk.enter d⟩:ja)) else(.txt (T.bk.bar d),T)).2 (n + 1):=fun d ht=>by
  split
  ·rename_i hb
   exact h.add ht hb
  ·exact keep
 cases d with
 |iQ m=>
  show Good (if(T.steps.filter (bW m)).length=T.steps.length then(Ax.txt "no setting",T) else
   match cE (T.steps.filter (bW m)) Bk.new with
   |none=>(.txt "needed",T)
   |some S=>(.txt "undone",⟨T.steps.filter (bW m),S⟩)).2 (n + 1)
  split
  ·exact keep
  ·cases e:cE (T.steps.filter (bW m)) Bk.new with
   |none=>exact keep
   |some S=>
    refine⟨e,fun st hs=>?_,h.inc.filter _,fun st hs=>h.tl st (eM.mp hs).1,?_⟩
    ·have:=h.lt st (eM.mp hs).1
     lia
    ·have h1:=aX (bW m) T.steps
     have h2:=h.len
     show(T.steps.filter (bW m)).length<=_
     lia
 |ask o w d=>exact keep
 |iC w d l=>exact keep
 |dJ w d u a=>exact dflt _ rfl
 |qv w d a=>exact dflt _ rfl
 |note b d a=>exact dflt _ rfl
 |set c b a=>exact dflt _ rfl
 |fu w=>exact dflt _ rfl
theorem mM: ∀(l:List bu) (T:ja) (n:Nat),(gU l T n).1.length=l.length
 |[],_,_=>rfl
 |d :: l,T,n=>by
  show(gU l _ _).1.length + 1=_
  rw[mM l]
  rfl
def bu.dt:bu->Dt
 | .dJ w d u a=> .tup [.str "bill",.str w,.int d,.int u,.int a]
 | .qv w d a=> .tup [.str "pay",.str w,.int d,.int a]
 | .note b d a=> .tup [.str "note",.int b,.int d,.int a]
 | .set c b a=> .tup [.str "set",.int c,.int b,.int a]
 | .fu w=> .tup [.str "sweep",.str w]
 | .iQ n=> .tup [.str "undo",.int n]
 | .ask o w d=> .tup [.str (if o then "owed" else "free"),.str w,.int d]
 | .iC w d l=> .tup [.str "ages",.str w,.int d,.tup (l.map Dt.int)]
def u0:Int:=10 ^ 62
theorem Eo {x:Int}(h:x<=10 ^ 60):x<=u0:=lE h (by decide +kernel)
def bu.ok:bu->Prop
 | .dJ _ d _ _=>d<=u0
 | .qv _ d _=>d<=u0
 | .note _ d _=>d<=u0
 | .iC _ _ l=>l.length<=11/\l.Pairwise (· < ·)/\ ∀x∈l,1<=x
 |_=>True
mutual
def Dt.JY:Dt->Bool
 | .lst _=>false
 | .tup ds=>Dt.wt ds
 | .d8=>true
 | .bl _=>true
 | .int _=>true
 | .str _=>true
def Dt.wt:List Dt->Bool
 |[]=>true
 |d :: ds=>d.JY && Dt.wt ds
end
def cF (H H':Hp):Prop:= ∀b xs,H b=some (.tup xs)->H' b=some (.tup xs)
theorem cF.trans {H1 H2 H3:Hp}(a:cF H1 H2)(b:cF H2 H3):cF H1 H3:=fun x xs e=>b x xs (a x xs e)
theorem aD.tk {H H':Hp}(s:aD H H'):cF H H':=fun b xs e=>s _ _ e
theorem fI {H:Hp}{p:Addr}{o:HO}{ys:List V}(h:H p=some (.lst ys)):cF H (upd H p o):=dA h
mutual
theorem Rp.Bb {H H':Hp}(k:cF H H'): ∀(d:Dt) {v:V},d.JY=true->Rp H d v->Rp H' d v
 | .d8,_,_,h=>uL.mpr (uL.mp h)
 | .bl _,_,_,h=>qq.mpr (qq.mp h)
 | .int _,_,_,h=>dz.mpr (dz.mp h)
 | .str _,_,_,h=>gF.mpr (gF.mp h)
 | .tup ds,_,n,h=>by
  obtain⟨a,xs,e,h1,h2⟩:=jF.mp h
  exact jF.mpr ⟨a,xs,e,k _ _ h1,gQ.Bb k ds (by simpa[Dt.JY] using n) h2⟩
 | .lst ds,_,n,h=>by simp[Dt.JY] at n
theorem gQ.Bb {H H':Hp}(k:cF H H'): ∀(ds:List Dt) {vs:List V},Dt.wt ds=true->gQ H ds vs->gQ H' ds vs
 |[],_,_,h=>c9.mpr (c9.mp h)
 |d :: ds,_,n,h=>by
  obtain⟨v,r,e,h1,h2⟩:=bL.mp h
  have n':d.JY=true/\Dt.wt ds=true:=by simpa[Dt.wt] using n
  exact bL.mpr ⟨v,r,e,Rp.Bb k d n'.1 h1,gQ.Bb k ds n'.2 h2⟩
end
theorem FO (l:List Int):Dt.wt (l.map Dt.int)=true:=by
 induction l with
 |nil=>rfl
 |cons x l ih=>simp[Dt.wt,Dt.JY,ih]
theorem bu.JY (d:bu):d.dt.JY=true:=by
 cases d <;> simp[bu.dt,Dt.JY,Dt.wt,FO]
theorem FP (ds:List bu):Dt.wt (ds.map bu.dt)=true:=by
 induction ds with
 |nil=>rfl
 |cons d ds ih=>simp[Dt.wt,bu.JY,ih]
def g6 (H:Hp)(ds:List bu)(ms:List V):Prop:=gQ H (ds.map bu.dt) ms
theorem g6.mono {H H':Hp}{ds:List bu}{ms:List V}(h:g6 H ds ms)(k:cF H H'):g6 H' ds ms:=gQ.Bb k _ (FP ds) h
theorem g6.snoc {H:Hp}{ds:List bu}{ms:List V}{d:bu}{v:V}(h:g6 H ds ms)(hd:Rp H d.dt v):g6 H (ds ++ [d]) (ms ++ [v]):=by
 unfold g6
 rw[aM]
 exact gQ.append h (gQ.one hd)
theorem g6.length {H:Hp}{ds:List bu}{ms:List V}(h:g6 H ds ms):ds.length=ms.length:=by
 have:=gQ.length h
 rwa [ae] at this
theorem K0 (n:Nat)(b:Str):(List.replicate n [V.str b]).flatten=(List.replicate n b).map V.str:=by
 induction n with
 |zero=>rfl
 |succ n ih=>rw[c8,iK,ih,c8]; rfl
def Rw.vs (r:Rw):List V:=[.str r.aI,.int r.a,.int r.b,.int r.c,.int r.d]
structure fB where
 pb:Addr
 pc:Addr
 pm:Addr
 ir:List Addr
 cps:List Addr
def fB.fp (f:fB):List Addr:=f.pb :: f.pc :: f.pm :: (f.ir ++ f.cps)
def ZM (f:fB):List (Key×V):=[(Sum.inr "bills",.ref f.pb),(Sum.inr "credits",.ref f.pc),(Sum.inr "made",.ref f.pm)]
def eU (H:Hp)(rs:List Rw)(ps:List Addr):Prop:=Paired (fun(r:Rw) p=>H p=some (.lst r.vs)) rs ps
def g8 (H:Hp)(ms:List (Nat×Nat×Int))(vs:List V):Prop:=Paired (fun(t:Nat×Nat×Int) v=> ∃p,v= .ref p/\H p=some (.tup [.int t.1,.int t.2.1,.int t.2.2])) ms vs
theorem g8.mono {H H':Hp}{ms:List (Nat×Nat×Int)}{vs:List V}(h:g8 H ms vs)(k:cF H H'):g8 H' ms vs:=
 Paired.gR h fun _ _ ⟨p,e,q⟩=>⟨p,e,k _ _ q⟩
structure dm (H:Hp)(sd:Addr)(S:Bk)(f:fB):Prop where
 dict:H sd=some (.dK (ZM f))
 hb:H f.pb=some (.lst (f.ir.map V.ref))
 hc:H f.pc=some (.lst (f.cps.map V.ref))
 hm: ∃ms,H f.pm=some (.lst ms)/\g8 H S.made ms
 rb:eU H S.aG f.ir
 rc:eU H S.credits f.cps
 nd:f.fp.Nodup
 ns:sd∉f.fp
theorem eU.keep {H H':Hp}{rs:List Rw}{ps:List Addr}(h:eU H rs ps)(k: ∀p∈ps,∀o,H p=some o->H' p=some o):eU H' rs ps:=by
 induction h with
 |nil=>exact .nil
 | @cons r p rs ps hr t ih=>exact .cons (k p bI _ hr) (ih fun q hq=>k q (bc _ hq))
theorem dm.keep {H H':Hp}{sd:Addr}{S:Bk}{f:fB}(h:dm H sd S f)(k: ∀b o,(b=sd∨b∈f.fp)->H b=some o->H' b=some o)(t:cF H H'):dm H' sd S f:=by
 obtain⟨ms,m1,m2⟩:=h.hm
 refine⟨k _ _ (.inl rfl) h.dict,k _ _ (.inr (by simp[fB.fp])) h.hb,k _ _ (.inr (by simp[fB.fp])) h.hc,⟨ms,k _ _ (.inr (by simp[fB.fp])) m1,m2.mono t⟩,h.rb.keep fun p hp o e=>k p o (.inr (by simp[fB.fp,hp])) e,h.rc.keep fun p hp o e=>k p o (.inr (by simp[fB.fp,hp])) e,h.nd,h.ns⟩
theorem dm.same {H H':Hp}{sd:Addr}{S:Bk}{f:fB}(h:dm H sd S f)(s:aD H H'):dm H' sd S f:=h.keep (fun b o _ e=>s _ _ e) s.tk
def Frame (fp:List Addr)(H H':Hp):Prop:= ∀b o,b∉fp->H b=some o->H' b=some o
theorem Frame.refl {fp:List Addr}{H:Hp}:Frame fp H H:=fun _ _ _ e=>e
theorem Frame.trans {fp QY:List Addr}{H1 H2 H3:Hp}(a:Frame fp H1 H2)(b:Frame QY H2 H3)(h: ∀x∈QY,x∈fp∨H1 x=none):Frame fp H1 H3:=fun x o hx e=>
 b x o (fun ZN=>by
  rcases h x ZN with h|h
  ·exact hx h
  ·rw[h] at e; cases e) (a x o hx e)
theorem aD.frame {fp:List Addr}{H H':Hp}(s:aD H H'):Frame fp H H':=fun b o _ e=>s _ _ e
theorem Frame.upd {fp:List Addr}{H:Hp}{p:Addr}{o:HO}(h:p∈fp):Frame fp H (upd H p o):=fun b u hb e=>by
 have iZ:b≠p:=fun z=>hb (by rw[z]; exact h)
 rw[aA iZ]; exact e
theorem Frame.same {fp:List Addr}{H0 H H':Hp}(a:Frame fp H H')(s:aD H0 H)(h: ∀x∈fp,H0 x=none):aD H0 H':=fun b o e=>a b o (fun hb=>by rw[h b hb] at e; cases e) (s b o e)
theorem eU.length {H:Hp}{rs:List Rw}{ps:List Addr}(h:eU H rs ps):rs.length=ps.length:=aL h
theorem eU.at {H:Hp}{rs:List Rw}{ps:List Addr}(h:eU H rs ps){i:Nat}(hi:i < rs.length): ∃p,ps[i]? =some p/\H p=some (.lst (rs.getD i default).vs):=by
 obtain⟨p,e,q⟩:=bG h (af hi)
 refine⟨p,e,?_⟩
 rw[aj,af hi]
 exact q
theorem eU.set {H:Hp}: ∀{rs:List Rw} {ps:List Addr} {i:Nat} {p:Addr} {r:Rw},eU H rs ps->ps.Nodup->ps[i]? =some p->eU (upd H p (.lst r.vs)) (rs.set i r) ps
 |_,_,i,p,r,.nil,_,h=>by simp at h
 |_,_,0,p,r,.cons (b:=q) hr t,nd,h=>by
  injection h with h
  subst h
  rw[fE] at nd
  refine .cons ag (eU.keep t fun x hx o e=>?_)
  have iZ:x≠q:=fun z=>nd.1 (by rw[← z]; exact hx)
  rw[aA iZ]; exact e
 |_,_,i + 1,p,r,.cons (b:=q) hr t,nd,h=>by
  rw[fE] at nd
  rw[List.getElem?_cons_succ] at h
  have iZ:q≠p:=fun z=>nd.1 (by rw[z]; exact gp h)
  refine .cons ?_ (eU.set t nd.2 h)
  rw[aA iZ]; exact hr
theorem eU.g9 {H:Hp}{rs:List Rw}{ps:List Addr}{p:Addr}{o:HO}(h:eU H rs ps)(hp:p∉ps):eU (upd H p o) rs ps:=
 h.keep fun q hq u e=>by
  have iZ:q≠p:=fun z=>hp (by rw[← z]; exact hq)
  rw[aA iZ]; exact e
theorem fB.QZ {f:fB}(h:f.fp.Nodup):f.pb≠f.pc/\f.pb≠f.pm/\f.pc≠f.pm/\(∀p∈f.ir,p≠f.pb/\p≠f.pc/\p≠f.pm/\p∉f.cps)/\(∀p∈f.cps,p≠f.pb/\p≠f.pc/\p≠f.pm/\p∉f.ir)/\f.ir.Nodup/\f.cps.Nodup:=by
 unfold fB.fp at h
 simp only[List.nodup_cons,List.mem_cons,List.mem_append,not_or,List.nodup_append] at h
 obtain⟨⟨h1,h2,h3,h4⟩,⟨h5,h6,h7⟩,⟨h8,h9⟩,JZ,Vb,Pj⟩:=h
 refine⟨h1,h2,h5,fun p hp=>⟨fun e=>h3 (e▸hp),fun e=>h6 (e▸hp),fun e=>h8 (e▸hp),fun hc=>Pj p hp p hc rfl⟩,fun p hp=>⟨fun e=>h4 (e▸hp),fun e=>h7 (e▸hp),fun e=>h9 (e▸hp),fun hb=>Pj p hb p hp rfl⟩,JZ,Vb⟩
theorem dm.setB {H:Hp}{sd:Addr}{S:Bk}{f:fB}(h:dm H sd S f){i:Nat}{p:Addr}{r:Rw}(hp:f.ir[i]? =some p)(hl: ∃xs,H p=some (.lst xs)):dm (upd H p (.lst r.vs)) sd {S with aG:=S.aG.set i r} f:=by
 obtain⟨d1,d2,d3,d4,d5,d6,d7⟩:=fB.QZ h.nd
 have hm:=gp hp
 obtain⟨e1,e2,e3,e4⟩:=d4 p hm
 obtain⟨ms,m1,m2⟩:=h.hm
 obtain⟨xs,hx⟩:=hl
 have es:sd≠p:=fun z=>h.ns (by rw[z]; simp[fB.fp,hm])
 exact⟨by rw[aA es]; exact h.dict,by rw[aA e1.symm]; exact h.hb,by rw[aA e2.symm]; exact h.hc,⟨ms,by rw[aA e3.symm]; exact m1,m2.mono (fI hx)⟩,h.rb.set d6 hp,h.rc.g9 e4,h.nd,h.ns⟩
theorem dm.setC {H:Hp}{sd:Addr}{S:Bk}{f:fB}(h:dm H sd S f){i:Nat}{p:Addr}{r:Rw}(hp:f.cps[i]? =some p)(hl: ∃xs,H p=some (.lst xs)):dm (upd H p (.lst r.vs)) sd {S with credits:=S.credits.set i r} f:=by
 obtain⟨d1,d2,d3,d4,d5,d6,d7⟩:=fB.QZ h.nd
 have hm:=gp hp
 obtain⟨e1,e2,e3,e4⟩:=d5 p hm
 obtain⟨ms,m1,m2⟩:=h.hm
 obtain⟨xs,hx⟩:=hl
 have es:sd≠p:=fun z=>h.ns (by rw[z]; simp[fB.fp,hm])
 exact⟨by rw[aA es]; exact h.dict,by rw[aA e1.symm]; exact h.hb,by rw[aA e2.symm]; exact h.hc,⟨ms,by rw[aA e3.symm]; exact m1,m2.mono (fI hx)⟩,h.rb.g9 e4,h.rc.set d7 hp,h.nd,h.ns⟩
theorem dm.Vc {H:Hp}{sd:Addr}{S:Bk}{f:fB}(h:dm H sd S f){ms:List V}{t:Nat×Nat×Int}{p:Addr}(hm:H f.pm=some (.lst ms))(ZO:g8 H S.made ms)(hp:H p=some (.tup [.int t.1,.int t.2.1,.int t.2.2])):
  dm (upd H f.pm (.lst (ms ++ [.ref p]))) sd {S with made:=S.made ++ [t]} f:=by
 obtain⟨d1,d2,d3,d4,d5,d6,d7⟩:=fB.QZ h.nd
 have es:sd≠f.pm:=fun z=>h.ns (by rw[z]; simp[fB.fp])
 exact⟨by rw[aA es]; exact h.dict,by rw[aA d2]; exact h.hb,by rw[aA d3]; exact h.hc,⟨_,ag,cA (ZO.mono (fI hm)) ⟨p,rfl,dA hm _ _ hp⟩⟩,h.rb.g9 fun z=>(d4 _ z).2.2.1 rfl,h.rc.g9 fun z=>(d5 _ z).2.2.1 rfl,h.nd,h.ns⟩
theorem Q0:("bills":Str)≠"credits":=by decide +kernel
theorem Q1:("bills":Str)≠"made":=by decide +kernel
theorem Q2:("credits":Str)≠"made":=by decide +kernel
theorem Q3 (a b c:V):fW [((Sum.inr "bills":Key),a),(Sum.inr "credits",b),(Sum.inr "made",c)] (Sum.inr "bills")=some a:=by
 unfold fW
 rw[List.find?_cons_of_pos (by simp)]; rfl
theorem Q4 (a b c:V):fW [((Sum.inr "bills":Key),a),(Sum.inr "credits",b),(Sum.inr "made",c)] (Sum.inr "credits")=some b:=by
 unfold fW
 rw[List.find?_cons_of_neg (by simpa using Q0),List.find?_cons_of_pos (by simp)]; rfl
theorem Q5 (a b c:V):fW [((Sum.inr "bills":Key),a),(Sum.inr "credits",b),(Sum.inr "made",c)] (Sum.inr "made")=some c:=by
 unfold fW
 rw[List.find?_cons_of_neg (by simpa using Q1),List.find?_cons_of_neg (by simpa using Q2),List.find?_cons_of_pos (by simp)]; rfl
theorem NG (a b c:V):o5 [] [((Sum.inr "bills":Key),a),(Sum.inr "credits",b),(Sum.inr "made",c)]=[((Sum.inr "bills":Key),a),(Sum.inr "credits",b),(Sum.inr "made",c)]:=by
 unfold o5
 rw[fF,fF,fF,List.foldl_nil]
 have h1:putK ([]:List (Key×V)) (Sum.inr "bills") a=[((Sum.inr "bills":Key),a)]:=by
  unfold putK; rw[if_neg (by simp)]; rfl
 have h2:putK [((Sum.inr "bills":Key),a)] (Sum.inr "credits") b=[((Sum.inr "bills":Key),a),(Sum.inr "credits",b)]:=by
  unfold putK; rw[if_neg (by simpa using Q0)]; rfl
 have h3:putK [((Sum.inr "bills":Key),a),(Sum.inr "credits",b)] (Sum.inr "made") c=[((Sum.inr "bills":Key),a),(Sum.inr "credits",b),(Sum.inr "made",c)]:=by
  unfold putK; rw[if_neg (by simpa using⟨Q1,Q2⟩)]; rfl
 dsimp only
 rw[h1,h2,h3]
theorem dm.gB {H:Hp}{sd:Addr}{S:Bk}{f:fB}(h:dm H sd S f):mh H sd (.str "bills") (some (.ref f.pb)):=Q3 (.ref f.pb) (.ref f.pc) (.ref f.pm)▸mh.k (k:=Sum.inr "bills") h.dict
theorem dm.gC {H:Hp}{sd:Addr}{S:Bk}{f:fB}(h:dm H sd S f):mh H sd (.str "credits") (some (.ref f.pc)):=Q4 (.ref f.pb) (.ref f.pc) (.ref f.pm)▸mh.k (k:=Sum.inr "credits") h.dict
theorem dm.gM {H:Hp}{sd:Addr}{S:Bk}{f:fB}(h:dm H sd S f):mh H sd (.str "made") (some (.ref f.pm)):=Q5 (.ref f.pb) (.ref f.pc) (.ref f.pm)▸mh.k (k:=Sum.inr "made") h.dict
theorem dm.lb {H:Hp}{sd:Addr}{S:Bk}{f:fB}(h:dm H sd S f){b:Nat}(hb:b < S.aG.length): ∃p,f.ir[b]? =some p/\rH (f.ir.map V.ref) (b:Int)=some (.ref p)/\H p=some (.lst (S.bl b).vs):=by
 obtain⟨p,e,q⟩:=h.rb.at hb
 exact⟨p,e,cz (by rw[aB,e]; rfl),q⟩
theorem dm.lc {H:Hp}{sd:Addr}{S:Bk}{f:fB}(h:dm H sd S f){b:Nat}(hb:b < S.credits.length): ∃p,f.cps[b]? =some p/\rH (f.cps.map V.ref) (b:Int)=some (.ref p)/\H p=some (.lst (S.cr b).vs):=by
 obtain⟨p,e,q⟩:=h.rc.at hb
 exact⟨p,e,cz (by rw[aB,e]; rfl),q⟩
section
variable {prog:Program}{w:World}{A:Around}{E:Value->Shared->Prop}
def sH (prog:Program)(w:World)(A:Around)(kS:Addr)(f:Value)(Fi:List Value->Shared->Prop):List Value->List Value->Shared->Prop
 |[],ks,s=>Fi ks s
 |v :: r,ks,s=>wpAny (model prog w) A (call f [v]) (fun k s'=> ∃e,s'.heap.get? kS=some (seqObj "list" ks.toArray e)/\ ∀h' c,Heap.SameBut kS s'.heap h'->h'.get? kS=some (seqObj "list" (ks ++ [k]).toArray c)->sH prog w A kS f Fi r (ks ++ [k]) {s' with heap:=h'}) (fun _ _=>False) s
def FQ (prog:Program)(w:World)(A:Around)(D kS:Addr)(e1:Nat)(vs:List Value)(Q:Shared->Prop)(ks:List Value)(s:Shared):Prop:=
 ∃(κ:SortKind) (key:Nat->Int),D≠kS/\s.heap.get? D=some (seqObj "list" #[] e1)/\(2<=vs.length-> ∀Q':SortKind->Shared->Prop,Q' κ s->wpAny (model prog w) A (keyKind' ks.toArray) Q' (fun _ _=>False) s)/\
  (∀(i j:Nat) (C:Bool->Shared->Prop),i < vs.length->j < vs.length->C (decide (key i < key j)) s->wpAny (model prog w) A (keyLt' κ (ks.getD i Value.none) (ks.getD j Value.none)) C (fun _ _=>False) s)/\
  ∀(p:Array Nat) (h':Heap) (n:Nat),qr vs.length p->k4 key p vs.length->h'.objs.size=s.heap.objs.size->h'.get? D=some (seqObj "list" (p.toList.map fun i=>vs.getD i Value.none).toArray n)->(∀b,b≠D->b≠kS->h'.get? b=s.heap.get? b)->Q {s with heap:=h'}
theorem Ep {f:Value}{kS:Addr}{Fi:List Value->Shared->Prop}{n:Nat}{body:Value->PUnit->Sem (ForInStep PUnit)}(hn:n < 64)
  (hb: ∀x ks (s:Shared) (C:Value->Shared->Prop),List.length ks < 64->wpAny (model prog w) A (call f [x]) (fun k s'=> ∃e,s'.heap.get? kS=some (seqObj "list" ks.toArray e)/\ ∀h' c,Heap.SameBut kS s'.heap h'->h'.get? kS=some (seqObj "list" (ks ++ [k]).toArray c)->C k {s' with heap:=h'}) (fun _ _=>False) s->
   wpAny (model prog w) A (body x ⟨⟩) (fun r s'=>r= .yield ⟨⟩/\ ∃k c,s'.heap.get? kS=some (seqObj "list" (ks ++ [k]).toArray c)/\C k s') E s): ∀(r ks:List Value) (e:Nat) (s:Shared),ks.length + r.length=n->
   s.heap.get? kS=some (seqObj "list" ks.toArray e)->sH prog w A kS f Fi r ks s->
   wpAny (model prog w) A (forIn r PUnit.unit body) (fun _ s'=> ∃ks e,s'.heap.get? kS=some (seqObj "list" ks.toArray e)/\ks.length=n/\Fi ks s') E s
 |[],ks,e,s,hl,hk,h=>by
  rw[List.forIn_nil]
  exact wpAny_pure ⟨ks,e,hk,by simpa using hl,h⟩
 |x :: r,ks,e,s,hl,hk,h=>by
  rw[bZ] at hl
  rw[List.forIn_cons]
  refine az (cf (hb x ks s (fun k s'=>sH prog w A kS f Fi r (ks ++ [k]) s') (by lia) h) (fun q s' hq=>?_) fun _ _ x=>x)
  obtain⟨rfl,k,c,JX,h2⟩:=hq
  show wpAny (model prog w) A (forIn r PUnit.unit body) _ E s'
  exact Ep hn hb r (ks ++ [k]) c s' (by rw[aH,List.length_singleton]; lia) JX h2
variable {s:Shared}
theorem Er {D kS:Addr}{e e1:Nat}{ks out:List Value}{st:SortSt}{P:PySem.Fin->Shared->Prop}(hD:s.heap.get? D=some (seqObj "list" #[] e1))(hk:s.heap.get? kS=some (seqObj "list" ks.toArray e))(ne:D≠kS)
  (C1:(arrOf st).map (·.2)=out.toArray) (hz:out.length < 64) (hkz:ks.length < 64) (hf:failedOf st=none)
  (h: ∀(h':Heap) (n:Nat),h'.objs.size=s.heap.objs.size->h'.get? D=some (seqObj "list" out.toArray n)->(∀b,b≠D->b≠kS->h'.get? b=s.heap.get? b)->P (.done (.ret .none)) {s with heap:=h'}):
  wpAny (model prog w) A (ksk_tail D false e1 (.ref kS) st) P E s:=by
 have hl:sizeLine=16777216:=en
 unfold ksk_tail
 try dsimp only
 rw[C1]
 have s1:=rB s.heap kS (Obj.mapSeq fun _=>(#[]:Array Value))
 have d1:(s.heap.update kS (Obj.mapSeq fun _=>(#[]:Array Value))).get? D=some (seqObj "list" #[] e1):=(s1.2 D ne).trans hD
 have s2:=rB (s.heap.update kS (Obj.mapSeq fun _=>(#[]:Array Value))) D (Obj.mapSeq fun _=>out.toArray)
 obtain⟨c2,KW⟩: ∃c2,((s.heap.update kS (Obj.mapSeq fun _=>(#[]:Array Value))).update D (Obj.mapSeq fun _=>out.toArray)).get? D=some (seqObj "list" out.toArray c2):=⟨_,L9 d1 fun _=>out.toArray⟩
 refine az (vU hk rfl ?_ (by rw[bw]; lia) (bp _))
 refine az (wpAny_letGo ?_)
 refine az (seqEpoch_at d1 rfl ?_)
 simp only[Bool.false_eq_true,if_false]
 refine az (vU d1 rfl ?_ (bp _) (by rw[bw]; lia))
 rw[hf]
 simp only[bne_self_eq_false,Bool.false_eq_true,if_false]
 refine bB (h _ c2 (s2.1.trans s1.1) KW fun b n1 n2=>(s2.2 b n1).trans (s1.2 b n2))
theorem NH {D kS:Addr}{e e1:Nat}{ks vs:List Value}{P:PySem.Fin->Shared->Prop}(hk:s.heap.get? kS=some (seqObj "list" ks.toArray e))(hl:ks.length=vs.length)(Cs:vs.length < 64)
  (h:FQ prog w A D kS e1 vs (fun s'=>P (.done (.ret .none)) s') ks s):wpAny (model prog w) A (ksk_end D false vs.toArray e1 (.ref kS) ks.toArray) P E s:=by
 obtain⟨κ,key,ne,hD,kind,cmp,fin⟩:=h
 have hsz:vs.toArray.size=vs.length:=by simp
 unfold ksk_end
 try dsimp only
 simp only[Bool.false_eq_true,if_false]
 by_cases h2:vs.toArray.size < 2
 ·rw[a7 h2,a7 h2]
  refine az (bB ?_)
  rw[StateT.run_pure]
  refine az (bB ?_)
  dsimp only
  have C1:(arrOf (SortSt.mk' general' (ks.toArray.zip vs.toArray) #[] 7 none)).map (·.2)=((List.toArray (List.range vs.length)).toList.map fun i=>vs.getD i Value.none).toArray:=by
   show(ks.toArray.zip vs.toArray).map (·.2)=_
   apply Array.toList_inj.mp
   have e1:((ks.toArray.zip vs.toArray).map (·.2)).toList=vs:=by
    rw[Array.toList_map,Array.toList_zip]
    exact List.map_snd_zip (by rw[AE,AE]; lia)
   rw[e1]
   show vs=(List.range vs.length).map fun i=>vs.getD i Value.none
   exact(range_getD vs Value.none).symm
  refine Er hD hk ne C1 (by rw[ae,AE,di]; exact Cs) (by lia) rfl fun h' n z1 z2 z3=>?_
  refine fin (List.toArray (List.range vs.length)) h' n (Ki _) (fun i j XN hj=>?_) z1 z2 z3
  have:i=j:=by lia
  subst this
  exact fG _
 ·rw[aQ h2,aQ h2]
  have QT:2<=vs.length:=by lia
  refine az (cf (kind QT (fun κ' s'=>κ'=κ/\s'=s) ⟨rfl,rfl⟩) (fun κ' s' JX=>?_) fun _ _ x=>x.elim)
  obtain⟨rfl,rfl⟩:=JX
  refine az (cf (kat_run (Q:=fun Av D5=>D5=s'/\ ∃p:Array Nat,p.size=vs.length/\arrOf Av=p.map (kas_item (ks.toArray.zip vs.toArray))/\failedOf Av=none/\qr vs.length p/\k4 key p vs.length)
   (G:=fun p D5=>D5=s'/\qr vs.length p/\k4 key p vs.length) (κ:=κ') hl QT Cs (fun p' Av D5 a1 a2 a3 a4=>⟨a4.1,p',a1,a2,a3,a4.2⟩) (uM (fun i j C hi hj q=>cmp i j C hi hj q) (fun p q=>⟨rfl,q⟩) _ (Ij (by lia)))) ?_ fun _ _ e=>e)
  rintro⟨⟨⟩,Av⟩ D5 ⟨rfl,p,hp,U6,hf,q1,q2⟩
  dsimp only
  exact Er hD hk ne (kat_snds hl U6) (by rw[ae,nW,hp]; exact Cs) (by lia) hf fun h' n z1 z2 z3=>fin p h' n q1 q2 z1 z2 z3
theorem K1 {D:Addr}{n:Nat}{vs:List Value}{f:Value}{P:PySem.Fin->Shared->Prop}(ho:s.heap.get? D=some (seqObj "list" vs.toArray n))(Cs:vs.length < 64)
  (h: ∀(kS:Addr) (e1:Nat) (h':Heap),(∀b o,b≠D->s.heap.get? b=some o->h'.get? b=some o)->h'.get? D=some (seqObj "list" #[] e1)->h'.get? kS=some (seqObj "list" #[] 0)->D≠kS->s.heap.objs.size<=kS->
   sH prog w A kS f (FQ prog w A D kS e1 vs (fun s'=>P (.done (.ret .none)) s')) vs [] {s with heap:=h'}):wpAny (model prog w) A (ksk_tree D f false) P E s:=by
 have ha:D < s.heap.objs.size:=aK ho
 have hl:sizeLine=16777216:=en
 have s1:=rB s.heap D (Obj.mapSeq fun _=>(#[]:Array Value))
 obtain⟨e1,FK⟩: ∃e1,(s.heap.update D (Obj.mapSeq fun _=>(#[]:Array Value))).get? D=some (seqObj "list" #[] e1):=⟨_,L9 ho fun _=> #[]⟩
 have Vd:((s.heap.update D (Obj.mapSeq fun _=>(#[]:Array Value))).push (seqObj "tuple" vs.toArray 0)).objs.size=s.heap.objs.size + 1:=by rw[size_push',oS]
 unfold ksk_tree
 refine az (listItems_at ho rfl ?_)
 refine az (vU ho rfl ?_ (by rw[bw]; lia) (bp _))
 refine az (seqEpoch_at FK rfl ?_)
 refine az (wpAny_newTuple ?_ (by show vs.length<=_; lia))
 refine az (Kj ?_ (bp _))
 refine hZ ?_
 generalize hU:((s.heap.update D (Obj.mapSeq fun _=>(#[]:Array Value))).push (seqObj "tuple" vs.toArray 0))=U at Vd
 have kU: ∀b o,(s.heap.update D (Obj.mapSeq fun _=>(#[]:Array Value))).get? b=some o->U.get? b=some o:=fun b o z=>by
  rw[← hU]
  exact ay _ z
 have Pk:(U.push (seqObj "list" #[] 0)).get? U.objs.size=some (seqObj "list" #[] 0):=bK _ rfl
 have start:=h U.objs.size e1 (U.push (seqObj "list" #[] 0)) (fun b o n z=>ay _ (kU b o ((s1.2 b n).trans z))) (ay _ (kU D _ FK)) Pk (by rw[Vd]; exact a0 (iL ha)) (by rw[Vd]; exact dF _)
 show wpAny (model prog w) A (ksk_rest D f false vs.toArray e1 (.ref U.objs.size)) P E {s with heap:=U.push (seqObj "list" #[] 0)}
 unfold ksk_rest
 refine az (wpAny_rule ?_)
 first
  |rw[List.forIn_toArray]
  |(rw[← Array.forIn_toList]; simp only[List.toList_toArray])
 refine wpAny_bind (wpAny_mono (Ep Cs (fun x ks s' C hz hx=>?_) vs [] 0 _ (by simp) Pk start) (fun _ s' hd=>?_) fun _ _ x=>x)
 ·refine az (wpAny_attempt (cf hx (fun k D5 hk=>?_) fun _ _ hF=>hF.elim))
  obtain⟨e,nk,c⟩:=hk
  have s2:=rB D5.heap U.objs.size (Obj.mapSeq (·.push k))
  have ea:ks.toArray.push k=(ks ++ [k]).toArray:=by simp
  obtain⟨c2,KW⟩: ∃c2,(D5.heap.update U.objs.size (Obj.mapSeq (·.push k))).get? U.objs.size=some (seqObj "list" (ks ++ [k]).toArray c2):=⟨_,by rw[← ea]; exact L9 nk (·.push k)⟩
  try dsimp only
  refine az (vU nk rfl ?_ (by rw[bw]; lia) (aY (iA (Array.size_push ..)) (by rw[bw]; lia)))
  exact bB ⟨rfl,k,c2,KW,c _ c2 s2 KW⟩
 ·obtain⟨ks,e,JX,ZP,fin⟩:=hd
  try dsimp only
  refine az (listItems_at JX rfl ?_)
  exact NH JX ZP Cs fin
theorem sortedK {l q:Addr}{vs:List Value}{Q:Value->Shared->Prop}(hl:s.heap.IsList l vs.toArray)(Cs:vs.length < 64)
  (h: ∀(D kS:Addr) (e1:Nat) (h':Heap),(∀b o,s.heap.get? b=some o->h'.get? b=some o)->h'.get? D=some (seqObj "list" #[] e1)->h'.get? kS=some (seqObj "list" #[] 0)->D≠kS->s.heap.objs.size<=D->s.heap.objs.size<=kS->
   sH prog w A.in1.in1 kS (.ref q) (FQ prog w A.in1.in1 D kS e1 vs (fun s'=>Q (.ref D) s')) vs [] {s with heap:=h'}):
  wpAny (model prog w) A (call (.builtin "sorted") [.ref l] [(Str.ofString "key",.ref q)]) Q E s:=by
 have Th:sizeLine=16777216:=en
 refine call_function_entry_kw kind_sorted plain_sorted entry_sorted (ksk_s1 _ _) ?_
 unfold Builtin.«sorted»
 refine az (m:=checkCount "sorted" 1 1 _) (bB ?_)
 refine az (collect_list hl ?_ (by lia))
 refine az (Kj ?_ (by show vs.length<=_; lia))
 have hsz:((s.heap.push (seqObj "list" #[] 0)).update s.heap.objs.size (Obj.mapSeq (· ++ vs.toArray))).objs.size=s.heap.objs.size + 1:=by
  rw[oS,size_push']
 generalize hU:((s.heap.push (seqObj "list" #[] 0)).update s.heap.objs.size (Obj.mapSeq (· ++ vs.toArray)))=U at hsz
 have keep: ∀b o,s.heap.get? b=some o->U.get? b=some o:=fun b o z=>by
  have lt:b < s.heap.objs.size:=aK z
  rw[← hU,Ho _ _ _ _ (a0 lt),mv _ _ _ (a0 lt)]
  exact z
 have MY:(U.push (seqObj "list" vs.toArray 0)).get? U.objs.size=some (seqObj "list" vs.toArray 0):=bK _ rfl
 show wpAny _ _ _ _ _ {s with heap:=U.push (seqObj "list" vs.toArray 0)}
 refine az (hZ (wpAny_call_entry_kw slot_list_sort ⟨_,MY,rfl⟩ entry_list_sort ?body (ksk_l1 _ _)))
 case body=>
  show wpAny (model prog w) A.in1.in1 (Builtin.«list.sort» ⟨[.ref U.objs.size],[(Str.ofString "key",.ref q)]⟩) _ _ _
  rw[ksk_t1]
  refine K1 (s:={s with heap:=U.push (seqObj "list" vs.toArray 0)}) MY Cs fun kS e1 h' kp d1 k1 ne le=>?_
  have z:=h U.objs.size kS e1 h' (fun b o w=>kp b o (fun w2=>by rw[w2] at w; exact absurd (aK w) (by rw[hsz]; exact xu.mpr (dF _))) (ay _ (keep b o w))) d1 k1 ne (by rw[hsz]; exact dF _) (by
   have XR:(U.push (seqObj "list" vs.toArray 0)).objs.size<=kS:=le
   rw[size_push',hsz] at XR
   exact aY (Fc (dF _)) XR)
  have mono: ∀(r ks:List Value) (s':Shared),sH prog w A.in1.in1 kS (.ref q) (FQ prog w A.in1.in1 U.objs.size kS e1 vs (fun s'=>Q (.ref U.objs.size) s')) r ks s'->
    sH prog w A.in1.in1 kS (.ref q) (FQ prog w A.in1.in1 U.objs.size kS e1 vs (fun s'=> ∃v,PySem.Fin.done (.ret .none)= .done (.ret v)/\wpAny (model prog w) A.in1 (ret (.ref U.objs.size)) (fun fin s'=> ∃v,fin=PySem.Fin.done (Flow.ret v)/\Q v s') E s')) r ks s':=by
   intro r
   induction r with
   |nil=>
    rintro ks s' ⟨κ,key,a1,a2,a3,a4,a5⟩
    exact⟨κ,key,a1,a2,a3,a4,fun p h2 n b1 b2 b3 b4 b5=>⟨_,rfl,bB ⟨_,rfl,a5 p h2 n b1 b2 b3 b4 b5⟩⟩⟩
   |cons v r ih=>
    intro ks s' hh
    exact cf hh (fun k s2 ⟨e,z1,z2⟩=>⟨e,z1,fun h2 c w1 w2=>ih _ _ (z2 h2 c w1 w2)⟩) fun _ _ x=>x
  exact mono vs [] _ z
end
end L2
namespace K2
open PySem
theorem FR (f:Array Value->Array Value)(o:Obj):(Obj.mapFields f o).dict=o.dict:=by
 obtain⟨c,d,dt,sl⟩:=o
 cases dt <;> rfl
def iR (h:Heap)(e:Addr)(cls:Value)(iE:Option Addr)(vs:Array Value):Prop:= ∃oe,h.get? e=some oe/\oe.cls=cls/\oe.dict=iE/\oe.data= .fields vs
theorem iR.set {h:Heap}{e:Addr}{cls:Value}{iE:Option Addr}{vs:Array Value}(x:iR h e cls iE vs)(i:Nat)(v:Value):
  iR (h.update e (Obj.mapFields (·.setIfInBounds i v))) e cls iE (vs.setIfInBounds i v):=by
 obtain⟨oe,he,hc,hd,hv⟩:=x
 have q:=Obj.data_mapFields hv (·.setIfInBounds i v)
 exact⟨_,CA _ he (Obj.isFreed_of_fields q),(Obj.cls_mapFields _ _).trans hc,(FR _ _).trans hd,q⟩
theorem iR.same {h h':Heap}{e:Addr}{cls:Value}{iE:Option Addr}{vs:Array Value}(x:iR h e cls iE vs)(k: ∀o,h.get? e=some o->h'.get? e=some o):iR h' e cls iE vs:=
 let⟨oe,he,r⟩:=x
 ⟨oe,k _ he,r⟩
def mN (fr own:List Addr)(h h':Heap):Prop:= ∀b o,h.get? b=some o->b∉own->(b∉fr->h'.get? b=some o)/\ ∃sl,h'.get? b=some {o with slots:=sl}
theorem mN.trans {fr o1 o2:List Addr}{h h1 h2:Heap}(a:mN fr o1 h h1)(b:mN fr o2 h1 h2):mN fr (o1 ++ o2) h h2:=fun c ob q n=>by
 obtain⟨k,sl,e⟩:=a c ob q (fun z=>n (cQ _ z))
 obtain⟨_,Tj,e2⟩:=b c _ e (fun z=>n (bo _ z))
 exact⟨fun hn=>(b c ob (k hn) (fun z=>n (bo _ z))).1 hn,Tj,e2⟩
theorem mN.mono {fr Pl o1 o2:List Addr}{h h1:Heap}(a:mN fr o1 h h1)(hf: ∀b∈fr,b∈Pl)(ho: ∀b∈o1,b∈o2):mN Pl o2 h h1:=fun c ob q n=>
 let⟨k,sl,e⟩:=a c ob q (fun z=>n (ho c z))
 ⟨fun hn=>k (fun z=>hn (hf c z)),sl,e⟩
theorem yR {fr:List Addr}{h:Heap}{a:Addr}(f:Obj->Obj):mN fr [a] h (h.update a f):=fun b o q n=>by
 have z:(h.update a f).get? b=some o:=(mr _ _ (fun(e:a=b)=>n (ak.mpr e.symm))).trans q
 exact⟨fun _=>z,o.slots,z⟩
theorem u5 {fr own:List Addr}{h:Heap}(o':Obj):mN fr own h (h.push o'):=fun b o q _=>⟨fun _=>ay _ q,o.slots,ay _ q⟩
theorem iR.but {fr own:List Addr}{h h':Heap}{e:Addr}{cls:Value}{iE:Option Addr}{vs:Array Value}(x:iR h e cls iE vs)(b:mN fr own h h')(n:e∉own):iR h' e cls iE vs:=by
 obtain⟨oe,he,hc,hd,hv⟩:=x
 obtain⟨_,sl,q⟩:=b e oe he n
 exact⟨_,q,hc,hd,hv⟩
def J0 (h:Heap)(T:Addr)(fl:Value):Prop:= ∃c d ts,iR h T c d ts/\ts[3]? =some fl
theorem eY {ts:Array Value}{i:Nat}{v:Value}(h:ts[i]? =some v):i < ts.size:=(Array.getElem?_eq_some_iff.mp h).1
theorem pz {ts:Array Value}{i:Nat}{v:Value}(h:i < ts.size):(ts.setIfInBounds i v)[i]? =some v:=by
 rw[Array.getElem?_setIfInBounds_self_of_lt h]
theorem qx {ts:Array Value}{i j:Nat}{v:Value}(h:i≠j):(ts.setIfInBounds i v)[j]? =ts[j]? :=by
 rw[Array.getElem?_setIfInBounds_ne h]
section
variable {M:Model}{A:Around}{E:Value->Shared->Prop}{s:Shared}{env:Env}{outer:List Env}{base:Heap}{L e T:Addr}{cls:Value}{iE:Option Addr}{vs:Array Value}{Q:Unit->Shared->Prop}
theorem qy {a:Addr}{i:Nat}{v:Value}{R:Value->Shared->Prop}(x:iR s.heap a cls iE vs)(h:vs[i]? =some v)(q:R v s):wpAny M A (field (.ref a) i) R E s:=by
 obtain⟨oe,he,_,_,hv⟩:=x
 exact Hq he hv h q
theorem nN {a:Addr}{i:Nat}{v:Value}(x:iR s.heap a cls iE vs)(h:i < vs.size)
  (q: ∀h',mN [] [a] s.heap h'->iR h' a cls iE (vs.setIfInBounds i v)->h'.objs.size=s.heap.objs.size->Q () {s with heap:=h'}):wpAny M A (setField (.ref a) i v) Q E s:=by
 obtain⟨oe,he,hc,hd,hv⟩:=id x
 exact wpAny_setField he hv h (q _ (yR _) (x.set i v) (Heap.size_after_update ..))
theorem u6 {fl:Value}(x:iR s.heap e cls iE vs)(h1:vs[1]? =some (.ref T))(ht:J0 s.heap T fl)
  (q: ∀h',mN [] [T] s.heap h'->J0 h' T .none->h'.objs.size=s.heap.objs.size->Q () {s with heap:=h'}):wpAny M A (setFlight (.ref e) none) Q E s:=by
 obtain⟨c,d,ts,xt,h3⟩:=ht
 unfold setFlight
 refine az (qy x h1 ?_)
 rw[if_pos (show(Value.ref T != Value.none)=true from by simp)]
 exact nN xt (eY h3) fun h' b x' z=>q h' b ⟨c,d,_,x',pz (eY h3)⟩ z
theorem entry {head:Value}{ZQ:Bool}(Ct:A.frames=some (env :: outer))(hl:s.heap.FunFrames base (env :: outer))(hf:env.frame=some L)(x:iR s.heap e cls iE vs)(hsz:1 < vs.size)
  (q: ∀h' T,mN ((env :: outer).filterMap (·.frame)) [e] s.heap h'->iR h' e cls iE (vs.setIfInBounds 1 (.ref T))->T=s.heap.objs.size->J0 h' T (rawInt L)->Q () {s with heap:=h'}):
  wpAny M A (do let a ← frameOf env; let pl ← entryPlaceOf L ZQ; let b ← EntryCells.newEntry head a .none (rawInt L) .none pl; setField (.ref e) 1 b) Q E s:=by
 refine az (wpAny_frameOf_fun Ct hl hf fun h1 so=>?_)
 refine az (wpAny_entryPlaceOf fun pl hV=>?_)
 unfold EntryCells.newEntry newFields
 refine az (wpAny_newObj_type ?_ (hV.sizeOk5 _ _ _ _ _))
 have b1:mN ((env :: outer).filterMap (·.frame)) [] s.heap h1:=fun b o z _=>⟨fun n=>(so.2.1 b n).trans z,so.2.2 b o z⟩
 have x1:iR h1 e cls iE vs:=x.but b1 (by simp)
 generalize Tn:({cls:= .type "traceback",dict:=none,data:= .fields ([head,.ref L,.none,rawInt L,.none] ++ (if pl.isEmpty then List.replicate 6 Value.none else pl)).toArray}:Obj)=ob
 have x2:iR (h1.push ob) e cls iE vs:=x1.same fun o z=>ay _ z
 have ne:h1.objs.size≠e:=by
  obtain⟨_,z,_⟩:=x1
  exact pO (aK z)
 have xt:iR (h1.push ob) h1.objs.size ob.cls ob.dict ([head,.ref L,.none,rawInt L,.none] ++ (if pl.isEmpty then List.replicate 6 Value.none else pl)).toArray:=by
  subst Tn
  exact⟨_,bK _ rfl,rfl,rfl,rfl⟩
 refine nN (s:={s with heap:=h1.push ob}) x2 hsz fun h' b x' _=>q h' h1.objs.size ?_ x' so.1 ⟨_,_,_,xt.but b (by simpa using ne),?_⟩
 ·exact((b1.trans (u5 ob (own:=[]))).trans (b.mono (by simp) (fun _ z=>z))).mono (fun _ z=>z) (by simp)
 ·simp
theorem NI (Ct:A.frames=some (env :: outer))(hl:s.heap.FunFrames base (env :: outer))(hf:env.frame=some L)(x:iR s.heap e cls iE vs)(h1:vs[1]? =some .none)
  (q: ∀h' T,mN ((env :: outer).filterMap (·.frame)) [e] s.heap h'->iR h' e cls iE (vs.setIfInBounds 1 (.ref T))->T=s.heap.objs.size->J0 h' T .none->Q () {s with heap:=h'}):
  wpAny M A (leaving env (.ref e)) Q E s:=by
 have ne:s.heap.objs.size≠e:=by
  obtain⟨_,z,_⟩:=x
  exact pO (aK z)
 unfold leaving noteFrame
 simp only[hf]
 refine az (az (qy x h1 ?_))
 rw[aQ (by decide)]
 refine entry Ct hl hf x (eY h1) fun h' T b x' hT t=>?_
 refine u6 x' (pz (eY h1)) t fun h2 b2 t2 _=>q h2 T ?_ (x'.but b2 (by rw[hT]; simpa using ne.symm)) hT t2
 intro c o z n
 have hc:c≠T:=fun w=>by rw[w,hT] at z; exact absurd (aK z) (iI _)
 exact(b.trans (b2.mono (by simp) (fun _ z=>z))) c o z (by simpa using⟨by simpa using n,hc⟩)
theorem Mo (Ct:A.frames=some (env :: outer))(hl:s.heap.FunFrames base (env :: outer))(hf:env.frame=some L)(x:iR s.heap e cls iE vs)(h1:vs[1]? =some (.ref T))(ht:J0 s.heap T .none)(Ve:T≠e)
  (q: ∀h' T',mN ((env :: outer).filterMap (·.frame)) [T,e] s.heap h'->iR h' e cls iE (vs.setIfInBounds 1 (.ref T'))->T'=s.heap.objs.size->J0 h' T' (rawInt L)->Q () {s with heap:=h'}):
  wpAny M A (noteFrame (.ref e) env) Q E s:=by
 obtain⟨c,d,ts,xt,h3⟩:=ht
 unfold noteFrame
 simp only[hf]
 refine az (qy x h1 ?_)
 rw[if_pos (show(Value.ref T != Value.none)=true from by simp)]
 refine az (qy xt h3 ?_)
 rw[if_neg (show ¬ ((Value.none == rawInt L)=true) from by simp[rawInt])]
 refine az (nN xt (eY h3) fun h' b xt' sz=>?_)
 refine entry (s:={s with heap:=h'}) Ct (hl.of_keeps fun a o z nf=>?_) hf (x.but b (by simpa using Ve.symm)) (eY h1) fun h2 T' b2 x2 hT t2=>q h2 T' ?_ x2 (hT.trans sz) t2
 ·have na:a≠T:=fun w=>by
   obtain⟨_,z',_,_,hd⟩:=xt
   rw[w,z'] at z
   cases z
   exact nf _ hd
  obtain⟨_,sl,z'⟩:=b a o z (by simpa using na)
  exact⟨_,z',rfl⟩
 ·exact((b.mono (fun _ z=>absurd z (by simp)) (fun _ z=>z)).trans b2).mono (fun _ z=>z) (by simp)
theorem NJ (Ct:A.frames=some (env :: outer))(hl:s.heap.FunFrames base (env :: outer))(hf:env.frame=some L)(x:iR s.heap e cls iE vs)(h1:vs[1]? =some (.ref T))(ht:J0 s.heap T .none)(Ve:T≠e)
  (q: ∀h' T',mN ((env :: outer).filterMap (·.frame)) [T,e] s.heap h'->iR h' e cls iE (vs.setIfInBounds 1 (.ref T'))->T'=s.heap.objs.size->J0 h' T' .none->Q () {s with heap:=h'}):
  wpAny M A (leaving env (.ref e)) Q E s:=by
 have ne:s.heap.objs.size≠e:=by
  obtain⟨_,z,_⟩:=x
  exact pO (aK z)
 unfold leaving
 refine az (Mo Ct hl hf x h1 ht Ve fun h' T' b x' hT t=>?_)
 refine u6 (s:={s with heap:=h'}) x' (pz (eY h1)) t fun h2 b2 t2 _=>q h2 T' ?_ (x'.but b2 (by rw[hT]; simpa using ne.symm)) hT t2
 intro c o z n
 have hc:c≠T':=fun w=>by rw[w,hT] at z; exact absurd (aK z) (iI _)
 have n': ¬ (c=T∨c=e):=by simpa using n
 exact(b.trans (b2.mono (by simp) (fun _ z=>z))) c o z (by simp; exact⟨fun w=>n' (.inl w),fun w=>n' (.inr w),hc⟩)
end
def J1 {α:Type}(M:Model)(h:Heap)(t:Sem α)(r:α):Prop:=
 ∀(A:Around) (Q:α->Shared->Prop) (E:Value->Shared->Prop) (s:Shared),(∀b o,h.get? b=some o->s.heap.get? b=some o)->Q r s->wpAny M A t Q E s
section
variable {M:Model}{A:Around}{E:Value->Shared->Prop}{h:Heap}{g:Array GenState}{d:Drawn}{t:Nat}{os:OsState}
variable {nm q:Str}{C N:Addr}{bs bm Es:List Value}{oa:Bool}{sn:List Str}{sub:List Value}{ab:Bool}{col:Option Bool}{dd:Option Addr}{k0 k1 k2 k3 k5:Option Value}{B newId kF:String}
theorem iu {X:String}{r:Bool}(hb:bm.contains (.type X)=r):(Value.ref C :: bm).contains (.type X)=r:=by
 rw[List.contains_cons,hb]
 rfl
theorem K3 (F:ExcBaseFacts B newId kF Es)(hB:bm.contains (.type B)=true){rest:List Value}{Q:Unit->Shared->Prop}
  (hC:h.get? C=some (excClassObj nm q C N bs bm oa sn sub ab col dd k0 k1 k2 k3 k5 newId)) (hq:Q () ⟨h,g,d,t,os⟩):wpAny M A (checkBuiltinCall newId ⟨.ref C :: rest,[]⟩) Q E ⟨h,g,d,t,os⟩:=by
 have jL:=iu (C:=C) hB; have st:=F.noStar
 simp only[checkBuiltinCall,F.newKind,F.newSplit,F.newRow]
 repeat (first
  |refine br hC ?_
  |(refine cO hC ?_; rw[jL])
  |refine wpAny_staticBase_exc hC ?_
  |refine wpAny_madeBy_exc hC ?_
  |simp only[bne_self_eq_false,Bool.false_eq_true,if_false]
  |wp_step)
 exact hq
end
section
variable {prog:Program}{w:World}{A:Around}{E:Value->Shared->Prop}{R:Result->Shared->Prop}{h:Heap}{g:Array GenState}{d:Drawn}{t:Nat}{os:OsState}
variable {nm q:Str}{C N f:Addr}{bs bm Es:List Value}{oa:Bool}{sn:List Str}{sub:List Value}{ab:Bool}{col:Option Bool}{dd:Option Addr}{k0 k1 k2 k3 k5:Option Value}{B newId kF:String}
abbrev lR (C t:Addr):Obj:={cls:= .ref C,data:= .fields #[.ref t,.none,.none,.none,.bool false,.none]}
abbrev jd (l:List Value):Obj:={cls:= .type "tuple",data:= .seq l.toArray}
theorem K4 (F:ExcBaseFacts B newId kF Es)(hB:bm.contains (.type B)=true)(hA:bm.contains (.type "AttributeError")=false)(hN:bm.contains (.type "NameError")=false)
  (hC:h.get? C=some (excClassObj nm q C N bs bm oa sn sub ab col dd k0 k1 k2 k3 k5 newId)) (hq:R (.ok (.ret (.ref (h.objs.size + 1)))) ⟨(h.push (jd [])).push (lR C h.objs.size),g,d,t,os⟩):
  codeAny (model prog w) A (.builtin newId ⟨[.ref C],[]⟩) R ⟨h,g,d,t,os⟩:=by
 have he:=F.ends
 have h1:=iu (C:=C) hB; have h2:=iu (C:=C) hA; have h3:=iu (C:=C) hN
 refine codeAny_builtinAt F.entry ?_
 unfold Builtin.«BaseException.__new__»
 refine wpAt_bind ?_
 show wpAt _ _ _ (stack >>=_) _ _ _
 refine wpAt_bind (wpAt_stack fun p below=>wpAt_of_wpAny ?_)
 wp_walk
 refine wpAt_of_wpAny ?_
 rw[F.owner]
 repeat (first
  |with_reducible refine wpAny_madeHere_exc F.canon hC ?_
  |with_reducible refine br hC ?_
  |(with_reducible refine cO hC ?_; first|rw[h1]|rw[h2]|rw[h3])
  |wp_step)
 show R _ _
 rw[nI]
 exact hq
theorem FT (F:ExcBaseFacts B newId kF Es)(hB:bm.contains (.type B)=true)(hA:bm.contains (.type "AttributeError")=false)(hN:bm.contains (.type "NameError")=false){oI:Obj}{Q:Fin->Shared->Prop}
  (hC:h.get? C=some (excClassObj nm q C N bs bm oa sn sub ab col dd k0 k1 k2 k3 k5 newId)) (hi:J1 (model prog w) h (typeLookup (.ref C) "__init__") (some (.ref f))) (hf:h.get? f=some oI) (Q7:oI.cls= .type "function")
  (hq:wpAny (model prog w) A (call (.ref f) [.ref (h.objs.size + 1)]) (fun r s'=>r= .none/\Q (.done (.ret (.ref (h.objs.size + 1)))) s') E ⟨(h.push (jd [])).push (lR C h.objs.size),g,d,t,os⟩):
  wpAny (model prog w) A (Builtin.«type.__call__» ⟨[.ref C],[]⟩) Q E ⟨h,g,d,t,os⟩:=by
 repeat (first
  |with_reducible refine br hC ?_
  |with_reducible refine wpAny_madeBy_exc hC ?_
  |wp_step)
 refine codeAny_call_builtin_code (Code.quiet_builtin _ F.quiet) (K3 F hB hC ?_)
 refine K4 F hB hA hN hC ?_
 show wpAny _ _ _ _ _ _
 have kp: ∀b o,h.get? b=some o->((h.push (jd [])).push (lR C h.objs.size)).get? b=some o:=fun b o z=>ay _ (ay _ z)
 have Iu:=kp _ _ hC
 have hg:((h.push (jd [])).push (lR C h.objs.size)).get? (h.objs.size + 1)=some (lR C h.objs.size):=by heap_get
 have Q8:(Value.ref C :: bm).contains (.ref C)=true:=by simp
 unfold isInstance
 repeat (first
  |with_reducible refine br hg ?_
  |(with_reducible refine cO Iu ?_; rw[Q8])
  |wp_step)
 show wpAny _ _ (typeLookup (.ref C) _) _ _ _
 refine hi _ _ _ _ kp ?_
 refine hZ (az ?_)
 unfold bindSpecial
 refine az (wpAny_typeOf (T:="function") ⟨_,kp _ _ hf,Q7⟩ ?_)
 rw[a7 (by decide)]
 refine bB (az (cf hq (fun r s' hr=>?_) fun _ _ x=>x))
 obtain⟨rfl,z⟩:=hr
 wp_walk
 exact z
theorem call_exc (F:ExcBaseFacts B newId kF Es)(hB:bm.contains (.type B)=true)(hA:bm.contains (.type "AttributeError")=false)(hN:bm.contains (.type "NameError")=false){oI:Obj}{Q:Value->Shared->Prop}
  (hC:h.get? C=some (excClassObj nm q C N bs bm oa sn sub ab col dd k0 k1 k2 k3 k5 newId)) (hi:J1 (model prog w) h (typeLookup (.ref C) "__init__") (some (.ref f))) (hf:h.get? f=some oI) (Q7:oI.cls= .type "function")
  (hq:wpAny (model prog w) (A.under (.builtin "type.__call__" ⟨[.ref C],[]⟩)) (call (.ref f) [.ref (h.objs.size + 1)]) (fun r s'=>r= .none/\Q (.ref (h.objs.size + 1)) s') E ⟨(h.push (jd [])).push (lR C h.objs.size),g,d,t,os⟩):
  wpAny (model prog w) A (call (.ref C) []) Q E ⟨h,g,d,t,os⟩:=by
 have f1:=tc_lookup; have f2:=tc_bind (.ref C)
 have hT:(⟨h,g,d,t,os⟩:Shared).TypeIs (.ref C) "type":=⟨_,hC,rfl⟩
 refine DR (codeAny_of_tree ?_)
 show wpAny _ _ (callAny (.ref C) _) _ _ _
 repeat (any_goals (first
  |assumption
  |with_reducible refine br hC ?_
  |wp_step))
 refine⟨rfl,?_⟩
 exact codeAny_call_builtin_at (Code.quiet_builtin _ (by decide +kernel)) entry_typeCall (wpAny_check_type_call_sub hC (FT F hB hA hN hC hi hf Q7 hq))
end
def Stop (P:Prop):Prop:=P
theorem Stop.out {P:Prop}(h:Stop P):P:=h
theorem Stop.in {P:Prop}(h:P):Stop P:=h
section
variable {prog:Program}{w:World}{A:Around}{E:Value->Shared->Prop}{R:Result->Shared->Prop}{h:Heap}{g:Array GenState}{d:Drawn}{t:Nat}{os:OsState}
variable {nm q:Str}{C N e:Addr}{bs bm Es:List Value}{oa:Bool}{sn:List Str}{sub:List Value}{ab:Bool}{col:Option Bool}{dd iE:Option Addr}{k0 k1 k2 k3 k5:Option Value}{B newId XS kF:String}{vs:Array Value}
theorem Iv {M:Model}(F:ExcBaseFacts B XS kF Es)(hB:bm.contains (.type B)=true){oe:Obj}{rest:List Value}{Q:Unit->Shared->Prop}
  (hC:h.get? C=some (excClassObj nm q C N bs bm oa sn sub ab col dd k0 k1 k2 k3 k5 newId)) (he:h.get? e=some oe) (hc:oe.cls= .ref C) (hq:Q () ⟨h,g,d,t,os⟩):
  wpAny M A (checkBuiltinCall kF ⟨.ref e :: rest,[]⟩) Q E ⟨h,g,d,t,os⟩:=by
 have h1:=iu (C:=C) hB; have h2:=F.noStar
 simp only[checkBuiltinCall,F.initKind,F.initSplit,F.initRow]
 repeat (first
  |(with_reducible refine br he ?_; rw[hc])
  |with_reducible refine br hC ?_
  |(with_reducible refine cO hC ?_; rw[h1])
  |wp_step)
 refine wpAny_onRaise ?_
 rw[show ∀(a b:String) (n:Nat),Bind.check ⟨.positional,"*",B,.self,[⟨"args",.varPos,false⟩]⟩ a b n (List.map (fun x=>x.fst) ({pos:=Value.ref e :: rest}:Args).kw)=pure () from fun a b n=>
  check_star_args _ _ _ _ _ _]
 exact bB hq
theorem FU (F:ExcBaseFacts B XS kF Es)(hB:bm.contains (.type B)=true){v:Value}{Q:Value->Shared->Prop}
  (hC:h.get? C=some (excClassObj nm q C N bs bm oa sn sub ab col dd k0 k1 k2 k3 k5 newId)) (x:iR h e (.ref C) iE vs) {t0:Addr} (h0:vs[0]? =some (.ref t0))
  (hq: ∀h',mN [] [e] h h'->iR h' e (.ref C) iE (vs.setIfInBounds 0 (.ref h.objs.size))->Q .none ⟨h',g,d,t,os⟩):
  wpAny (model prog w) A (call (.builtin kF) [.ref e,v]) Q E ⟨h,g,d,t,os⟩:=by
 obtain⟨oe,he,hc,Vf,hv⟩:=id x
 refine DR (Fd F.init.plain F.initEntry (Iv F hB hC he hc ?_))
 unfold Builtin.«BaseException.__init__»
 have Vg:(h.push (jd [v])).get? e=some oe:=ay _ he
 have x1:iR (h.push (jd [v])) e (.ref C) iE vs:=⟨oe,Vg,hc,Vf,hv⟩
 have hs:=eY h0
 repeat (first
  |with_reducible refine Hq Vg hv h0 ?_
  |with_reducible refine wpAny_setField Vg hv hs ?_
  |wp_step)
 have bt:mN [] [e] h ((h.push (jd [v])).update e (Obj.mapFields (·.setIfInBounds 0 (Value.ref h.objs.size)))):=(u5 (fr:=[]) (own:=[]) (jd [v])).trans (yR _)
 exact hq _ bt (x1.set 0 _)
end
section
variable {M:Model}{A:Around}{E:Value->Shared->Prop}{s:Shared}{env:Env}
variable {nm q:Str}{C N e:Addr}{bs bm Es:List Value}{oa:Bool}{sn:List Str}{sub:List Value}{ab:Bool}{col:Option Bool}{dd iE:Option Addr}{k0 k1 k2 k3 k5:Option Value}{newId:String}{vs:Array Value}
theorem C4 {x:Sem Value}{Q:Flow->Shared->Prop}(hB:bm.contains (.type "BaseException")=true)(hh:A.handled=none)
  (h:wpAny M A x (fun v s1=> ∃e iE vs,v= .ref e/\s1.heap.get? C=some (excClassObj nm q C N bs bm oa sn sub ab col dd k0 k1 k2 k3 k5 newId)/\iR s1.heap e (.ref C) iE vs/\vs[1]? =some .none/\E (.ref e) s1) E s):
  wpAny M A (raiseStmt env (some x) none) Q E s:=by
 have h1:=iu (C:=C) hB
 unfold raiseStmt
 refine az (cf h (fun v s1 z=>?_) fun _ _ x=>x)
 obtain⟨e,iE,vs,rfl,hC,⟨oe,he,hc,Vf,hv⟩,v1,hE⟩:=z
 obtain⟨hp,g,d,tk,os⟩:=s1
 repeat (first
  |(with_reducible refine br he ?_; rw[hc])
  |with_reducible refine br hC ?_
  |(with_reducible refine cO hC ?_; rw[h1])
  |with_reducible refine Hq he hv v1 ?_
  |wp_step)
 exact wpAny_raiseNew_none hh hE
theorem K5 {a:Addr}{cls:Value}{i:Nat}{v:Value}{Q:Unit->Shared->Prop}(x:iR s.heap a cls iE vs)(h:i < vs.size)
  (q: ∀h',mN [] [a] s.heap h'->iR h' a cls iE (vs.setIfInBounds i v)->Q () {s with heap:=h'}):wpAny M A (updateField a i v) Q E s:=
 nN (i:=i) (v:=v) x h fun h' b x' _=>q h' b x'
theorem wu:entryFor table "proto.unchain"=some Builtin.«proto.unchain»:=entryFor_of_tree (by kernel_rfl)
end
section
variable {prog:Program}{w:World}{A:Around}{E:Value->Shared->Prop}{s:Shared}{env:Env}
variable {nm q:Str}{C N e:Addr}{bs bm Es:List Value}{oa:Bool}{sn:List Str}{sub:List Value}{ab:Bool}{col:Option Bool}{dd iE:Option Addr}{k0 k1 k2 k3 k5:Option Value}{newId:String}{vs:Array Value}
theorem C5 {x c:Sem Value}{Q:Flow->Shared->Prop}{e0:Addr}(hB:bm.contains (.type "BaseException")=true)(hh:A.handled=some (.ref e0))(hc: ∀(R:Value->Shared->Prop) (s:Shared),R .none s->wpAny (model prog w) A c R E s)
  (h:wpAny (model prog w) A x (fun v s1=> ∃e iE vs c0 d0 QF,v= .ref e/\e≠e0/\s1.heap.get? C=some (excClassObj nm q C N bs bm oa sn sub ab col dd k0 k1 k2 k3 k5 newId)/\iR s1.heap e (.ref C) iE vs/\vs[1]? =some .none/\vs.size=6/\
   iR s1.heap e0 c0 d0 QF/\QF[2]? =some .none/\ ∀h',mN [] [e] s1.heap h'->iR h' e (.ref C) iE (((vs.setIfInBounds 3 .none).setIfInBounds 4 (.bool true)).setIfInBounds 2 (.ref e0))->E (.ref e) {s1 with heap:=h'}) E s):
  wpAny (model prog w) A (raiseStmt env (some x) (some c)) Q E s:=by
 have h1:=iu (C:=C) hB
 unfold raiseStmt
 refine az (cf h (fun v s1 z=>?_) fun _ _ x=>x)
 obtain⟨e,iE,vs,c0,d0,QF,rfl,ne,hC,xe,v1,sz,x0,c2,hE⟩:=z
 obtain⟨oe,he,qz,Vf,hv⟩:=id xe
 obtain⟨hp,g,d,tk,os⟩:=s1
 have eC:e≠C:=fun q=>by
  rw[q] at he
  rw[hC] at he
  cases he
  cases hv
 repeat (first
  |(with_reducible refine br he ?_; rw[qz])
  |with_reducible refine br hC ?_
  |(with_reducible refine cO hC ?_; rw[h1])
  |with_reducible refine nN xe (by rw[sz]; decide) fun h2 b2 x2 _=>Stop.out ?_
  |with_reducible refine hc _ _ ?_
  |wp_step)
 have ZR:mN [] [e] hp h2:=b2
 refine Stop.in ?_
 refine az (nN (s:=⟨h2,g,d,tk,os⟩) x2 (by rw[rC,sz]; decide) fun h3 b3 x3 _=>?_)
 have ZS:mN [] [e] h2 h3:=b3
 have Vh:mN [] [e] hp h3:=(ZR.trans ZS).mono (fun _ z=>z) (by simp)
 have XT:h3.get? C=_:=(Vh C _ hC (by simpa using eC.symm)).1 (by simp)
 have ZT:iR h3 e0 c0 d0 QF:=iR.but x0 Vh (by simpa using ne.symm)
 obtain⟨o3,XU,ZU,_,ZV⟩:=id x3
 obtain⟨o0,ZW,_,_,Vi⟩:=id ZT
 have ZX:((vs.setIfInBounds 3 Value.none).setIfInBounds 4 (Value.bool true))[1]? =some Value.none:=by rw[qx (by decide),qx (by decide)]; exact v1
 repeat (first
  |(with_reducible refine br XU ?_; rw[ZU])
  |with_reducible refine br XT ?_
  |(with_reducible refine cO XT ?_; rw[h1])
  |with_reducible refine Hq XU ZV ZX ?_
  |wp_step)
 have ZY:((vs.setIfInBounds 3 Value.none).setIfInBounds 4 (Value.bool true)).size=6:=by rw[rC,rC,sz]
 unfold raiseNew
 refine az (wpAny_handled ?_)
 rw[hh]
 dsimp only
 rw[if_pos (show(Value.ref e0 != Value.ref e)=true from by simpa using ne.symm)]
 refine az (hZ (wpAny_runValue (codeAny_builtin wu ?_)))
 unfold Builtin.«proto.unchain»
 repeat (first
  |with_reducible refine Hq ZW Vi c2 ?_
  |with_reducible refine az (K5 (s:=⟨h3,g,d,tk,os⟩) x3 (by rw[ZY]; decide) fun h4 b4 x4=>Stop.out ?_)
  |wp_step)
 refine Stop.in ?_
 refine wpAny_throw (hE h4 ?_ x4)
 have ZZ:mN [] [e] h3 h4:=b4
 exact(Vh.trans ZZ).mono (fun _ z=>z) (by simp)
end
open PySem.Builtin PySem.Builtin.ObjectAttr
section
variable {prog:Program}{w:World}{A:Around}{E:Value->Shared->Prop}{h:Heap}{g:Array GenState}{d:Drawn}{t:Nat}{os:OsState}
variable {nm q:Str}{C N e:Addr}{bs bm:List Value}{sn:List Str}{sub:List Value}{ab:Bool}{col:Option Bool}{dd:Option Addr}{k0 k1 k2 k3 k5:Option Value}{newId:String}{vs:Array Value}{name:Str}{v:Value}
theorem FV {tk:Tok}{Q:Fin->Shared->Prop}(hC:h.get? C=some (excClassObj nm q C N bs bm true sn sub ab col dd k0 k1 k2 k3 k5 newId))(hp: ∀self:Value,refuseLoop self "__setattr__" (.ref C :: bm)=pure ())
  (tx:J1 (model prog w) h (typeLookup (.ref C) name) none) (x:iR h e (.ref C) none vs)
  (hq: ∀h' NK,mN [] [e] h h'->iR h' e (.ref C) (some h.objs.size) vs->h'.Ns1 h.objs.size (fun y=>if y=name then some v else none)->Q (.done (.ret .none)) ⟨h',g,d,NK,os⟩):
  wpAny (model prog w) A (Builtin.«object.__setattr__» ⟨[.ref e,.str name tk,v],[]⟩) Q E ⟨h,g,d,t,os⟩:=by
 obtain⟨o,hx,hc,Vj,hv⟩:=id x
 have Q9:=hp (.ref e)
 have Vk: ∀{A':Around} {Q':Option Value->Shared->Prop} {E':Value->Shared->Prop},Q' none ⟨h,g,d,t,os⟩->wpAny (model prog w) A' (typeLookup (.ref C) name) Q' E' ⟨h,g,d,t,os⟩:=fun z=>tx _ _ _ _ (fun _ _ y=>y) z
 have hnc: ∀c,o.data≠ .cls c:=fun c z=>by rw[hv] at z; cases z
 unfold Builtin.«object.__setattr__»
 repeat (first
  |rw[refuse_eq]
  |rw[Q9]
  |(with_reducible refine br hx ?_; rw[hc])
  |with_reducible refine wpAny_mroOf_exc hC ?_
  |with_reducible refine Vk ?_
  |wp_step)
 rw[Vj,if_neg (by simp[typeHasDict])]
 rw[hv]
 dsimp only
 have lt:=aK hx
 have ne:e≠h.objs.size:=a0 lt
 generalize hD:({cls:= .type "dict",data:= .dict #[]}:Obj)=D
 have xS:(h.push D).get? e=some o:=ay _ hx
 refine az (wpAny_alloc' (az (wpAny_update' xS (bB ?_))))
 generalize hU:(h.push D).update e (fun o=>{cls:=o.cls,dict:=some h.objs.size,data:=o.data,slots:=o.slots})=U
 have b1:mN [] [e] h U:=by
  rw[← hU]
  exact(u5 (fr:=[]) (own:=[]) D).trans (yR _)
 have x1:iR U e (.ref C) (some h.objs.size) vs:=by
  refine⟨{cls:=o.cls,dict:=some h.objs.size,data:=o.data,slots:=o.slots},?_,hc,rfl,hv⟩
  rw[← hU]
  exact CA _ xS (Obj.isFreed_of_fields (vs:=vs) hv)
 have gd:U.get? h.objs.size=some {cls:= .type "dict",data:= .dict #[]}:=by
  rw[← hU,← hD]
  exact(Ho _ _ _ _ ne.symm).trans (Heap.get?_push_at rfl rfl)
 have nd:U.Ns h.objs.size (fun _=>none):=⟨_,#[],_,gd,rfl,fun _ he=>absurd he (by simp),fun _=>rfl⟩
 show wpAny _ _ (storeInDict h.objs.size (.str name tk) name v) _ _ _
 unfold storeInDict newKeyGuard
 refine az (bB (az (wpAny_nsSet1 (s:=⟨U,g,d,t,os⟩) (Heap.Ns1.of_empty nd) fun h' hn hs=>?_)))
 obtain⟨oD,Zl,Zm,Uy,Uz,UA⟩:=hn.count (Within.cons name v Within.nil)
 refine az (wpAny_lookBehind Uy (by rw[Uz]; exact pastItsLine_dict (aY UA (by rw[bZ,v7,en]; lia))) ?_)
 wp_walk
 have lt': ∀b o',h.get? b=some o'->h'.get? b=U.get? b:=fun b o' z=>hs.2 b (a0 (aK z))
 refine hq h' _ (fun b ob z n=>?_) (x1.same fun ob z=>(hs.2 e ne).trans z) hn
 obtain⟨z1,sl,z2⟩:=b1 b ob z n
 exact⟨fun n'=>(lt' b ob z).trans (z1 n'),sl,(lt' b ob z).trans z2⟩
theorem NL {M:Model}{B sa owner:String}{Es:List Value}{o:Obj}{u9:Value}{Q:Unit->Shared->Prop}(SF:StoreFacts B Es sa owner)(ho:bm.contains (.type owner)=true)
  (hC:h.get? C=some (excClassObj nm q C N bs bm true sn sub ab col dd k0 k1 k2 k3 k5 newId)) (hx:h.get? e=some o) (hc:o.cls= .ref C) (hq:Q () ⟨h,g,d,t,os⟩):
  wpAny M A (checkBuiltinCall sa ⟨[.ref e,u9,v],[]⟩) Q E ⟨h,g,d,t,os⟩:=by
 have h1:=iu (C:=C) ho; have ha:=SF.args (.ref e) u9 v
 simp only[checkBuiltinCall,SF.kind,SF.split]
 refine az ?_
 unfold isInstance
 repeat (first
  |(with_reducible refine br hx ?_; rw[hc])
  |(with_reducible refine cO hC ?_; rw[h1])
  |wp_step)
 cases hs:Manifest.signature? sa with
 |none=>exact bB hq
 |some sg=>
  simp only[argsOk,hs] at ha
  have h2:Bind.checkArgs sa sg ⟨[.ref e,u9,v],[]⟩=pure ():=ha
  show wpAny M A (Bind.checkArgs sa sg ⟨[.ref e,u9,v],[]⟩) Q E _
  rw[h2]
  exact bB hq
theorem K6 {B sa owner:String}{Es:List Value}{Q:Unit->Shared->Prop}(SF:StoreFacts B Es sa owner)(ho:bm.contains (.type owner)=true)(hC:h.get? C=some (excClassObj nm q C N bs bm true sn sub ab col dd k0 k1 k2 k3 k5 newId))
  (hp: ∀self:Value,refuseLoop self "__setattr__" (.ref C :: bm)=pure ()) (sL:J1 (model prog w) h (typeLookup (.ref C) "__setattr__") (some (.builtin sa))) (tx:J1 (model prog w) h (typeLookup (.ref C) name) none) (x:iR h e (.ref C) none vs)
  (hq: ∀h' NK,mN [] [e] h h'->iR h' e (.ref C) (some h.objs.size) vs->h'.Ns1 h.objs.size (fun y=>if y=name then some v else none)->Q () ⟨h',g,d,NK,os⟩):
  wpAny (model prog w) A (setAttr (.ref e) name v) Q E ⟨h,g,d,t,os⟩:=by
 obtain⟨o,hx,hc,_⟩:=id x
 have f3:=SF.slot.bind (.ref e)
 have Z0: ∀{tk:Nat} {A':Around} {Q':Option Value->Shared->Prop} {E':Value->Shared->Prop},Q' (some (.builtin sa)) ⟨h,g,d,tk,os⟩->wpAny (model prog w) A' (typeLookup (.ref C) "__setattr__") Q' E' ⟨h,g,d,tk,os⟩:=fun z=>sL _ _ _ _ (fun _ _ y=>y) z
 unfold setAttr callSpecial? specialOf
 repeat (any_goals (first
  |assumption
  |(with_reducible refine br hx ?_; rw[hc])
  |with_reducible refine Z0 ?_
  |wp_step))
 refine Fd SF.slot.plain SF.entry (NL SF ho hC hx hc (FV hC hp tx x fun h' NK b x' n=>?_))
 repeat (any_goals (first
  |assumption
  |wp_step))
 exact hq h' NK b x' n
end
section
variable {prog:Program}{w:World}{A:Around}{E:Value->Shared->Prop}{h:Heap}{g:Array GenState}{d:Drawn}{t:Nat}{os:OsState}
variable {nm q:Str}{C N e dx:Addr}{bs bm:List Value}{sn:List Str}{sub:List Value}{ab:Bool}{col:Option Bool}{dd:Option Addr}{k0 k1 k2 k3 k5:Option Value}{newId:String}{vs:Array Value}{name:Str}{v:Value}{mA:Str->Option Value}
theorem FW {tk:Tok}{Q:Fin->Shared->Prop}(hC:h.get? C=some (excClassObj nm q C N bs bm true sn sub ab col dd k0 k1 k2 k3 k5 newId))(tx:J1 (model prog w) h (typeLookup (.ref C) name) none)(x:iR h e (.ref C) (some dx) vs)
  (n:h.Ns dx mA) (hm:mA name=some v) (hq:Q (.done (.ret v)) ⟨h,g,d,t,os⟩):wpAny (model prog w) A (Builtin.«object.__getattribute__» ⟨[.ref e,.str name tk],[]⟩) Q E ⟨h,g,d,t,os⟩:=by
 obtain⟨o,hx,hc,Vj,hv⟩:=id x
 have Vk: ∀{A':Around} {Q':Option Value->Shared->Prop} {E':Value->Shared->Prop},Q' none ⟨h,g,d,t,os⟩->wpAny (model prog w) A' (typeLookup (.ref C) name) Q' E' ⟨h,g,d,t,os⟩:=fun z=>tx _ _ _ _ (fun _ _ y=>y) z
 repeat (any_goals (first
  |assumption
  |(with_reducible refine br hx ?_; rw[hc])
  |with_reducible refine Vk ?_
  |wp_step))
 rw[hv]
 show wpAny _ _ (instanceDict e false) _ _ _
 unfold instanceDict
 refine az (br hx ?_)
 rw[hc]
 dsimp only
 unfold classData
 refine az (az (br hC (bB ?_)))
 rw[if_neg (by simp)]
 rw[Vj]
 refine bB ?_
 show wpAny _ _ (nsGet dx name) _ _ _
 refine wpAny_nsGet n ?_
 rw[hm]
 repeat (first
  |exact hq
  |wp_step)
theorem NM {M:Model}{u9:Value}{o:Obj}{Q:Unit->Shared->Prop}(hB:bm.contains (.type "BaseException")=true)(hC:h.get? C=some (excClassObj nm q C N bs bm true sn sub ab col dd k0 k1 k2 k3 k5 newId))
  (hx:h.get? e=some o) (hc:o.cls= .ref C) (hq:Q () ⟨h,g,d,t,os⟩):wpAny M A (checkBuiltinCall "BaseException.__getattribute__" ⟨[.ref e,u9],[]⟩) Q E ⟨h,g,d,t,os⟩:=by
 have hk:builtinKind "BaseException.__getattribute__"=some .slot:=by decide +kernel
 have hs:splitId "BaseException.__getattribute__"=some ("BaseException","__getattribute__"):=by decide +kernel
 have h1:=iu (C:=C) hB; have ha:=F.args_bexc_ga (.ref e) u9
 simp only[checkBuiltinCall,hk,hs]
 refine az ?_
 unfold isInstance
 repeat (first
  |(with_reducible refine br hx ?_; rw[hc])
  |(with_reducible refine cO hC ?_; rw[h1])
  |wp_step)
 exact hq
theorem K7 {T:String}{expr:Bool}{Q:Value->Shared->Prop}(FB:Slot T "__getattribute__" "BaseException.__getattribute__")(hB:bm.contains (.type "BaseException")=true)(hC:h.get? C=some (excClassObj nm q C N bs bm true sn sub ab col dd k0 k1 k2 k3 k5 newId))
  (gL:J1 (model prog w) h (typeLookup (.ref C) "__getattribute__") (some (.builtin "BaseException.__getattribute__"))) (kL:J1 (model prog w) h (typeLookup (.ref C) "__getattr__") none) (tx:J1 (model prog w) h (typeLookup (.ref C) name) none)
  (x:iR h e (.ref C) (some dx) vs) (n:h.Ns dx mA) (hm:mA name=some v) (hv:handedOut v=pure v) (hq:Q v ⟨h,g,d,t + 1,os⟩):wpAny (model prog w) A (getAttr (.ref e) name expr) Q E ⟨h,g,d,t,os⟩:=by
 obtain⟨o,hx,hc,_⟩:=id x
 have f3:=FB.bind (.ref e)
 have x0:(expr && onTheHeap (Value.builtin "BaseException.__getattribute__"))=false:=by cases expr <;> rfl
 have x2:(Value.builtin "BaseException.__getattribute__" == Value.builtin "object.__getattribute__")=false:=by decide +kernel
 have x1:(onTheHeap (Value.ref C) && Value.builtin "BaseException.__getattribute__" == Value.builtin "object.__getattribute__")=false:=by rw[x2]; rfl
 have Z1: ∀{tk:Nat} {A':Around} {Q':Option Value->Shared->Prop} {E':Value->Shared->Prop},Q' (some (.builtin "BaseException.__getattribute__")) ⟨h,g,d,tk,os⟩->wpAny (model prog w) A' (typeLookup (.ref C) "__getattribute__") Q' E' ⟨h,g,d,tk,os⟩:=
  fun z=>gL _ _ _ _ (fun _ _ y=>y) z
 have Z2: ∀{tk:Nat} {A':Around} {Q':Option Value->Shared->Prop} {E':Value->Shared->Prop},Q' none ⟨h,g,d,tk,os⟩->wpAny (model prog w) A' (typeLookup (.ref C) "__getattr__") Q' E' ⟨h,g,d,tk,os⟩:=fun z=>kL _ _ _ _ (fun _ _ y=>y) z
 unfold getAttr
 repeat (any_goals (first
  |assumption
  |(with_reducible refine br hx ?_; rw[hc])
  |with_reducible refine Z1 ?_
  |with_reducible refine Z2 ?_
  |wp_step))
 refine Fd FB.plain F.entry_bexc_ga (NM hB hC hx hc (FW hC tx x n hm ?_))
 repeat (any_goals (first
  |assumption
  |wp_step))
end
section
variable {M:Model}{A:Around}{E:Value->Shared->Prop}
variable {nm q:Str}{C N:Addr}{bs bm:List Value}{oa:Bool}{sn:List Str}{sub:List Value}{ab:Bool}{col:Option Bool}{dd:Option Addr}{k0 k1 k2 k3 k5:Option Value}{newId:String}
variable {Z3 q':Str}{R N':Addr}{Z4 Vl:List Value}{Ra:Bool}{Z5:List Str}{Vm:List Value}{Z6:Bool}{Vn:Option Bool}{Eb:Option Addr}{j0 j1 j2 j3 j5:Option Value}{NN:String}
theorem xT {h:Heap}{g:Array GenState}{d:Drawn}{t:Nat}{os:OsState}{e:Addr}{iE:Option Addr}{vs:Array Value}{b:Bool}{Q:Bool->Shared->Prop}
  (hC:h.get? C=some (excClassObj nm q C N bs bm oa sn sub ab col dd k0 k1 k2 k3 k5 newId)) (hR:h.get? R=some (excClassObj Z3 q' R N' Z4 Vl Ra Z5 Vm Z6 Vn Eb j0 j1 j2 j3 j5 NN))
  (x:iR h e (.ref C) iE vs) (qm:Vl.contains (.type "BaseException")=true) (up:(Value.ref C :: bm).contains (.ref R)=b)
  (hq:Q b ⟨h,g,d,t,os⟩):wpAny M A (excMatches (.ref e) (.ref R)) Q E ⟨h,g,d,t,os⟩:=by
 obtain⟨oe,he,MX,_⟩:=x
 have Vo:(Value.ref R :: Vl).contains (.type "BaseException")=true:=by rw[List.contains_cons,qm,Bool.or_true]
 have f:=tc_notTuple
 unfold excMatches
 repeat (first|(with_reducible refine cO hR ?_; rw[Vo])|(with_reducible refine cO hC ?_; rw[up])|(with_reducible refine br he ?_; rw[MX])|with_reducible refine br hR ?_|wp_step)
 cases b <;> (wp_walk; exact hq)
end
end K2
namespace L2
open PySem PySem.Spec PyProof.Rows K2
structure gN (K:PySem.W.Frag)(C R:Addr):Prop where
 obj: ∃(nm q:Str) (N:Addr) (bs bm:List Value) (sn:List Str) (sub:List Value) (ab:Bool) (col:Option Bool) (dd:Option Addr) (k0 k1 k2 k3 k5:Option Value),
  K.lookup C=some (excClassObj nm q C N bs bm true sn sub ab col dd k0 k1 k2 k3 k5 "Exception.__new__")/\
   (bm=[.type "Exception",.type "BaseException",.type "object"]/\C=R∨bm=[.ref R,.type "Exception",.type "BaseException",.type "object"])
 sa:PySem.W.findIn K (.ref C) "__setattr__"=some (some (.builtin "object.__setattr__"))
 ga:PySem.W.findIn K (.ref C) "__getattribute__"=some (some (.builtin "BaseException.__getattribute__"))
 gk:PySem.W.findIn K (.ref C) "__getattr__"=some none
 tx:PySem.W.findIn K (.ref C) "text"=some none
structure Vp (h:Heap)(C R:Addr)(nm q:Str)(N:Addr)(bs bm:List Value)(sn:List Str)(sub:List Value)(ab:Bool)(col:Option Bool)(dd:Option Addr)(k0 k1 k2 k3 k5:Option Value):Prop where
 at_:h.get? C=some (excClassObj nm q C N bs bm true sn sub ab col dd k0 k1 k2 k3 k5 "Exception.__new__")
 e:bm.contains (.type "Exception")=true
 b:bm.contains (.type "BaseException")=true
 o:bm.contains (.type "object")=true
 na:bm.contains (.type "AttributeError")=false
 nn:bm.contains (.type "NameError")=false
 rf: ∀self:Value,refuseLoop self "__setattr__" (.ref C :: bm)=pure ()
 up:(Value.ref C :: bm).contains (.ref R)=true
theorem gN.on {K:PySem.W.Frag}{C R:Addr}(k:gN K C R): ∃nm q N bs bm sn sub ab col dd k0 k1 k2 k3 k5,∀h:Heap,K.In h->Vp h C R nm q N bs bm sn sub ab col dd k0 k1 k2 k3 k5:=by
 obtain⟨nm,q,N,bs,bm,sn,sub,ab,col,dd,k0,k1,k2,k3,k5,l,hb⟩:=k.obj
 have pass: ∀self:Value,refuseLoop self "__setattr__" [.type "Exception",.type "BaseException",.type "object"]=pure ():=F.store_Exception.passes
 refine⟨nm,q,N,bs,bm,sn,sub,ab,col,dd,k0,k1,k2,k3,k5,fun h X=>?_⟩
 rcases hb with⟨rfl,rfl⟩|rfl
 ·exact⟨X _ _ l,by decide +kernel,by decide +kernel,by decide +kernel,by decide +kernel,by decide +kernel,fun self=>by rw[refuseLoop_ref]; exact pass self,by simp⟩
 ·exact⟨X _ _ l,iu (by decide +kernel),iu (by decide +kernel),iu (by decide +kernel),iu (by decide +kernel),iu (by decide +kernel),fun self=>by rw[refuseLoop_ref,refuseLoop_ref]; exact pass self,by simp⟩
theorem k7 {K:PySem.W.Frag}{M:Model}{h:Heap}(X:K.In h){t:Value}{name:Str}{r:Option Value}(e:PySem.W.findIn K t name=some r):J1 M h (typeLookup t name) r:=PySem.W.looks_findIn X e
abbrev xo (e C:Addr)(iE:Option Addr)(vs:Array Value):HO:= .ext fun h=>iR h e (.ref C) iE vs
theorem Iw {P:Program}{w:World}{H:Hp}{h:Heap}{e C:Addr}{iE:Option Addr}{vs:Array Value}(x:iR h e (.ref C) iE vs):dr P w H h e (xo e C iE vs):=by
 refine⟨x,?_,fun h1 h2 z k=>iR.same z k⟩
 obtain⟨o,z,_⟩:=x
 exact⟨o,z⟩
abbrev v0 (t:Addr):Array Value:= #[.ref t,.none,.none,.none,.bool false,.none]
section
variable {X:Cx}{pins:List (Addr×Obj)}{σ:St}{H:Hp}{s:Shared}{e C R dx:Addr}{iE:Option Addr}{vs Vq:Array Value}{h':Heap}{t':Nat}
theorem Inv.C6 (I:Inv X pins σ H s)(h:H e=some (xo e C iE vs)):iR s.heap e (.ref C) iE vs:=(I.cw e _ h).1
theorem Inv.NO (I:Inv X pins σ H s)(h:H e=some (xo e C iE vs))(b:mN [] [e] s.heap h')(x:iR h' e (.ref C) iE Vq):Inv X pins σ (upd H e (xo e C iE Vq)) {s with heap:=h',toks:=t'}:=by
 refine I.write (x:=e) (e:=e) (by rw[h]; exact True.intro) (.inl rfl) (fun c u n z=>(b c u z (by simpa using n)).1 (by simp)) ?_ (Iw x)
 obtain⟨o,z,_⟩:=x
 exact⟨o,z⟩
theorem Inv.K8 {f:Str}{y:V}{u:Value}(I:Inv X pins σ H s)(h:H e=some (xo e C none vs))(b:mN [] [e] s.heap h')(x:iR h' e (.ref C) (some s.heap.objs.size) vs)(n:h'.Ns1 s.heap.objs.size (fun z=>if z=f then some u else none))(r:RelV y u):
  Inv X pins σ (upd (upd H s.heap.objs.size (.xd [(f,y)])) e (xo e C (some s.heap.objs.size) vs)) {s with heap:=h',toks:=t'}:=by
 have hn:H s.heap.objs.size=none:=I.cw.fresh (aC _)
 have ne:e≠s.heap.objs.size:=aJ h hn
 have off: ∀c u,H c=some u->c≠s.heap.objs.size:=fun c u z=>aJ z hn
 have kp: ∀c o,c≠e->s.heap.get? c=some o->h'.get? c=some o:=fun c o n z=>(b c o z (by simpa using n)).1 (by simp)
 have low: ∀c o,s.heap.get? c=some o->c≠s.heap.objs.size:=fun c o z=>a0 (aK z)
 have same: ∀c,c≠e->c≠s.heap.objs.size->upd (upd H s.heap.objs.size (.xd [(f,y)])) e (xo e C (some s.heap.objs.size) vs) c=H c:=fun c n1 n2=>by rw[aA n1,aA n2]
 refine I.un ⟨fun c o z hc _ _=>kp c o (fun w=>by rw[w,h] at hc; cases hc) z,fun c o z hc _ _=>⟨o.slots,kp c o (fun w=>by rw[w,h] at hc; cases hc) z⟩,fun c o z hc _=>?_,fun c o z _=>?_,fun c xs z=>?_,fun c o u z=>?_,fun c ps z=>?_⟩ fun c u z=>?_
 ·rw[same c (fun w=>by rw[w,h] at hc; cases hc) (low c o z)]
  exact hc
 ·by_cases q:c=e
  ·rw[q]
   obtain⟨oe,w,_⟩:=x
   exact⟨oe,w⟩
  ·exact⟨o,kp c o q z⟩
 ·rw[same c (fun w=>by rw[w,h] at z; cases z) (off c _ z)]
  exact z
 ·rw[same c (fun w=>by rw[w,h] at z; cases z) (off c _ z)]
  exact z
 ·refine⟨#[],?_⟩
  rw[same c (fun w=>by rw[w,h] at z; cases z) (off c _ z),z]
  simp
 ·by_cases q:c=e
  ·subst q
   rw[ag] at z
   cases z
   exact Iw x
  ·rw[aA q] at z
   by_cases q2:c=s.heap.objs.size
   ·subst q2
    rw[ag] at z
    cases z
    refine⟨_,n,fun g=>?_⟩
    show kO (List.lookup g [(f,y)]) (if g=f then some u else none)
    by_cases w:g=f
    ·subst w
     rw[a7 rfl]
     simpa[List.lookup,kO] using r
    ·rw[aQ w]
     have:(g == f)=false:=by simpa using w
     simp[List.lookup,this,kO]
   ·rw[aA q2] at z
    refine(I.cw c u z).tj (fun d o hd w=>?_) (fun d w=>?_) fun d xs w=>?_
    ·refine kp d o (fun w2=>?_) w
     rcases hd with hd|hd
     ·exact q (hd▸w2)
     ·rw[w2,h] at hd
      cases hd
    ·rw[same d (fun w2=>by rw[w2,h] at w; cases w) (off d _ w)]
     exact w
    ·rw[same d (fun w2=>by rw[w2,h] at w; cases w) (off d _ w)]
     exact w
def gone (H:Hp)(a:Addr):Hp:=fun b=>if b=a then none else H b
theorem xU {a:Addr}:gone H a a=none:=by unfold gone; rw[if_pos rfl]
theorem iw {a b:Addr}(h:b≠a):gone H a b=H b:=by unfold gone; rw[if_neg h]
theorem Inv.drop {H0:Hp}{s0:Shared}{φ:Heap->Prop}(I0:Inv X pins σ H0 s0)(h0:H0 e=none)(I:Inv X pins σ H s)(h:H e=some (.ext φ)):Inv X pins σ (gone H e) s:=by
 have off: ∀c u,H c=some u->u≠ .ext φ->c≠e:=fun c u z n w=>by
  rw[w,h] at z
  cases z
  exact n rfl
 refine⟨I.ok,I.os,I.bare,⟨I.base.keep,I.base.slot,fun c o z hc hx=>?_,I.base.there,fun c xs z=>?_,fun c o u z=>?_,fun c ps z=>?_⟩,I.loc,I.cell,?_,fun x c z=>?_,fun p hp=>?_,fun c u z=>?_,I.len⟩
 ·have w:=I.base.free c o z hc hx
  rw[iw (fun q=>by rw[q,h] at w; cases w)]
  exact w
 ·rw[iw (aJ (I0.base.pX c xs z) h0)]
  exact I.base.pX c xs z
 ·rw[iw (aJ (I0.base.oT c o u z) h0)]
  exact I.base.oT c o u z
 ·obtain⟨m,w⟩:=I0.base.oU c ps z
  obtain⟨m',w'⟩:=I.base.oU c ps z
  exact⟨m',by rw[iw (aJ w h0)]; exact w'⟩
 ·rw[iw (fun q=>by have w:=I.free; rw[q,h] at w; cases w)]
  exact I.free
 ·have w:=I.iF x c z
  rw[iw (fun q=>by rw[q,h] at w; cases w)]
  exact w
 ·obtain⟨w1,w2,w3⟩:=I.pin p hp
  refine⟨w1,?_,w3⟩
  rw[iw (fun q=>by rw[q,h] at w2; cases w2)]
  exact w2
 ·by_cases q:c=e
  ·rw[q,xU] at z
   cases z
  ·rw[iw q] at z
   refine(I.cw c u z).tj (fun d o _ w=>w) (fun d w=>?_) fun d xs w=>?_
   ·rw[iw (off d _ w (by intro z; cases z))]
    exact w
   ·rw[iw (off d _ w (by intro z; cases z))]
    exact w
end
structure hJ (k:Nat)(A:Around):Prop where
 dp:A.depth + 3 * k + 5 < recursionLimit
 un:A.units + 16 * k + 200 < cLine
theorem eT.h {k:Nat}{A:Around}(r:eT k A):hJ k A:=⟨r.dp,r.un⟩
theorem hJ.mono {j k:Nat}{A:Around}(r:hJ k A)(h:j<=k):hJ j A:=⟨by have:=r.dp; lia,by have:=r.un; lia⟩
theorem hJ.deeper {k:Nat}{A:Around}(r:hJ (k + 1) A)(env:Env):hJ k (A.deeper env):=
 ⟨by have:=r.dp; show A.depth + 1 + 3 * k + 5 < _; lia,by have:=r.un; show A.units + 3 + 16 * k + 200 < _; lia⟩
theorem hJ.make {k:Nat}{A:Around}(r:hJ (k + 1) A)(C:Addr)(us:List Value)(kw:List (Str×Value)):hJ k (A.under (.builtin "type.__call__" ⟨.ref C :: us,kw⟩)):=
 ⟨by have:=r.dp; rw[ux]; lia,by have:=r.un; rw[uy]; lia⟩
theorem hJ.mark {k:Nat}{A:Around}(r:hJ k A)(e:Option Value):hJ k (A.mark e):=⟨r.dp,r.un⟩
structure Rb (P:Program)(w:World)(K:PySem.W.Frag)(mg:Str->Option Value)(base:Heap)(k:Nat)(f:Addr)(fd:FuncData)(ps:List Str)(sp:Sp):Prop where
 len: ∀vs H Q E,sp vs H Q E->vs.length=ps.length
 run: ∀(A:Around) (outer:List Env) (s:Shared) (H:Hp) (args:Args) (us:List Value) (vs:List V) (Q:VK) (E:XK),hJ k A->qe P w K mg base A outer s H->BindsTo s fd args (ps.zip us)->Vals vs us->sp vs H Q E->
  codeAny (model P w) A (.call (.ref f) args) (CR rJ outer P w H s Q E) s
abbrev va (P:Program)(w:World)(K:PySem.W.Frag)(mg:Str->Option Value)(base:Heap)(N:List Str)(qual:Str)(scope:Scope)(f:Addr)(cd:Value)(A:Around)(outer:List Env)(s:Shared)(H:Hp)(E:XK):Cx:=
 {kQ rJ P w K mg base N qual scope f cd A outer s H E with calm:=false}
theorem vb {P:Program}{w:World}{K:PySem.W.Frag}{mg:Str->Option Value}{base:Heap}{N ps:List Str}{qual:Str}{scope:Scope}{f:Addr}{cd:Value}{A:Around}{outer:List Env}{s s1:Shared}{H:Hp}{E:XK}{us:List Value}{vs:List V}
  (S:aS N ps scope) (e0:qe P w K mg base A outer s H) (hl:vs.length=ps.length) (r:Vals vs us)
  (x:InCallC s s.heap.objs.size (bindL (envOfC qual scope s.heap.objs.size f cd).kindOf (ps.zip us) fun _=>none) (cellsFrom (s.heap.objs.size + 1) scope.names []) (bindC (envOfC qual scope s.heap.objs.size f cd).kindOf (ps.zip us) fun _=>none) s1):
  Inv (va P w K mg base N qual scope f cd A outer s H E) [] (start N vs) H s1:=by
 have I:=xF (CX:=rJ) (E:=E) (A:={A with handled:=none}) (K:=K) (base:=base) (P:=P) (w:=w) (mg:=mg) (N:=N) S rfl ⟨e0.frames,e0.mod,e0.bs,e0.AH,e0.lF,e0.DS,e0.cw,e0.bare⟩ hl r x
 have ok:=I.ok
 exact⟨⟨ok.mod,ok.kind,ok.glob,ok.blt,ok.above,ok.inj,ok.has,ok.JU,(fun z=>by cases z),Around.frames_deeper e0.frames,ok.G5,ok.Ko,ok.bs,ok.AH,ok.wa,ok.wb,ok.lF,ok.DS⟩,I.os,I.bare,I.base,I.loc,I.cell,I.free,I.iF,I.pin,I.cw,I.len⟩
theorem lS {P:Program}{w:World}{K:PySem.W.Frag}{mg:Str->Option Value}{base:Heap}{k:Nat}{f:Addr}{x qual:Str}{st:Stmt}{fd:FuncData}{N ps:List Str}{sp:Sp}(F:fY K x qual st f fd)(S:aS N ps (ax st))
  (len: ∀vs H Q E,sp vs H Q E->vs.length=ps.length)
  (fN: ∀(cK:Value) (A:Around) (outer:List Env) (s:Shared) (H:Hp) (vs:List V) (Q:VK) (E:XK),hJ k (A.deeper (envOfC qual (ax st) s.heap.objs.size f cK))->sp vs H Q E->
   ∃t,oV (va P w K mg base N qual (ax st) f cK A outer s H E).DV (dv st) t/\t {nx:=fun _ H'=>Q .d8 H',rt:=Q} (start N vs) H):Rb P w K mg base (k + 1) f fd ps sp:=by
 obtain⟨oc,od,kV,doc,pm,an,cK,ct,Fu,rfl,lk,rg⟩:=F.ex
 refine⟨len,fun A outer s H args us vs Q E hr e0 hb r yy=>?_⟩
 have hl:=len _ _ _ _ yy
 have KX:K.In s.heap:=e0.mod.Kn.keeps fun b o e=>(e0.bs b o e).1
 have lim:s.heap.NoLimit:=e0.mod.nolimit.keeps fun b o e=>(e0.bs b o e).1
 have mB: ∀y∈ps.zip us,(ax st).names.lookup y.1=some .local∨((ax st).names.lookup y.1=some .cell/\((cellsFrom (s.heap.objs.size + 1) (ax st).names []).lookup y.1).isSome=true):=fun⟨n,v⟩ hy=>by
  rcases S.par n (nU hy).1 with q|q
  ·exact .inl q
  ·exact .inr ⟨q,kN _ _ _ (.inl q)⟩
 have dp:A.depth < recursionLimit:=by have:=hr.dp; lia
 refine codeAny_call_function dp (KX _ _ lk) rfl S.co S.gen rfl (PySem.W.codeRec_of KX rg) (hb _ _ _ _ ?_)
 refine sZ S.kind mB fun env he s1 y=>?_
 subst he
 refine⟨lim.keeps y.toInCall.keep,codeAny_func ?_⟩
 obtain⟨t,ht,hq⟩:=fN cK A outer s H vs Q E (hr.deeper _) yy
 have I:Inv (va P w K mg base N qual (ax st) f cK A outer s H E) [] (start N vs) H s1:=vb S e0 hl r y
 refine cf (ht.DV [] s1 (start N vs) H _ I hq) (fun fl s' hs=>?_) fun e s' hs=>hs
 have fin: ∀{σ':St} {H':Hp} {v:V} {u:Value},Inv (va P w K mg base N qual (ax st) f cK A outer s H E) [] σ' H' s'->RelV v u->Q v H'->CE outer P w H s Q u s':=
  fun{σ' H' v u} J rv q=>⟨v,H',J.os,J.bare,J.base,J.cw,rv,q⟩
 cases fl with
 |ret u=>
  obtain⟨v,σ',H',J,rv,q⟩:=hs
  exact fin J rv q
 |next=>
  obtain⟨σ',H',J,q⟩:=hs
  exact fin (v:=V.d8) (u:=Value.none) J rfl q
 |brk=>
  obtain⟨_,_,_,q⟩:=hs
  exact False.elim q
 |cont=>
  obtain⟨_,_,_,q⟩:=hs
  exact False.elim q
section
variable {X:Cx}{k:Nat}{f C R:Addr}{fd:FuncData}{ps:List Str}{sp:Sp}{x:Str}{p pos apos pos':Pos}{a b o value e:Expr}{es:List Expr}{ta tb tv:TE}{t:TA}
theorem Et {A:Around}{xe:Value->Shared->Prop}{pins:List (Addr×Obj)}{σ:St}{H:Hp}{s:Shared}{Q:VK}{us:List Value}{vs:List V}(F:Rb X.prog X.w X.K X.mg X.base k f fd ps sp)(hr:hJ k A)(e0:qe X.prog X.w X.K X.mg X.base A X.stack s H)(hb:Binds X.K fd ps [])
  (I:Inv X pins σ H s) (r:Vals vs us) (h:sp vs H Q E0):wpAny (model X.prog X.w) A (call (.ref f) us) (EP X pins σ Q) xe s:=by
 have hl:(us ++ []).length=ps.length:=by rw[bP,← r.length]; exact F.len _ _ _ _ h
 have bd:=hb s us I.gE hl
 rw[bP] at bd
 refine DR (Cz (F.run A X.stack s H ⟨us,[]⟩ us vs Q E0 hr e0 bd r h) fun r s' hq=>?_)
 cases r with
 |error e=>exact False.elim hq
 |ok fl=>
  cases fl with
  |ret u=>exact I.after hq
  |next=>exact False.elim hq
  |brk=>exact False.elim hq
  |cont=>exact False.elim hq
def NP (K:PySem.W.Frag)(t:TA):TE:=fun σ H Q=>t σ H fun xs H2=> ∃(e C R t0:Addr) (iE:Option Addr) (vs:Array Value) (y:V),xs=[.ref e,y]/\H2 e=some (xo e C iE vs)/\gN K C R/\vs[0]? =some (.ref t0)/\ ∀t',Q .d8 (upd H2 e (xo e C iE (vs.setIfInBounds 0 (.ref t'))))
theorem Iy {pl:Sem Bool}(hg:Gl X "Exception")(hm:X.mg "Exception"=none)(ha:PA X (e :: es) t)
  (hs:starEach (e :: es) X.env=(false,eval e X.env) :: starEach es X.env:=by rfl) (hV:(backTo pos (starEach es X.env)).any (·.1)=false:=by rfl)
  (ht:eval (.Call (.Attribute (.Name "Exception" p) "__init__" apos) (e :: es) [] pos) X.env=(do
   let ov ← eval (.Name "Exception" p) X.env
   standAt apos.atName
   let(f,first) ← holding [ov] (getMethod ov "__init__" pl)
   callWith pos f first (backTo pos (starEach (e :: es) X.env)) (backToKw pos (keywordEach [] X.env))):=by rfl):
  PE X (.Call (.Attribute (.Name "Exception" p) "__init__" apos) (e :: es) [] pos) (NP X.K t):=by
 intro pins s σ H Q I h
 obtain⟨m,F⟩:=I.fr
 refine vX (pl:=pl) (oW I hg hm (u:= .type "Exception") (by rfl) ?_) ht
 refine PySem.W.method_type (v:= .builtin "Exception.__init__") F I.mod.Kn (by rfl) (by decide +kernel) (by rfl) (by rfl) ?_
 have hA:=ha pos pins {s with toks:=s.toks + 1} σ H _ (I.tok _) h
 rw[hs] at hA ⊢
 refine iJ (by show(false || (backTo pos (starEach es X.env)).any (·.1))=false; rw[hV] <;> rfl) (E7 ?_)
 refine dP hA fun us s2 ⟨vs,H2,I2,r2,e,C,R,t0,iE,ws,y,e1,e2,k,e3,q⟩=>?_
 subst e1
 obtain⟨u1,u2,rfl,ru,_⟩:=vals2 r2
 obtain rfl:u1=Value.ref e:=ru
 obtain⟨nm,qn,N,bs,bm,sn,sub,ab,col,dd,k0,k1,k2,k3,k5,c⟩:=k.on
 have c:=c _ I2.gE
 obtain⟨hp,g,d,tk,os⟩:=s2
 exact FU MQ c.e c.at_ (I2.C6 e2) e3 fun h' b x'=>⟨.d8,_,I2.NO (t':=tk) e2 b x',rfl,q _⟩
def Rc (K:PySem.W.Frag)(ta tv:TE):TS:=fun D σ H=>tv σ H fun y H1=>ta σ H1 fun x H2=> ∃(e C R:Addr) (vs:Array Value),x= .ref e/\H2 e=some (xo e C none vs)/\gN K C R/\
 ∀dx,H2 dx=none->D.nx σ (upd (upd H2 dx (.xd [("text",y)])) e (xo e C (some dx) vs))
theorem K9 (ha:PE X o ta)(hv:PE X value tv)(hs:swapsWith value (some (.Attribute o "text" pos')) pos.line X.env=pure false):PS X (.Assign [.Attribute o "text" pos'] value pos) (Rc X.K ta tv):=by
 intro pins s σ H D I h
 refine MM (dP (hv pins s σ H _ I h) fun u s1 ⟨y,H1,I1,ry,q⟩=>dP (ha pins s1 σ H1 _ I1 q) fun ov s2 ⟨x,H2,I2,rx,e,C,R,vs,e1,e2,k,q2⟩=>?_) hs
 subst e1
 obtain rfl:ov=Value.ref e:=rx
 obtain⟨nm,qn,N,bs,bm,sn,sub,ab,col,dd,k0,k1,k2,k3,k5,c⟩:=k.on
 have c:=c _ I2.gE
 have hn:=I2.cw.fresh (aC s2.heap.objs.size)
 obtain⟨hp,g,d,tk,os⟩:=s2
 refine K6 PySem.F.store_Exception c.o c.at_ c.rf (k7 I2.gE k.sa) (k7 I2.gE k.tx) (I2.C6 e2) fun h' NK b x' n=>?_
 exact⟨σ,_,I2.K8 (t':=NK) e2 b x' n ry,q2 _ hn⟩
structure Eu (K:PySem.W.Frag)(R f:Addr):Prop where
 rd:PySem.W.readsIn K R (.type "type")=true
 sp:PySem.W.specialIn K (.ref R) "__getattribute__"=some (some (.builtin "type.__getattribute__"))
 fd:PySem.W.findCls K (.ref R) (.type "type") "__init__"=some (.val (.ref f))
 kp:PySem.W.keepIn K (.ref f)=true
theorem i0 {pl:Sem Bool}(i:Eu X.K R f)(F:Rb X.prog X.w X.K X.mg X.base k f fd ps sp)(hr:hJ k X.A)(hb:Binds X.K fd ps [])(hg:Gl X x)(hm:X.mg x=some (.ref R))(ha:PA X (e :: es) t)(qf:(x == ("__debug__":Str))=false:=by decide)
  (hs:starEach (e :: es) X.env=(false,eval e X.env) :: starEach es X.env:=by rfl) (hV:(backTo pos (starEach es X.env)).any (·.1)=false:=by rfl)
  (ht:eval (.Call (.Attribute (.Name x p) "__init__" apos) (e :: es) [] pos) X.env=(do
   let ov ← eval (.Name x p) X.env
   standAt apos.atName
   let(f,first) ← holding [ov] (getMethod ov "__init__" pl)
   callWith pos f first (backTo pos (starEach (e :: es) X.env)) (backToKw pos (keywordEach [] X.env))):=by rfl):
  PE X (.Call (.Attribute (.Name x p) "__init__" apos) (e :: es) [] pos) (uz sp [] E0 t):=by
 intro pins s σ H Q I h
 refine vX (pl:=pl) (jk I hg hm ?_ qf) ht
 refine PySem.W.method_cls I.gE i.sp (PySem.W.cls_value I.gE i.rd i.fd rfl ?_)
 refine j7 (h₀:=X.base) I.ok.mod.Kn i.kp (dP (ha pos pins _ σ H _ (I.tok _) h) fun us s1 ⟨vs,H1,I1,r,q⟩=>⟨I1.gE,?_⟩) hs hV
 have q2:sp (vs ++ []) H1 Q E0:=q
 rw[bP] at q2
 exact Et F hr I1.HG hb I1 r q2
end
def Z7 (mg:Str->Option Value)(n0:Nat)(H:Hp)(h:Heap)(a C dx:Addr):Prop:=
 ∃(vs:Array Value) (T:Addr),iR h a (.ref C) (some dx) vs/\vs[1]? =some (.ref T)/\J0 h T .none/\T≠a/\n0<=a/\n0<=T/\H a=none/\H T=none/\(vs[2]? =some .none∨mg "Needed"=some (.ref C))
def mi (P:Program)(w:World)(mg:Str->Option Value):Ft:=fun outer H s E e s'=>
 ∃(a C dx:Addr) (H':Hp),e= .ref a/\s'.os=s.os/\AllBare s'.gens/\Un (CB outer) [] H H' s.heap s'.heap/\nY P w H' s'.heap/\Z7 mg s.heap.objs.size H' s'.heap a C dx/\E (.ref C) (some dx) H'
theorem Ew {fs fr own:List Addr}{H H2:Hp}{h h2 h3:Heap}(u:Un fs [] H H2 h h2)(b:mN fr own h2 h3)(ho: ∀c∈own,h.objs.size<=c)(hf: ∀c∈fr,c∈fs∨h.objs.size<=c):Un fs [] H H2 h h3 where
 keep:=fun c o z n hc hx=>(b c o (u.keep c o z n hc hx) (fun w=>absurd (aK z) (xu.mpr (ho c w)))).1 (fun w=>(hf c w).elim hc (fun q=>absurd (aK z) (xu.mpr q)))
 slot:=fun c o z n hc hx=>by
  obtain⟨sl,e⟩:=u.slot c o z n hc hx
  obtain⟨_,Tj,e2⟩:=b c _ e (fun w=>absurd (aK z) (xu.mpr (ho c w)))
  exact⟨Tj,e2⟩
 free:=u.free
 there:=fun c o z hx=>by
  obtain⟨o',e⟩:=u.there c o z hx
  obtain⟨_,Tj,e2⟩:=b c _ e (fun w=>absurd (aK z) (xu.mpr (ho c w)))
  exact⟨_,e2⟩
 pX:=u.pX
 oT:=u.oT
 oU:=u.oU
theorem yS {P:Program}{w:World}{fr own:List Addr}{H:Hp}{h h':Heap}(k:nY P w H h)(b:mN fr own h h')(hf: ∀c∈fr,H c=none)(ho: ∀c∈own,H c=none):nY P w H h':=fun c u z=>by
 refine(k c u z).tj (fun d o hd w=>?_) (fun _ q=>q) fun _ _ q=>q
 have t: ∃u',H d=some u':=hd.elim (fun q=>⟨u,by rw[q]; exact z⟩) (fun q=>⟨_,q⟩)
 obtain⟨u',y⟩:=t
 exact(b d o w (fun q=>by rw[ho d q] at y; cases y)).1 (fun q=>by rw[hf d q] at y; cases y)
section
variable {X:Cx}{pins:List (Addr×Obj)}{σ:St}{H:Hp}{s:Shared}{h':Heap}{own:List Addr}
theorem Inv.jM {c:Addr}(I:Inv X pins σ H s)(h:s.heap.objs.size<=c):(c∈X.ex∨X.s₀.heap.objs.size<=c)/\c≠X.env.locals/\(∀x k,X.env.cells.lookup x=some k->k≠c)/\ ∀p∈X.pn ++ pins,p.1≠c:=by
 refine⟨.inr (aY I.sz h),(a0 (ba I.lt h)).symm,fun x k z=>?_,fun p hp=>?_⟩
 ·obtain⟨v,w⟩:=I.cell x k z
  exact a0 (ba w.lt h)
 ·exact a0 (ba (aK (I.pin p hp).1) h)
theorem Inv.but (I:Inv X pins σ H s)(b:mN (CB X.stack) own s.heap h')
  (ho: ∀c∈own,H c=none/\(c∈X.ex∨X.s₀.heap.objs.size<=c)/\c≠X.env.locals/\(∀x k,X.env.cells.lookup x=some k->k≠c)/\ ∀p∈X.pn ++ pins,p.1≠c):Inv X pins σ H {s with heap:=h'}:=by
 refine I.DT (s':={s with heap:=h'}) (ch:=own) rfl ⟨fun c o z n hc hx=>(b c o z hx).1 hc,fun c o z n hc hx=>(b c o z hx).2,fun c o z n hx=>n,fun c o z hx=>?_,fun _ _ z=>z,fun _ _ _ z=>z,fun c ps z=>⟨#[],by rw[z]; simp⟩⟩ ?_ I.bare fun c hc=>(ho c hc).2
 ·obtain⟨_,sl,e⟩:=b c o z hx
  exact⟨_,e⟩
 ·exact yS I.cw b I.pY fun c hc=>(ho c hc).1
end
structure Pm (X:Cx)(E:XK):Prop where
 pass:Passes (mi X.prog X.w X.mg) X E
 l7: ∀{pins:List (Addr×Obj)} {σ:St} {H:Hp} {s:Shared} {a C dx:Addr} {vs:Array Value},Inv X pins σ H s->iR s.heap a (.ref C) (some dx) vs->vs[1]? =some .none->(vs[2]? =some .none∨X.mg "Needed"=some (.ref C))->
  X.s₀.heap.objs.size<=a->H a=none->E (.ref C) (some dx) H->X.xe (.ref a) s
 own:PassesOwn (model X.prog X.w) X.A X.env X.xe
 ownAt: ∀hd:Option Value,PassesOwnAt (model X.prog X.w) (X.A.mark hd) X.A X.env X.xe
 G5:X.stack=X.env :: X.outer
 XW:X.env.frame=some X.env.locals
section
variable {P:Program}{w:World}{K:PySem.W.Frag}{mg:Str->Option Value}{base:Heap}{N:List Str}{qual:Str}{scope:Scope}{f:Addr}{cd:Value}{A:Around}{outer:List Env}{s:Shared}{H:Hp}{E:XK}
theorem Rf:Passes (mi P w mg) (kQ (mi P w mg) P w K mg base N qual scope f cd A outer s H E) E:=by
 rintro pins σ H1 s1 e s2 I ⟨a,C,dx,H2,rfl,ho,hg,u,cw,⟨vs,T,x,h1,ft,ne,na,nT,Ha,HT,h2⟩,q⟩
 have I2:=I.DT (ch:=[]) ho u cw hg (fun b z=>absurd z (by simp))
 have sz:s.heap.objs.size<=s1.heap.objs.size:=I.sz
 have Pn:a < s2.heap.objs.size:=by
  obtain⟨o,z,_⟩:=x
  exact aK z
 show wpAny _ _ (leaving (envOfC qual scope s.heap.objs.size f cd) (.ref a)) _ _ s2
 refine NJ (base:=base) (outer:=outer) (L:=s.heap.objs.size) I.ok.frames I2.stack rfl x h1 ft ne fun h3 T' b x' hT t'=>?_
 have Pp:T'≠a:=by
  rw[hT]
  exact(a0 Pn).symm
 refine⟨a,C,dx,H2,rfl,I2.os,I2.bare,Ew I2.base b ?_ ?_,yS cw b I2.pY ?_,⟨_,T',x',pz (eY h1),t',Pp,aY sz na,?_,Ha,I2.cw.fresh (iA hT.symm),?_⟩,q⟩
 ·intro c hc
  rcases aw.mp hc with rfl|hc
  ·exact aY sz nT
  ·rw[ak.mp hc]
   exact aY sz na
 ·intro c hc
  rcases aw.mp (I2.uq c hc) with hc|hc
  ·rw[hc]
   exact .inr (aC _)
  ·exact .inl hc
 ·intro c hc
  rcases aw.mp hc with rfl|hc
  ·exact HT
  ·rw[ak.mp hc]
   exact Ha
 ·rw[hT]
  exact I2.sz
 ·rw[qx (by decide)]
  exact h2
theorem NQ:Pm (kQ (mi P w mg) P w K mg base N qual scope f cd A outer s H E) E where
 pass:=Rf
 l7:=by
  intro pins σ H1 s1 a C dx vs I x h1 h2 na Ha q
  have Pn:a < s1.heap.objs.size:=by
   obtain⟨o,z,_⟩:=x
   exact aK z
  show wpAny _ _ (leaving (envOfC qual scope s.heap.objs.size f cd) (.ref a)) _ _ s1
  refine NI (base:=base) (outer:=outer) (L:=s.heap.objs.size) I.ok.frames I.stack rfl x h1 fun h3 T' b x' hT t'=>?_
  have Pp:T'≠a:=by
   rw[hT]
   exact(a0 Pn).symm
  refine⟨a,C,dx,H1,rfl,I.os,I.bare,Ew I.base b ?_ ?_,yS I.cw b I.pY ?_,⟨_,T',x',pz (eY h1),t',Pp,na,?_,Ha,I.cw.fresh (iA hT.symm),?_⟩,q⟩
  ·intro c hc
   rw[ak.mp hc]
   exact na
  ·intro c hc
   rcases aw.mp (I.uq c hc) with hc|hc
   ·rw[hc]
    exact .inr (aC _)
   ·exact .inl hc
  ·intro c hc
   rw[ak.mp hc]
   exact Ha
  ·rw[hT]
   exact I.sz
  ·rw[qx (by decide)]
   exact h2
 own:=PassesOwn.leaving
 ownAt:=fun _=>PassesOwnAt.leaving
 G5:=rfl
 XW:=rfl
theorem fY.XX {x qual:Str}{st:Stmt}{f:Addr}{fd:FuncData}{N ps:List Str}{k:Nat}{sp:Sp}(F:fY K x qual st f fd)(S:aS N ps (ax st))(len: ∀vs H Q E,sp vs H Q E->vs.length=ps.length)
  (fN: ∀(cK:Value) (A:Around) (outer:List Env) (s:Shared) (H:Hp) (vs:List V) (Q:VK) (E:XK),eT k (A.deeper (envOfC qual (ax st) s.heap.objs.size f cK))->Pm (kQ (mi P w mg) P w K mg base N qual (ax st) f cK A outer s H E) E->sp vs H Q E->
   ∃t,oV (kQ (mi P w mg) P w K mg base N qual (ax st) f cK A outer s H E) (dv st) t/\t {nx:=fun _ H'=>Q .d8 H',rt:=Q} (start N vs) H):lI P w K mg base (mi P w mg) (k + 1) f fd ps sp:=by
 obtain⟨oc,od,kV,doc,pm,an,cK,ct,Fu,rfl,lk,rg⟩:=F.ex
 exact HL lk rg S len fun A outer s H vs Q E hr yy=>fN cK A outer s H vs Q E hr NQ yy
end
def NR (K:PySem.W.Frag)(txt:Str):Sp:=fun vs H Q _=> ∃(e C R t0:Addr),vs=[.ref e]/\H e=some (xo e C none (v0 t0))/\gN K C R/\ ∀dx t',H dx=none->Q .d8 (upd (upd H dx (.xd [("text",.str txt)])) e (xo e C (some dx) (v0 t')))
def NS (E:XK)(C:Addr)(txt:Str):TS:=fun _ _ H=> ∀dx,H dx=none->E (.ref C) (some dx) (upd H dx (.xd [("text",.str txt)]))
structure Iz (P:Program)(w:World)(K:PySem.W.Frag)(mg:Str->Option Value)(base:Heap)(k:Nat)(x:Str)(C R:Addr)(txt:Str):Prop where
 XY:mg x=some (.ref C)
 ek:gN K C R
 kp:PySem.W.keepIn K (.ref C)=true
 init: ∃(f:Addr) (fd:FuncData),PySem.W.findIn K (.ref C) "__init__"=some (some (.ref f))/\PySem.W.typeIn K (.ref f)=some (.type "function")/\Rb P w K mg base k f fd ["self"] (NR K txt)/\Binds K fd ["self"] []
section
variable {X:Cx}{k:Nat}{C R:Addr}{x txt:Str}{p pos gv:Pos}{E:XK}
theorem IA (M:Iz X.prog X.w X.K X.mg X.base k x C R txt)(hr:hJ (k + 1) X.A)(hg:Gl X x)(qf:(x == ("__debug__":Str))=false){pins:List (Addr×Obj)}{σ:St}{H:Hp}{s:Shared}{Q:Value->Shared->Prop}{xe:Value->Shared->Prop}(I:Inv X pins σ H s)
  (q: ∀(s2:Shared) (e dx t':Addr),s.heap.objs.size<=e->H dx=none->H e=none->dx≠e->Inv X pins σ (upd H dx (.xd [("text",.str txt)])) s2->iR s2.heap e (.ref C) (some dx) (v0 t')->Q (.ref e) s2):
  wpAny (model X.prog X.w) X.A (eval (.Call (.Name x p) [] [] gv) X.env) Q xe s:=by
 obtain⟨f,fd,hi,hf,F,hb⟩:=M.init
 refine eo (jk I hg M.XY ?_ qf)
 refine AB I.gE M.kp ?_
 obtain⟨nm,qn,N,bs,bm,sn,sub,ab,col,dd,k0,k1,k2,k3,k5,c⟩:=M.ek.on
 have c:=c _ I.gE
 have hz:=I.cw.fresh (dF s.heap.objs.size)
 have I1:=I.kept (t':=s.toks) (h':=s.heap.push (jd [])) (fun b u z=>ay _ z)
 have ex:iR ((s.heap.push (jd [])).push (lR C s.heap.objs.size)) (s.heap.objs.size + 1) (.ref C) none (v0 s.heap.objs.size):=⟨lR C s.heap.objs.size,by heap_get,rfl,rfl,rfl⟩
 have I2:=I1.laid (a:=s.heap.objs.size + 1) (o:=xo (s.heap.objs.size + 1) C none (v0 s.heap.objs.size)) (t':=s.toks) (h':=(s.heap.push (jd [])).push (lR C s.heap.objs.size)) (fun b u z=>ay _ z) (iA (nI _ _)) (Iw ex)
 have S9:=PySem.W.looks_typeIn (M:=model X.prog X.w) I.gE hf
 have NT: ∃oI,s.heap.get? f=some oI/\oI.cls= .type "function":=by
  have z:=hf
  unfold PySem.W.typeIn at z
  dsimp only at z
  cases w:X.K.lookup f with
  |none=>rw[w] at z; cases z
  |some o=>
   rw[w] at z
   exact⟨o,I.gE _ _ w,aF z⟩
 obtain⟨oI,NT,Q7⟩:=NT
 have e0:=I2.HG.make C [] []
 obtain⟨hp,g,d,tk,os⟩:=s
 refine call_exc MQ c.e c.na c.nn c.at_ (k7 I.gE hi) NT Q7 ?_
 refine dP (Et (X:=X) F (hr.make C [] []) e0 hb I2 (us:=[.ref (hp.objs.size + 1)]) (vs:=[.ref (hp.objs.size + 1)]) (Q:=fun v H'=>v= .d8/\ ∃dx t',H dx=none/\dx≠hp.objs.size + 1/\H'=upd (upd (upd H (hp.objs.size + 1) (xo (hp.objs.size + 1) C none (v0 hp.objs.size))) dx (.xd [("text",.str txt)])) (hp.objs.size + 1) (xo (hp.objs.size + 1) C (some dx) (v0 t'))) (.cons rfl .nil) ?_) fun u s2 h2=>?_
 ·refine⟨_,C,R,_,rfl,ag,M.ek,fun dx t' Cu=>⟨rfl,dx,t',?_⟩⟩
  have ne:dx≠hp.objs.size + 1:=fun z=>by
   rw[z,ag] at Cu
   cases Cu
  rw[aA ne] at Cu
  exact⟨Cu,ne,rfl⟩
 ·obtain⟨v,H',I3,rv,rfl,dx,t',Cu,ne,rfl⟩:=h2
  refine⟨rv,?_⟩
  have I4:=Inv.drop I hz I3 ag
  have eH:gone (upd (upd (upd H (hp.objs.size + 1) (xo (hp.objs.size + 1) C none (v0 hp.objs.size))) dx (.xd [("text",.str txt)])) (hp.objs.size + 1) (xo (hp.objs.size + 1) C (some dx) (v0 t'))) (hp.objs.size + 1)=upd H dx (.xd [("text",.str txt)]):=by
   funext b
   by_cases h1:b=hp.objs.size + 1
   ·rw[h1,xU,aA ne.symm,hz]
   ·rw[iw h1,aA h1]
    by_cases h2:b=dx
    ·rw[h2,ag,ag]
    ·rw[aA h2,aA h2,aA h1]
  rw[eH] at I4
  exact q s2 _ dx t' (dF _) Cu hz ne I4 (I3.C6 ag)
theorem jN (T:Pm X E)(M:Iz X.prog X.w X.K X.mg X.base k x C R txt)(hr:hJ (k + 1) X.A)(hg:Gl X x)(hc:X.calm=true)(qf:(x == ("__debug__":Str))=false:=by decide):
  PS X (.Raise (some (.Call (.Name x p) [] [] gv)) none pos) (NS E C txt):=by
 intro pins s σ H D I h
 rw[arm_exec_Raise]
 obtain⟨nm,qn,N,bs,bm,sn,sub,ab,col,dd,k0,k1,k2,k3,k5,c⟩:=M.ek.on
 refine az (ie (C4 (C:=C) (nm:=nm) (q:=qn) (N:=N) (bs:=bs) (bm:=bm) (oa:=true) (sn:=sn) (sub:=sub) (ab:=ab) (col:=col) (dd:=dd) (k0:=k0) (k1:=k1) (k2:=k2) (k3:=k3) (k5:=k5) (newId:="Exception.__new__") (c _ I.gE).b (I.ok.hd hc) (az (IA M hr hg qf I fun s2 e dx t' he Cu hz ne I2 x2=>az (ie (bB ?_))))))
 exact⟨e,some dx,v0 t',rfl,(c _ I2.gE).at_,x2,rfl,T.l7 I2 x2 rfl (.inl rfl) (aY I.sz he) (by rw[aA ne.symm]; exact hz) (h dx Cu)⟩
end
abbrev Cx.wx (X:Cx)(xe:Value->Shared->Prop)(pn:List (Addr×Obj)):Cx:={X with xe:=xe,pn:=pn}
abbrev Cx.J2 (X:Cx)(e:Value)(pn:List (Addr×Obj))(xe:Value->Shared->Prop):Cx:={X with A:=X.A.mark (some e),calm:=false,pn:=pn,xe:=xe}
section
variable {X:Cx}{pins AJ l:List (Addr×Obj)}{σ:St}{H:Hp}{s:Shared}{xe:Value->Shared->Prop}{E:XK}
theorem Inv.wx (I:Inv X pins σ H s)(xe:Value->Shared->Prop):Inv (X.wx xe (X.pn ++ pins)) [] σ H s:=
 have ok:=I.ok
 ⟨⟨ok.mod,ok.kind,ok.glob,ok.blt,ok.above,ok.inj,ok.has,ok.JU,ok.hd,ok.frames,ok.G5,ok.Ko,ok.bs,ok.AH,ok.wa,ok.wb,ok.lF,ok.DS⟩,I.os,I.bare,I.base,I.loc,I.cell,I.free,I.iF,fun p hp=>I.pin p (by simpa using hp),I.cw,I.len⟩
theorem Inv.jO (I:Inv (X.wx xe (X.pn ++ pins)) AJ σ H s):Inv X pins σ H s:=
 have ok:=I.ok
 ⟨⟨ok.mod,ok.kind,ok.glob,ok.blt,ok.above,ok.inj,ok.has,ok.JU,ok.hd,ok.frames,ok.G5,ok.Ko,ok.bs,ok.AH,ok.wa,ok.wb,ok.lF,ok.DS⟩,I.os,I.bare,I.base,I.loc,I.cell,I.free,I.iF,fun p hp=>I.pin p (cQ _ hp),I.cw,I.len⟩
theorem Inv.J2 (I:Inv X pins σ H s)(e:Value)(xe:Value->Shared->Prop)(h: ∀p∈l,s.heap.get? p.1=some p.2/\H p.1=none/\p.1≠X.env.locals/\p.1∉X.fs/\ ∀v,p.2.data≠ .cell v):Inv (X.J2 e (X.pn ++ pins ++ l) xe) [] σ H s:=
 have ok:=I.ok
 ⟨⟨ok.mod,ok.kind,ok.glob,ok.blt,ok.above,ok.inj,ok.has,ok.JU,(fun z=>by cases z),ok.frames,ok.G5,ok.Ko,ok.bs,ok.AH,ok.wa,ok.wb,ok.lF,ok.DS⟩,I.os,I.bare,I.base,I.loc,I.cell,I.free,I.iF,
  fun p hp=>by
   rw[bP] at hp
   exact(bA.mp hp).elim (fun z=>I.pin p z) (h p),I.cw,I.len⟩
theorem Inv.Rg (I0:Inv X pins σ H s){e:Value}{σ':St}{H':Hp}{s':Shared}(I:Inv (X.J2 e (X.pn ++ pins ++ l) xe) AJ σ' H' s'):Inv X pins σ' H' s':=
 have ok:=I.ok
 ⟨⟨ok.mod,ok.kind,ok.glob,ok.blt,ok.above,ok.inj,ok.has,ok.JU,I0.ok.hd,ok.frames,ok.G5,ok.Ko,ok.bs,ok.AH,ok.wa,ok.wb,ok.lF,ok.DS⟩,I.os,I.bare,I.base,I.loc,I.cell,I.free,I.iF,
  fun p hp=>I.pin p (cQ _ (cQ _ hp)),I.cw,I.len⟩
theorem SP.jO {D:Ends}{f:Flow}{s':Shared}(h:SP (X.wx xe (X.pn ++ pins)) [] D f s'):SP X pins D f s':=by
 cases f with
 |next=>obtain⟨σ',H',I,q⟩:=h; exact⟨σ',H',I.jO,q⟩
 |brk=>obtain⟨σ',H',I,q⟩:=h; exact⟨σ',H',I.jO,q⟩
 |cont=>obtain⟨σ',H',I,q⟩:=h; exact⟨σ',H',I.jO,q⟩
 |ret u=>obtain⟨v,σ',H',I,r,q⟩:=h; exact⟨v,σ',H',I.jO,r,q⟩
theorem Inv.renamed {h5:Heap}{m5:Str->Option Value}{t':Nat}(I:Inv X pins σ H s)(n5:h5.Ns X.env.locals m5)(sb:Heap.SameBut X.env.locals s.heap h5):Inv X pins (List.replicate X.N.length none) H {s with heap:=h5,toks:=t'}:=by
 have low: ∀c o,X.s₀.heap.get? c=some o->c≠X.env.locals:=fun c o z=>a0 (ba (aK z) I.ok.above)
 refine⟨I.ok,I.os,I.bare,⟨fun c o z n hc hx=>(sb.2 c (low c o z)).trans (I.base.keep c o z n hc hx),fun c o z n hc hx=>?_,I.base.free,fun c o z hx=>?_,I.base.pX,I.base.oT,I.base.oU⟩,⟨m5,n5,fun i x v h1 h2 _=>?_⟩,fun x c z=>?_,I.free,I.iF,fun p hp=>?_,fun c u z=>?_,?_⟩
 ·obtain⟨sl,e⟩:=I.base.slot c o z n hc hx
  exact⟨sl,(sb.2 c (low c o z)).trans e⟩
 ·obtain⟨o',e⟩:=I.base.there c o z hx
  exact⟨o',(sb.2 c (low c o z)).trans e⟩
 ·rw[List.getElem?_replicate] at h2
  split at h2 <;> cases h2
 ·obtain⟨v,w⟩:=I.cell x c z
  exact⟨v,w.sameBut sb (I.Ma x c z)⟩
 ·obtain⟨w1,w2,w3,w4⟩:=I.pin p hp
  exact⟨(sb.2 _ w3).trans w1,w2,w3,w4⟩
 ·refine(I.cw c u z).tj (fun d o hd w=>(sb.2 d (fun q=>?_)).trans w) (fun _ q=>q) fun _ _ q=>q
  rcases hd with hd|hd
  ·rw[← hd,q,I.free] at z
   cases z
  ·rw[q,I.free] at hd
   cases hd
 ·rw[eN]
theorem land (sk:X.stack=X.env :: X.outer)(Ct:X.env.frame=some X.env.locals){e:Value}{s':Shared}(I:Inv X pins σ H s)(c:mi X.prog X.w X.mg X.stack H s E e s'){hs:List ExceptHandler}{Q:Flow->Shared->Prop}
  (q: ∀(a C dx T:Addr) (vs:Array Value) (H':Hp) (s3:Shared),e= .ref a->Inv X pins σ H' s3->iR s3.heap a (.ref C) (some dx) vs->vs[1]? =some (.ref T)->J0 s3.heap T .none->T≠a->s.heap.objs.size<=a->s.heap.objs.size<=T->H' a=none->H' T=none->
   (vs[2]? =some .none∨X.mg "Needed"=some (.ref C))->E (.ref C) (some dx) H'->wpAny (model X.prog X.w) X.A (handleBy e X.env hs) Q xe s3):
  wpAny (model X.prog X.w) X.A (noteFrame e X.env) (fun _ s2=>wpAny (model X.prog X.w) X.A (setFlight e none) (fun _ s3=>wpAny (model X.prog X.w) X.A (handleBy e X.env hs) Q xe s3) xe s2) xe s':=by
 obtain⟨a,C,dx,H2,rfl,ho,hg,u,cw,⟨vs,T,x,h1,ft,ne,na,nT,Ha,HT,h2⟩,z⟩:=c
 have I2:=I.DT (ch:=[]) ho u cw hg (fun b z=>absurd z (by simp))
 have st:=I2.stack
 rw[sk] at st
 have Pn:a < s'.heap.objs.size:=by
  obtain⟨o,z,_⟩:=x
  exact aK z
 have Vr:s.heap.objs.size<=s'.heap.objs.size:=aY na (dG Pn)
 refine Mo (base:=X.base) (outer:=X.outer) (by rw[I.ok.frames,sk]) st Ct x h1 ft ne fun h3 T' b x3 hT t3=>?_
 have Pp:T'≠a:=by
  rw[hT]
  exact(a0 Pn).symm
 have XZ:H2 T'=none:=I2.cw.fresh (iA hT.symm)
 have Z8:=I2.jM (iA hT.symm)
 have b':mN (CB X.stack) [T,a] s'.heap h3:=by
  rw[sk]
  exact b
 have I3:=I2.but b' (fun c hc=>by
  rcases aw.mp hc with rfl|hc
  ·exact⟨HT,I.jM nT⟩
  ·rw[ak.mp hc]
   exact⟨Ha,I.jM na⟩)
 refine u6 (s:={s' with heap:=h3}) x3 (pz (eY h1)) t3 fun h4 b4 t4 _=>?_
 have I4:=I3.but (h':=h4) (own:=[T']) (b4.mono (fun _ z=>absurd z (by simp)) (fun _ z=>z)) (fun c hc=>by
  rw[ak.mp hc]
  exact⟨XZ,Z8⟩)
 refine q a C dx T' _ H2 _ rfl I4 (x3.but b4 (by simpa using Pp.symm)) (pz (eY h1)) t4 Pp na (by rw[hT]; exact Vr) Ha XZ ?_ z
 rw[qx (by decide)]
 exact h2
end
section
variable {X:Cx}{R:Addr}{n x:Str}{i k:Nat}{p1 p2 p3 p4 p5 pos gv:Pos}{body:List Stmt}{t:XK->TS}{E:XK}{CN:Addr}{txt:Str}
def Rh (K:PySem.W.Frag)(R:Addr)(D:Ends):XK:=fun c d H'=> ∃(C dx:Addr) (txt:Str),c= .ref C/\d=some dx/\gN K C R/\H' dx=some (.xd [("text",.str txt)])/\D.rt (.str txt) H'
def La (K:PySem.W.Frag)(R:Addr)(t:XK->TS):TS:=fun D σ H=>t (Rh K R D) D σ H
theorem FX (sk:X.stack=X.env :: X.outer)(Ct:X.env.frame=some X.env.locals)(hc:X.calm=true)(hN:X.N.Nodup)(hi:X.N[i]? =some n)(hl:X.env.scope.names.lookup n=some .local)(hg:Gl X x)(hm:X.mg x=some (.ref R))(kR:gN X.K R R)
  (hb: ∀(xe:Value->Shared->Prop) (pn:List (Addr×Obj)) (E:XK),Passes (mi X.prog X.w X.mg) (X.wx xe pn) E->oV (X.wx xe pn) body (t E)) (hd:(n == ("__debug__":Str))=false:=by decide) (rg:(n == ("__classdict__":Str))=false:=by decide) (hx:(x == ("__debug__":Str))=false:=by decide):
  PS X (.Try body [.ExceptHandler (some (.Name x p1)) (some n) [.Return (some (.Attribute (.Name n p2) "text" p3)) p4] p5] [] [] pos) (La X.K R t):=by
 intro pins s σ H D I h
 refine wpAny_Try_except (cf (hb (fun e s1=>wpAny (model X.prog X.w) X.A (noteFrame e X.env) (fun _ s2=>wpAny (model X.prog X.w) X.A (setFlight e none) (fun _ s3=>
  wpAny (model X.prog X.w) X.A (handleBy e X.env [.ExceptHandler (some (.Name x p1)) (some n) [.Return (some (.Attribute (.Name n p2) "text" p3)) p4] p5]) (SP X pins D) X.xe s3) X.xe s2) X.xe s1) (X.pn ++ pins) (Rh X.K R D) ?_ [] s σ H D (I.wx _) h) (fun f s1 q=>?_) fun _ _ z=>z)
 ·rintro Ri σ1 H1 s1 e s2 I1 cx
  refine land sk Ct I1.jO cx fun a C dx T vs H2 s3 he I3 x3 h1 ft ne na nT Ha HT h2 z=>?_
  subst he
  obtain⟨C',dx',txt,e1,e2,ek,ed,q⟩:=z
  cases e1
  cases e2
  obtain⟨oe,Vs,Pa,NU,Rj⟩:=id x3
  have cC:=ek.on
  have cR:=kR.on
  obtain⟨_,_,_,_,_,_,_,_,_,_,_,_,_,_,_,cC⟩:=cC
  obtain⟨_,_,_,_,_,_,_,_,_,_,_,_,_,_,_,cR⟩:=cR
  have nw:=I1.jO.jM na
  have Im:=I3.J2 (l:=[(a,oe)]) (.ref a) (fun _ _=>False) (fun p hp=>by
   rw[ak.mp hp]
   exact⟨Vs,Ha,nw.2.1,I1.jO.Fj na,fun v z=>by rw[Rj] at z; cases z⟩)
  refine wpAny_handleBy_cons (codeAny_handlers_test (jk Im hg hm ?_ hx)) (by intro q; cases q)
  obtain⟨hp,g,d,tk,os⟩:=s3
  refine xT (cC _ I3.gE).at_ (cR _ I3.gE).at_ x3 (cR _ I3.gE).b (cC _ I3.gE).up ?_
  refine codeAny_handlers_suite_as ?_
  refine u6 x3 h1 ft fun h4 b4 t4 _=>?_
  have Lb:=I1.jO.jM nT
  have I4:=Im.but (h':=h4) (own:=[T]) (b4.mono (fun _ z=>absurd z (by simp)) (fun _ z=>z)) (fun c hc=>by
   rw[ak.mp hc]
   refine⟨HT,Lb.1,Lb.2.1,Lb.2.2.1,fun p hp=>?_⟩
   rw[bP] at hp
   rcases bA.mp hp with hp|hp
   ·exact Lb.2.2.2 p hp
   ·rw[ak.mp hp]
    exact ne.symm)
  refine ur (X:=X.J2 (.ref a) (X.pn ++ pins ++ [(a,oe)]) (fun _ _=>False)) (v:= .ref a) I4 hN hi (.inl hl) rfl (fun s5 I5=>?_) (.inr hl)
  have pe:PE (X.J2 (.ref a) (X.pn ++ pins ++ [(a,oe)]) (fun _ _=>False)) (.Attribute (.Name n p2) "text" p3) (fun σ H Q=>σ[i]? =some (some (.ref a))/\H dx=some (.xd [("text",.str txt)])/\Q (.str txt) H):=by
   rintro Mp s6 σ6 H6 Q6 J ⟨e1,e2,q6⟩
   refine D0 rfl (dP (CC (X:=X.J2 (.ref a) (X.pn ++ pins ++ [(a,oe)]) (fun _ _=>False)) hi (.inl hl) hd rg Mp s6 σ6 H6 (fun v H'=>v= .ref a/\H'=H6) J ⟨_,e1,rfl,rfl⟩) ?_)
   rintro u s7 ⟨v,H7,J7,rv,rfl,rfl⟩
   obtain rfl:u=Value.ref a:=rv
   obtain⟨w1,_⟩:=J7.pin (a,oe) (cQ _ (bo _ (ak.mpr rfl)))
   obtain⟨mA,n1,rl⟩:=J7.cw dx _ e2
   have rt:=rl "text"
   have lk:List.lookup ("text":Str) [("text",V.str txt)]=some (V.str txt):=by simp[List.lookup]
   rw[lk] at rt
   cases Vt:mA "text" with
   |none=>rw[Vt] at rt; exact False.elim rt
   |some u7=>
    rw[Vt] at rt
    obtain⟨tk7,rfl⟩: ∃tk,u7=Value.str txt tk:=rt
    obtain⟨hp7,g7,d7,t7,os7⟩:=s7
    refine K7 PySem.F.attr_Exception.ga (cC _ J7.gE).b (cC _ J7.gE).at_ (k7 J7.gE ek.ga) (k7 J7.gE ek.gk) (k7 J7.gE ek.tx) ⟨oe,w1,Pa,NU,Rj⟩ n1.ns Vt rfl ?_
    exact⟨.str txt,H7,J7.tok _,⟨_,rfl⟩,q6⟩
  have hlen:i < σ1.length:=by
   rw[I1.len]
   exact(au.mp hi).1
  refine wpAny_mono (ao (a6 pe) [] s5 _ H2 {nx:=fun _ _=>False,rt:=fun v H'=>v= .str txt/\H'=H2} I5 ⟨by simp[hlen],ed,rfl,rfl⟩) (fun f s6 q6=>?_) fun _ _ z=>z.elim
  cases f with
  |next=>obtain⟨_,_,_,z⟩:=q6; exact z.elim
  |brk=>obtain⟨_,_,_,z⟩:=q6; exact z.elim
  |cont=>obtain⟨_,_,_,z⟩:=q6; exact z.elim
  |ret u=>
   obtain⟨v,σ6,H6,I6,rv,rfl,rfl⟩:=q6
   have I7:Inv X pins σ6 H6 s6:=Inv.Rg I3 I6
   obtain⟨m6,n6,_⟩:=id I7.loc
   have kd:(X.env.scope.kind == .class || (X.env.scope.kind == .module && X.env.locals != X.env.globals))=false:=by
    rw[I.ok.kind]
    rfl
   refine wpAny_nameGoes hl n6 kd fun h7 m7 n7 sb=>?_
   exact⟨.str txt,_,H6,I7.renamed n7 sb,rv,q⟩
 ·have q':=SP.jO q
  cases f with
  |next=>exact jb q'
  |brk=>exact q'
  |cont=>exact q'
  |ret u=>exact q'
def IB (CT CN:Addr)(txt:Str)(E:XK):XK:=fun c d H'=>c= .ref CT/\ ∀dx,H' dx=none->E (.ref CN) (some dx) (upd H' dx (.xd [("text",.str txt)]))
def FY (CT CN:Addr)(txt:Str)(E:XK)(t:XK->TS):TS:=fun D σ H=>t (IB CT CN txt E) D σ H
theorem Bc {CT:Addr}{kk:_}(T:Pm X E)(hc:X.calm=true)(hg:Gl X x)(hm:X.mg x=some (.ref CT))(kT:gN X.K CT R)(iZ:X.mg "Needed"≠some (.ref CT))(M:Iz X.prog X.w X.K X.mg X.base k "Needed" CN R txt)(hr:hJ (k + 1) X.A)(Z9:Gl X "Needed")
  (hb: ∀(xe:Value->Shared->Prop) (pn:List (Addr×Obj)) (E:XK),Passes (mi X.prog X.w X.mg) (X.wx xe pn) E->oV (X.wx xe pn) body (t E)) (hx:(x == ("__debug__":Str))=false:=by decide):
  PS X (.Try body [.ExceptHandler (some (.Name x p1)) none [.Raise (some (.Call (.Name "Needed" p2) [] [] gv)) (some (.Constant .none kk p3)) p4] p5] [] [] pos) (FY CT CN txt E t):=by
 intro pins s σ H D I h
 refine wpAny_Try_except (cf (hb (fun e s1=>wpAny (model X.prog X.w) X.A (noteFrame e X.env) (fun _ s2=>wpAny (model X.prog X.w) X.A (setFlight e none) (fun _ s3=>
  wpAny (model X.prog X.w) X.A (handleBy e X.env [.ExceptHandler (some (.Name x p1)) none [.Raise (some (.Call (.Name "Needed" p2) [] [] gv)) (some (.Constant .none kk p3)) p4] p5]) (SP X pins D) X.xe s3) X.xe s2) X.xe s1) (X.pn ++ pins) (IB CT CN txt E) ?_ [] s σ H D (I.wx _) h) (fun f s1 q=>?_) fun _ _ z=>z)
 ·rintro Ri σ1 H1 s1 e s2 I1 cx
  refine land T.G5 T.XW I1.jO cx fun a C dx T0 vs H2 s3 he I3 x3 h1 ft ne na nT Ha HT h2 z=>?_
  subst he
  obtain⟨e1,q⟩:=z
  cases e1
  have v2:vs[2]? =some .none:=h2.elim id (fun z=>absurd z iZ)
  obtain⟨oe,Vs,Pa,NU,Rj⟩:=id x3
  obtain⟨_,_,_,_,_,_,_,_,_,_,_,_,_,_,_,cT⟩:=kT.on
  obtain⟨nm,qn,N,bs,bm,sn,sub,ab,col,dd,k0,k1,k2,k3,k5,cN⟩:=M.ek.on
  have nw:=I1.jO.jM na
  have Vu: ∀p∈[(a,oe)],s3.heap.get? p.1=some p.2/\H2 p.1=none/\p.1≠X.env.locals/\p.1∉X.fs/\ ∀v,p.2.data≠ .cell v:=fun p hp=>by
   rw[ak.mp hp]
   exact⟨Vs,Ha,nw.2.1,I1.jO.Fj na,fun v z=>by rw[Rj] at z; cases z⟩
  have Im:=I3.J2 (l:=[(a,oe)]) (.ref a) X.xe Vu
  refine wpAny_handleBy_cons (codeAny_handlers_test (jk Im hg hm ?_ hx)) (by intro q; cases q)
  obtain⟨hp,g,d,tk,os⟩:=s3
  refine xT (b:=true) (cT _ I3.gE).at_ (cT _ I3.gE).at_ x3 (cT _ I3.gE).b (by simp) ?_
  refine codeAny_handlers_suite ?_
  refine u6 x3 h1 ft fun h4 b4 t4 _=>?_
  have Lb:=I1.jO.jM nT
  have I4:=Im.but (h':=h4) (own:=[T0]) (b4.mono (fun _ z=>absurd z (by simp)) (fun _ z=>z)) (fun c hc=>by
   rw[ak.mp hc]
   refine⟨HT,Lb.1,Lb.2.1,Lb.2.2.1,fun p hp=>?_⟩
   rw[bP] at hp
   rcases bA.mp hp with hp|hp
   ·exact Lb.2.2.2 p hp
   ·rw[ak.mp hp]
    exact ne.symm)
  refine wpAny_passesOwnAt (T.ownAt (some (.ref a))) ?_
  have ps:PS (X.J2 (.ref a) (X.pn ++ pins ++ [(a,oe)]) X.xe) (.Raise (some (.Call (.Name "Needed" p2) [] [] gv)) (some (.Constant .none kk p3)) p4) (fun _ _ H=> ∀dx,H dx=none->E (.ref CN) (some dx) (upd H dx (.xd [("text",.str txt)]))):=by
   intro Mp s6 σ6 H6 D6 J h6
   rw[arm_exec_Raise]
   refine az (ie (C5 (C:=CN) (e0:=a) (nm:=nm) (q:=qn) (N:=N) (bs:=bs) (bm:=bm) (oa:=true) (sn:=sn) (sub:=sub) (ab:=ab) (col:=col) (dd:=dd) (k0:=k0) (k1:=k1) (k2:=k2) (k3:=k3) (k5:=k5) (newId:="Exception.__new__") (cN _ J.gE).b rfl (fun Rr s7 z=>az (Constant_none (az (ie (bB z))))) (az (IA (X:=X.J2 (.ref a) (X.pn ++ pins ++ [(a,oe)]) X.xe) M (hr.mark _) Z9 (by decide) J fun s7 e Vv t' he Cu hz ne7 I7 x7=>az (ie (bB ?_))))))
   obtain⟨w1,_⟩:=I7.pin (a,oe) (cQ _ (bo _ (ak.mpr rfl)))
   have w0:=(J.pin (a,oe) (cQ _ (bo _ (ak.mpr rfl)))).1
   have nea:e≠a:=fun q=>by
    rw[q] at he
    exact absurd (aK w0) (xu.mpr he)
   refine⟨e,some Vv,v0 t',.ref CT,some dx,vs,rfl,nea,(cN _ I7.gE).at_,x7,rfl,rfl,⟨oe,w1,Pa,NU,Rj⟩,v2,fun h8 b8 x8=>?_⟩
   have Hz:upd H6 Vv (.xd [("text",.str txt)]) e=none:=by
    rw[aA ne7.symm]
    exact hz
   have I8:=I7.but (h':=h8) (own:=[e]) (b8.mono (fun _ z=>absurd z (by simp)) (fun _ z=>z)) (fun c hc=>by
    rw[ak.mp hc]
    exact⟨Hz,J.jM he⟩)
   exact T.l7 (Inv.Rg I3 I8) x8 rfl (.inr M.XY) (aY J.sz he) Hz (h6 Vv Cu)
  refine cf (ao ps [] _ _ H2 {nx:=fun _ _=>False,rt:=fun _ _=>False} I4 q) (fun f s9 z=>?_) fun _ _ z=>z
  cases f with
  |next=>obtain⟨_,_,_,z⟩:=z; exact z.elim
  |brk=>obtain⟨_,_,_,z⟩:=z; exact z.elim
  |cont=>obtain⟨_,_,_,z⟩:=z; exact z.elim
  |ret u=>obtain⟨_,_,_,_,_,z⟩:=z; exact z.elim
 ·have q':=SP.jO q
  cases f with
  |next=>exact jb q'
  |brk=>exact q'
  |cont=>exact q'
  |ret u=>exact q'
end
open PySem.W
def BMain (mg:Str->Option Value)(h:Heap):Prop:= ∃bm o,mg "__builtins__"=some (.ref bm)/\bm≠builtinsNs/\bm≠mainGlobals/\h.get? bm=some o/\o.cls= .type "module"/\o.dict=some builtinsNs/\o.data= .plain
abbrev xV (c:Addr)(qual:Str):HO:= .ext fun h=>h.CodeRec (.ref c) qual
theorem IC {P:Program}{w:World}{H:Hp}{h:Heap}{c:Addr}{qual:Str}(x:h.CodeRec (.ref c) qual):dr P w H h c (xV c qual):=by
 refine⟨x,?_,fun h1 h2 z k=>?_⟩
 ·obtain⟨c',o,vs,t,e,g,_⟩:=x
  cases e
  exact⟨o,g⟩
 ·obtain⟨c',o,vs,t,e,g,r⟩:=z
  cases e
  exact⟨c,o,vs,t,rfl,k o g,r⟩
def Tb (H:Hp)(P:Addr)(pos:Pos)(qual:Str):Prop:= ∃ps:Array Value,H P=some (.nJ ps)/\TriplesOk ps.toList/\(codeAmong pos ps.toList=none∨ ∃c',codeAmong pos ps.toList=some (.ref c')/\H c'=some (xV c' qual))
section
variable {X:Cx}{pins:List (Addr×Obj)}{σ:St}{H:Hp}{s:Shared}{c P:Addr}{params:Arguments}{body:Expr}{scope:Scope}{pos:Pos}{Q:Value->Shared->Prop}{xe:Value->Shared->Prop}
theorem BMain.at {mg:Str->Option Value}{h h':Heap}(B:BMain mg h)(k: ∀b o,h.get? b=some o->h'.get? b=some o){ps:Array Value}(hP:h'.get? P=some (tabObj ps)):h'.BuiltinsAt mg P:=by
 obtain⟨bm,o,b1,b2,b3,b4,b5,b6,b7⟩:=B
 refine⟨bm,o,b1,b2,b3,fun z=>?_,k _ _ b4,b5,b6,b7⟩
 have e:=k _ _ b4
 rw[z,hP] at e
 cases e
 cases b5
theorem ID (I:Inv X pins σ H s)(B:BMain X.mg X.base)(Ex:X.env.code= .ref c)(C:CodeHd X.base c P)(tb:Tb H P pos (X.env.qual ++ "<lambda>"))(NV:defaultsOf params X.env=([],[]))(qz:closureFor scope X.env=pure [])
  (q: ∀(f c':Addr) (Ey:Value) (H':Hp) (s':Shared),Inv X pins σ H' s'->Frame [P] H H'->Tb H' P pos (X.env.qual ++ "<lambda>")->H' f=none->s'.heap.get? f=some (kla_obj "<lambda>" (X.env.qual ++ "<lambda>") params body scope [] ((X.mg "__name__").getD .none) c' Ey)->
   H' c'=some (xV c' (X.env.qual ++ "<lambda>"))->s.heap.objs.size<=f->Q (.ref f) s'):wpAny (model X.prog X.w) X.A (eval (.Lambda params body scope pos) X.env) Q xe s:=by
 obtain⟨ps,hP,ht,hc⟩:=tb
 have To:s.heap.get? P=some (tabObj ps):=I.cw P _ hP
 have hg:s.heap.Ns mainGlobals X.mg:=I.mod.glob.keeps I.bk
 have hgP:mainGlobals≠P:=fun z=>by
  obtain⟨o,es,ep,e,hd,_⟩:=hg
  rw[z,To] at e
  cases e
  cases hd
 have hB:=B.at I.bk To
 refine kla_eval NV ?_
 rcases hc with hn|⟨c',hf,Tp⟩
 ·refine kla_makeFunction qz I.ok.glob hg Ex (C.keeps I.bk) To ht hn hgP hB fun c' Ey h' tk hx NB iO Vw Pq=>?_
  have Vx:H c'=none:=I.cw.fresh NB
  have cP:c'≠P:=fun z=>by rw[z,hP] at Vx; cases Vx
  have lt: ∀b o,s.heap.get? b=some o->b≠c':=fun b o z=>a0 (ba (aK z) NB)
  have same: ∀b,b≠P->b≠c'->upd (upd H P (.nJ (ps ++ #[rawInt pos.line,rawInt pos.col,.ref c']))) c' (xV c' (X.env.qual ++ "<lambda>")) b=H b:=fun b n1 n2=>by rw[aA n2,aA n1]
  have Lc: ∀b u,H b=some u->u≠ .nJ ps->b≠P:=fun b u z n w=>by
   rw[w,hP] at z
   cases z
   exact n rfl
  have FZ: ∀b u,H b=some u->b≠c':=fun b u z=>aJ z Vx
  generalize Tn:kla_obj "<lambda>" (X.env.qual ++ "<lambda>") params body scope [] ((X.mg "__name__").getD .none) c' Ey=ob
  have hf:(h'.push ob).get? h'.objs.size=some ob:=by
   rw[← Tn]
   exact bK _ rfl
  have kp: ∀b o,b≠P->s.heap.get? b=some o->(h'.push ob).get? b=some o:=fun b o n z=>ay _ (hx b o n z)
  have Rk:(h'.push ob).get? P=some (tabObj (ps ++ #[rawInt pos.line,rawInt pos.col,.ref c'])):=ay _ Pq
  have I2:Inv X pins σ (upd (upd H P (.nJ (ps ++ #[rawInt pos.line,rawInt pos.col,.ref c']))) c' (xV c' (X.env.qual ++ "<lambda>"))) {s with heap:=h'.push ob,toks:=tk}:=by
   refine I.un ⟨fun b o z n _ _=>kp b o (fun w=>by rw[w,hP] at n; cases n) z,fun b o z n _ _=>⟨o.slots,kp b o (fun w=>by rw[w,hP] at n; cases n) z⟩,fun b o z n _=>?_,fun b o z _=>?_,fun b xs z=>?_,fun b o u z=>?_,fun b qs z=>?_⟩ fun b u z=>?_
   ·rw[same b (fun w=>by rw[w,hP] at n; cases n) (lt b o z)]
    exact n
   ·by_cases w:b=P
    ·rw[w]
     exact⟨_,Rk⟩
    ·exact⟨o,kp b o w z⟩
   ·rw[same b (Lc b _ z (by intro w; cases w)) (FZ b _ z)]
    exact z
   ·rw[same b (Lc b _ z (by intro w; cases w)) (FZ b _ z)]
    exact z
   ·by_cases w:b=P
    ·rw[w] at z ⊢
     rw[hP] at z
     cases z
     exact⟨_,by rw[aA cP.symm,ag]⟩
    ·exact⟨#[],by rw[same b w (FZ b _ z),z]; simp⟩
   ·by_cases w:b=c'
    ·subst w
     rw[ag] at z
     cases z
     exact IC (Vw.push ob)
    ·rw[aA w] at z
     by_cases w2:b=P
     ·subst w2
      rw[ag] at z
      cases z
      exact Rk
     ·rw[aA w2] at z
      refine(I.cw b u z).tj (fun d o hd y=>kp d o (fun w3=>?_) y) (fun d y=>?_) fun d xs y=>?_
      ·rcases hd with hd|hd
       ·exact w2 (hd▸w3)
       ·rw[w3,hP] at hd
        cases hd
      ·rw[same d (Lc d _ y (by intro w; cases w)) (FZ d _ y)]
       exact y
      ·rw[same d (Lc d _ y (by intro w; cases w)) (FZ d _ y)]
       exact y
  have Kq:H h'.objs.size=none:=I.cw.fresh (aY NB (dG iO))
  refine q h'.objs.size c' Ey _ _ I2 (fun b o nb z=>?_) ⟨ps ++ #[rawInt pos.line,rawInt pos.col,.ref c'],by rw[aA cP.symm,ag],?_,.inr ⟨c',?_,ag⟩⟩ ?_ (by rw[Tn]; exact hf) ag (aY NB (dG iO))
  ·rw[same b (fun w=>nb (by rw[w]; exact ak.mpr rfl)) (FZ b _ z)]
   exact z
  ·rw[Array.toList_append]
   exact TriplesOk_snoc _ _ _ _ ht
  ·rw[Array.toList_append]
   exact codeAmong_snoc _ ht hn
  ·rw[same _ (fun w=>by rw[w,hP] at Kq; cases Kq) (pO iO)]
   exact Kq
 ·refine kla_makeFunctionHit qz I.ok.glob hg Ex (C.keeps I.bk) To ht hf hB fun Ey h' tk hk hsz=>?_
  have I2:=(I.kept (t':=tk) (h':=h'.push (kla_obj "<lambda>" (X.env.qual ++ "<lambda>") params body scope [] ((X.mg "__name__").getD .none) c' Ey)) fun b u z=>ay _ (hk b u z))
  exact q h'.objs.size c' Ey H _ I2 Frame.refl ⟨ps,hP,ht,.inr ⟨c',hf,Tp⟩⟩ (I.cw.fresh hsz) (bK _ rfl) Tp hsz
theorem IE {A:Around}{name qual:Str}{pm Ey:Value}{f c':Addr}{N ps:List Str}{us:List Value}{vs:List V}{t:TE}{R:VK}(I:Inv X pins σ H s)(e0:qe X.prog X.w X.K X.mg X.base A X.stack s H)(Tq:A.depth < recursionLimit)
  (ho:s.heap.get? f=some (kla_obj name qual params body scope [] pm c' Ey)) (rg:s.heap.CodeRec (.ref c') qual) (S:aS N ps scope) (hb:bindArgs (kla_fn name qual params body scope [] pm (.ref c') Ey) ⟨us,[]⟩=pure (ps.zip us)) (hl:vs.length=ps.length) (r:Vals vs us)
  (fN:PE (va X.prog X.w X.K X.mg X.base N qual scope f (.ref c') A X.stack s H E0).DV body t) (h:t (start N vs) H R):wpAny (model X.prog X.w) A (call (.ref f) us) (EP X pins σ R) xe s:=by
 have lim:s.heap.NoLimit:=I.nolimit
 have mB: ∀y∈ps.zip us,scope.names.lookup y.1=some .local∨(scope.names.lookup y.1=some .cell/\((cellsFrom (s.heap.objs.size + 1) scope.names []).lookup y.1).isSome=true):=fun⟨n,v⟩ hy=>by
  rcases S.par n (nU hy).1 with q|q
  ·exact .inl q
  ·exact .inr ⟨q,kN _ _ _ (.inl q)⟩
 refine DR (kla_callFunE Tq ho rfl S.co S.gen rfl rg ?_)
 rw[hb]
 refine bB ?_
 refine sZ S.kind mB fun env he s1 y=>?_
 subst he
 refine⟨lim.keeps y.toInCall.keep,kla_codeExpr ?_⟩
 have J:Inv (va X.prog X.w X.K X.mg X.base N qual scope f (.ref c') A X.stack s H E0) [] (start N vs) H s1:=vb S e0 hl r y
 refine cf (fN [] s1 (start N vs) H R (J.uu _) h) (fun v s' hs=>?_) fun e s' hs=>hs.elim
 obtain⟨v',H',J',rv,q'⟩:=hs
 exact I.after ⟨v',H',J'.os,J'.bare,J'.base,J'.cw,rv,q'⟩
end
section
variable {X:Cx}{pins:List (Addr×Obj)}{σ:St}{H:Hp}{s:Shared}
theorem Inv.Rl {D:Addr}{o:HO}(I:Inv X pins σ H s)(hn:H D=none)(ok:dr X.prog X.w (upd H D o) s.heap D o)(nw:(D∈X.ex∨X.s₀.heap.objs.size<=D)/\D≠X.env.locals/\(∀x k,X.env.cells.lookup x=some k->k≠D)/\ ∀p∈X.pn ++ pins,p.1≠D)
  (hx:X.s₀.heap.objs.size<=D):Inv X pins σ (upd H D o) s:=by
 have off: ∀b u,H b=some u->b≠D:=fun b u z=>aJ z hn
 have low: ∀b ob,X.s₀.heap.get? b=some ob->b≠D:=fun b ob z=>a0 (ba (aK z) hx)
 refine⟨I.ok,I.os,I.bare,⟨I.base.keep,I.base.slot,fun b ob z n hb=>?_,I.base.there,fun b xs z=>?_,fun b ob u z=>?_,fun b ps z=>?_⟩,I.loc,I.cell,?_,fun x k z=>?_,fun p hp=>?_,fun b u z=>?_,I.len⟩
 ·rw[aA (low b ob z)]
  exact I.base.free b ob z n hb
 ·have w:=I.base.pX b xs z
  rw[aA (off b _ w)]
  exact w
 ·have w:=I.base.oT b ob u z
  rw[aA (off b _ w)]
  exact w
 ·obtain⟨m,w⟩:=I.base.oU b ps z
  exact⟨m,by rw[aA (off b _ w)]; exact w⟩
 ·rw[aA nw.2.1.symm]
  exact I.free
 ·rw[aA (nw.2.2.1 x k z)]
  exact I.iF x k z
 ·obtain⟨w1,w2,w3⟩:=I.pin p hp
  exact⟨w1,by rw[aA (nw.2.2.2 p hp)]; exact w2,w3⟩
 ·by_cases q:b=D
  ·subst q
   rw[ag] at z
   cases z
   exact ok
  ·rw[aA q] at z
   exact(I.cw b u z).tj (fun _ _ _ w=>w) (fun d w=>by rw[aA (off d _ w)]; exact w) fun d xs w=>by rw[aA (off d _ w)]; exact w
theorem Frame.sql {K:PySem.W.Frag}{fp:List Addr}{H H':Hp}{a:Addr}{xs:List V}(f:Frame fp H H')(h:bE K H a xs)(ha: ∀o,H a=some o->a∉fp):bE K H' a xs:=by
 rcases h with(h|⟨o,h⟩)|h
 ·exact .inl (.inl (f _ _ (ha _ h) h))
 ·exact .inl (.inr ⟨o,f _ _ (ha _ h) h⟩)
 ·exact .inr h
theorem Tb.upd {P:Addr}{pos:Pos}{qual:Str}{p:Addr}{o:HO}(t:Tb H P pos qual)(hp:H p=none):Tb (upd H p o) P pos qual:=by
 obtain⟨ps,h1,h2,h3⟩:=t
 refine⟨ps,by rw[aA (aJ h1 hp)]; exact h1,h2,?_⟩
 rcases h3 with h3|⟨c',h3,h4⟩
 ·exact .inl h3
 ·exact .inr ⟨c',h3,by rw[aA (aJ h4 hp)]; exact h4⟩
theorem Frame.new {fp:List Addr}{H H':Hp}{p:Addr}{o:HO}(f:Frame fp H H')(hp:H' p=none):Frame fp H (L2.upd H' p o):=fun b u hb z=>by
 have w:=f b u hb z
 rw[aA (aJ w hp)]
 exact w
end
def Mq (K:PySem.W.Frag)(P:Addr)(pos:Pos)(qual:Str)(N:List Str)(tb:TE)(Q:VK)(x:V)(H1:Hp):Prop:= ∃(a:Addr) (xs:List V) (ts:List (List Int)) (key:List Int->Int),x= .ref a/\bE K H1 a xs/\xs.length < 64/\ts.length=xs.length/\Tb H1 P pos qual/\
 (∀t∈ts,t≠[])/\(∀t∈ts,∀u∈ts,HT.lexLt t u=decide (key t < key u))/\
 (∀i,i < xs.length-> ∀H2,Frame [P] H1 H2-> ∀R:VK,(∀p,H2 p=none->R (.ref p) (upd H2 p (.tup ((ts.getD i []).map V.int))))->tb (start N [xs.getD i .d8]) H2 R)/\
 ∀(D:Addr) (p:List Nat) (H2:Hp),p.Perm (List.range xs.length)->p.Pairwise (fun i j=>key (ts.getD i [])<=key (ts.getD j []))->Frame [P] H1 H2->Tb H2 P pos qual->H1 D=none->H2 D=some (.lst (p.map fun i=>xs.getD i .d8))->Q (.ref D) H2
def IF (K:PySem.W.Frag)(P:Addr)(pos:Pos)(qual:Str)(N:List Str)(ta tb:TE):TE:=fun σ H Q=>ta σ H (Mq K P pos qual N tb Q)
theorem fZ.snoc {H:Hp}: ∀{ts:List (List Int)} {xs:List V} {t:List Int} {p:Addr},fZ H ts xs->H p=some (.tup (t.map V.int))->fZ H (ts ++ [t]) (xs ++ [.ref p])
 |_,_,_,p,.nil,h=> .cons ⟨p,rfl,h⟩ .nil
 |_,_,_,p,.cons a r,h=> .cons a (fZ.snoc r h)
theorem take_succ_getD {α:Type}{l:List α}{i:Nat}{d:α}(h:i < l.length):l.take (i + 1)=l.take i ++ [l.getD i d]:=by
 rw[Au,af h,aj,af h]
 rfl
section
variable {X:Cx}{c P:Addr}{params:Arguments}{body e:Expr}{scope:Scope}{p pos IG Qq:Pos}{ta tb:TE}{N:List Str}{y:Str}
theorem vc (hg:Gl X "sorted")(hm:X.mg "sorted"=none)(B:BMain X.mg X.base)(Ex:X.env.code= .ref c)(C:CodeHd X.base c P)(hr:eT 1 X.A)(S:aS N [y] scope)
  (fN: ∀(f c':Addr) (A:Around) (s:Shared) (H:Hp),PE (va X.prog X.w X.K X.mg X.base N (X.env.qual ++ "<lambda>") scope f (.ref c') A X.stack s H E0).DV body tb) (ha:PE X e ta)
  (hb: ∀(pm Ey u:Value) (c':Addr),bindArgs (kla_fn "<lambda>" (X.env.qual ++ "<lambda>") params body scope [] pm (.ref c') Ey) ⟨[u],[]⟩=pure ([y].zip [u]):=by intros; rfl)
  (NV:defaultsOf params X.env=([],[]):=by rfl) (qz:closureFor scope X.env=pure []:=by rfl)
  (he:backTo pos (starEach [e] X.env)=(false,eval e X.env) :: backTo pos (starEach [] X.env):=by rfl)
  (hs:starEach [e] X.env=(false,eval e X.env) :: starEach [] X.env:=by rfl) (uC:(backTo pos (starEach [e] X.env)).any (·.1)=false:=by rfl):
  PE X (.Call (.Name "sorted" p) [e] [⟨some "key",.Lambda params body scope IG,Qq⟩] pos) (IF X.K P IG (X.env.qual ++ "<lambda>") N ta tb):=by
 intro pins s σ H Q I h
 refine eo (oW I hg hm (u:= .builtin "sorted") (by rfl) ?_)
 refine PyProof.Rows.callWith_kw (dP ((aa ha av hs) pos pins s σ H (fun vs H1=>match vs with|[x]=>Mq X.K P IG (X.env.qual ++ "<lambda>") N tb Q x H1|_=>False) I h) fun us s1 h1=>?_) he uC rfl rfl
 obtain⟨vs,H1,I1,rv,q1⟩:=h1
 cases vs with
 |nil=>exact q1.elim
 |cons x vs=>
 cases vs with
 |cons _ _=>exact q1.elim
 |nil=>
 obtain⟨a,xs,ts,key,rfl,hS,Cs,iO,X0,iZ,HB,hbd,fin⟩:=q1
 obtain⟨u,rfl,ru⟩:=vals1 rv
 obtain rfl:u=Value.ref a:=ru
 show wpAny _ _ (evalAll [(do let v ← eval (.Lambda params body scope IG) X.env; standAt pos; pure v)]) _ _ s1
 refine wpAny_evalAll_cons (az (ID I1 B Ex C X0 NV qz fun f c' Ey H2 s2 I2 X1 tb2 Kq NT Tp hle=>az (ie (bB (wpAny_evalAll_nil ?_)))))
 show wpAny _ _ (call (.builtin "sorted") [.ref a] [(Str.ofString "key",.ref f)]) _ _ s2
 have aP: ∀o,H1 a=some o->a∉[P]:=fun o z w=>by
  obtain⟨ps,hP,_⟩:=X0
  have w':=ak.mp w
  rcases hS with(hS|⟨_,hS⟩)|⟨ob,_,_,hK,qz,_⟩
  ·rw[w',hP] at hS; cases hS
  ·rw[w',hP] at hS; cases hS
  ·have e1:=I1.gE _ _ hK
   have e2:s1.heap.get? P=some _:=I1.cw P _ hP
   rw[w',e2] at e1
   cases e1
   cases qz
 have NW:=X1.sql hS aP
 obtain⟨bY,Vy,pl,hz⟩:=I2.list NW
 have hl:=Vy.length
 have lf:f < s2.heap.objs.size:=aK NT
 have Vr:s1.heap.objs.size<=s2.heap.objs.size:=aY hle (dG lf)
 refine sortedK pl.isList (by lia) fun D kS e1 h' kp d1 k1 X2 Pr Tr=>?_
 have I3:=I2.kept (t':=s2.toks) kp
 have HD:H2 D=none:=I2.cw.fresh Pr
 have HK:H2 kS=none:=I2.cw.fresh Tr
 have Mr:=I2.jM Pr
 have NX:=I2.jM Tr
 have nwf:=I1.jM hle
 have fD:f≠D:=a0 (ba lf Pr)
 have fK:f≠kS:=a0 (ba lf Tr)
 have dp:X.A.in1.in1.depth < recursionLimit:=hr.depth
 generalize Rm:kla_obj "<lambda>" (X.env.qual ++ "<lambda>") params body scope [] ((X.mg "__name__").getD .none) c' Ey=Pt at NT
 have loop: ∀(r:List Value) (i:Nat) (ks:List Value) (a9:List V) (Hi:Hp) (si:Shared),r=bY.drop i->i<=xs.length->Inv X (pins ++ [(f,Pt),(D,seqObj "list" #[] e1)]) σ Hi si->(∃e,si.heap.get? kS=some (seqObj "list" ks.toArray e))->Hi kS=none->
   Frame [P] H1 Hi->Tb Hi P IG (X.env.qual ++ "<lambda>")->Hi c'=some (xV c' (X.env.qual ++ "<lambda>"))->fZ Hi (ts.take i) a9->Vals a9 ks->
   sH X.prog X.w X.A.in1.in1 kS (.ref f) (FQ X.prog X.w X.A.in1.in1 D kS e1 bY (fun s'=>EP X pins σ Q (.ref D) s')) r ks si:=by
  intro r
  induction r with
  |nil=>
   intro i ks a9 Hi si hr hi Ii hk Ld Ts Vz Tt hT rk
   have ei:i=xs.length:=by
    have:=cL List.length hr
    rw[v7,md] at this
    lia
   have Ka:fZ Hi ts a9:=by rwa [ei,← iO,a8] at hT
   have lk:a9.length=xs.length:=by have:=Ka.length; lia
   have lk2:=rk.length
   obtain⟨w1,w2,_⟩:=Ii.pin (D,seqObj "list" #[] e1) (List.mem_append_right _ (List.mem_append_right _ (by simp)))
   refine⟨tuples' true,fun i=>key (ts.getD i []),X2,w1,fun h2 Q' q'=>?_,fun a b C ha hb q'=>?_,fun pr h5 n Rn hUp hsz hD5 Ez=>?_⟩
   ·obtain⟨fs,f1,f2,f3⟩:=rM Ii (fun _ _ z=>z) Ka rk iZ
    refine kat_kind (T:= .type "int") f1 (by lia) (fun v hv=>?_) rfl q'
    obtain⟨n,t,rfl⟩:=f3 v hv
    exact Looks.of_pure rfl
   ·obtain⟨p1,g1,g2⟩:=Ka.get (i:=a) (by lia)
    obtain⟨p2,g3,g4⟩:=Ka.get (i:=b) (by lia)
    have v1:=jt rk a
    have v2:=jt rk b
    rw[g1] at v1
    rw[g3] at v2
    have v1':ks.getD a Value.none= .ref p1:=v1
    have v2':ks.getD b Value.none= .ref p2:=v2
    rw[v1',v2']
    obtain⟨o1,U7,n1,FK,ZK,lM,QU⟩:=Ii.tupI g2
    obtain⟨o2,Fw,n2,Ph,KW,hd2,QV⟩:=Ii.tupI g4
    refine kat_lt FK lM Ph hd2 ?_
    have l1:=QU.length
    have l2:=QV.length
    have m1:ts.getD a []∈ts:=by rw[aj,af (show a < ts.length by lia)]; exact bF _
    have m2:ts.getD b []∈ts:=by rw[aj,af (show b < ts.length by lia)]; exact bF _
    have kx:=mI (prog:=X.prog) (w:=X.w) (A:=X.A.in1.in1) (b:=true) (Q:=C) (s:=si) 0 QU QV (by rw[HB _ m1 _ m2]; exact q')
    rw[bw,bw,l1,l2]
    exact kx
   ·have In:=Ii.iX
    have bt:mN (CB X.stack) [D,kS] si.heap h5:=fun b o z nb=>by
     have n1:b≠D:=fun w=>nb (by simp[w])
     have n2:b≠kS:=fun w=>nb (by simp[w])
     have e:=(Ez b n1 n2).trans z
     exact⟨fun _=>e,o.slots,e⟩
    have I5:=In.but bt (fun cc hc=>by
     rcases aw.mp hc with rfl|hc
     ·exact⟨w2,Mr⟩
     ·rw[ak.mp hc]
      exact⟨Ld,NX⟩)
    have l6:=Rn.size
    have I6:=I5.Rl (D:=D) (o:= .lst (pr.toList.map fun i=>xs.getD i .d8)) w2 ⟨by rw[ae,nW,l6]; exact aY (iA hl.symm) hz,_,n,rL Vy pr.toList,hD5⟩ Mr (aY I2.sz Pr)
    refine⟨.ref D,_,I6,rfl,fin D pr.toList _ ?_ ?_ (Ts.new w2) (Vz.upd w2) (I1.cw.fresh (aY Vr Pr)) ag⟩
    ·have:=Rn.list
     rwa [← hl] at this
    ·exact sC l6 hUp
  |cons v r ih=>
   intro i ks a9 Hi si hr hi Ii hk Ld Ts Vz Tt hT rk
   have vV:i < xs.length:=by
    have:=cL List.length hr
    rw[bZ,md] at this
    lia
   have hv:v=bY.getD i Value.none/\r=bY.drop (i + 1):=by
    rw[MR (by lia)] at hr
    injection hr with h1 h2
    refine⟨?_,h2⟩
    rw[h1,aj,af (by lia)]
    rfl
   obtain⟨hv,VA⟩:=hv
   obtain⟨ek,hk⟩:=hk
   have Ip:Inv X (pins ++ [(f,Pt),(D,seqObj "list" #[] e1)] ++ [(kS,seqObj "list" ks.toArray ek)]) σ Hi si:=Ii.tV fun p hp=>by
    rcases bA.mp hp with hp|hp
    ·exact Ii.pin p (bo _ hp)
    ·rw[ak.mp hp]
     exact⟨hk,Ld,NX.2.1,I2.Fj Tr,fun v z=>by cases z⟩
   have VB:si.heap.get? f=some Pt:=(Ip.pin (f,Pt) (List.mem_append_right _ (List.mem_append_left _ (List.mem_append_right _ (by simp))))).1
   have rg:si.heap.CodeRec (.ref c') (X.env.qual ++ "<lambda>"):=(Ip.cw c' _ Tt).1
   have X3:=jt Vy i
   rw[← hv] at X3
   show wpAny _ _ (call (.ref f) [v]) _ _ si
   refine cf (IE (us:=[v]) (vs:=[xs.getD i .d8]) (R:=fun y H'=> ∃p,y= .ref p/\Hi p=none/\H'=upd Hi p (.tup ((ts.getD i []).map V.int))) (xe:=fun _ _=>False) Ip Ip.HG.in1.in1 dp (by rw[VB,← Rm]) rg S (hb _ _ _ _) rfl (.cons X3 .nil) (fN _ _ _ _ _)
    (hbd i vV Hi Ts _ fun p hp=>⟨p,rfl,hp,rfl⟩)) (fun u s5 h5=>?_) fun _ _ z=>z
   obtain⟨y,H5,I5,ry,pp,rfl,Hc,rfl⟩:=h5
   obtain rfl:u=Value.ref pp:=ry
   obtain⟨z1,z2,_⟩:=I5.pin (kS,seqObj "list" ks.toArray ek) (List.mem_append_right _ (List.mem_append_right _ (by simp)))
   refine⟨ek,z1,fun h6 cc sb hk6=>?_⟩
   have I6:Inv X (pins ++ [(f,Pt),(D,seqObj "list" #[] e1)]) σ _ _:=Inv.iX I5
   have I7:=I6.turned (t':=s5.toks) (it:=kS) (h':=h6) (fun b o n z=>(sb.2 b n).trans z) z2 NX.2.1 NX.1 NX.2.2.1 (fun p hp=>by
    rcases bA.mp hp with hp|hp
    ·exact NX.2.2.2 p (cQ _ hp)
    ·rcases bA.mp hp with hp|hp
     ·exact NX.2.2.2 p (bo _ hp)
     ·rcases aw.mp hp with rfl|hp
      ·exact fK
      ·rw[ak.mp hp]
       exact X2)
   have cpp:c'≠pp:=aJ Tt Hc
   refine ih (i + 1) (ks ++ [.ref pp]) (a9 ++ [.ref pp]) _ _ VA vV I7 ⟨cc,hk6⟩ z2 (Ts.new Hc) (Vz.upd Hc) (by rw[aA cpp]; exact Tt) ?_ (rk.append (show Vals [V.ref pp] [Value.ref pp] from .cons rfl .nil))
   rw[take_succ_getD (d:=[]) (by lia)]
   exact fZ.snoc (hT.mono fun b xs z=>by rw[aA (aJ z Hc)]; exact z) ag
 have Ip:Inv X (pins ++ [(f,Pt),(D,seqObj "list" #[] e1)]) σ H2 {s2 with heap:=h'}:=I3.tV fun p hp=>by
  rcases bA.mp hp with hp|hp
  ·exact I3.pin p (bo _ hp)
  ·rcases aw.mp hp with rfl|hp
   ·exact⟨kp _ _ NT,Kq,nwf.2.1,I1.Fj hle,fun v z=>by rw[← Rm] at z; cases z⟩
   ·rw[ak.mp hp]
    exact⟨d1,HD,Mr.2.1,I2.Fj Pr,fun v z=>by cases z⟩
 exact loop bY 0 [] [] H2 _ rfl (bp _) Ip ⟨0,k1⟩ HK X1 tb2 Tp .nil .nil
end
theorem F6 {P:Program}{w:World}{K:PySem.W.Frag}{mg mb:Str->Option Value}{CX:Ft}{k:Nat}{fa a:Addr}{fd:FuncData}{x:Str}{sp:Sp}{s₁:Shared}{vs:List Value}{ns:List Int}{cps:List (Addr×Addr)}
  (KX:K.In s₁.heap) (X4:s₁.heap.Ns mainGlobals mg) (hb:s₁.heap.Ns builtinsNs mb) (hbb: ∀x:Str,x≠"__name__"->mb x=bootBuiltins x) (VC:s₁.heap.NoLimit) (hg:s₁.gens= #[])
  (ha:s₁.heap.get? a=some {cls:= .type "list",data:= .seq vs.toArray}) (hi:IntsAre vs ns) (hl:ns.length<=sizeLine) (hr:eT k callerA)
  (bm:BMain mg s₁.heap) (Pq: ∀cp∈cps,s₁.heap.get? cp.2=some (tabObj #[])) (Ro: ∀cp∈cps,codeHdIn K cp.1 cp.2=true/\K.lookup cp.2=none)
  (F: ∀base:Heap,K.In base->base.Ns mainGlobals mg->BMain mg base->lI P w K mg base CX k fa fd [x] sp) (Rq: ∀(s:Shared) (u:Value),BindsTo s fd ⟨[u],[]⟩ [(x,u)])
  (yy: ∀H:Hp,(∀cp∈cps,H cp.2=some (.nJ #[]))->bE K H a (ns.map V.int)->sp [.ref a] H (fun v _=>v= .bl true) fun _ _ _=>False)
  (hCX: ∀H e s',CX [] H s₁ (fun _ _ _=>False) e s'->False):
  codeAny (model P w) callerA (.call (.ref fa) ⟨[.ref a],[]⟩) (fun r s'=>r= .ok (.ret (.bool true))/\OldK s₁.heap s'.heap/\s'.os=s₁.os/\AllBare s'.gens) s₁:=by
 have rv:=xK hi
 have Rt:=hi.length
 have aT: ∀cp∈cps,cp.2≠a:=fun cp hc z=>by
  have e:=Pq cp hc
  rw[z,ha] at e
  cases e
 have core: ∀H:Hp,(∀b,H b=none∨(b=a/\H b=some (.Cr {cls:= .type "list",data:= .seq vs.toArray} (.lst (ns.map V.int)))/\K.lookup a=none)∨ ∃cp∈cps,b=cp.2/\H b=some (.nJ #[]))->(∀cp∈cps,H cp.2=some (.nJ #[]))->bE K H a (ns.map V.int)->
   codeAny (model P w) callerA (.call (.ref fa) ⟨[.ref a],[]⟩) (fun r s'=>r= .ok (.ret (.bool true))/\OldK s₁.heap s'.heap/\s'.os=s₁.os/\AllBare s'.gens) s₁:=by
  intro H hO hT hS
  have cw:nY P w H s₁.heap:=fun b u z=>by
   rcases hO b with w|⟨rfl,w,_⟩|⟨cp,hc,rfl,w⟩
   ·rw[z] at w; cases w
   ·rw[z] at w
    cases w
    exact⟨ha,by rw[ae]; exact hl,vs,_,rv,ha⟩
   ·rw[z] at w
    cases w
    exact Pq cp hc
  have yT: ∀{b:Addr} {o:Obj},s₁.heap.get? b=some o->H b=none->(v9 s₁.heap H).get? b=some o:=fun e n=>Hr e n
  have X5: ∀{b:Addr} {o:Obj},s₁.heap.get? b=some o->((∃es ep,o.data= .dict es ep)∨o.data= .plain)->H b=none:=fun{b o} e d=>by
   rcases hO b with w|⟨rfl,w,_⟩|⟨cp,hc,rfl,w⟩
   ·exact w
   ·rw[ha] at e
    cases e
    rcases d with⟨es,ep,d⟩|d <;> cases d
   ·rw[Pq cp hc] at e
    cases e
    rcases d with⟨es,ep,d⟩|d <;> cases d
  have Tu: ∀{b:Addr} {m:Str->Option Value},s₁.heap.Ns b m->(v9 s₁.heap H).Ns b m:=fun{b m} ⟨o,es,ep,e,d,r⟩=>⟨o,es,ep,yT e (X5 e (.inl ⟨es,ep,d⟩)),d,r⟩
  have X6:K.In (v9 s₁.heap H):=fun b o e=>yT (KX b o e) (by
   rcases hO b with w|⟨rfl,w,hk⟩|⟨cp,hc,rfl,w⟩
   ·exact w
   ·rw[hk] at e; cases e
   ·rw[(Ro cp hc).2] at e; cases e)
  have hBb:BMain mg (v9 s₁.heap H):=by
   obtain⟨b,o,b1,b2,b3,b4,b5,b6,b7⟩:=bm
   exact⟨b,o,b1,b2,b3,yT b4 (X5 b4 (.inr b7)),b5,b6,b7⟩
  have hM:Mod K mg (v9 s₁.heap H):=⟨X6,Tu X4,⟨mb,Tu hb,hbb⟩,let⟨mc,h1,h2⟩:=VC; ⟨mc,Tu h1,h2⟩⟩
  have e0:qe P w K mg (v9 s₁.heap H) callerA [] s₁ H:=⟨rfl,hM,fun b o e=>Km e,Nat.le_of_eq (Fh _ _),trivial,fun b hb=>absurd (show b∈([]:List Addr) from hb) (by simp),cw,.of_eq hg⟩
  refine Cz ((F _ X6 (Tu X4) hBb).run callerA [] s₁ H ⟨[.ref a],[]⟩ [.ref a] [.ref a] _ _ hr e0 (Rq s₁ (.ref a)) (.cons rfl .nil) (yy H hT hS)) fun r s' h=>?_
  cases r with
  |error e=>exact(hCX H e s' h).elim
  |ok fl=>
   cases fl with
   |next=>exact False.elim h
   |brk=>exact False.elim h
   |cont=>exact False.elim h
   |ret u=>
    obtain⟨v,H',os,bare,un,Ru,r',q⟩:=h
    have q':v= .bl true:=q
    subst q'
    obtain rfl:u=Value.bool true:=r'
    have old: ∀b o,s₁.heap.get? b=some o->asItWas s₁.heap s'.heap b o:=fun b o e=>by
     rcases hO b with z|⟨rfl,z,_⟩|⟨cp,hc,rfl,z⟩
     ·exact .inl (un.keep b o e z (by intro w; exact absurd (show b∈([]:List Addr) from w) (by simp)) (by simp))
     ·have z2:=un.oT b _ _ z
      obtain⟨e2,_⟩:=Ru b _ z2
      rw[ha] at e
      cases e
      exact .inl e2
     ·obtain⟨more,z2⟩:=un.oU _ _ z
      have e2:s'.heap.get? cp.2=some (tabObj (#[] ++ more)):=Ru _ _ z2
      have e1:=Pq cp hc
      rw[e1] at e
      cases e
      obtain⟨oc,ws,_,_,_,_,_,_,_,c1,c2,c3,c4,_⟩:=codeHd_of_K KX (Ro cp hc).1
      exact .inr (.inl ⟨⟨cp.1,oc,ws,c1,c2,c3,c4⟩,rfl,#[],more,rfl,e2⟩)
    refine⟨rfl,⟨old,fun b o e=>?_⟩,os,bare⟩
    exact un.there b o e (by simp)
 cases hk:K.lookup a with
 |some o=>
  have e:=KX a o hk
  rw[ha] at e
  cases e
  refine core (fun b=>if b∈cps.map (·.2) then some (.nJ #[]) else none) (fun b=>?_) (fun cp hc=>if_pos (List.mem_map.mpr ⟨cp,hc,rfl⟩)) (.inr ⟨_,vs.toArray,_,hk,rfl,rfl,rfl,by rw[List.size_toArray,Rt]; exact hl,by simpa using rv⟩)
  by_cases hb:b∈cps.map (·.2)
  ·obtain⟨cp,hc,rfl⟩:=bC.mp hb
   exact .inr (.inr ⟨cp,hc,rfl,a7 hb⟩)
  ·exact .inl (aQ hb)
 |none=>
  have na:a∉cps.map (·.2):=fun h=>by
   obtain⟨cp,hc,z⟩:=bC.mp h
   exact aT cp hc z
  refine core (fun b=>if b=a then some (.Cr {cls:= .type "list",data:= .seq vs.toArray} (.lst (ns.map V.int))) else if b∈cps.map (·.2) then some (.nJ #[]) else none) (fun b=>?_) (fun cp hc=>?_) (.inl (.inr ⟨{cls:= .type "list",data:= .seq vs.toArray},a7 rfl⟩))
  ·by_cases h1:b=a
   ·exact .inr (.inl ⟨h1,by rw[a7 h1],hk⟩)
   ·by_cases hb:b∈cps.map (·.2)
    ·obtain⟨cp,hc,rfl⟩:=bC.mp hb
     exact .inr (.inr ⟨cp,hc,rfl,by rw[aQ h1,a7 hb]⟩)
    ·exact .inl (by rw[aQ h1,aQ hb])
  ·show(if cp.2=a then _ else if cp.2∈cps.map (·.2) then _ else _)=_
   rw[aQ (aT cp hc),a7 (bC.mpr ⟨cp,hc,rfl⟩)]
theorem IH {l:PySem.W.OpenLaw}{n k:Nat}{q:Program}{loose:List Str}{XP:(Str->Option Value)->Heap->Prop}{YP:World->Heap->Prop}{d:DefRec}{K:Params->PySem.W.Frag}{ts:List Addr}{sp:PySem.W.Frag->List (Addr×Addr)->Sp}{x:Str}
  (hn:l.most=some n) (S8:n<=sizeLine) (UT:d.params.defaults=[]) (hr:eT k callerA)
  (hY: ∀(w:World) (h:Heap),YP w h->(K w.params).In h/\ ∀P∈ts,h.get? P=some (tabObj #[]))
  (F: ∀(w:World) (mg:Str->Option Value) (fa:Addr) (h:Heap),(K w.params).In h->h.Ns mainGlobals mg->mg d.name=some (.ref fa)->
   ∃(fd:FuncData) (cps:List (Addr×Addr)),(∀cp∈cps,cp.2∈ts)/\(∀cp∈cps,codeHdIn (K w.params) cp.1 cp.2=true/\(K w.params).lookup cp.2=none)/\(∀(s:Shared) (u:Value),BindsTo s fd ⟨[u],[]⟩ [(x,u)])/\
    ∀base:Heap,(K w.params).In base->base.Ns mainGlobals mg->BMain mg base->lI l.prog w (K w.params) mg base rJ k fa fd [x] (sp (K w.params) cps))
  (yy: ∀(K:PySem.W.Frag) (cps:List (Addr×Addr)) (H:Hp) (a:Addr) (ns:List Int),ns.length<=n->(∀cp∈cps,H cp.2=some (.nJ #[]))->bE K H a (ns.map V.int)->sp K cps [.ref a] H (fun v _=>v= .bl true) fun _ _ _=>False):
  PySem.W.WalkO q loose XP YP l.row.toRowW d [] (fun f vs=>PySem.call f vs):=by
 refine XA.A0 hn UT fun w s₀ s₁ mg mb fa o pm cd doc a vs ns G Y ho hd rg QG Nt hints hlen hg=>?_
 obtain⟨KX,hT⟩:=hY w _ Y
 obtain⟨fd,cps,h1,h2,hb,hF⟩:=F w mg fa _ KX G.T.g QG
 obtain⟨bm,ob,b1,b2,b3,b4,b5,b6⟩:=G.T.bmain
 have b7:bm≠mainGlobals:=fun z=>by
  obtain⟨o',es,ep,e,G6,_⟩:=G.T.g
  rw[z,e] at b3
  cases b3
  rw[G6] at b6
  cases b6
 exact F6 KX G.T.g G.T.b G.T.builtins G.T.nolimit hg Nt hints (aY hlen S8) hr ⟨bm,ob,b1,b2,b7,b3,b4,b5,b6⟩ (fun cp hc=>hT _ (h1 cp hc)) h2 hF hb (fun H hO hS=>yy _ cps H a ns hlen hO hS) fun H e s' z=>z
section
variable {X:Cx}{x:Str}{k n:Nat}{ps:List Str}{sp:Sp}{e:Expr}{es:List Expr}{t:TA}{p pos:Pos}
theorem fc (C:eF X.prog X.w X.K X.mg X.base x k ps sp)(hr:eT n X.A)(ha:PA X (e :: es) t)(hle:k<=n:=by decide)(hg:Gl X x:=by rfl)(qf:(x == ("__debug__":Str))=false:=by decide)
  (he:starEach (e :: es) X.env=(false,eval e X.env) :: starEach es X.env:=by rfl) (hV:(backTo pos (starEach es X.env)).any (·.1)=false:=by rfl):PE X (.Call (.Name x p) (e :: es) [] pos) (uz sp [] E0 t):=QN C (hr.mono hle) hg ha qf he hV
theorem sv (i:Nat){te:TE}{pos':Pos}(hN:X.N.Nodup)(he:PE X e te)(hi:X.N[i]? =some x:=by rfl)(hx:Loc X.env.scope x:=by first|exact Or.inl rfl|exact Or.inr rfl)(hs:swapsWith e (some (.Name x pos')) pos.line X.env=pure false:=by rfl)(hf:X.fn x=true∨X.env.scope.names.lookup x=some .local:=by first|exact .inl rfl|exact .inr rfl|assumption):
  PS X (.Assign [.Name x pos'] e pos) (Kt te (AO i)):=M4 hN hi hx he hs hf
theorem gn (i:Nat)(hN:X.N.Nodup)(hi:X.N[i]? =some x:=by rfl)(hx:Loc X.env.scope x:=by first|exact Or.inl rfl|exact Or.inr rfl)(hf:X.fn x=true∨X.env.scope.names.lookup x=some .local:=by first|exact .inl rfl|exact .inr rfl|assumption):PG X (.Name x pos) (AO i):=eu hN hi hx hf
theorem xl {a b:Expr}{ta tb:TE}(ha:PE X a ta)(hb:PE X b tb)(hs:yB b:=by exact fun _ _=>rfl):PE X (.Subscript a b pos) (Pe (Nc X.K) ta tb):=jg yC ha hb hs
theorem xt {a b:Expr}{ta tb:TE}(ha:PE X a ta)(hb:PE X b tb)(hs:yB b:=by exact fun _ _=>rfl):PE X (.Subscript a b pos) (Pe (Nd X.K) ta tb):=jg CO ha hb hs
end
section
variable {X:Cx}{o e:Expr}{p pos apos gv:Pos}{to te:TE}
theorem mO (hm:X.mg "len"=none)(h:PE X e te)(hg:Gl X "len":=by rfl)(he:starEach [e] X.env=(false,eval e X.env) :: starEach [] X.env:=by rfl)(hV:(backTo pos (starEach [] X.env)).any (·.1)=false:=by rfl):PE X (.Call (.Name "len" p) [e] [] pos) (UG (fun xs H Q=> ∃p ys,xs=[.ref p]/\(bE X.K H p ys∨cm X.K H p ys)/\Q (.int ys.length) H) (HF te CM)):=
 cI yF hg hm PySem.boot_len (aa h av he) (by decide) (by decide) he hV
theorem qA (ho:PE X o to)(h:PE X e te)(qm:attributeBase o "append" X.env (eval o X.env)=eval o X.env:=by rfl)
  (Ni:((backTo gv (starEach [e] X.env)).all (fun x=> !x.1) && (backToKw gv (keywordEach [] X.env)).all (fun x=>x.1.isSome)
   && decide ([e].length + ([]:List Keyword).length + (if([]:List Keyword).isEmpty then 0 else 1) < 30))=true:=by rfl)
  (uB:(apos.endLine == gv.line)=true:=by rfl) (hs:starEach [e] X.env=(false,eval e X.env) :: starEach [] X.env:=by rfl) (uC:(backTo gv (starEach [] X.env)).any (·.1)=false:=by rfl):PE X (.Call (.Attribute o "append" apos) [e] [] gv) (Xx X.K "list" D9 to (HF te CM)):=
 Qt PySem.F.plainAttrs_list PySem.F.slot_list_append PySem.F.type_list_append xG ho (aa h av hs) qm Ni uB hs uC
end
theorem Df.fj {P:Program}{w:World}{K:PySem.W.Frag}{mg:Str->Option Value}{base:Heap}{x:Str}{st:Stmt}{N ps:List Str}{k:Nat}{sp:Sp}(D:Df K mg x st)(S:aS N ps (ax st))
  (fN: ∀(f:Addr) (cK:Value) (A:Around) (outer:List Env) (s:Shared) (H:Hp) (vs:List V) (Q:VK) (E:XK),eT k (A.deeper (envOfC x (ax st) s.heap.objs.size f cK))->sp vs H Q E->
   ∃t,oV (kQ rJ P w K mg base N x (ax st) f cK A outer s H E).DV (dv st) t/\t {nx:=fun _ H'=>Q .d8 H',rt:=Q} (start N vs) H)
  (hb: ∀(kV doc pm:Value) (an:Option Addr) (cK ct:Value) (us:List Value),us.length=ps.length->bindArgs (PySem.W.fnOf x x (gw st) (dv st) (ax st) .none kV doc pm an cK ct) ⟨us,[]⟩=pure (ps.zip us):=by intro _ _ _ _ _ _ us hl; rcases us with _|⟨_,_|⟨_,_|⟨_,_|⟨_,_|⟨_,_|⟨_,_|⟨_,_⟩⟩⟩⟩⟩⟩⟩ <;> first|(cases hl; done)|rfl)
  (len: ∀vs H Q E,sp vs H Q E->vs.length=ps.length:=by intro _ _ _ _ h; first|(cases h; subst_vars; rfl)|(repeat (first|(obtain⟨rfl,_⟩:=h; rfl; done)|obtain⟨_,h⟩:=h))):eF P w K mg base x (k + 1) ps sp:=D.ZC S hb len fN
end L2
namespace eE
open PySem L2 PyProof.Rows K2
seal L2.oV L2.PS L2.PE L2.PT L2.PW L2.PA L2.PC L2.PG L2.Ks L2.PI L2.Mg L2.KO L2.PO L2.ox L2.M7 L2.iY L2.JW L2.Pg
def top (i:Nat):Stmt:=PySem.Challenge.pw_spikebook_k04_answers.main.body.getD i (.Pass ⟨0,0,0,0⟩)
structure Txt (K:PySem.W.Frag)(mg:Str->Option Value):Prop where
 C7:Df K mg "place_of" (top 1)
 NY:Df K mg "fits" (top 15)
 wy:Df K mg "counts_from" (top 16)
 F9:Df K mg "bills_in_order" (top 17)
 C8:Df K mg "credits_in_order" (top 18)
 Le:Df K mg "alike" (top 20)
 wz:Df K mg "first_alike" (top 21)
 yU:Df K mg "shared_out" (top 22)
 C9:Df K mg "parts_of" (top 23)
 vd:Df K mg "check_amount" (top 26)
 wA:Df K mg "row_of_fits" (top 27)
 NZ:Df K mg "done" (top 30)
 yV:Df K mg "done_again" (top 31)
 Ga:Df K mg "answers" (top 33)
 yW:Df K mg "answers_in" (top 34)
 Bd:Df K mg "answer_of" (top 35)
 Gb:Df K mg "owed_at" (top 36)
 Gd:Df K mg "free_at" (top 37)
 ve:Df K mg "remaining_at" (top 38)
 wB:Df K mg "counting_at" (top 39)
 Be:Df K mg "counts_at" (top 40)
 Ge:Df K mg "ages_at" (top 41)
 Bf:Df K mg "_law_room" (top 43)
 Bg:Df K mg "_law_draw" (top 44)
 yX:Df K mg "_law_whole" (top 45)
 yY:Df K mg "_law_alike" (top 46)
 wC:Df K mg "_law_people" (top 47)
 wD:Df K mg "_law_penned" (top 48)
 wF:Df K mg "_law_chosen" (top 49)
 yZ:Df K mg "_law_hasty" (top 50)
 wG:Df K mg "_law_due_in" (top 51)
 y0:Df K mg "_law_deeds" (top 52)
 y1:Df K mg "_law_begun" (top 53)
 Bh:Df K mg "_law_goes" (top 54)
 Dc:Df K mg "_law_put" (top 55)
 vf:Df K mg "_law_in_turn" (top 56)
 y2:Df K mg "_law_swept" (top 57)
 wH:Df K mg "_law_barred" (top 58)
 y3:Df K mg "_law_enter" (top 59)
 wI:Df K mg "_law_worked" (top 60)
 y4:Df K mg "_law_tells" (top 61)
 Bi:Df K mg "_law_done" (top 62)
 wJ:Df K mg "_law_at_day" (top 63)
 Bj:Df K mg "_law_aged" (top 64)
 tF:Df K mg "_law_reported" (top 65)
 X7:Df K mg "law" (top 66)
 dR:mg "len"=none
 de:mg "isinstance"=none
 vg:mg "int"=none
 N0:mg "bool"=none
 EA:mg "str"=none
 rT:mg "list"=none
 tY:mg "tuple"=none
 lT:mg "range"=none
 II:mg "min"=none
 Ms:mg "max"=none
 IJ:mg "sum"=none
 qB:mg "sorted"=none
 i6:mg "enumerate"=none
 N1:mg "dict"=none
 Bl:mg "Exception"=none
end eE
namespace L2
open PySem PySem.Spec PySem.W PyProof.Rows K2
structure VD (P:Program)(w:World)(K:PySem.W.Frag)(mg:Str->Option Value)(base:Heap)(k:Nat)(fa:Addr)(sp:Sp):Prop where
 ex: ∃(fd:FuncData) (ps:List Str),lI P w K mg base rJ k fa fd ps sp/\PySem.W.keepIn K (.ref fa)=true/\Binds K fd ps []
theorem eF.X8 {P:Program}{w:World}{K:PySem.W.Frag}{mg:Str->Option Value}{base:Heap}{x:Str}{k:Nat}{ps:List Str}{sp:Sp}(C:eF P w K mg base x k ps sp): ∃fa,mg x=some (.ref fa)/\VD P w K mg base k fa sp:=by
 obtain⟨f,fd,F,hm,hk,hb⟩:=C.ex
 exact⟨f,hm,⟨fd,ps,F,hk,hb⟩⟩
section
variable {X:Cx}{x:Str}{i k:Nat}{e:Expr}{es:List Expr}{t:TA}{p pos:Pos}
def N2 (P:Program)(w:World)(K:PySem.W.Frag)(mg:Str->Option Value)(base:Heap)(k i:Nat)(t:TA):TE:=fun σ H Q=> ∃fa sp,σ[i]? =some (some (.ref fa))/\VD P w K mg base k fa sp/\t σ H fun vs H1=>sp vs H1 Q E0
theorem N3 (hr:eT k X.A)(hN:X.N[i]? =some x)(hv:P4 X.env.scope x)(ha:PA X (e :: es) t)(hd:(x == ("__debug__":Str))=false:=by decide)(rg:(x == ("__classdict__":Str))=false:=by decide)
  (he:starEach (e :: es) X.env=(false,eval e X.env) :: starEach es X.env:=by rfl) (hV:(backTo pos (starEach es X.env)).any (·.1)=false:=by rfl):PE X (.Call (.Name x p) (e :: es) [] pos) (N2 X.prog X.w X.K X.mg X.base k i t):=by
 rintro pins s σ H Q I ⟨fa,sp,e1,⟨fd,ps,F,hk,hb⟩,h⟩
 refine eo (dP (CC hN hv hd rg pins s σ H (fun v H'=>v= .ref fa/\H'=H) I ⟨_,e1,rfl,rfl⟩) ?_)
 rintro u s1 ⟨v,H1,I1,rv,rfl,rfl⟩
 obtain rfl:u=Value.ref fa:=rv
 refine j7 (h₀:=X.base) I.ok.mod.Kn hk (dP (ha pos pins s1 σ H1 _ I1 h) fun us s2 ⟨vs,H2,I2,r,q⟩=>⟨I2.gE,?_⟩) he hV
 exact yx F hr hb .nil mE I2 r (by rw[bP]; exact q)
end
theorem Bm {X:Cx}:iY X (.type "dict") (fun xs H Q=> ∃a a9,xs=[.ref a]/\H a=some (.dK a9)/\ ∀p,H p=none->Q (.ref p) (upd H p (.dK a9))):=by
 intro pins s σ H xs us Q I r h
 obtain⟨a,a9,rfl,e,q⟩:=h
 obtain⟨u,rfl,ru⟩:=vals1 r
 cases ru
 exact HX I (.inl e) fun p s' hp I'=>⟨.ref p,_,I',rfl,q p hp⟩
def EB (P:Program)(w:World)(d:Addr)(a9:List (Key×V))(φ:Heap->Prop):Prop:=(∀(H:Hp) (h:Heap),φ h->dr P w H h d (.dK a9))/\ ∀q:Str,φ≠fun h=>h.CodeRec (.ref d) q
def Rv (P:Program)(w:World)(td:TE)(g:TG)(tb:TS):TS:=fun D σ H=>td σ H fun v H1=> ∃d a9,v= .ref d/\H1 d=some (.dK a9)/\ ∀φ,EB P w d a9 φ->
 ∃W:Nat->Nat->St->Hp->Prop,(∃m,W 0 m σ (upd H1 d (.ext φ)))/\ ∀i m σ' H',W i m σ' H'->H' d=some (.ext φ)/\((a9.length<=i/\D.nx σ' (upd H' d (.dK a9)))∨
  ∃x,(a9.map (·.2))[i]? =some x/\ ∃N:St->Hp->Prop,(∀KP G8,N KP G8-> ∃m',m' < m/\W (i + 1) m' KP G8)/\g x σ' H' fun σ2 H2=>tb {D with nx:=N,ct:=N,bk:=fun _ _=>False} σ2 H2)
theorem Lf {X:Cx}{tg o:Expr}{apos gv pos:Pos}{body:List Stmt}{td:TE}{g:TG}{tb:TS}(hp:PassesOwn (model X.prog X.w) X.A X.env X.xe)(hc:X.calm=true)(ho:PE X o td)(hg:PG X tg g)(hb:oV X body tb)
  (qm:attributeBase o "values" X.env (eval o X.env)=eval o X.env:=by rfl) (uB:(apos.endLine == gv.line)=true:=by rfl)
  (hs: ∀x,foldedSetIterable (.Call (.Attribute o "values" apos) [] [] gv) X.env x=pure x:=by intro _; rfl):PS X (.For tg (.Call (.Attribute o "values" apos) [] [] gv) body [] pos) (Rv X.prog X.w td g tb):=by
 intro pins s σ H D I h
 refine wpAny_For (wpAny_Call_method0_late qm uB (dP (ho pins s σ H _ I h) ?_)) hs
 rintro u s1 ⟨v,H1,I1,rv,d,a9,rfl,ed,h⟩
 obtain rfl:u=Value.ref d:=rv
 obtain⟨hz,hd,vs,rel,dd⟩:=Ea I1.cw ed
 refine⟨"dict","dict.values",PySem.F.plainAttrs_dict,O8,PySem.F.type_dict_values,dd.typeIs,dd.mapOf.noDict,iJ rfl (PySem.evalArgs_none ?_)⟩
 refine call_meetsIn O8 dd.typeIs PySem.F.entry_dict_values (PySem.F.args_dict_values_1 _) (meets_dict_values (dN X.prog X.w) d hd) ⟨⟨vs,dd⟩,?_⟩
 have I2:=I1.kept (t':=s1.toks) (h':=s1.heap.push {cls:= .type "dict_values",data:= .fields #[.ref d]}) (fun b ob e=>ay _ e)
 obtain⟨ep,da⟩:=dd.dictAt
 obtain⟨od,es,NU,r⟩:=id da
 have VE: ∀h:Heap,h.get? d=some od->h.DictAt (dN X.prog X.w) d vs ep:=fun h e=>⟨od,es,e,r⟩
 have X9:EB X.prog X.w d a9 (fun h=>h.get? d=some od):=⟨fun H h e=>⟨hz,hd,vs,rel,⟨od,es,ep,e,r⟩⟩,fun q z=>by
  have z1:(s1.heap.get? d=some od)=s1.heap.CodeRec (.ref d) q:=congrFun z s1.heap
  obtain⟨c,o,Vq,t,e1,e2,e3,_⟩:=Eq.mp z1 NU
  cases e1
  rw[NU] at e2
  cases e2
  rw[r.2.1] at e3
  cases e3⟩
 obtain⟨W,⟨m0,w0⟩,turn⟩:=h _ X9
 generalize Ya:s1.heap.push {cls:= .type "dict_values",data:= .fields #[.ref d]}=h2 at I2
 have hv2:h2.IsValuesView s1.heap.objs.size d:=by
  rw[← Ya]
  exact⟨_,bK _ rfl,rfl,rfl⟩
 have Rx:h2.get? d=some od:=by
  rw[← Ya]
  exact ay _ NU
 refine wpAny_pyIter_values (knd:=dN X.prog X.w) hv2 (VE _ Rx) ?_
 have I3:=I2.kept (t':=s1.toks) (h':=h2.push {cls:= .type "dict_valueiterator",data:= .fields #[.ref d,.int 0 0,.int vs.length 0,.int ep 0]}) (fun b ob e=>ay _ e)
 have N4:(h2.push {cls:= .type "dict_valueiterator",data:= .fields #[.ref d,.int 0 0,.int vs.length 0,.int ep 0]}).IsValIter h2.objs.size d 0 vs.length ep:=⟨_,bK _ rfl,rfl,rfl⟩
 have Lg:(h2.push {cls:= .type "dict_valueiterator",data:= .fields #[.ref d,.int 0 0,.int vs.length 0,.int ep 0]}).get? d=some od:=ay _ Rx
 have Ct:H1 h2.objs.size=none:=I2.cw.fresh (aC _)
 have iZ:d≠h2.objs.size:=aJ ed Ct
 have VF:=I2.Fm (aC _) Ct
 generalize h2.push {cls:= .type "dict_valueiterator",data:= .fields #[.ref d,.int 0 0,.int vs.length 0,.int ep 0]}=h3 at I3 N4 Lg
 generalize h2.objs.size=it at N4 Ct iZ VF
 have I4:Inv X pins σ (upd H1 d (.ext fun h=>h.get? d=some od)) {s1 with heap:=h3}:=by
  refine I3.write (x:=d) (e:=d) (t':=s1.toks) (h':=h3) (by rw[ed]; exact True.intro) (.inl rfl) (fun _ _ _ q=>q) ⟨od,Lg⟩ ?_
  exact⟨Lg,⟨od,Lg⟩,fun h1 h2 q k=>k od q⟩
 have fit:upd H1 d (.ext fun h=>h.get? d=some od) it=none:=by
  rw[aA iZ.symm]
  exact Ct
 have Rt:vs.length=a9.length:=(aL rel).symm
 refine codeAny_forLoop_any (fun n s'=> ∃i σ' H',Inv X pins σ' H' s'/\s'.heap.IsValIter it d i vs.length ep/\H' it=none/\W i n σ' H') ?_ m0 ⟨0,σ,_,I4,N4,fit,w0⟩
 rintro n s5 ⟨i,σ5,H5,I5,Yb,Pd,w5⟩
 obtain⟨e5,tn⟩:=turn i n σ5 H5 w5
 have VG:s5.heap.get? d=some od:=(I5.cw d _ e5).1
 have f5:uv X pins H5 it:=⟨Pd,VF.2⟩
 obtain⟨f0,f1,f2,f3,f4,f6⟩:=f5
 rcases tn with⟨hle,qn⟩|⟨x,hx,N,hN,step⟩
 ·refine dH hp (wpAny_pyNext_values_end (knd:=dN X.prog X.w) (I5.ok.hd hc) Yb (VE _ VG) (by rw[pV]; lia) fun h6 eb=>?_)
  have I6:Inv X pins σ5 H5 {s5 with heap:=h6}:=I5.turned (t':=s5.toks) (fun b o hb e=>eb b o hb e) f0 f1 f3 f4 f6
  have Yc:h6.get? d=some od:=eb d od iZ VG
  have I7:=I6.write (x:=d) (e:=d) (t':=s5.toks) (h':=h6) (o:= .dK a9) (by rw[e5]; exact True.intro) (.inl rfl) (fun _ _ _ q=>q) ⟨od,Yc⟩ (X9.1 _ _ Yc)
  exact jb ⟨σ5,_,I7,qn⟩
 ·rw[aB] at hx
  obtain⟨kv,Tv,rfl⟩:=bq.mp hx
  obtain⟨ku,hku,e1,ru⟩:=bG rel Tv
  obtain⟨k1,u⟩:=ku
  refine dH hp (wpAny_pyNext_values_item (knd:=dN X.prog X.w) Yb (VE _ VG) hku fun h6 it6 sb=>?_)
  have I6:Inv X pins σ5 H5 {s5 with heap:=h6}:=I5.turned (t':=s5.toks) (fun b o hb e=>(sb.2 b hb).trans e) f0 f1 f3 f4 f6
  obtain⟨oi,FK,Ph,VH⟩:=id it6
  refine dH hp (DW (s:={s5 with heap:=h6}) FK Ph VH (by decide +kernel) ?_)
  have I6':Inv X (pins ++ oZ [it] h6) σ5 H5 {s5 with heap:=h6}:=I6.pinned (fun b hb=>by rw[ak.mp hb]; exact⟨Pd,VF.2⟩) (fun b hb=>by
   rw[ak.mp hb]
   exact⟨oi,FK,fun v z=>by rw[VH] at z; cases z⟩)
  refine dH hp (dP (hg _ _ σ5 H5 kv.2 u _ I6' ru step) fun _ s7 ⟨σ7,H7,I7,q7⟩=>?_)
  refine dH hp (dP (hb _ s7 σ7 H7 _ I7 q7) fun f s8 q8=>?_)
  have again: ∀{σ8:St} {H8:Hp},Inv X (pins ++ oZ [it] h6) σ8 H8 s8->N σ8 H8-> ∃m,m < n/\ ∃i σ' H',Inv X pins σ' H' s8/\s8.heap.IsValIter it d i vs.length ep/\H' it=none/\W i m σ' H':=fun{σ8 H8} I8 n8=>by
   obtain⟨m',hm,w8⟩:=hN σ8 H8 n8
   have pn:=I8.pin (it,oi) (List.mem_append_right _ (List.mem_append_right _ (jC (by simp) FK)))
   exact⟨m',hm,i + 1,σ8,H8,I8.iX,⟨oi,pn.1,Ph,VH⟩,pn.2.1,w8⟩
  cases f with
  |next=>obtain⟨σ8,H8,I8,n8⟩:=q8; exact again I8 n8
  |cont=>obtain⟨σ8,H8,I8,n8⟩:=q8; exact again I8 n8
  |brk=>obtain⟨σ8,H8,I8,q8⟩:=q8; exact q8.elim
  |ret v=>obtain⟨x8,σ8,H8,I8,r8,q8⟩:=q8; exact⟨x8,σ8,H8,I8.iX,r8,q8⟩
theorem IK {P:Program}{w:World}{td:TE}{g:TG}{tb:TS}{D:Ends}{σ:St}{H1:Hp}{d:Addr}{a9:List (Key×V)}(ed:H1 d=some (.dK a9))
  (h: ∀φ,EB P w d a9 φ-> ∃Pv:Nat->St->Hp->Prop,Pv 0 σ (upd H1 d (.ext φ))/\(∀i σ' H',Pv i σ' H'->H' d=some (.ext φ))/\(∀i x σ' H',(a9.map (·.2))[i]? =some x->Pv i σ' H'->g x σ' H' fun σ2 H2=>tb {D with nx:=Pv (i + 1),ct:=Pv (i + 1),bk:=fun _ _=>False} σ2 H2)/\
   ∀σ' H',Pv a9.length σ' H'->D.nx σ' (upd H' d (.dK a9))):
  ∃d' IL,V.ref d= .ref d'/\H1 d'=some (.dK IL)/\ ∀φ,EB P w d' IL φ->
 ∃W:Nat->Nat->St->Hp->Prop,(∃m,W 0 m σ (upd H1 d' (.ext φ)))/\ ∀i m σ' H',W i m σ' H'->H' d'=some (.ext φ)/\((IL.length<=i/\D.nx σ' (upd H' d' (.dK IL)))∨
  ∃x,(IL.map (·.2))[i]? =some x/\ ∃N:St->Hp->Prop,(∀KP G8,N KP G8-> ∃m',m' < m/\W (i + 1) m' KP G8)/\g x σ' H' fun σ2 H2=>tb {D with nx:=N,ct:=N,bk:=fun _ _=>False} σ2 H2):=by
 refine⟨d,a9,rfl,ed,fun φ hφ=>?_⟩
 obtain⟨Pv,p0,pk,ps,pe⟩:=h φ hφ
 refine⟨fun i m σ' H'=>m=a9.length - i/\i<=a9.length/\Pv i σ' H',⟨a9.length,by simp,Nat.zero_le _,p0⟩,?_⟩
 rintro i m σ' H' ⟨rfl,hi,p⟩
 refine⟨pk i σ' H' p,?_⟩
 by_cases iO:i < a9.length
 ·have hg:(a9.map (·.2))[i]? =some a9[i].2:=by rw[aB,af iO]; rfl
  exact .inr ⟨_,hg,Pv (i + 1),fun KP G8 p'=>⟨a9.length - (i + 1),by lia,rfl,iO,p'⟩,ps i _ σ' H' hg p⟩
 ·have e:i=a9.length:=by lia
  subst e
  exact .inl ⟨aC _,pe σ' H' p⟩
theorem mP {α:Type}(f:α->Int): ∀(l2 l1:List α),l1.Perm l2->l1.Pairwise (fun a b=>f a<=f b)->l2.Pairwise (fun a b=>f a < f b)->l1=l2
 |[],l1,p,_,_=>List.Perm.eq_nil p
 |b :: l2,[],p,_,_=>absurd p.length_eq (by simp)
 |b :: l2,a :: l1,p,h1,h2=>by
  rw[eX] at h1 h2
  have hb:b∈a :: l1:=p.mem_iff.mpr bI
  have e:a=b:=by
   rcases aw.mp (p.mem_iff.mp (bI (a:=a) (l:=l1))) with e|ha
   ·exact e
   ·rcases aw.mp hb with e|hb
    ·exact e.symm
    ·have z1:=h1.1 b hb
     have z2:=h2.1 a ha
     lia
  subst e
  rw[mP f l2 l1 (List.Perm.cons_inv p) h1.2 h2.2]
theorem Lh {x y:Int×Nat}(hx:x.2 < 1000)(hy:y.2 < 1000)(h:tE x=tE y):x.2=y.2:=by
 unfold tE at h
 lia
theorem Bn {l:List (Int×Nat)}(h: ∀x∈l,x.2 < 1000)(nd:(l.map (·.2)).Nodup):(d9 l).Pairwise (fun a b=>tE a < tE b):=by
 have p:=cY l
 have Tw:((d9 l).map (·.2)).Nodup:=(p.map (·.2)).nodup_iff.mpr nd
 have h': ∀x∈d9 l,x.2 < 1000:=fun x hx=>h x (p.mem_iff.mp hx)
 have le:=uP l
 generalize d9 l=m at Tw h' le
 induction m with
 |nil=>exact .nil
 |cons a m ih=>
  rw[eX] at le ⊢
  rw[cU,fE] at Tw
  refine⟨fun b hb=>?_,ih Tw.2 (fun x hx=>h' x (bc _ hx)) le.2⟩
  have z:=le.1 b hb
  have n:tE a≠tE b:=fun e=>Tw.1 (by
   rw[Lh (h' a bI) (h' b (bc _ hb)) e]
   exact bC.mpr ⟨b,hb,rfl⟩)
  lia
def tG (t:List Int):Int:=t.getD 0 0 * 1000 + t.getD 1 0
theorem qC {x y:Int×Nat}{u v:List Int}(hx:x.2 < 1000)(hy:y.2 < 1000)(h:x.2=y.2->u=v/\x=y)(hs:HT.lexLt u u=false):HT.lexLt (x.1 :: (x.2:Int) :: u) (y.1 :: (y.2:Int) :: v)=decide (tG (x.1 :: (x.2:Int) :: u) < tG (y.1 :: (y.2:Int) :: v)):=by
 show _ =decide (x.1 * 1000 + (x.2:Int) < y.1 * 1000 + (y.2:Int))
 rw[HT.lJ]
 by_cases c:x.1=y.1
 ·rw[a7 c,HT.lJ]
  by_cases d:x.2=y.2
  ·rw[a7 (by lia),← (h d).1,hs,bf (by lia)]
  ·rw[aQ (by lia)]
   exact mf.mpr (by lia)
 ·rw[aQ c]
  exact mf.mpr (by lia)
theorem sI {ks:List (Int×Nat)}{g:Int×Nat->List Int}{us:List (List Int)}(h: ∀x∈ks,x.2 < 1000)(nd:(ks.map (·.2)).Nodup)(hg: ∀x∈ks,tG (g x)=tE x)(p:us.Perm (ks.map g))(le:us.Pairwise (fun t u=>tG t<=tG u)):us=(d9 ks).map g:=by
 refine mP tG _ _ (p.trans ((cY ks).map g).symm) le ?_
 rw[rq]
 refine(Bn h nd).imp_of_mem fun{a b} ha hb z=>?_
 rw[hg a ((cY ks).mem_iff.mp ha),hg b ((cY ks).mem_iff.mp hb)]
 exact z
theorem dm.tk {H H':Hp}{sd:Addr}{S:Bk}{f:fB}(h:dm H sd S f)(k:Frame f.fp H H'):cF H H':=fun b xs e=>k b _ (fun hb=>by
 obtain⟨ms,m1,_⟩:=h.hm
 unfold fB.fp at hb
 rcases aw.mp hb with rfl|hb
 ·rw[h.hb] at e; cases e
 ·rcases aw.mp hb with rfl|hb
  ·rw[h.hc] at e; cases e
  ·rcases aw.mp hb with rfl|hb
   ·rw[m1] at e; cases e
   ·have rows: ∀(rs:List Rw) (ps:List Addr),eU H rs ps->b∈ps->False:=fun rs ps hr hp=>by
     obtain⟨i,hi⟩:=yt hp
     have iO:i < rs.length:=by
      rw[hr.length]
      exact(au.mp hi).1
     obtain⟨q,e1,e2⟩:=hr.at iO
     rw[e1] at hi
     cases hi
     rw[e2] at e
     cases e
    rcases bA.mp hb with hb|hb
    ·exact rows _ _ h.rb hb
    ·exact rows _ _ h.rc hb) e
theorem Frame.lU {fp:List Addr}{H1 H2 H3:Hp}(a:aD H1 H2)(b:Frame fp H2 H3):Frame fp H1 H3:=fun x o hx e=>b x o hx (a x o e)
theorem Frame.dh {fp:List Addr}{H1 H2 H3:Hp}(a:Frame fp H1 H2)(b:aD H2 H3):Frame fp H1 H3:=fun x o hx e=>b x o (a x o hx e)
theorem Frame.tr {fp:List Addr}{H1 H2 H3:Hp}(a:Frame fp H1 H2)(b:Frame fp H2 H3):Frame fp H1 H3:=fun x o hx e=>b x o hx (a x o hx e)
def Ax.dt:Ax->Dt
 | .int i=> .int i
 | .txt s=> .str s
 | .sets l=> .lst (l.map fun t=> .tup [.int t.1,.int t.2.1,.int t.2.2])
 | .pairs l=> .lst (l.map fun t=> .tup [.int t.1,.int t.2])
 | .ints l=> .lst (l.map Dt.int)
theorem g8.Pu {H:Hp}: ∀{ms:List (Nat×Nat×Int)} {vs:List V},g8 H ms vs->gQ H (ms.map fun t=> .tup [.int t.1,.int t.2.1,.int t.2.2]) vs
 |_,_,.nil=>c9.mpr rfl
 |_,_,.cons ⟨p,e,q⟩ t=>by
  subst e
  exact bL.mpr ⟨_,_,rfl,fA q (bL.mpr ⟨_,_,rfl,dz.mpr rfl,bL.mpr ⟨_,_,rfl,dz.mpr rfl,bL.mpr ⟨_,_,rfl,dz.mpr rfl,c9.mpr rfl⟩⟩⟩),g8.Pu t⟩
def fB.kb (f:fB)(p:Addr):fB:={f with ir:=f.ir ++ [p]}
def fB.hX (f:fB)(p:Addr):fB:={f with cps:=f.cps ++ [p]}
theorem fB.IM (f:fB)(p:Addr):(f.kb p).fp.Perm (p :: f.fp):=by
 show(f.pb :: f.pc :: f.pm :: ((f.ir ++ [p]) ++ f.cps)).Perm (p :: f.pb :: f.pc :: f.pm :: (f.ir ++ f.cps))
 have h:((f.ir ++ [p]) ++ f.cps).Perm (p :: (f.ir ++ f.cps)):=by
  rw[gq]
  exact List.perm_middle
 exact(((h.cons f.pm).trans (List.Perm.swap _ _ _)).cons f.pc |>.trans (List.Perm.swap _ _ _)).cons f.pb |>.trans (List.Perm.swap _ _ _)
theorem fB.EC (f:fB)(p:Addr):(f.hX p).fp.Perm (p :: f.fp):=by
 show(f.pb :: f.pc :: f.pm :: (f.ir ++ (f.cps ++ [p]))).Perm (p :: f.pb :: f.pc :: f.pm :: (f.ir ++ f.cps))
 have h:(f.ir ++ (f.cps ++ [p])).Perm (p :: (f.ir ++ f.cps)):=by
  rw[← gq]
  exact List.perm_append_singleton _ _
 exact(((h.cons f.pm).trans (List.Perm.swap _ _ _)).cons f.pc |>.trans (List.Perm.swap _ _ _)).cons f.pb |>.trans (List.Perm.swap _ _ _)
theorem dm.off {H:Hp}{sd D:Addr}{S:Bk}{f:fB}(h:dm H sd S f)(n:H D=none):D∉f.fp:=fun z=>by
 obtain⟨ms,m1,_⟩:=h.hm
 have rows: ∀(rs:List Rw) (ps:List Addr),eU H rs ps->D∈ps->False:=fun rs ps hr hp=>by
  obtain⟨i,hi⟩:=yt hp
  have iO:i < rs.length:=by
   rw[hr.length]
   exact(au.mp hi).1
  obtain⟨q,e1,e2⟩:=hr.at iO
  rw[e1] at hi
  cases hi
  rw[n] at e2
  cases e2
 unfold fB.fp at z
 rcases aw.mp z with rfl|z
 ·have:=h.hb; rw[n] at this; cases this
 rcases aw.mp z with rfl|z
 ·have:=h.hc; rw[n] at this; cases this
 rcases aw.mp z with rfl|z
 ·rw[n] at m1; cases m1
 rcases bA.mp z with z|z
 ·exact rows _ _ h.rb z
 ·exact rows _ _ h.rc z
section
variable {H:Hp}{sd pr:Addr}{S:Bk}{f:fB}{r:Rw}
theorem dm.kb (h:dm H sd S f)(n:H pr=none):dm (upd (upd H pr (.lst r.vs)) f.pb (.lst (f.ir.map V.ref ++ [.ref pr]))) sd (S.kb r) (f.kb pr):=by
 have s1:aD H (upd H pr (.lst r.vs)):=aD.new n
 have h1:=h.same s1
 have g1:upd H pr (.lst r.vs) pr=some (.lst r.vs):=ag
 have np:=h.off n
 have Li:sd≠pr:=aJ h.dict n
 generalize upd H pr (.lst r.vs)=H1 at s1 h1 g1
 obtain⟨d1,d2,d3,d4,d5,d6,d7⟩:=fB.QZ h.nd
 obtain⟨ms,m1,m2⟩:=h1.hm
 have es:sd≠f.pb:=fun z=>h.ns (by rw[z]; simp[fB.fp])
 have ep:pr≠f.pb:=fun z=>np (by rw[z]; simp[fB.fp])
 refine⟨by rw[aA es]; exact h1.dict,?_,by rw[show(f.kb pr).pc=f.pc from rfl,aA d1.symm]; exact h1.hc,⟨ms,by rw[show(f.kb pr).pm=f.pm from rfl,aA d2.symm]; exact m1,m2.mono (fI h1.hb)⟩,?_,?_,?_,?_⟩
 ·show upd H1 f.pb _ f.pb=some (.lst ((f.ir ++ [pr]).map V.ref))
  rw[ag,aM]; rfl
 ·exact cA (h1.rb.g9 fun z=>(d4 _ z).1 rfl) (by rw[aA ep]; exact g1)
 ·exact h1.rc.g9 fun z=>(d5 _ z).1 rfl
 ·exact(f.IM pr).nodup_iff.mpr (fE.mpr ⟨np,h.nd⟩)
 ·intro z
  rcases aw.mp ((f.IM pr).mem_iff.mp z) with z|z
  ·exact Li z
  ·exact h.ns z
theorem dm.hX (h:dm H sd S f)(n:H pr=none):dm (upd (upd H pr (.lst r.vs)) f.pc (.lst (f.cps.map V.ref ++ [.ref pr]))) sd (S.hX r) (f.hX pr):=by
 have s1:aD H (upd H pr (.lst r.vs)):=aD.new n
 have h1:=h.same s1
 have g1:upd H pr (.lst r.vs) pr=some (.lst r.vs):=ag
 have np:=h.off n
 have Li:sd≠pr:=aJ h.dict n
 generalize upd H pr (.lst r.vs)=H1 at s1 h1 g1
 obtain⟨d1,d2,d3,d4,d5,d6,d7⟩:=fB.QZ h.nd
 obtain⟨ms,m1,m2⟩:=h1.hm
 have es:sd≠f.pc:=fun z=>h.ns (by rw[z]; simp[fB.fp])
 have ep:pr≠f.pc:=fun z=>np (by rw[z]; simp[fB.fp])
 refine⟨by rw[aA es]; exact h1.dict,by rw[show(f.hX pr).pb=f.pb from rfl,aA d1]; exact h1.hb,?_,⟨ms,by rw[show(f.hX pr).pm=f.pm from rfl,aA d3.symm]; exact m1,m2.mono (fI h1.hc)⟩,?_,?_,?_,?_⟩
 ·show upd H1 f.pc _ f.pc=some (.lst ((f.cps ++ [pr]).map V.ref))
  rw[ag,aM]; rfl
 ·exact h1.rb.g9 fun z=>(d4 _ z).2.1 rfl
 ·exact cA (h1.rc.g9 fun z=>(d5 _ z).2.1 rfl) (by rw[aA ep]; exact g1)
 ·exact(f.EC pr).nodup_iff.mpr (fE.mpr ⟨np,h.nd⟩)
 ·intro z
  rcases aw.mp ((f.EC pr).mem_iff.mp z) with z|z
  ·exact Li z
  ·exact h.ns z
end
structure dQ where
 dJ:Addr
 dS:Addr
 work:Addr
 book:Addr
 refusal:Addr
 jP:Addr
 pA:Addr
 jw:Addr
 ix:Addr
 tooEarly:Addr
 tooMuch:Addr
 jx:Addr
 iS:Addr
def ee (H:Hp)(p C:Addr)(fs:List (Str×V)):Prop:= ∃dx,H p=some (.ins C dx fs)
theorem ee.same {H H':Hp}{p C:Addr}{fs:List (Str×V)}(h:ee H p C fs)(s:aD H H'):ee H' p C fs:=let⟨dx,e⟩:=h; ⟨dx,s _ _ e⟩
theorem ee.frame {H H':Hp}{p C:Addr}{fs:List (Str×V)}{fp:List Addr}(h:ee H p C fs)(s:Frame fp H H')(n:p∉fp):ee H' p C fs:=let⟨dx,e⟩:=h; ⟨dx,s _ _ n e⟩
def sJ (c:Int):V:=if c= -1 then .d8 else .int c
def fk (i:Nat)(r:Rw):List (Str×V):=[("number",.int i),("who",.str r.aI),("day",.int r.a),("due",.int r.b),("amount",.int r.c)]
def eV (i:Nat)(r:Rw):List (Str×V):=[("number",.int i),("who",.str r.aI),("day",.int r.a),("amount",.int r.b),("only",sJ r.c)]
section
variable (i:Nat)(r:Rw)
theorem k8:(fk i r).lookup ("number":Str)=some (V.int i):=by rfl
theorem Dd:(fk i r).lookup ("who":Str)=some (V.str r.aI):=by rfl
theorem N5:(fk i r).lookup ("day":Str)=some (V.int r.a):=by rfl
theorem IP:(fk i r).lookup ("due":Str)=some (V.int r.b):=by rfl
theorem nO:(eV i r).lookup ("number":Str)=some (V.int i):=by rfl
theorem IQ:(eV i r).lookup ("who":Str)=some (V.str r.aI):=by rfl
theorem IS:(eV i r).lookup ("day":Str)=some (V.int r.a):=by rfl
theorem Lj:(eV i r).lookup ("only":Str)=some (sJ r.c):=by rfl
end
structure eB where
 pb:Addr
 pc:Addr
 pl:Addr
 pf:Addr
 pm:Addr
 ir:List Addr
 cps:List Addr
def eB.fp (f:eB):List Addr:=[f.pb,f.pc,f.pl,f.pf,f.pm]
def k9 (f:eB):List (Str×V):=[("bills",.ref f.pb),("all_credits",.ref f.pc),("lefts",.ref f.pl),("frees",.ref f.pf),("made",.ref f.pm)]
theorem i7 (f:eB):(k9 f).lookup ("bills":Str)=some (V.ref f.pb):=by rfl
theorem gW (f:eB):(k9 f).lookup ("all_credits":Str)=some (V.ref f.pc):=by rfl
theorem lg (f:eB):(k9 f).lookup ("lefts":Str)=some (V.ref f.pl):=by rfl
theorem lh (f:eB):(k9 f).lookup ("frees":Str)=some (V.ref f.pf):=by rfl
theorem ED (f:eB):(k9 f).lookup ("made":Str)=some (V.ref f.pm):=by rfl
def gf (H:Hp)(C:Addr)(fs:Nat->Rw->List (Str×V))(rows:List Rw)(ps:List Addr):Prop:=ps.length=rows.length/\ ∀i p,ps[i]? =some p->ee H p C (fs i (rows.getD i default))
theorem gf.keep {H H':Hp}{C:Addr}{fs:Nat->Rw->List (Str×V)}{rows:List Rw}{ps:List Addr}(h:gf H C fs rows ps)(k: ∀p dx gs,H p=some (.ins C dx gs)->H' p=some (.ins C dx gs)):gf H' C fs rows ps:=
 ⟨h.1,fun i p e=>let⟨dx,z⟩:=h.2 i p e; ⟨dx,k _ _ _ z⟩⟩
theorem gf.get {H:Hp}{C:Addr}{fs:Nat->Rw->List (Str×V)}{rows:List Rw}{ps:List Addr}(h:gf H C fs rows ps){i:Nat}(hi:i < rows.length): ∃p,ps[i]? =some p/\ee H p C (fs i (rows.getD i default)):=by
 have iO:i < ps.length:=by rw[h.1]; exact hi
 exact⟨ps[i],af iO,h.2 i _ (af iO)⟩
theorem gf.rows {H:Hp}{C:Addr}{fs:Nat->Rw->List (Str×V)}{rows ip:List Rw}{ps:List Addr}(h:gf H C fs rows ps)(hl:ip.length=rows.length)(e: ∀i,fs i (ip.getD i default)=fs i (rows.getD i default)):gf H C fs ip ps:=
 ⟨h.1.trans hl.symm,fun i p z=>by rw[e]; exact h.2 i p z⟩
theorem gf.add {H:Hp}{C p:Addr}{fs:Nat->Rw->List (Str×V)}{rows:List Rw}{r:Rw}{ps:List Addr}(h:gf H C fs rows ps)(n:ee H p C (fs rows.length r)):gf H C fs (rows ++ [r]) (ps ++ [p]):=by
 refine⟨by rw[aH,aH,h.1]; rfl,fun i q e=>?_⟩
 by_cases hi:i < ps.length
 ·rw[MP hi] at e
  rw[getD_snoc (by rw[← h.1]; exact hi)]
  exact h.2 i q e
 ·rw[oR (by lia)] at e
  have e0:i - ps.length=0:=by
   have:=(au.mp e).1
   simp at this
   lia
  rw[e0] at e
  obtain rfl:p=q:=by simpa using e
  obtain rfl:i=rows.length:=by have:=h.1; lia
  rw[getD_last]
  exact n
structure dB (A:dQ)(H:Hp)(pw:Addr)(S:Bk)(f:eB):Prop where
 obj:ee H pw A.work (k9 f)
 hb:H f.pb=some (.lst (f.ir.map V.ref))
 hc:H f.pc=some (.lst (f.cps.map V.ref))
 hl:H f.pl=some (.lst (S.aG.map fun r=>V.int r.d))
 hf:H f.pf=some (.lst (S.credits.map fun r=>V.int r.d))
 hm: ∃ms,H f.pm=some (.lst ms)/\g8 H S.made ms
 rb:gf H A.dJ fk S.aG f.ir
 rc:gf H A.dS eV S.credits f.cps
 nd:f.fp.Nodup
section
variable {A:dQ}{H H':Hp}{pw:Addr}{S:Bk}{f:eB}
theorem dB.lists (h:dB A H pw S f): ∀p∈f.fp,∃xs,H p=some (.lst xs):=fun p hp=>by
 obtain⟨ms,m1,_⟩:=h.hm
 simp only[eB.fp,List.mem_cons,List.not_mem_nil,or_false] at hp
 rcases hp with rfl|rfl|rfl|rfl|rfl
 ·exact⟨_,h.hb⟩
 ·exact⟨_,h.hc⟩
 ·exact⟨_,h.hl⟩
 ·exact⟨_,h.hf⟩
 ·exact⟨_,m1⟩
theorem dB.off (h:dB A H pw S f){p:Addr}(n: ∀xs,H p≠some (.lst xs)):p∉f.fp:=fun z=>by
 obtain⟨xs,e⟩:=h.lists p z
 exact n xs e
theorem dB.new (h:dB A H pw S f){p:Addr}(n:H p=none):p∉f.fp:=h.off fun xs e=>by rw[n] at e; cases e
theorem dB.ins (h:dB A H pw S f){p C:Addr}{fs:List (Str×V)}(n:ee H p C fs):p∉f.fp:=h.off fun xs e=>by
 obtain⟨dx,z⟩:=n
 rw[z] at e
 cases e
theorem dB.tk (h:dB A H pw S f)(k:Frame f.fp H H'):cF H H':=fun b xs e=>k b _ (h.off fun ys z=>by rw[e] at z; cases z) e
theorem dB.objs (h:dB A H pw S f)(k:Frame f.fp H H'):ee H' pw A.work (k9 f)/\gf H' A.dJ fk S.aG f.ir/\gf H' A.dS eV S.credits f.cps:=by
 have go: ∀{p C:Addr} {dx:Addr} {gs:List (Str×V)},H p=some (.ins C dx gs)->H' p=some (.ins C dx gs):=fun e=>k _ _ (h.off fun ys z=>by rw[e] at z; cases z) e
 exact⟨let⟨dx,e⟩:=h.obj; ⟨dx,go e⟩,h.rb.keep fun _ _ _ e=>go e,h.rc.keep fun _ _ _ e=>go e⟩
theorem dB.same (h:dB A H pw S f)(s:aD H H'):dB A H' pw S f:=by
 obtain⟨o1,o2,o3⟩:=h.objs (s.frame (fp:=f.fp))
 obtain⟨ms,m1,m2⟩:=h.hm
 exact⟨o1,s _ _ h.hb,s _ _ h.hc,s _ _ h.hl,s _ _ h.hf,⟨ms,s _ _ m1,m2.mono s.tk⟩,o2,o3,h.nd⟩
theorem eB.ne (h:f.fp.Nodup):f.pb≠f.pc/\f.pb≠f.pl/\f.pb≠f.pf/\f.pb≠f.pm/\f.pc≠f.pl/\f.pc≠f.pf/\f.pc≠f.pm/\f.pl≠f.pf/\f.pl≠f.pm/\f.pf≠f.pm:=by
 simp only[eB.fp,List.nodup_cons,List.mem_cons,List.not_mem_nil,or_false,not_or] at h
 obtain⟨⟨h1,h2,h3,h4⟩,⟨h5,h6,h7⟩,⟨h8,h9⟩,JZ,_⟩:=h
 exact⟨h1,h2,h3,h4,h5,h6,h7,h8,h9,JZ⟩
theorem xW {rows:List Rw}{i:Nat}{x:Int}:(rows.set i ((rows.getD i default).less x)).map (fun r=>V.int r.d)=(rows.map fun r=>V.int r.d).set i (.int ((rows.getD i default).d - x)):=by
 rw[G4]; rfl
theorem dB.put (h:dB A H pw S f){c b:Nat}{x:Int}{ms:List V}{p:Addr}(hc:c < S.credits.length)(hb:b < S.aG.length)(m1:H f.pm=some (.lst ms))(m2:g8 H S.made ms)(np:H p=none):
  dB A (upd (upd (upd (upd H f.pf (.lst ((S.credits.map fun r=>V.int r.d).set c (.int ((S.cr c).d - x))))) f.pl (.lst ((S.aG.map fun r=>V.int r.d).set b (.int ((S.bl b).d - x))))) p (.tup [.int c,.int b,.int x])) f.pm (.lst (ms ++ [.ref p]))) pw (S.put c b x) f/\
  Frame f.fp H (upd (upd (upd (upd H f.pf (.lst ((S.credits.map fun r=>V.int r.d).set c (.int ((S.cr c).d - x))))) f.pl (.lst ((S.aG.map fun r=>V.int r.d).set b (.int ((S.bl b).d - x))))) p (.tup [.int c,.int b,.int x])) f.pm (.lst (ms ++ [.ref p]))):=by
 obtain⟨e1,e2,e3,e4,e5,e6,e7,e8,e9,Mt⟩:=eB.ne h.nd
 have pf: ∀q∈f.fp,q≠p:=fun q hq z=>h.new np (z▸hq)
 have i1:f.pb∈f.fp:=by simp[eB.fp]
 have i2:f.pc∈f.fp:=by simp[eB.fp]
 have i3:f.pl∈f.fp:=by simp[eB.fp]
 have i4:f.pf∈f.fp:=by simp[eB.fp]
 have i5:f.pm∈f.fp:=by simp[eB.fp]
 have t3: ∀(G:Hp) (q:Addr),q≠f.pf->q≠f.pl->q≠p->q≠f.pm-> ∀(a b c d:HO),upd (upd (upd (upd G f.pf a) f.pl b) p c) f.pm d q=G q:=fun G q h1 h2 h3 h4 a b c d=>by
  rw[aA h4,aA h3,aA h2,aA h1]
 have F:Frame f.fp H (upd (upd (upd (upd H f.pf (.lst ((S.credits.map fun r=>V.int r.d).set c (.int ((S.cr c).d - x))))) f.pl (.lst ((S.aG.map fun r=>V.int r.d).set b (.int ((S.bl b).d - x))))) p (.tup [.int c,.int b,.int x])) f.pm (.lst (ms ++ [.ref p]))):=fun q o hq e=>by
  rw[t3 H q (fun z=>hq (z▸i4)) (fun z=>hq (z▸i3)) (aJ e np) (fun z=>hq (z▸i5))]
  exact e
 refine⟨?_,F⟩
 obtain⟨o1,o2,o3⟩:=h.objs F
 have tk:=h.tk F
 refine⟨o1,by rw[t3 H _ e3 e2 (pf _ i1) e4]; exact h.hb,by rw[t3 H _ e6 e5 (pf _ i2) e7]; exact h.hc,?_,?_,⟨_,ag,?_⟩,?_,?_,h.nd⟩
 ·rw[aA e9,aA (pf _ i3),ag]
  show _ =some (HO.lst ((S.aG.set b ((S.aG.getD b default).less x)).map fun r=>V.int r.d))
  rw[xW]; rfl
 ·rw[aA Mt,aA (pf _ i4),aA e8.symm,ag]
  show _ =some (HO.lst ((S.credits.set c ((S.credits.getD c default).less x)).map fun r=>V.int r.d))
  rw[xW]; rfl
 ·refine cA (m2.mono tk) ⟨p,rfl,?_⟩
  rw[aA (pf _ i5).symm,ag]
 ·refine o2.rows dX fun i=>?_
  show fk i ((S.put c b x).bl i)=fk i (S.bl i)
  rw[uS hb]
  split
  ·rename_i z; subst z; rfl
  ·rfl
 ·refine o3.rows dX fun i=>?_
  show eV i ((S.put c b x).cr i)=eV i (S.cr i)
  rw[rO hc]
  split
  ·rename_i z; subst z; rfl
  ·rfl
end
end L2
namespace eE
open PySem L2 PyProof.Rows K2
def Lk:Stmt->List Stmt
 | .ClassDef _ _ _ b _ _ _ _ _ _ _=>b
 |_=>[]
def mem (i j:Nat):Stmt:=(Lk (top i)).getD j (.Pass ⟨0,0,0,0⟩)
structure jn (K:PySem.W.Frag)(mg:Str->Option Value)(A:dQ):Prop where
 fJ:mg "Refusal"=some (.ref A.refusal)
 De:gN K A.refusal A.refusal
 N6:PySem.W.keepIn K (.ref A.refusal)=true
 gg: ∃f fd,fY K "__init__" "Refusal.__init__" (mem 3 0) f fd/\Eu K A.refusal f
 Bo:mg "NoCredit"=some (.ref A.jP)
 sM:gN K A.jP A.refusal
 Bp:PySem.W.keepIn K (.ref A.jP)=true
 Bq: ∃f fd,fY K "__init__" "NoCredit.__init__" (mem 4 0) f fd/\PySem.W.findIn K (.ref A.jP) "__init__"=some (some (.ref f))/\PySem.W.typeIn K (.ref f)=some (.type "function")
 Gf:mg "NoBill"=some (.ref A.pA)
 xX:gN K A.pA A.refusal
 Gg:PySem.W.keepIn K (.ref A.pA)=true
 Gh: ∃f fd,fY K "__init__" "NoBill.__init__" (mem 5 0) f fd/\PySem.W.findIn K (.ref A.pA) "__init__"=some (some (.ref f))/\PySem.W.typeIn K (.ref f)=some (.type "function")
 zd:mg "NotTheirs"=some (.ref A.jw)
 qD:gN K A.jw A.refusal
 ze:PySem.W.keepIn K (.ref A.jw)=true
 zf: ∃f fd,fY K "__init__" "NotTheirs.__init__" (mem 6 0) f fd/\PySem.W.findIn K (.ref A.jw) "__init__"=some (some (.ref f))/\PySem.W.typeIn K (.ref f)=some (.type "function")
 Br:mg "NoAmount"=some (.ref A.ix)
 km:gN K A.ix A.refusal
 Bs:PySem.W.keepIn K (.ref A.ix)=true
 Bt: ∃f fd,fY K "__init__" "NoAmount.__init__" (mem 7 0) f fd/\PySem.W.findIn K (.ref A.ix) "__init__"=some (some (.ref f))/\PySem.W.typeIn K (.ref f)=some (.type "function")
 Bu:mg "TooEarly"=some (.ref A.tooEarly)
 sN:gN K A.tooEarly A.refusal
 Bv:PySem.W.keepIn K (.ref A.tooEarly)=true
 Bw: ∃f fd,fY K "__init__" "TooEarly.__init__" (mem 8 0) f fd/\PySem.W.findIn K (.ref A.tooEarly) "__init__"=some (some (.ref f))/\PySem.W.typeIn K (.ref f)=some (.type "function")
 vh:mg "TooMuch"=some (.ref A.tooMuch)
 pB:gN K A.tooMuch A.refusal
 Dg:PySem.W.keepIn K (.ref A.tooMuch)=true
 Dh: ∃f fd,fY K "__init__" "TooMuch.__init__" (mem 9 0) f fd/\PySem.W.findIn K (.ref A.tooMuch) "__init__"=some (some (.ref f))/\PySem.W.typeIn K (.ref f)=some (.type "function")
 zh:mg "NoSetting"=some (.ref A.jx)
 qE:gN K A.jx A.refusal
 zi:PySem.W.keepIn K (.ref A.jx)=true
 zj: ∃f fd,fY K "__init__" "NoSetting.__init__" (mem 10 0) f fd/\PySem.W.findIn K (.ref A.jx) "__init__"=some (some (.ref f))/\PySem.W.typeIn K (.ref f)=some (.type "function")
 xY:mg "Needed"=some (.ref A.iS)
 xZ:gN K A.iS A.refusal
 Gi:PySem.W.keepIn K (.ref A.iS)=true
 Gj: ∃f fd,fY K "__init__" "Needed.__init__" (mem 11 0) f fd/\PySem.W.findIn K (.ref A.iS) "__init__"=some (some (.ref f))/\PySem.W.typeIn K (.ref f)=some (.type "function")
 Ll:mg "Bill"=some (.ref A.dJ)
 dU:wc K A.dJ
 eJ:b0 K A.dJ "number"
 ko:b0 K A.dJ "who"
 mQ:b0 K A.dJ "day"
 mR:b0 K A.dJ "due"
 mS:b0 K A.dJ "amount"
 Lm: ∃f fd,fY K "__init__" "Bill.__init__" (mem 13 0) f fd/\Mk K A.dJ f
 Gk:mg "Credit"=some (.ref A.dS)
 cZ:wc K A.dS
 eD:b0 K A.dS "number"
 kG:b0 K A.dS "who"
 iV:b0 K A.dS "day"
 lj:b0 K A.dS "amount"
 jQ:b0 K A.dS "only"
 Gm: ∃f fd,fY K "__init__" "Credit.__init__" (mem 14 0) f fd/\Mk K A.dS f
 Ln:mg "Work"=some (.ref A.work)
 bD:wc K A.work
 dO:b0 K A.work "bills"
 cD:b0 K A.work "all_credits"
 fm:b0 K A.work "lefts"
 fq:b0 K A.work "frees"
 lV:b0 K A.work "made"
 Lo: ∃f fd,fY K "__init__" "Work.__init__" (mem 25 0) f fd/\Mk K A.work f
 qF: ∃f fd,fY K "tell_bill" "Work.tell_bill" (mem 25 1) f fd/\Meth K A.work "tell_bill" f
 mT: ∃f fd,fY K "tell_payment" "Work.tell_payment" (mem 25 2) f fd/\Meth K A.work "tell_payment" f
 qG: ∃f fd,fY K "tell_note" "Work.tell_note" (mem 25 3) f fd/\Meth K A.work "tell_note" f
 og: ∃f fd,fY K "tell_credit" "Work.tell_credit" (mem 25 4) f fd/\Meth K A.work "tell_credit" f
 oh: ∃f fd,fY K "set_by_hand" "Work.set_by_hand" (mem 25 5) f fd/\Meth K A.work "set_by_hand" f
 wK: ∃f fd,fY K "sweep" "Work.sweep" (mem 25 6) f fd/\Meth K A.work "sweep" f
 qH: ∃f fd,fY K "one_round" "Work.one_round" (mem 25 7) f fd/\Meth K A.work "one_round" f
 Bx: ∃f fd,fY K "put" "Work.put" (mem 25 8) f fd/\Meth K A.work "put" f
 qI: ∃f fd,fY K "credit_at" "Work.credit_at" (mem 25 9) f fd/\Meth K A.work "credit_at" f
 tH: ∃f fd,fY K "bill_at" "Work.bill_at" (mem 25 10) f fd/\Meth K A.work "bill_at" f
 Lp:mg "Book"=some (.ref A.book)
 eK:wc K A.book
 gx:b0 K A.book "kept"
 gy:b0 K A.book "work"
 Lq: ∃f fd,fY K "__init__" "Book.__init__" (mem 29 0) f fd/\Mk K A.book f
 Di: ∃f fd,fY K "do" "Book.do" (mem 29 1) f fd/\Meth K A.book "do" f
 zk: ∃f fd,fY K "undo" "Book.undo" (mem 29 2) f fd/\Meth K A.book "undo" f
 rV: ∃f fd,fY K "in_force" "Book.in_force" (mem 29 3) f fd/\Meth K A.book "in_force" f
end eE
namespace L2
open PySem PySem.Spec PySem.W PyProof.Rows K2
structure gO (CX:Ft)(P:Program)(w:World)(K:PySem.W.Frag)(mg:Str->Option Value)(base:Heap)(C:Addr)(m:Str)(k:Nat)(ps:List Str)(sp:Sp):Prop where
 ex: ∃(f:Addr) (fd:FuncData),wc K C/\Meth K C m f/\lI P w K mg base CX k f fd ps sp/\Binds K fd ps []
structure vi (P:Program)(w:World)(K:PySem.W.Frag)(mg:Str->Option Value)(base:Heap)(x:Str)(k:Nat)(ps:List Str)(sp:Sp):Prop where
 ex: ∃(f:Addr) (fd:FuncData),lI P w K mg base (mi P w mg) k f fd ps sp/\mg x=some (.ref f)/\PySem.W.keepIn K (.ref f)=true/\Binds K fd ps []
structure tI (P:Program)(w:World)(K:PySem.W.Frag)(mg:Str->Option Value)(base:Heap)(x:Str)(C:Addr)(k:Nat)(ps:List Str)(sp:Sp):Prop where
 ex: ∃(f:Addr) (fd:FuncData),Mk K C f/\lI P w K mg base rJ k f fd ps sp/\Binds K fd ps []/\mg x=some (.ref C)
section
variable {X:Cx}{CX:Ft}{C:Addr}{x m:Str}{k:Nat}{ps:List Str}{sp:Sp}{o e:Expr}{es:List Expr}{ta:TE}{t:TA}{p pos apos:Pos}{E:XK}
theorem mU {pl:Sem Bool}(M:gO CX X.prog X.w X.K X.mg X.base C m k ps sp)(hr:eT k X.A)(hx:Passes CX X E)(he:PE X o ta)(ha:PA X (e :: es) t)
  (sk:starEach (e :: es) X.env=(false,eval e X.env) :: starEach es X.env:=by rfl) (hV:(backTo pos (starEach es X.env)).any (·.1)=false:=by rfl)
  (ht:eval (.Call (.Attribute o m apos) (e :: es) [] pos) X.env=(do
   let ov ← eval o X.env
   standAt apos.atName
   let(f,first) ← holding [ov] (getMethod ov m pl)
   callWith pos f first (backTo pos (starEach (e :: es) X.env)) (backToKw pos (keywordEach [] X.env))):=by rfl):
  PE X (.Call (.Attribute o m apos) (e :: es) [] pos) (Me C m sp [] E ta t):=by
 obtain⟨f,fd,hc,hm,F,hb⟩:=M.ex
 exact Kx he hc hm F hr hb .nil hx ha sk hV ht
theorem rW (M:vi X.prog X.w X.K X.mg X.base x k ps sp)(hr:eT k X.A)(hg:Gl X x)(hx:Passes (mi X.prog X.w X.mg) X E)(ha:PA X (e :: es) t)(qf:(x == ("__debug__":Str))=false:=by decide)
  (he:starEach (e :: es) X.env=(false,eval e X.env) :: starEach es X.env:=by rfl) (hV:(backTo pos (starEach es X.env)).any (·.1)=false:=by rfl):PE X (.Call (.Name x p) (e :: es) [] pos) (uz sp [] E t):=by
 obtain⟨f,fd,F,hm,hk,hb⟩:=M.ex
 exact D4 F hr hg hm hk hb .nil hx ha qf he hV
theorem Ry (M:tI X.prog X.w X.K X.mg X.base x C k ps sp)(hr:eT (k + 1) X.A)(hg:Gl X x)(ha:PA X (e :: es) t)(qf:(x == ("__debug__":Str))=false:=by decide)
  (he:starEach (e :: es) X.env=(false,eval e X.env) :: starEach es X.env:=by rfl) (hV:(backTo pos (starEach es X.env)).any (·.1)=false:=by rfl):PE X (.Call (.Name x p) (e :: es) [] pos) (D3 C sp [] E0 t):=by
 obtain⟨f,fd,hk,F,hb,hm⟩:=M.ex
 exact Ky hk F hr hg hm hb .nil mE ha qf he hV
theorem IT (M:tI X.prog X.w X.K X.mg X.base x C k ps sp)(hr:eT (k + 1) X.A)(hg:Gl X x)(qf:(x == ("__debug__":Str))=false:=by decide):PE X (.Call (.Name x p) [] [] pos) (D3 C sp [] E0 CM):=by
 obtain⟨f,fd,hk,F,hb,hm⟩:=M.ex
 exact HJ hk F hr hg hm hb .nil mE qf
end
section
variable {P:Program}{w:World}{K:PySem.W.Frag}{mg:Str->Option Value}{base:Heap}{C:Addr}{x m qual:Str}{st:Stmt}{N ps:List Str}{k:Nat}{sp:Sp}
theorem Lr (D: ∃f fd,fY K m qual st f fd/\Meth K C m f)(hc:wc K C)(S:aS N ps (ax st))
  (fN: ∀(f:Addr) (cK:Value) (A:Around) (outer:List Env) (s:Shared) (H:Hp) (vs:List V) (Q:VK) (E:XK),eT k (A.deeper (envOfC qual (ax st) s.heap.objs.size f cK))->sp vs H Q E->
   ∃t,oV (kQ rJ P w K mg base N qual (ax st) f cK A outer s H E).DV (dv st) t/\t {nx:=fun _ H'=>Q .d8 H',rt:=Q} (start N vs) H)
  (hb: ∀(kV doc pm:Value) (an:Option Addr) (cK ct:Value) (us:List Value),us.length=ps.length->bindArgs (PySem.W.fnOf m qual (gw st) (dv st) (ax st) .none kV doc pm an cK ct) ⟨us,[]⟩=pure (ps.zip us):=by intro _ _ _ _ _ _ us hl; rcases us with _|⟨_,_|⟨_,_|⟨_,_|⟨_,_|⟨_,_|⟨_,_|⟨_,_⟩⟩⟩⟩⟩⟩⟩ <;> first|(cases hl; done)|rfl)
  (len: ∀vs H Q E,sp vs H Q E->vs.length=ps.length:=by intro _ _ _ _ h; first|(cases h; subst_vars; rfl)|(repeat (first|(obtain⟨rfl,_⟩:=h; rfl; done)|obtain⟨_,h⟩:=h))):gO rJ P w K mg base C m (k + 1) ps sp:=by
 obtain⟨f,fd,F,hm⟩:=D
 exact⟨f,fd,hc,hm,F.ok S len (fN f),F.binds hb⟩
theorem qJ (D: ∃f fd,fY K m qual st f fd/\Meth K C m f)(hc:wc K C)(S:aS N ps (ax st))
  (fN: ∀(f:Addr) (cK:Value) (A:Around) (outer:List Env) (s:Shared) (H:Hp) (vs:List V) (Q:VK) (E:XK),eT k (A.deeper (envOfC qual (ax st) s.heap.objs.size f cK))->Pm (kQ (mi P w mg) P w K mg base N qual (ax st) f cK A outer s H E) E->sp vs H Q E->
   ∃t,oV (kQ (mi P w mg) P w K mg base N qual (ax st) f cK A outer s H E) (dv st) t/\t {nx:=fun _ H'=>Q .d8 H',rt:=Q} (start N vs) H)
  (hb: ∀(kV doc pm:Value) (an:Option Addr) (cK ct:Value) (us:List Value),us.length=ps.length->bindArgs (PySem.W.fnOf m qual (gw st) (dv st) (ax st) .none kV doc pm an cK ct) ⟨us,[]⟩=pure (ps.zip us):=by intro _ _ _ _ _ _ us hl; rcases us with _|⟨_,_|⟨_,_|⟨_,_|⟨_,_|⟨_,_|⟨_,_|⟨_,_⟩⟩⟩⟩⟩⟩⟩ <;> first|(cases hl; done)|rfl)
  (len: ∀vs H Q E,sp vs H Q E->vs.length=ps.length:=by intro _ _ _ _ h; first|(cases h; subst_vars; rfl)|(repeat (first|(obtain⟨rfl,_⟩:=h; rfl; done)|obtain⟨_,h⟩:=h))):gO (mi P w mg) P w K mg base C m (k + 1) ps sp:=by
 obtain⟨f,fd,F,hm⟩:=D
 exact⟨f,fd,hc,hm,F.XX S len (fN f),F.binds hb⟩
theorem N7 (D:Df K mg x st)(S:aS N ps (ax st))
  (fN: ∀(f:Addr) (cK:Value) (A:Around) (outer:List Env) (s:Shared) (H:Hp) (vs:List V) (Q:VK) (E:XK),eT k (A.deeper (envOfC x (ax st) s.heap.objs.size f cK))->Pm (kQ (mi P w mg) P w K mg base N x (ax st) f cK A outer s H E) E->sp vs H Q E->
   ∃t,oV (kQ (mi P w mg) P w K mg base N x (ax st) f cK A outer s H E) (dv st) t/\t {nx:=fun _ H'=>Q .d8 H',rt:=Q} (start N vs) H)
  (hb: ∀(kV doc pm:Value) (an:Option Addr) (cK ct:Value) (us:List Value),us.length=ps.length->bindArgs (PySem.W.fnOf x x (gw st) (dv st) (ax st) .none kV doc pm an cK ct) ⟨us,[]⟩=pure (ps.zip us):=by intro _ _ _ _ _ _ us hl; rcases us with _|⟨_,_|⟨_,_|⟨_,_|⟨_,_|⟨_,_|⟨_,_|⟨_,_⟩⟩⟩⟩⟩⟩⟩ <;> first|(cases hl; done)|rfl)
  (len: ∀vs H Q E,sp vs H Q E->vs.length=ps.length:=by intro _ _ _ _ h; first|(cases h; subst_vars; rfl)|(repeat (first|(obtain⟨rfl,_⟩:=h; rfl; done)|obtain⟨_,h⟩:=h))):vi P w K mg base x (k + 1) ps sp:=by
 obtain⟨f,fd,F,hm⟩:=D.ex
 exact⟨f,fd,F.XX S len (fN f),hm,F.kp,F.binds hb⟩
theorem Ls (D: ∃f fd,fY K "__init__" qual st f fd/\Mk K C f)(hm:mg x=some (.ref C))(S:aS N ps (ax st))
  (fN: ∀(f:Addr) (cK:Value) (A:Around) (outer:List Env) (s:Shared) (H:Hp) (vs:List V) (Q:VK) (E:XK),eT k (A.deeper (envOfC qual (ax st) s.heap.objs.size f cK))->sp vs H Q E->
   ∃t,oV (kQ rJ P w K mg base N qual (ax st) f cK A outer s H E).DV (dv st) t/\t {nx:=fun _ H'=>Q .d8 H',rt:=Q} (start N vs) H)
  (hb: ∀(kV doc pm:Value) (an:Option Addr) (cK ct:Value) (us:List Value),us.length=ps.length->bindArgs (PySem.W.fnOf "__init__" qual (gw st) (dv st) (ax st) .none kV doc pm an cK ct) ⟨us,[]⟩=pure (ps.zip us):=by intro _ _ _ _ _ _ us hl; rcases us with _|⟨_,_|⟨_,_|⟨_,_|⟨_,_|⟨_,_|⟨_,_|⟨_,_⟩⟩⟩⟩⟩⟩⟩ <;> first|(cases hl; done)|rfl)
  (len: ∀vs H Q E,sp vs H Q E->vs.length=ps.length:=by intro _ _ _ _ h; first|(cases h; subst_vars; rfl)|(repeat (first|(obtain⟨rfl,_⟩:=h; rfl; done)|obtain⟨_,h⟩:=h))):tI P w K mg base x C (k + 1) ps sp:=by
 obtain⟨f,fd,F,hk⟩:=D
 exact⟨f,fd,hk,F.ok S len (fN f),F.binds hb,hm⟩
end
end L2
namespace eE
open PySem L2 PyProof.Rows K2
seal L2.oV L2.PS L2.PE L2.PT L2.PW L2.PA L2.PC L2.PG L2.Ks L2.PI L2.Mg L2.KO L2.PO L2.ox L2.M7 L2.iY L2.JW L2.Pg
section
variable {P:Program}{w:World}{K:PySem.W.Frag}{mg:Str->Option Value}{base:Heap}
theorem Gn {H:Hp}{e dx:Addr}{a b c:HO}(h:dx≠e):upd (upd (upd H e a) dx b) e c=upd (upd H dx b) e c:=by
 funext q
 by_cases h1:q=e
 ·rw[h1,ag,ag]
 ·rw[aA h1,aA h1]
  by_cases h2:q=dx
  ·rw[h2,ag,ag]
  ·rw[aA h2,aA h2,aA h1]
inductive Mu (K:PySem.W.Frag)(vs:List V)(H:Hp)(Q:VK)(E':XK):Prop
 |mk (e C R t0:Addr)(txt:Str)(h1:vs=[.ref e,.str txt])(h2:H e=some (xo e C none (v0 t0)))(h3:gN K C R)(h4: ∀dx t',H dx=none->Q .d8 (upd (upd H dx (.xd [("text",.str txt)])) e (xo e C (some dx) (v0 t')))):Mu K vs H Q E'
theorem Dj:aS ["self","text"] ["self","text"] (ax (mem 3 0)):={}
theorem gh (T:Txt K mg){f:Addr}{fd:FuncData}(F:fY K "__init__" "Refusal.__init__" (mem 3 0) f fd):Rb P w K mg base 1 f fd ["self","text"] (Mu K):=by
 refine lS (k:=0) F Dj (fun vs H Q E h=>?_) (fun cK A outer s H vs Q E hr h=>?_)
 ·obtain⟨e,C,R,t0,txt,rfl,_⟩:=h
  rfl
 ·obtain⟨e,C,R,t0,txt,rfl,he,ek,k⟩:=h
  refine⟨_,(ai (bJ (Iy rfl T.Bl (aa (pv 0) (aa (pv 1) av)))) (ao (K9 (pv 0) (pv 1) rfl))),?_⟩
  refine⟨_,rfl,_,rfl,e,C,R,t0,none,v0 t0,_,rfl,he,ek,rfl,fun t'=>?_⟩
  refine⟨_,rfl,_,rfl,e,C,R,v0 t',rfl,ag,ek,fun dx IU=>?_⟩
  have ne:dx≠e:=fun z=>by rw[z,ag] at IU; cases IU
  rw[aA ne] at IU
  have q:=k dx t' IU
  rw[← Gn (a:=xo e C none (v0 t')) ne] at q
  exact q
theorem By:aS ["self"] ["self"] (ax (mem 4 0)):={}
theorem Bz (T:Txt K mg){A:dQ}(G:jn K mg A):Iz P w K mg base 2 "NoCredit" A.jP A.refusal "no credit":=by
 obtain⟨f,fd,F,hi,ht⟩:=G.Bq
 obtain⟨f0,N8,F0,ik⟩:=G.gg
 refine⟨G.Bo,G.sM,G.Bp,f,fd,hi,ht,?_,F.binds (fun _ _ _ _ _ _ us hl=>match us,hl with|[_],_=>rfl)⟩
 refine lS (k:=1) F By (fun vs H Q E h=>?_) (fun cK A' outer s H vs Q E hr h=>?_)
 ·obtain⟨e,C,R,t0,rfl,_⟩:=h
  rfl
 ·obtain⟨e,C,R,t0,rfl,he,ek,k⟩:=h
  refine⟨_,(ao (bJ (i0 ik (gh T F0) hr (F0.binds (fun _ _ _ _ _ _ us hl=>match us,hl with|[_,_],_=>rfl)) rfl G.fJ (aa (pv 0) (aa aR av))))),?_⟩
  exact⟨_,rfl,e,C,R,t0,_,rfl,he,ek,fun dx t' n=>k dx t' n⟩
theorem Gp:aS ["self"] ["self"] (ax (mem 5 0)):={}
theorem Gq (T:Txt K mg){A:dQ}(G:jn K mg A):Iz P w K mg base 2 "NoBill" A.pA A.refusal "no bill":=by
 obtain⟨f,fd,F,hi,ht⟩:=G.Gh
 obtain⟨f0,N8,F0,ik⟩:=G.gg
 refine⟨G.Gf,G.xX,G.Gg,f,fd,hi,ht,?_,F.binds (fun _ _ _ _ _ _ us hl=>match us,hl with|[_],_=>rfl)⟩
 refine lS (k:=1) F Gp (fun vs H Q E h=>?_) (fun cK A' outer s H vs Q E hr h=>?_)
 ·obtain⟨e,C,R,t0,rfl,_⟩:=h
  rfl
 ·obtain⟨e,C,R,t0,rfl,he,ek,k⟩:=h
  refine⟨_,(ao (bJ (i0 ik (gh T F0) hr (F0.binds (fun _ _ _ _ _ _ us hl=>match us,hl with|[_,_],_=>rfl)) rfl G.fJ (aa (pv 0) (aa aR av))))),?_⟩
  exact⟨_,rfl,e,C,R,t0,_,rfl,he,ek,fun dx t' n=>k dx t' n⟩
theorem zl:aS ["self"] ["self"] (ax (mem 6 0)):={}
theorem zo (T:Txt K mg){A:dQ}(G:jn K mg A):Iz P w K mg base 2 "NotTheirs" A.jw A.refusal "not theirs":=by
 obtain⟨f,fd,F,hi,ht⟩:=G.zf
 obtain⟨f0,N8,F0,ik⟩:=G.gg
 refine⟨G.zd,G.qD,G.ze,f,fd,hi,ht,?_,F.binds (fun _ _ _ _ _ _ us hl=>match us,hl with|[_],_=>rfl)⟩
 refine lS (k:=1) F zl (fun vs H Q E h=>?_) (fun cK A' outer s H vs Q E hr h=>?_)
 ·obtain⟨e,C,R,t0,rfl,_⟩:=h
  rfl
 ·obtain⟨e,C,R,t0,rfl,he,ek,k⟩:=h
  refine⟨_,(ao (bJ (i0 ik (gh T F0) hr (F0.binds (fun _ _ _ _ _ _ us hl=>match us,hl with|[_,_],_=>rfl)) rfl G.fJ (aa (pv 0) (aa aR av))))),?_⟩
  exact⟨_,rfl,e,C,R,t0,_,rfl,he,ek,fun dx t' n=>k dx t' n⟩
theorem BA:aS ["self"] ["self"] (ax (mem 7 0)):={}
theorem BB (T:Txt K mg){A:dQ}(G:jn K mg A):Iz P w K mg base 2 "NoAmount" A.ix A.refusal "no amount":=by
 obtain⟨f,fd,F,hi,ht⟩:=G.Bt
 obtain⟨f0,N8,F0,ik⟩:=G.gg
 refine⟨G.Br,G.km,G.Bs,f,fd,hi,ht,?_,F.binds (fun _ _ _ _ _ _ us hl=>match us,hl with|[_],_=>rfl)⟩
 refine lS (k:=1) F BA (fun vs H Q E h=>?_) (fun cK A' outer s H vs Q E hr h=>?_)
 ·obtain⟨e,C,R,t0,rfl,_⟩:=h
  rfl
 ·obtain⟨e,C,R,t0,rfl,he,ek,k⟩:=h
  refine⟨_,(ao (bJ (i0 ik (gh T F0) hr (F0.binds (fun _ _ _ _ _ _ us hl=>match us,hl with|[_,_],_=>rfl)) rfl G.fJ (aa (pv 0) (aa aR av))))),?_⟩
  exact⟨_,rfl,e,C,R,t0,_,rfl,he,ek,fun dx t' n=>k dx t' n⟩
theorem BC:aS ["self"] ["self"] (ax (mem 8 0)):={}
theorem BD (T:Txt K mg){A:dQ}(G:jn K mg A):Iz P w K mg base 2 "TooEarly" A.tooEarly A.refusal "too early":=by
 obtain⟨f,fd,F,hi,ht⟩:=G.Bw
 obtain⟨f0,N8,F0,ik⟩:=G.gg
 refine⟨G.Bu,G.sN,G.Bv,f,fd,hi,ht,?_,F.binds (fun _ _ _ _ _ _ us hl=>match us,hl with|[_],_=>rfl)⟩
 refine lS (k:=1) F BC (fun vs H Q E h=>?_) (fun cK A' outer s H vs Q E hr h=>?_)
 ·obtain⟨e,C,R,t0,rfl,_⟩:=h
  rfl
 ·obtain⟨e,C,R,t0,rfl,he,ek,k⟩:=h
  refine⟨_,(ao (bJ (i0 ik (gh T F0) hr (F0.binds (fun _ _ _ _ _ _ us hl=>match us,hl with|[_,_],_=>rfl)) rfl G.fJ (aa (pv 0) (aa aR av))))),?_⟩
  exact⟨_,rfl,e,C,R,t0,_,rfl,he,ek,fun dx t' n=>k dx t' n⟩
theorem Dk:aS ["self"] ["self"] (ax (mem 9 0)):={}
theorem Dl (T:Txt K mg){A:dQ}(G:jn K mg A):Iz P w K mg base 2 "TooMuch" A.tooMuch A.refusal "too much":=by
 obtain⟨f,fd,F,hi,ht⟩:=G.Dh
 obtain⟨f0,N8,F0,ik⟩:=G.gg
 refine⟨G.vh,G.pB,G.Dg,f,fd,hi,ht,?_,F.binds (fun _ _ _ _ _ _ us hl=>match us,hl with|[_],_=>rfl)⟩
 refine lS (k:=1) F Dk (fun vs H Q E h=>?_) (fun cK A' outer s H vs Q E hr h=>?_)
 ·obtain⟨e,C,R,t0,rfl,_⟩:=h
  rfl
 ·obtain⟨e,C,R,t0,rfl,he,ek,k⟩:=h
  refine⟨_,(ao (bJ (i0 ik (gh T F0) hr (F0.binds (fun _ _ _ _ _ _ us hl=>match us,hl with|[_,_],_=>rfl)) rfl G.fJ (aa (pv 0) (aa aR av))))),?_⟩
  exact⟨_,rfl,e,C,R,t0,_,rfl,he,ek,fun dx t' n=>k dx t' n⟩
theorem zp:aS ["self"] ["self"] (ax (mem 10 0)):={}
theorem zq (T:Txt K mg){A:dQ}(G:jn K mg A):Iz P w K mg base 2 "NoSetting" A.jx A.refusal "no setting":=by
 obtain⟨f,fd,F,hi,ht⟩:=G.zj
 obtain⟨f0,N8,F0,ik⟩:=G.gg
 refine⟨G.zh,G.qE,G.zi,f,fd,hi,ht,?_,F.binds (fun _ _ _ _ _ _ us hl=>match us,hl with|[_],_=>rfl)⟩
 refine lS (k:=1) F zp (fun vs H Q E h=>?_) (fun cK A' outer s H vs Q E hr h=>?_)
 ·obtain⟨e,C,R,t0,rfl,_⟩:=h
  rfl
 ·obtain⟨e,C,R,t0,rfl,he,ek,k⟩:=h
  refine⟨_,(ao (bJ (i0 ik (gh T F0) hr (F0.binds (fun _ _ _ _ _ _ us hl=>match us,hl with|[_,_],_=>rfl)) rfl G.fJ (aa (pv 0) (aa aR av))))),?_⟩
  exact⟨_,rfl,e,C,R,t0,_,rfl,he,ek,fun dx t' n=>k dx t' n⟩
theorem Gr:aS ["self"] ["self"] (ax (mem 11 0)):={}
theorem Gs (T:Txt K mg){A:dQ}(G:jn K mg A):Iz P w K mg base 2 "Needed" A.iS A.refusal "needed":=by
 obtain⟨f,fd,F,hi,ht⟩:=G.Gj
 obtain⟨f0,N8,F0,ik⟩:=G.gg
 refine⟨G.xY,G.xZ,G.Gi,f,fd,hi,ht,?_,F.binds (fun _ _ _ _ _ _ us hl=>match us,hl with|[_],_=>rfl)⟩
 refine lS (k:=1) F Gr (fun vs H Q E h=>?_) (fun cK A' outer s H vs Q E hr h=>?_)
 ·obtain⟨e,C,R,t0,rfl,_⟩:=h
  rfl
 ·obtain⟨e,C,R,t0,rfl,he,ek,k⟩:=h
  refine⟨_,(ao (bJ (i0 ik (gh T F0) hr (F0.binds (fun _ _ _ _ _ _ us hl=>match us,hl with|[_,_],_=>rfl)) rfl G.fJ (aa (pv 0) (aa aR av))))),?_⟩
  exact⟨_,rfl,e,C,R,t0,_,rfl,he,ek,fun dx t' n=>k dx t' n⟩
def oA (rc rb:Rw)(b:Nat):Bool:=if rc.c= -1 then decide (rc.aI=rb.aI) else decide (rc.c=(b:Int))
def EX (E:XK)(C:Addr)(txt:Str)(H:Hp):Prop:= ∀(dx:Addr) (H':Hp),aD H H'->H dx=none->H' dx=some (.xd [("text",.str txt)])->E (.ref C) (some dx) H'
theorem EX.at {E:XK}{C dx:Addr}{txt:Str}{H:Hp}(h:EX E C txt H)(n:H dx=none):E (.ref C) (some dx) (upd H dx (.xd [("text",.str txt)])):=h dx _ (aD.new n) n ag
inductive qK (A:dQ)(vs:List V)(H:Hp)(Q:VK)(E:XK):Prop
 |mk (a:Int)(h1:vs=[.int a])(h2:(1<=a->Q .d8 H))(h3:(a < 1->EX E A.ix "no amount" H)):qK A vs H Q E
theorem tJ:aS ["amount"] ["amount"] (ax (top 26)):={}
theorem jR (T:Txt K mg){A:dQ}(G:jn K mg A):vi P w K mg base "check_amount" 4 ["amount"] (qK A):=by
 refine N7 (k:=3) T.vd tJ (fun f cK A' outer s H vs Q E hr l7 h=>?_)
 ·obtain⟨a,rfl,k1,k2⟩:=h
  refine⟨_,(ao (bM (aW jD (pv 0) ah (aZ _)) (ao (jN l7 (BB T G) hr.h rfl rfl)) bb)),?_⟩
  refine⟨_,rfl,_,_,rfl,rfl,_,rfl,cy (fun z=>?_) (fun z=>?_)⟩
  ·exact fun dx n=>(k2 (aN z)).at n
  ·exact k1 (by have: ¬ a < 1:=fun q=>z (aE q); lia)
inductive zr (A:dQ)(vs:List V)(H:Hp)(Q:VK)(E':XK):Prop
 |mk (p q:Addr)(c b:Nat)(rc rb:Rw)(h1:vs=[.ref p,.ref q])(h2:ee H p A.dS (eV c rc))(h3:ee H q A.dJ (fk b rb))(h4:Q (.bl (oA rc rb b)) H):zr A vs H Q E'
theorem Lu:aS ["credit","bill"] ["credit","bill"] (ax (top 15)):={}
theorem IV (T:Txt K mg){A:dQ}(G:jn K mg A):eF P w K mg base "fits" 1 ["credit","bill"] (zr A):=by
 refine T.NY.fj (k:=0) Lu (fun f cK A' outer s H vs Q E hr h=>?_)
 ·obtain⟨p,q,c,b,rc,rb,rfl,⟨dp,hp⟩,⟨dq,hq⟩,k⟩:=h
  refine⟨_,(ai (bM (yu (Hs (bV (pv 0) rfl)))
(ao (a6 (fb cG (bV (pv 0) rfl) (bV (pv 1) rfl) (aZ _))))
bb)
(ao (a6 (fb cG (bV (pv 0) rfl) (bV (pv 1) rfl) (aZ _))))),?_⟩
  have fo:=Lj c rc
  refine⟨_,rfl,p,_,dp,_,_,rfl,hp,G.cZ,G.jQ,fo,?_⟩
  by_cases z:rc.c= -1
  ·have e:sJ rc.c= .d8:=a7 z
   refine⟨true,by rw[e]; rfl,fv ?_⟩
   refine⟨_,rfl,p,_,dp,_,_,rfl,hp,G.cZ,G.kG,IQ c rc,_,rfl,q,_,dq,_,_,rfl,hq,G.dU,G.ko,Dd b rb,rfl,?_⟩
   have e2:oA rc rb b=decide (V.str rc.aI=V.str rb.aI):=by
    unfold oA
    rw[a7 z]
    exact mf.mpr ⟨fun h=>by rw[h],fun h=>by injection h⟩
   rw[e2] at k
   exact k
  ·have e:sJ rc.c= .int rc.c:=aQ z
   refine⟨false,by rw[e]; rfl,bR ?_⟩
   rw[e] at fo
   refine⟨_,rfl,p,_,dp,_,_,rfl,hp,G.cZ,G.jQ,fo,_,rfl,q,_,dq,_,_,rfl,hq,G.dU,G.eJ,k8 b rb,rfl,?_⟩
   have e2:oA rc rb b=decide (V.int rc.c=V.int (b:Int)):=by
    unfold oA
    rw[aQ z]
    exact mf.mpr ⟨fun h=>by rw[h],fun h=>by injection h⟩
   rw[e2] at k
   exact k
inductive Dm (A:dQ)(vs:List V)(H:Hp)(Q:VK)(E':XK):Prop
 |mk (p q:Addr)(c b:Nat)(rc rb:Rw)(h1:vs=[.ref p,.ref q])(h2:ee H p A.dS (eV c rc))(h3:ee H q A.dJ (fk b rb))(h4:Q (.int (if rb.a > rc.a then rb.a else rc.a)) H):Dm A vs H Q E'
theorem vj:aS ["credit","bill"] ["credit","bill"] (ax (top 16)):={}
theorem wL (T:Txt K mg){A:dQ}(G:jn K mg A):eF P w K mg base "counts_from" 1 ["credit","bill"] (Dm A):=by
 refine T.wy.fj (k:=0) vj (fun f cK A' outer s H vs Q E hr h=>?_)
 ·obtain⟨p,q,c,b,rc,rb,rfl,⟨dp,hp⟩,⟨dq,hq⟩,k⟩:=h
  refine⟨_,(ao (a6 (cI (xA rfl) (by rfl) T.Ms boot_max (aa (bV (pv 0) rfl) (aa (bV (pv 1) rfl) av))))),?_⟩
  exact⟨_,rfl,p,_,dp,_,_,rfl,hp,G.cZ,G.iV,IS c rc,_,rfl,q,_,dq,_,_,rfl,hq,G.dU,G.mQ,N5 b rb,_,_,rfl,k⟩
theorem getD_at {α:Type}{xs:List α}{d:α}{i:Nat}(h:i < xs.length):xs.getD i d=xs[i]:=by rw[aj,af h]; rfl
theorem pC {g:Int->V}{xs:List Int}{i:Nat}(h:i < xs.length):rH (xs.map g) (i:Int)=some (g (xs.getD i 0)):=by
 rw[getD_at h]
 exact cz (by rw[aB,af h]; rfl)
theorem qL {n j:Nat}(h:j < n):KA n (j:Int)=some j:=by
 unfold KA
 rw[if_pos (by lia),if_pos (by lia)]; simp
theorem fR {H H':Hp}(s:aD H H'): ∀b xs,H b=some (.tup xs)->H' b=some (.tup xs):=fun b xs e=>s _ _ e
theorem ow {α:Type}{xs:List α}{m:Nat}(h:m < xs.length):xs.take (m + 1)=xs.take m ++ [xs[m]]:=by
 rw[Au,af h]; rfl
theorem Rz (cs:List Int)(lo hi:Option Int): ∃ds:List Int,qj (cs.map V.int) lo hi=ds.map V.int/\ds.length<=cs.length:=by
 unfold qj
 refine⟨_,by rw[← List.map_drop,← List.map_take],?_⟩
 rw[bh,md]
 lia
theorem zt (x m:Int)(h:0 < m): ∃n:Nat,x % m=(n:Int)/\(n:Int) < m:=by
 have h1:=j8 x (show m≠0 by lia)
 have h2:=pS x h
 exact⟨(x % m).toNat,by lia,by lia⟩
theorem kq {α:Type}{g:α->V}{xs:List α}{m:Int}{x:Int}(hm:m=(xs.length:Int))(h:0 < m): ∃y∈xs,rH (xs.map g) (x % m)=some (g y):=by
 obtain⟨n,e,hn⟩:=zt x m h
 have hl:n < xs.length:=by lia
 exact⟨xs[n],bF _,by rw[e]; exact cz (by rw[aB,af hl]; rfl)⟩
inductive Dn (vs:List V)(H:Hp)(Q:VK)(E':XK):Prop
 |mk (n p m:Int)(h1:vs=[.int n,.int p,.int m])(h2:0 < p)(h3:0 < m)(h4: ∀r,0<=r->r < m->Q (.int r) H):Dn vs H Q E'
theorem zu:aS ["_law_number","_law_prime","_law_many"] ["_law_number","_law_prime","_law_many"] (ax (top 44)):={}
theorem BE (T:Txt K mg):eF P w K mg base "_law_draw" 1 ["_law_number","_law_prime","_law_many"] Dn:=by
 refine T.Bg.fj (k:=0) zu (fun f cK A outer s H vs Q E hr h=>?_)
 ·obtain⟨n,p,m,rfl,hp,hm,k⟩:=h
  refine⟨_,(ao (a6 (aU cg (aU cg (aU lH (pv 0) ah) (pv 1)) (pv 2)))),?_⟩
  refine⟨_,rfl,_,_,rfl,rfl,.inr ⟨by decide,by decide⟩,_,rfl,_,_,rfl,rfl,hp,_,rfl,_,_,rfl,rfl,hm,?_⟩
  exact k _ (j8 _ (by lia)) (pS _ hm)
inductive vk (K:PySem.W.Frag)(vs:List V)(H:Hp)(Q:VK)(E':XK):Prop
 |mk (a:Addr)(cs:List Int)(h1:vs=[.ref a])(h2:bE K H a (cs.map V.int))(h3: ∀(pn:Addr) (names:List Str) (H':Hp),aD H H'->H' pn=some (.lst (names.map V.str))->names≠[]->names.length<=6->Q (.ref pn) H'):vk K vs H Q E'
theorem mV:aS ["_law_cells","_law_spot","_law_made"] ["_law_cells"] (ax (top 47)):={}
theorem wM (T:Txt K mg):eF P w K mg base "_law_people" 1 ["_law_cells"] (vk K):=by
 refine T.wC.fj (k:=0) mV (fun f cK A outer s H vs Q E hr h=>?_)
 ·obtain⟨a,cs,rfl,hS,k⟩:=h
  have nd:=mV.nd
  refine⟨_,(ai (sv 1 nd (aU cg (aU jl (cI (rN rfl) (by rfl) T.IJ boot_sum (aa (qh tW (pv 0) yA (qg ah)) av)) ah) ah))
(ai (sv 2 nd (bQ (aa (bQ (aa aR (aa aR (aa aR av)))) (aa (bQ (aa aR (aa aR (aa aR av)))) av))))
(ai (bJ (qA (pv 2) (bQ (aa (aU yM aR ah) (aa (aU uw (aU uw (aU yM aR (pv 1)) aR) (aU yM aR (aU eR ah (pv 1)))) (aa aR av))))))
(ao (a6 (xl (aU o4 (pv 2) (bQ (aa (bQ (aa aR (aa aR (aa aR (aa aR (aa aR (aa aR av))))))) av))) (aU cg (aU jl (cI (rN rfl) (by rfl) T.IJ boot_sum (aa (qh tW (pv 0) yA (qg ah)) av)) ah) ah))))))),?_⟩
  refine⟨_,rfl,_,rfl,a,_,rfl,hS,fun p1 n1=>?_⟩
  obtain⟨ds,ed,_⟩:=Rz cs none (some 1)
  rw[ed]
  have s1:aD H (upd H p1 (.lst (ds.map V.int))):=aD.new n1
  refine⟨p1,ds,rfl,bE.of ag,_,_,rfl,rfl,⟨by decide,by decide⟩,_,_,rfl,rfl,(by show(0:Int) < 60; decide),?_⟩
  obtain⟨sp,Tx,yy⟩:=zt (ds.sum / 28) 60 (by decide)
  show _
  generalize upd H p1 (.lst (ds.map V.int))=H1 at s1 ⊢
  refine⟨(by show 3<=sizeLine; decide),fun p2 n2=>⟨(by show 3<=sizeLine; decide),fun p3 n3=>⟨(by show 2<=sizeLine; decide),fun p4 n4=>?_⟩⟩⟩
  have t2:=aD.new (o:= .lst [V.str "ann",.str "",.str "bo"]) n2
  have t3:=aD.new (o:= .lst [V.str "ann",.str "ann lee",.str "Ann"]) n3
  have t4:=aD.new (o:= .lst [V.ref p2,.ref p3]) n4
  have s4:=((s1.trans t2).trans t3).trans t4
  have g2:=(t3.trans t4) _ _ (ag (H:=H1) (a:=p2) (o:= .lst [V.str "ann",.str "",.str "bo"]))
  have g3:=t4 _ _ (ag (H:=upd H1 p2 (.lst [V.str "ann",.str "",.str "bo"])) (a:=p3) (o:= .lst [V.str "ann",.str "ann lee",.str "Ann"]))
  have g4:=ag (H:=upd (upd H1 p2 (.lst [V.str "ann",.str "",.str "bo"])) p3 (.lst [V.str "ann",.str "ann lee",.str "Ann"])) (a:=p4) (o:= .lst [V.ref p2,.ref p3])
  have m4:H p4=none:=((s1.trans t2).trans t3).free n4
  generalize upd (upd (upd H1 p2 (.lst [V.str "ann",.str "",.str "bo"])) p3 (.lst [V.str "ann",.str "ann lee",.str "Ann"])) p4 (.lst [V.ref p2,.ref p3])=H4 at s4 g2 g3 g4 ⊢
  clear t2 t3 t4
  refine⟨_,rfl,.inl ⟨rfl,_,bE.of g4⟩,?_⟩
  refine⟨_,_,rfl,rfl,rfl,(by decide),(by decide),fun z1 hz1=>?_⟩
  refine⟨_,rfl,_,_,rfl,rfl,rfl,(by rw[Tx]; lia),(by rw[Tx]; lia),fun z2 hz2=>?_⟩
  refine⟨_,_,rfl,rfl,dG (iU (by show z2.length + 1<=_; lia)),?_⟩
  refine⟨_,rfl,_,_,rfl,rfl,_,_,rfl,rfl,rfl,(by rw[Tx]; lia),(by rw[Tx]; lia),fun z3 hz3=>?_⟩
  refine⟨_,_,rfl,rfl,dG (iU (by
   have:(z2 ++ ("y":Str)).length=z2.length + 1:=by
    show(z2.cps ++ _).size=_
    rw[Array.size_append]; rfl
   rw[this]; lia)),?_⟩
  refine⟨(by show 3<=sizeLine; decide),fun p5 n5=>?_⟩
  generalize (z2 ++ ("y":Str)) ++ z3=z4
  have t5:=aD.new (o:= .lst [V.str z1,.str z4,.str " ~"]) n5
  refine⟨p4,_,_,rfl,rfl,t5 _ _ g4,(by show 2 < sizeLine; decide),?_⟩
  have s5:aD H (upd (upd H4 p5 (.lst [V.str z1,.str z4,.str " ~"])) p4 (.lst ([V.ref p2,.ref p3] ++ [.ref p5]))):=(s4.trans t5).cX m4
  have VI:p2≠p4:=fun e=>by rw[e,g4] at g2; cases g2
  have VJ:p3≠p4:=fun e=>by rw[e,g4] at g3; cases g3
  have VL:p5≠p4:=(aJ g4 n5).symm
  have j2:upd (upd H4 p5 (.lst [V.str z1,.str z4,.str " ~"])) p4 (.lst ([V.ref p2,.ref p3] ++ [.ref p5])) p2=some (.lst [V.str "ann",.str "",.str "bo"]):=by rw[aA VI]; exact t5 _ _ g2
  have j3:upd (upd H4 p5 (.lst [V.str z1,.str z4,.str " ~"])) p4 (.lst ([V.ref p2,.ref p3] ++ [.ref p5])) p3=some (.lst [V.str "ann",.str "ann lee",.str "Ann"]):=by rw[aA VJ]; exact t5 _ _ g3
  have j5:upd (upd H4 p5 (.lst [V.str z1,.str z4,.str " ~"])) p4 (.lst ([V.ref p2,.ref p3] ++ [.ref p5])) p5=some (.lst [V.str z1,.str z4,.str " ~"]):=by rw[aA VL]; exact ag
  have j4:upd (upd H4 p5 (.lst [V.str z1,.str z4,.str " ~"])) p4 (.lst ([V.ref p2,.ref p3] ++ [.ref p5])) p4=some (.lst ([V.ref p2,.ref p3] ++ [.ref p5])):=ag
  generalize upd (upd H4 p5 (.lst [V.str z1,.str z4,.str " ~"])) p4 (.lst ([V.ref p2,.ref p3] ++ [.ref p5]))=H5 at s5 j2 j3 j4 j5 ⊢
  clear t5
  refine⟨_,rfl,?_⟩
  refine⟨(by show 6<=sizeLine; decide),fun p6 n6=>⟨(by show 1<=sizeLine; decide),fun p7 n7=>?_⟩⟩
  have t6:=aD.new (o:= .lst [V.str "ann",.str "",.str "bo",.str "Cy ~",.str "ann ",.str "dee"]) n6
  have t7:=aD.new (o:= .lst [V.ref p6]) n7
  have Yd:=t6.trans t7
  have j6:=t7 _ _ (ag (H:=H5) (a:=p6) (o:= .lst [V.str "ann",.str "",.str "bo",.str "Cy ~",.str "ann ",.str "dee"]))
  refine⟨p4,p7,_,_,rfl,rfl,Yd _ _ j4,ag,(by show 4<=sizeLine; decide),fun p8 n8=>?_⟩
  have t8:=aD.new (o:= .lst (([V.ref p2,.ref p3] ++ [.ref p5]) ++ [.ref p6])) n8
  have Ye:=Yd.trans t8
  have s8:=s5.trans Ye
  refine⟨_,rfl,_,rfl,a,_,rfl,s8.seq hS,fun p9 n9=>?_⟩
  rw[ed]
  have t9:=aD.new (o:= .lst (ds.map V.int)) n9
  refine⟨p9,ds,rfl,bE.of ag,_,_,rfl,rfl,⟨by decide,by decide⟩,_,_,rfl,rfl,(by show(0:Int) < 4; decide),?_⟩
  obtain⟨r,er,VM⟩:=zt (ds.sum / 7) 4 (by decide)
  have VN:r < 4:=by lia
  have fin: ∀(pn:Addr) (names:List Str),H5 pn=some (.lst (names.map V.str))∨upd (upd H5 p6 (.lst [V.str "ann",.str "",.str "bo",.str "Cy ~",.str "ann ",.str "dee"])) p7 (.lst [V.ref p6]) pn=some (.lst (names.map V.str))->names≠[]->names.length<=6->Q (.ref pn) _:=fun pn names h h1 h2=>
   k pn names _ (s8.trans t9) (by
    rcases h with h|h
    ·exact(Ye.trans t9) _ _ h
    ·exact(t8.trans t9) _ _ h) h1 h2
  have Tz:=t9 _ _ (ag (H:=upd (upd H5 p6 (.lst [V.str "ann",.str "",.str "bo",.str "Cy ~",.str "ann ",.str "dee"])) p7 (.lst [V.ref p6])) (a:=p8) (o:= .lst (([V.ref p2,.ref p3] ++ [.ref p5]) ++ [.ref p6])))
  match r,VN,er with
  |0,_,er=>exact⟨p8,_,_,.ref p2,rfl,rfl,bE.of Tz,by show rH _ (ds.sum / 7 % 4)=_; rw[er]; rfl,fin p2 [_,_,_] (.inl j2) (by simp) (by simp)⟩
  |1,_,er=>exact⟨p8,_,_,.ref p3,rfl,rfl,bE.of Tz,by show rH _ (ds.sum / 7 % 4)=_; rw[er]; rfl,fin p3 [_,_,_] (.inl j3) (by simp) (by simp)⟩
  |2,_,er=>exact⟨p8,_,_,.ref p5,rfl,rfl,bE.of Tz,by show rH _ (ds.sum / 7 % 4)=_; rw[er]; rfl,fin p5 [_,_,_] (.inl j5) (by simp) (by simp)⟩
  |3,_,er=>exact⟨p8,_,_,.ref p6,rfl,rfl,bE.of Tz,by show rH _ (ds.sum / 7 % 4)=_; rw[er]; rfl,fin p6 [_,_,_,_,_,_] (.inr j6) (by simp) (by simp)⟩
  |r + 4,h,_=>lia
theorem at4 (a b c d x:Int): ∃y,rH [V.int a,V.int b,V.int c,V.int d] (x % 4)=some (V.int y):=by
 obtain⟨y,_,h⟩:=kq (g:=V.int) (xs:=[a,b,c,d]) (m:=4) (x:=x) rfl (by decide)
 exact⟨y,h⟩
theorem Yf (a b c x:Int): ∃y,(y=a∨y=b∨y=c)/\rH [V.int a,V.int b,V.int c] (x % 3)=some (V.int y):=by
 obtain⟨y,hy,h⟩:=kq (g:=V.int) (xs:=[a,b,c]) (m:=3) (x:=x) rfl (by decide)
 exact⟨y,by simpa using hy,h⟩
theorem BF {x:Int}(h:x<=1000000000):x<=u0:=Eo (lE h (by decide +kernel))
theorem VO (a b x:Int): ∃y,(y=a∨y=b)/\rH [V.int a,V.int b] (x % 2)=some (V.int y):=by
 obtain⟨y,hy,h⟩:=kq (g:=V.int) (xs:=[a,b]) (m:=2) (x:=x) rfl (by decide)
 exact⟨y,by simpa using hy,h⟩
inductive vm (K:PySem.W.Frag)(vs:List V)(H:Hp)(Q:VK)(E':XK):Prop
 |mk (a:Addr)(cs:List Int)(i:Nat)(h1:vs=[.ref a,.int i])(h2:bE K H a (cs.map V.int))(h3:i < cs.length)(h4: ∀(p:Addr) (aI:Str) (day dE:Int) (H':Hp),aD H H'->H' p=some (.tup [.str aI,.int day,.int dE])->day<=u0->Q (.ref p) H'):vm K vs H Q E'
theorem mW:aS ["_law_cells","_law_k","_law_cell","_law_rest","_law_names","_law_who","_law_day","_law_amount"] ["_law_cells","_law_k"] (ax (top 48)):={}
theorem wN (T:Txt K mg):eF P w K mg base "_law_penned" 2 ["_law_cells","_law_k"] (vm K):=by
 have wO:eF P w K mg base "_law_people" 1 ["_law_cells"] (vk K):=wM T
 have mX:eF P w K mg base "_law_draw" 1 ["_law_number","_law_prime","_law_many"] Dn:=BE T
 refine T.wD.fj (k:=1) mW (fun f cK A outer s H vs Q E hr h=>?_)
 ·obtain⟨a,cs,i,rfl,hS,hi,k⟩:=h
  have nd:=mW.nd
  refine⟨_,(ai (sv 2 nd (xl (pv 0) (pv 1)))
(ai (sv 3 nd (aU jl (pv 2) ah))
(ai (sv 4 nd (fc wO hr (aa (pv 0) av)))
(ai (sv 5 nd (xl (pv 4) (aU cg (aU cW (pv 3) (pv 1)) (mO T.dR (pv 4)))))
(ai (sv 6 nd (aU eR (fc mX hr (aa (aU cW (pv 2) (aU lH ah (pv 1))) (aa ah (aa ah av)))) ah))
(ai (sv 7 nd (aU cW ah (fc mX hr (aa (aU cW (pv 2) (aU lH ah (pv 1))) (aa ah (aa ah av))))))
(ij (bM (aW cG (aU cg (pv 2) ah) ah (aZ _))
(ao (sv 7 nd (aU cW ah (aU lH (fc mX hr (aa (aU cW (pv 2) (aU lH ah (pv 1))) (aa ah (aa ah av)))) ah))))
bb)
(ij (bM (aW cG (aU cg (pv 2) ah) ah (aZ _))
(ao (sv 7 nd (aU cW ah (aU cg (pv 2) (aU eR (aU KR (aU jc ah ah) (aU jc ah ah)) ah)))))
bb)
(ij (bM (aW cG (aU cg (pv 2) ah) ah (aZ _))
(ao (sv 7 nd (xl (bQ (aa ah (aa (oy kC ah) (aa (aU jc ah ah) (aa (aU eR ah (aU cg (pv 2) (aU jc ah ah))) av))))) (aU cg (pv 3) ah))))
bb)
(ij (bM (aW cG (aU cg (pv 2) ah) ah (aZ _))
(ao (sv 6 nd (xl (bQ (aa (aU jc ah ah) (aa (oy kC (aU jc ah ah)) (aa (aU eR (aU cg (pv 2) ah) ah) av)))) (aU cg (pv 3) ah))))
bb)
(ij (bM (aW cG (aU cg (pv 2) ah) ah (aZ _))
(ao (sv 6 nd (aU lH (aU cg (pv 2) (aU jc ah ah)) (xl (bQ (aa ah (aa (oy kC ah) av))) (aU cg (pv 1) ah)))))
bb)
(ao (a6 (dg (aa (pv 5) (aa (pv 6) (aa (pv 7) av))))))))))))))))),?_⟩
  refine⟨_,rfl,_,rfl,a,_,_,.int (cs.getD i 0),rfl,rfl,hS,pC hi,?_⟩
  generalize cs.getD i 0=cell
  refine⟨_,rfl,_,_,rfl,rfl,⟨by decide,by decide⟩,?_⟩
  refine⟨_,rfl,a,cs,rfl,hS,fun pn names H1 s1 N9 hn0 hn6=>?_⟩
  have TB:0 < names.length:=List.length_pos_iff.mpr hn0
  obtain⟨aI,_,RA⟩:=kq (g:=V.str) (xs:=names) (m:=((names.map V.str).length:Int)) (x:=cell / 16 + (i:Int)) (by rw[ae]) (by rw[ae]; lia)
  refine⟨_,rfl,_,rfl,_,rfl,_,_,rfl,rfl,_,rfl,pn,_,rfl,.inl (bE.of N9),_,_,rfl,rfl,(by rw[ae]; show(0:Int) < _; lia),pn,_,_,.str aI,rfl,rfl,bE.of N9,RA,?_⟩
  refine⟨_,rfl,_,rfl,_,_,rfl,rfl,.inl ⟨by decide,by decide⟩,_,_,rfl,rfl,_,_,_,rfl,by decide,by decide,fun r1 _ Kb=>⟨_,_,rfl,rfl,?_⟩⟩
  refine⟨_,rfl,_,rfl,_,_,rfl,rfl,.inl ⟨by decide,by decide⟩,_,_,rfl,rfl,_,_,_,rfl,by decide,by decide,fun r2 _ _=>⟨_,_,rfl,rfl,?_⟩⟩
  refine⟨fun σ' H'=> ∃day dE:Int,σ'=[some (.ref a),some (.int i),some (.int cell),some (.int (cell / 16)),some (.ref pn),some (.str aI),some (.int day),some (.int dE)]/\aD H H'/\day<=u0,?_,?_⟩
  ·refine⟨_,rfl,_,_,rfl,rfl,(by show(0:Int) < 7; decide),rfl,_,rfl,cy (fun c=>?_) (fun c=>⟨_,_,rfl,s1,BF (by lia)⟩)⟩
   refine⟨_,rfl,_,rfl,_,_,rfl,rfl,.inl ⟨by decide,by decide⟩,_,_,rfl,rfl,_,_,_,rfl,by decide,by decide,fun r3 _ _=>⟨_,_,rfl,rfl,.inr ⟨by decide,by decide⟩,_,_,rfl,rfl,?_⟩⟩
   exact⟨_,_,rfl,s1,BF (by lia)⟩
  rintro σ' H2 ⟨day,dE,rfl,s2,oj⟩
  clear N9 RA s1
  refine⟨fun σ' H'=> ∃day dE:Int,σ'=[some (.ref a),some (.int i),some (.int cell),some (.int (cell / 16)),some (.ref pn),some (.str aI),some (.int day),some (.int dE)]/\aD H H'/\day<=u0,?_,?_⟩
  ·refine⟨_,rfl,_,_,rfl,rfl,(by show(0:Int) < 41; decide),rfl,_,rfl,cy (fun c=>?_) (fun c=>⟨_,_,rfl,s2,oj⟩)⟩
   refine⟨_,rfl,_,_,rfl,rfl,⟨by decide,by decide,by decide⟩,_,_,rfl,rfl,⟨by decide,by decide,by decide⟩,_,_,rfl,rfl,⟨by decide +kernel,by decide +kernel⟩,_,_,rfl,rfl,_,_,rfl,rfl,(by show(0:Int) < _; decide +kernel),_,_,rfl,rfl,?_⟩
   exact⟨_,_,rfl,s2,oj⟩
  rintro σ' H3 ⟨day,dE,rfl,s3,oj⟩
  refine⟨fun σ' H'=> ∃day dE:Int,σ'=[some (.ref a),some (.int i),some (.int cell),some (.int (cell / 16)),some (.ref pn),some (.str aI),some (.int day),some (.int dE)]/\aD H H'/\day<=u0,?_,?_⟩
  ·refine⟨_,rfl,_,_,rfl,rfl,(by show(0:Int) < 41; decide),rfl,_,rfl,cy (fun c=>?_) (fun c=>⟨_,_,rfl,s3,oj⟩)⟩
   refine⟨_,rfl,_,_,rfl,rfl,⟨by decide,by decide,by decide⟩,_,rfl,_,_,rfl,rfl,⟨by decide,by decide,by decide⟩,_,_,rfl,rfl,(by show(0:Int) < _; decide +kernel),_,_,rfl,rfl,(by show 4<=sizeLine; decide),fun p4 n4=>?_⟩
   obtain⟨y,hy⟩:=at4 0 (-1) (10 ^ (12:Int).toNat) (0 - cell % 10 ^ (60:Int).toNat) (cell / 16)
   refine⟨_,rfl,_,_,rfl,rfl,(by show(0:Int) < 4; decide),p4,_,_,.int y,rfl,rfl,bE.of ag,hy,?_⟩
   exact⟨_,_,rfl,s3.trans (aD.new n4),oj⟩
  rintro σ' H4 ⟨day,dE,rfl,s4,oj⟩
  refine⟨fun σ' H'=> ∃day dE:Int,σ'=[some (.ref a),some (.int i),some (.int cell),some (.int (cell / 16)),some (.ref pn),some (.str aI),some (.int day),some (.int dE)]/\aD H H'/\day<=u0,?_,?_⟩
  ·refine⟨_,rfl,_,_,rfl,rfl,(by show(0:Int) < 43; decide),rfl,_,rfl,cy (fun c=>?_) (fun c=>⟨_,_,rfl,s4,oj⟩)⟩
   refine⟨_,_,rfl,rfl,⟨by decide,by decide,by decide⟩,_,_,rfl,rfl,⟨by decide,by decide,by decide⟩,_,rfl,_,rfl,_,_,rfl,rfl,(by show(0:Int) < 2001; decide),_,_,rfl,rfl,(by show 3<=sizeLine; decide),fun p4 n4=>?_⟩
   obtain⟨y,hy3,hy⟩:=Yf (10 ^ (9:Int).toNat) (-(10 ^ (9:Int).toNat)) (cell % 2001 - 1000) (cell / 16)
   refine⟨_,rfl,_,_,rfl,rfl,(by show(0:Int) < 3; decide),p4,_,_,.int y,rfl,rfl,bE.of ag,hy,?_⟩
   refine⟨_,_,rfl,s4.trans (aD.new n4),?_⟩
   rcases hy3 with rfl|rfl|rfl
   ·exact BF (by decide +kernel)
   ·exact BF (by decide +kernel)
   ·exact BF (by lia)
  rintro σ' H5 ⟨day,dE,rfl,s5,oj⟩
  refine⟨fun σ' H'=> ∃day dE:Int,σ'=[some (.ref a),some (.int i),some (.int cell),some (.int (cell / 16)),some (.ref pn),some (.str aI),some (.int day),some (.int dE)]/\aD H H'/\day<=u0,?_,?_⟩
  ·refine⟨_,rfl,_,_,rfl,rfl,(by show(0:Int) < 43; decide),rfl,_,rfl,cy (fun c=>?_) (fun c=>⟨_,_,rfl,s5,oj⟩)⟩
   refine⟨_,rfl,_,_,rfl,rfl,⟨by decide,by decide,by decide⟩,_,_,rfl,rfl,(by show(0:Int) < _; decide +kernel),_,rfl,(by show 2<=sizeLine; decide),fun p4 n4=>?_⟩
   obtain⟨y,VP,hy⟩:=VO 1 (-1) (i:Int)
   refine⟨_,rfl,_,_,rfl,rfl,(by show(0:Int) < 2; decide),p4,_,_,.int y,rfl,rfl,bE.of ag,hy,_,_,rfl,rfl,.inr (by rcases VP with rfl|rfl <;> exact⟨by decide,by decide⟩),?_⟩
   refine⟨_,_,rfl,s5.trans (aD.new n4),?_⟩
   have m1:0<=cell % 10 ^ (60:Int).toNat:=j8 _ (by decide +kernel)
   have m2:cell % 10 ^ (60:Int).toNat < 10 ^ 60:=pS _ (by decide +kernel)
   have m3:(0:Int)<=10 ^ 60:=by decide +kernel
   refine Eo ?_
   generalize (10:Int) ^ 60=b60 at m2 m3 ⊢
   rcases VP with rfl|rfl <;> lia
  rintro σ' H6 ⟨day,dE,rfl,s6,oj⟩
  refine⟨_,rfl,_,rfl,_,rfl,(by show 3<=sizeLine; decide),fun p n=>?_⟩
  exact k p aI day dE _ (s6.trans (aD.new n)) ag oj
theorem fS {H:Hp}{a:Addr}{o o':HO}:upd (upd H a o) a o'=upd H a o':=by
 funext b
 by_cases h:b=a
 ·rw[h,ag,ag]
 ·rw[aA h,aA h,aA h]
theorem pl {f:Str}{v:V}{fs:List (Str×V)}{n:Nat}(h:fs.length<=n):(ej f v fs).length<=n + 1:=aY (my f v fs) (Nat.add_le_add_right h 1)
theorem BG:([]:List (Str×V)).length<=0:=aC _
theorem lt1000 {fs:List (Str×V)}{n:Nat}(h:fs.length<=n)(k:n < 1000):fs.length < 1000:=pP h k
theorem IW (n:Nat)(r:Rw):ej "amount" (.int r.c) (ej "due" (.int r.b) (ej "day" (.int r.a) (ej "who" (.str r.aI) (ej "number" (.int n) []))))=fk n r:=by rfl
theorem IX (n:Nat)(r:Rw):ej "only" (sJ r.c) (ej "amount" (.int r.b) (ej "day" (.int r.a) (ej "who" (.str r.aI) (ej "number" (.int n) []))))=eV n r:=by rfl
inductive zv (A:dQ)(vs:List V)(H:Hp)(Q:VK)(E':XK):Prop
 |mk (x dx:Addr)(n:Nat)(r:Rw)(h1:vs=[.ref x,.int n,.str r.aI,.int r.a,.int r.b,.int r.c])(h2:H x=some (.ins A.dJ dx []))(h3:Q .d8 (upd H x (.ins A.dJ dx (fk n r)))):zv A vs H Q E'
theorem Lv:aS ["self","number","who","day","due","amount"] ["self","number","who","day","due","amount"] (ax (mem 13 0)):={}
theorem Oa {A:dQ}(G:jn K mg A):tI P w K mg base "Bill" A.dJ 1 ["self","number","who","day","due","amount"] (zv A):=by
 refine Ls (k:=0) G.Lm G.Ll Lv (fun f cK A' outer s H vs Q E hr h=>?_)
 ·obtain⟨x,dx,n,r,rfl,hx,k⟩:=h
  refine⟨_,(ai (fH (pv 0) (pv 1) rfl)
(ai (fH (pv 0) (pv 2) rfl)
(ai (fH (pv 0) (pv 3) rfl)
(ai (fH (pv 0) (pv 4) rfl)
(ao (fH (pv 0) (pv 5) rfl)))))),?_⟩
  refine⟨_,rfl,_,rfl,x,_,dx,_,rfl,hx,G.dU,G.eJ,lt1000 BG (by decide),?_⟩
  refine⟨_,rfl,_,rfl,x,_,dx,_,rfl,ag,G.dU,G.ko,lt1000 (pl BG) (by decide),?_⟩
  refine⟨_,rfl,_,rfl,x,_,dx,_,rfl,ag,G.dU,G.mQ,lt1000 (pl (pl BG)) (by decide),?_⟩
  refine⟨_,rfl,_,rfl,x,_,dx,_,rfl,ag,G.dU,G.mR,lt1000 (pl (pl (pl BG))) (by decide),?_⟩
  refine⟨_,rfl,_,rfl,x,_,dx,_,rfl,ag,G.dU,G.mS,lt1000 (pl (pl (pl (pl BG)))) (by decide),?_⟩
  rw[fS,fS,fS,fS,IW]
  exact k
inductive zw (A:dQ)(vs:List V)(H:Hp)(Q:VK)(E':XK):Prop
 |mk (x dx:Addr)(n:Nat)(r:Rw)(h1:vs=[.ref x,.int n,.str r.aI,.int r.a,.int r.b,sJ r.c])(h2:H x=some (.ins A.dS dx []))(h3:Q .d8 (upd H x (.ins A.dS dx (eV n r)))):zw A vs H Q E'
theorem Gu:aS ["self","number","who","day","amount","only"] ["self","number","who","day","amount","only"] (ax (mem 14 0)):={}
theorem IZ {A:dQ}(G:jn K mg A):tI P w K mg base "Credit" A.dS 1 ["self","number","who","day","amount","only"] (zw A):=by
 refine Ls (k:=0) G.Gm G.Gk Gu (fun f cK A' outer s H vs Q E hr h=>?_)
 ·obtain⟨x,dx,n,r,rfl,hx,k⟩:=h
  refine⟨_,(ai (fH (pv 0) (pv 1) rfl)
(ai (fH (pv 0) (pv 2) rfl)
(ai (fH (pv 0) (pv 3) rfl)
(ai (fH (pv 0) (pv 4) rfl)
(ao (fH (pv 0) (pv 5) rfl)))))),?_⟩
  refine⟨_,rfl,_,rfl,x,_,dx,_,rfl,hx,G.cZ,G.eD,lt1000 BG (by decide),?_⟩
  refine⟨_,rfl,_,rfl,x,_,dx,_,rfl,ag,G.cZ,G.kG,lt1000 (pl BG) (by decide),?_⟩
  refine⟨_,rfl,_,rfl,x,_,dx,_,rfl,ag,G.cZ,G.iV,lt1000 (pl (pl BG)) (by decide),?_⟩
  refine⟨_,rfl,_,rfl,x,_,dx,_,rfl,ag,G.cZ,G.lj,lt1000 (pl (pl (pl BG))) (by decide),?_⟩
  refine⟨_,rfl,_,rfl,x,_,dx,_,rfl,ag,G.cZ,G.jQ,lt1000 (pl (pl (pl (pl BG)))) (by decide),?_⟩
  rw[fS,fS,fS,fS,IX]
  exact k
inductive zx (A:dQ)(vs:List V)(H:Hp)(Q:VK)(E':XK):Prop
 |mk (pw:Addr)(S:Bk)(f:eB)(c b:Nat)(x:Int)(h1:vs=[.ref pw,.int c,.int b,.int x])(h2:dB A H pw S f)(h3:c < S.credits.length)(h4:b < S.aG.length)(h5:S.made.length < sizeLine)(h6: ∀H',Frame f.fp H H'->dB A H' pw (S.put c b x) f->Q .d8 H'):zx A vs H Q E'
theorem BH:aS ["self","credit_number","bill_number","amount"] ["self","credit_number","bill_number","amount"] (ax (mem 25 8)):={}
theorem Lw {rows:List Rw}{i:Nat}(h:i < rows.length):rH (rows.map fun r=>V.int r.d) (i:Int)=some (.int (rows.getD i default).d):=cz (by
 rw[aB,aj,af h]; rfl)
theorem Mv {A:dQ}(G:jn K mg A):gO rJ P w K mg base A.work "put" 1 ["self","credit_number","bill_number","amount"] (zx A):=by
 refine Lr (k:=0) G.Bx G.bD BH (fun f cK A' outer s H vs Q E hr h=>?_)
 ·obtain⟨pw,S,g,c,b,x,rfl,hW,hc,hb,hz,k⟩:=h
  obtain⟨dw,hw⟩:=hW.obj
  obtain⟨ms,m1,m2⟩:=hW.hm
  obtain⟨e1,e2,e3,e4,e5,e6,e7,e8,e9,Mt⟩:=eB.ne hW.nd
  have nw: ∀q∈g.fp,pw≠q:=fun q hq z=>hW.ins hW.obj (z▸hq)
  have w3:=nw g.pl (by simp[eB.fp])
  have w4:=nw g.pf (by simp[eB.fp])
  refine⟨_,(ai (lG (aU eR (xl (bV (pv 0) rfl) (pv 1)) (pv 3)) (oY (bV (pv 0) rfl) (pv 1) set_list))
(ai (lG (aU eR (xl (bV (pv 0) rfl) (pv 2)) (pv 3)) (oY (bV (pv 0) rfl) (pv 2) set_list))
(ao (bJ (qA (bV (pv 0) rfl) (dg (aa (pv 1) (aa (pv 2) (aa (pv 3) av))))))))),?_⟩
  refine⟨_,rfl,pw,_,dw,_,_,rfl,hw,G.bD,G.fq,lh g,_,rfl,g.pf,_,_,_,rfl,rfl,bE.of hW.hf,Lw hc,_,rfl,_,_,rfl,rfl,?_⟩
  refine⟨_,rfl,pw,_,dw,_,_,rfl,hw,G.bD,G.fq,lh g,_,rfl,g.pf,_,_,c,rfl,rfl,hW.hf,qL (by rw[ae]; exact hc),?_⟩
  have RB:upd H g.pf (.lst ((S.credits.map fun r=>V.int r.d).set c (.int ((S.cr c).d - x)))) pw=some (.ins A.work dw (k9 g)):=by rw[aA w4]; exact hw
  have RC:upd H g.pf (.lst ((S.credits.map fun r=>V.int r.d).set c (.int ((S.cr c).d - x)))) g.pl=some (.lst (S.aG.map fun r=>V.int r.d)):=by rw[aA e8]; exact hW.hl
  refine⟨_,rfl,pw,_,dw,_,_,rfl,RB,G.bD,G.fm,lg g,_,rfl,g.pl,_,_,_,rfl,rfl,bE.of RC,Lw hb,_,rfl,_,_,rfl,rfl,?_⟩
  refine⟨_,rfl,pw,_,dw,_,_,rfl,RB,G.bD,G.fm,lg g,_,rfl,g.pl,_,_,b,rfl,rfl,RC,qL (by rw[ae]; exact hb),?_⟩
  have Pw:upd (upd H g.pf (.lst ((S.credits.map fun r=>V.int r.d).set c (.int ((S.cr c).d - x))))) g.pl (.lst ((S.aG.map fun r=>V.int r.d).set b (.int ((S.bl b).d - x)))) pw=some (.ins A.work dw (k9 g)):=by rw[aA w3]; exact RB
  have VQ:upd (upd H g.pf (.lst ((S.credits.map fun r=>V.int r.d).set c (.int ((S.cr c).d - x))))) g.pl (.lst ((S.aG.map fun r=>V.int r.d).set b (.int ((S.bl b).d - x)))) g.pm=some (.lst ms):=by rw[aA e9.symm,aA Mt.symm]; exact m1
  refine⟨_,rfl,pw,_,dw,_,_,rfl,Pw,G.bD,G.lV,ED g,.inl ⟨rfl,_,bE.of VQ⟩,_,rfl,_,rfl,_,rfl,(by show 3<=sizeLine; decide),fun p8 n8=>?_⟩
  have n8':H p8=none:=by
   by_cases z1:p8=g.pl
   ·rw[z1,ag] at n8; cases n8
   ·rw[aA z1] at n8
    by_cases z2:p8=g.pf
    ·rw[z2,ag] at n8; cases n8
    ·rw[aA z2] at n8; exact n8
  refine⟨g.pm,ms,_,rfl,rfl,aD.new n8 _ _ VQ,by rw[← aL m2]; exact hz,?_⟩
  obtain⟨W,F⟩:=hW.put (x:=x) hc hb m1 m2 n8'
  exact k _ F W
end
end eE
namespace L2
open PySem PySem.Spec PySem.W PyProof.Rows
section
variable {A:dQ}{H H':Hp}{pw x:Addr}{S:Bk}{f:eB}{r:Rw}
def eB.kb (f:eB)(p:Addr):eB:={f with ir:=f.ir ++ [p]}
def eB.hX (f:eB)(p:Addr):eB:={f with cps:=f.cps ++ [p]}
theorem dB.kb (h:dB A H pw S f)(hx:ee H x A.dJ (fk S.aG.length r)):
  dB A (upd (upd H f.pb (.lst (f.ir.map V.ref ++ [.ref x]))) f.pl (.lst ((S.aG.map fun r=>V.int r.d) ++ [.int r.d]))) pw (S.kb r) (f.kb x)/\Frame f.fp H (upd (upd H f.pb (.lst (f.ir.map V.ref ++ [.ref x]))) f.pl (.lst ((S.aG.map fun r=>V.int r.d) ++ [.int r.d]))):=by
 obtain⟨e1,e2,e3,e4,e5,e6,e7,e8,e9,Mt⟩:=eB.ne h.nd
 have F:Frame f.fp H (upd (upd H f.pb (.lst (f.ir.map V.ref ++ [.ref x]))) f.pl (.lst ((S.aG.map fun r=>V.int r.d) ++ [.int r.d]))):=(Frame.upd (by simp[eB.fp])).tr (Frame.upd (by simp[eB.fp]))
 refine⟨?_,F⟩
 obtain⟨o1,o2,o3⟩:=h.objs F
 have tk:=h.tk F
 obtain⟨ms,m1,m2⟩:=h.hm
 have t: ∀q,q≠f.pb->q≠f.pl->upd (upd H f.pb (.lst (f.ir.map V.ref ++ [.ref x]))) f.pl (.lst ((S.aG.map fun r=>V.int r.d) ++ [.int r.d])) q=H q:=fun q z1 z2=>by rw[aA z2,aA z1]
 refine⟨o1,?_,?_,?_,?_,⟨ms,?_,m2.mono tk⟩,o2.add (hx.frame F (h.ins hx)),o3,h.nd⟩
 ·show upd (upd H f.pb _) f.pl _ f.pb=some (.lst ((f.ir ++ [x]).map V.ref))
  rw[aA e2,ag,aM]; rfl
 ·exact(t f.pc e1.symm e5).trans h.hc
 ·show upd (upd H f.pb _) f.pl _ f.pl=some (.lst ((S.aG ++ [r]).map fun r=>V.int r.d))
  rw[ag,aM]; rfl
 ·exact(t f.pf e3.symm e8.symm).trans h.hf
 ·exact(t f.pm e4.symm e9.symm).trans m1
theorem dB.hX (h:dB A H pw S f)(hx:ee H x A.dS (eV S.credits.length r)):
  dB A (upd (upd H f.pc (.lst (f.cps.map V.ref ++ [.ref x]))) f.pf (.lst ((S.credits.map fun r=>V.int r.d) ++ [.int r.d]))) pw (S.hX r) (f.hX x)/\Frame f.fp H (upd (upd H f.pc (.lst (f.cps.map V.ref ++ [.ref x]))) f.pf (.lst ((S.credits.map fun r=>V.int r.d) ++ [.int r.d]))):=by
 obtain⟨e1,e2,e3,e4,e5,e6,e7,e8,e9,Mt⟩:=eB.ne h.nd
 have F:Frame f.fp H (upd (upd H f.pc (.lst (f.cps.map V.ref ++ [.ref x]))) f.pf (.lst ((S.credits.map fun r=>V.int r.d) ++ [.int r.d]))):=(Frame.upd (by simp[eB.fp])).tr (Frame.upd (by simp[eB.fp]))
 refine⟨?_,F⟩
 obtain⟨o1,o2,o3⟩:=h.objs F
 have tk:=h.tk F
 obtain⟨ms,m1,m2⟩:=h.hm
 have t: ∀q,q≠f.pc->q≠f.pf->upd (upd H f.pc (.lst (f.cps.map V.ref ++ [.ref x]))) f.pf (.lst ((S.credits.map fun r=>V.int r.d) ++ [.int r.d])) q=H q:=fun q z1 z2=>by rw[aA z2,aA z1]
 refine⟨o1,?_,?_,?_,?_,⟨ms,?_,m2.mono tk⟩,o2,o3.add (hx.frame F (h.ins hx)),h.nd⟩
 ·exact(t f.pb e1 e3).trans h.hb
 ·show upd (upd H f.pc _) f.pf _ f.pc=some (.lst ((f.cps ++ [x]).map V.ref))
  rw[aA e6,ag,aM]; rfl
 ·exact(t f.pl e5.symm e8).trans h.hl
 ·show upd (upd H f.pc _) f.pf _ f.pf=some (.lst ((S.credits ++ [r]).map fun r=>V.int r.d))
  rw[ag,aM]; rfl
 ·exact(t f.pm e7.symm Mt.symm).trans m1
end
end L2
namespace eE
open PySem L2 PyProof.Rows K2
seal L2.oV L2.PS L2.PE L2.PT L2.PW L2.PA L2.PC L2.PG L2.Ks L2.PI L2.Mg L2.KO L2.PO L2.ox L2.M7 L2.iY L2.JW L2.Pg
section
variable {P:Program}{w:World}{K:PySem.W.Frag}{mg:Str->Option Value}{base:Heap}
def Lx (A:dQ)(K:PySem.W.Frag)(E:XK)(t:Str)(H:Hp):Prop:= ∀C,gN K C A.refusal->(t="too much"->C=A.tooMuch)->EX E C t H
inductive I9 (A:dQ)(K:PySem.W.Frag)(vs:List V)(H:Hp)(Q:VK)(E:XK):Prop
 |mk (pw:Addr)(S:Bk)(f:eB)(n:Int)(h1:vs=[.ref pw,.int n])(h2:dB A H pw S f)(h3:(pT n S.credits.length-> ∀p,ee H p A.dS (eV n.toNat (S.cr n.toNat))->Q (.ref p) H))(h4:(¬ pT n S.credits.length->Lx A K E "no credit" H)):I9 A K vs H Q E
inductive EE (A:dQ)(K:PySem.W.Frag)(vs:List V)(H:Hp)(Q:VK)(E:XK):Prop
 |mk (pw:Addr)(S:Bk)(f:eB)(n:Int)(h1:vs=[.ref pw,.int n])(h2:dB A H pw S f)(h3:(pT n S.aG.length-> ∀p,ee H p A.dJ (fk n.toNat (S.bl n.toNat))->Q (.ref p) H))(h4:(¬ pT n S.aG.length->Lx A K E "no bill" H)):EE A K vs H Q E
theorem qM:aS ["self","number"] ["self","number"] (ax (mem 25 9)):={}
theorem BI (T:Txt K mg){A:dQ}(G:jn K mg A):gO (mi P w mg) P w K mg base A.work "credit_at" 4 ["self","number"] (I9 A K):=by
 refine qJ (k:=3) G.qI G.bD qM (fun f cK A' outer s H vs Q E hr l7 h=>?_)
 ·obtain⟨pw,S,g,n,rfl,hW,k1,k2⟩:=h
  obtain⟨dw,hw⟩:=hW.obj
  have hlen:(g.cps.map V.ref).length=S.credits.length:=by rw[ae]; exact hW.rc.1
  refine⟨_,(ai (bM (PW.pt (pw_or (aW jD (pv 1) ah (aZ _)) (pw_or1 (aW Hx (pv 1) (mO T.dR (bV (pv 0) rfl)) (aZ _)))))
(ao (jN l7 (Bz T G) (hr.h.mono (by decide)) rfl rfl))
bb)
(ao (a6 (xl (bV (pv 0) rfl) (pv 1))))),?_⟩
  have no: ¬ pT n S.credits.length-> ∀dx,H dx=none->E (.ref A.jP) (some dx) (upd H dx (.xd [("text",.str "no credit")])):=fun z dx hd=>(k2 z A.jP G.sM (fun q=>absurd q (by decide +kernel))).at hd
  refine⟨_,rfl,_,_,rfl,rfl,_,rfl,cy (fun z=>fv (no fun q=>?_)) (fun z=>?_)⟩
  ·have z':n < 0:=aN z
   have:=q.1
   lia
  have z1: ¬ n < 0:=fun q=>z (aE q)
  refine⟨_,rfl,_,rfl,pw,_,dw,_,_,rfl,hw,G.bD,G.cD,gW g,g.pc,_,rfl,.inl (bE.of hW.hc),_,_,rfl,rfl,_,rfl,cy (fun z=>no fun q=>?_) (fun z=>?_)⟩
  ·have z':((g.cps.map V.ref).length:Int)<=n:=aN z
   have:=q.2
   lia
  have z2: ¬ ((g.cps.map V.ref).length:Int)<=n:=fun q=>z (aE q)
  have jL:pT n S.credits.length:=⟨by lia,by lia⟩
  obtain⟨c,rfl⟩:=cv jL.1
  have hc:c < S.credits.length:=by have:=jL.2; lia
  obtain⟨p,VR,tq⟩:=hW.rc.get hc
  refine⟨_,rfl,pw,_,dw,_,_,rfl,hw,G.bD,G.cD,gW g,_,rfl,g.pc,_,_,.ref p,rfl,rfl,bE.of hW.hc,cz (by rw[aB,VR]; rfl),?_⟩
  exact k1 jL p tq
theorem tK:aS ["self","number"] ["self","number"] (ax (mem 25 10)):={}
theorem ya (T:Txt K mg){A:dQ}(G:jn K mg A):gO (mi P w mg) P w K mg base A.work "bill_at" 4 ["self","number"] (EE A K):=by
 refine qJ (k:=3) G.tH G.bD tK (fun f cK A' outer s H vs Q E hr l7 h=>?_)
 ·obtain⟨pw,S,g,n,rfl,hW,k1,k2⟩:=h
  obtain⟨dw,hw⟩:=hW.obj
  have hlen:(g.ir.map V.ref).length=S.aG.length:=by rw[ae]; exact hW.rb.1
  refine⟨_,(ai (bM (PW.pt (pw_or (aW jD (pv 1) ah (aZ _)) (pw_or1 (aW Hx (pv 1) (mO T.dR (bV (pv 0) rfl)) (aZ _)))))
(ao (jN l7 (Gq T G) (hr.h.mono (by decide)) rfl rfl))
bb)
(ao (a6 (xl (bV (pv 0) rfl) (pv 1))))),?_⟩
  have no: ¬ pT n S.aG.length-> ∀dx,H dx=none->E (.ref A.pA) (some dx) (upd H dx (.xd [("text",.str "no bill")])):=fun z dx hd=>(k2 z A.pA G.xX (fun q=>absurd q (by decide +kernel))).at hd
  refine⟨_,rfl,_,_,rfl,rfl,_,rfl,cy (fun z=>fv (no fun q=>?_)) (fun z=>?_)⟩
  ·have z':n < 0:=aN z
   have:=q.1
   lia
  have z1: ¬ n < 0:=fun q=>z (aE q)
  refine⟨_,rfl,_,rfl,pw,_,dw,_,_,rfl,hw,G.bD,G.dO,i7 g,g.pb,_,rfl,.inl (bE.of hW.hb),_,_,rfl,rfl,_,rfl,cy (fun z=>no fun q=>?_) (fun z=>?_)⟩
  ·have z':((g.ir.map V.ref).length:Int)<=n:=aN z
   have:=q.2
   lia
  have z2: ¬ ((g.ir.map V.ref).length:Int)<=n:=fun q=>z (aE q)
  have jL:pT n S.aG.length:=⟨by lia,by lia⟩
  obtain⟨c,rfl⟩:=cv jL.1
  have hc:c < S.aG.length:=by have:=jL.2; lia
  obtain⟨p,VR,tq⟩:=hW.rb.get hc
  refine⟨_,rfl,pw,_,dw,_,_,rfl,hw,G.bD,G.dO,i7 g,_,rfl,g.pb,_,_,.ref p,rfl,rfl,bE.of hW.hb,cz (by rw[aB,VR]; rfl),?_⟩
  exact k1 jL p tq
def RD (A:dQ)(Q:VK)(H:Hp)(pw:Addr)(f:eB)(S':Bk)(v:V):Prop:= ∀f' H',f'.fp=f.fp->Frame f.fp H H'->dB A H' pw S' f'->Q v H'
inductive tZ (A:dQ)(K:PySem.W.Frag)(vs:List V)(H:Hp)(Q:VK)(E:XK):Prop
 |mk (pw:Addr)(S:Bk)(f:eB)(aI:Str)(day dE only:Int)(h1:vs=[.ref pw,.str aI,.int day,.int dE,sJ only])(h2:dB A H pw S f)(h3:S.credits.length<=900)(h4:(1<=dE->RD A Q H pw f (S.hX ⟨aI,day,dE,only,dE⟩) (.int S.credits.length)))(h5:(dE < 1->Lx A K E "no amount" H)):tZ A K vs H Q E
theorem jh:aS ["self","who","day","amount","only","number"] ["self","who","day","amount","only"] (ax (mem 25 4)):={}
theorem lp {H:Hp}{x dx C:Addr}{fs:List (Str×V)}(nx:H x=none)(nd:H dx=none)(ne:dx≠x):aD H (upd (upd H dx (.own x)) x (.ins C dx fs)):=(aD.new nd).trans (aD.new (by rw[aA ne.symm]; exact nx))
theorem oB (T:Txt K mg){A:dQ}(G:jn K mg A):gO (mi P w mg) P w K mg base A.work "tell_credit" 5 ["self","who","day","amount","only"] (tZ A K):=by
 have gi:vi P w K mg base "check_amount" 4 ["amount"] (qK A):=jR T G
 have Ja:tI P w K mg base "Credit" A.dS 1 ["self","number","who","day","amount","only"] (zw A):=IZ G
 refine qJ (k:=4) G.og G.bD jh (fun f cK A' outer s H vs Q E hr l7 h=>?_)
 ·obtain⟨pw,S,g,aI,day,dE,only,rfl,hW,hl,k1,k2⟩:=h
  have nd:=jh.nd
  obtain⟨dw,hw⟩:=hW.obj
  have hlen:(g.cps.map V.ref).length=S.credits.length:=by rw[ae]; exact hW.rc.1
  refine⟨_,(ai (bJ (rW gi (hr.mono (by decide)) rfl l7.pass (aa (pv 3) av)))
(ai (sv 5 nd (mO T.dR (bV (pv 0) rfl)))
(ai (bJ (qA (bV (pv 0) rfl) (Ry Ja (hr.mono (by decide)) rfl (aa (pv 5) (aa (pv 1) (aa (pv 2) (aa (pv 3) (aa (pv 4) av))))))))
(ai (bJ (qA (bV (pv 0) rfl) (pv 3)))
(ao (a6 (pv 5))))))),?_⟩
  refine⟨_,rfl,dE,rfl,fun h1=>?_,fun h2=>k2 h2 A.ix G.km (fun q=>absurd q (by decide +kernel))⟩
  refine⟨_,rfl,pw,_,dw,_,_,rfl,hw,G.bD,G.cD,gW g,g.pc,_,rfl,.inl (bE.of hW.hc),?_⟩
  refine⟨_,rfl,pw,_,dw,_,_,rfl,hw,G.bD,G.cD,gW g,.inl ⟨rfl,_,bE.of hW.hc⟩,_,rfl,_,rfl,_,rfl,_,rfl,_,rfl,fun x dx nx IU ne=>?_⟩
  refine⟨x,dx,(g.cps.map V.ref).length,⟨aI,day,dE,only,dE⟩,rfl,ag,rfl,?_⟩
  rw[fS,hlen]
  have s1:=lp (C:=A.dS) (fs:=eV S.credits.length ⟨aI,day,dE,only,dE⟩) nx IU ne
  have hx:ee (upd (upd H dx (.own x)) x (.ins A.dS dx (eV S.credits.length ⟨aI,day,dE,only,dE⟩))) x A.dS (eV S.credits.length ⟨aI,day,dE,only,dE⟩):=⟨dx,ag⟩
  generalize upd (upd H dx (.own x)) x (.ins A.dS dx (eV S.credits.length ⟨aI,day,dE,only,dE⟩))=H3 at s1 hx
  have zy:=hW.same s1
  obtain⟨W4,F4⟩:=zy.hX hx
  refine⟨g.pc,_,_,rfl,rfl,zy.hc,bg (by lia),?_⟩
  have ew:pw≠g.pc:=fun z=>zy.ins zy.obj (z▸(by simp[eB.fp]))
  obtain⟨e1,e2,e3,e4,e5,e6,e7,e8,e9,Mt⟩:=eB.ne zy.nd
  refine⟨_,rfl,pw,_,dw,_,_,rfl,(by rw[aA ew]; exact s1 _ _ hw),G.bD,G.fq,lh g,.inl ⟨rfl,_,bE.of (by rw[aA e6.symm]; exact zy.hf)⟩,_,rfl,g.pf,_,_,rfl,rfl,(by rw[aA e6.symm]; exact zy.hf),bg (by rw[ae]; lia),?_⟩
  refine⟨_,rfl,?_⟩
  exact k1 h1 (g.hX x) _ rfl (F4.lU s1) W4
inductive zz (A:dQ)(K:PySem.W.Frag)(vs:List V)(H:Hp)(Q:VK)(E:XK):Prop
 |mk (pw:Addr)(S:Bk)(f:eB)(aI:Str)(day Aw dE:Int)(h1:vs=[.ref pw,.str aI,.int day,.int Aw,.int dE])(h2:dB A H pw S f)(h3:S.aG.length<=900)(h4:(S.bar (.dJ aI day Aw dE)=""->RD A Q H pw f (S.enter (.dJ aI day Aw dE)) (.int S.aG.length)))(h5:(S.bar (.dJ aI day Aw dE)≠""->Lx A K E (S.bar (.dJ aI day Aw dE)) H)):zz A K vs H Q E
theorem kr:aS ["self","who","day","due","amount","number"] ["self","who","day","due","amount"] (ax (mem 25 1)):={}
theorem BJ (T:Txt K mg){A:dQ}(G:jn K mg A):gO (mi P w mg) P w K mg base A.work "tell_bill" 5 ["self","who","day","due","amount"] (zz A K):=by
 have gi:vi P w K mg base "check_amount" 4 ["amount"] (qK A):=jR T G
 have Ob:tI P w K mg base "Bill" A.dJ 1 ["self","number","who","day","due","amount"] (zv A):=Oa G
 refine qJ (k:=4) G.qF G.bD kr (fun f cK A' outer s H vs Q E hr l7 h=>?_)
 ·obtain⟨pw,S,g,aI,day,Aw,dE,rfl,hW,hl,k1,k2⟩:=h
  have nd:=kr.nd
  obtain⟨dw,hw⟩:=hW.obj
  have om:S.bar (.dJ aI day Aw dE)=(if dE < 1 then("no amount":Str) else if Aw < day then("too early":Str) else("":Str)):=rfl
  rw[om] at k1 k2
  have hlen:(g.ir.map V.ref).length=S.aG.length:=by rw[ae]; exact hW.rb.1
  refine⟨_,(ai (bJ (rW gi (hr.mono (by decide)) rfl l7.pass (aa (pv 4) av)))
(ai (bM (aW jD (pv 3) (pv 2) (aZ _))
(ao (jN l7 (BD T G) (hr.h.mono (by decide)) rfl rfl))
bb)
(ai (sv 5 nd (mO T.dR (bV (pv 0) rfl)))
(ai (bJ (qA (bV (pv 0) rfl) (Ry Ob (hr.mono (by decide)) rfl (aa (pv 5) (aa (pv 1) (aa (pv 2) (aa (pv 3) (aa (pv 4) av))))))))
(ai (bJ (qA (bV (pv 0) rfl) (pv 4)))
(ao (a6 (pv 5)))))))),?_⟩
  refine⟨_,rfl,dE,rfl,fun h1=>?_,fun h2=>?_⟩
  ·have n1': ¬ dE < 1:=by lia
   rw[aQ n1'] at k1 k2
   refine⟨_,rfl,_,rfl,_,_,rfl,rfl,_,rfl,cy (fun z=>?_) (fun z=>?_)⟩
   ·have z':Aw < day:=aN z
    rw[a7 z'] at k2
    exact fun dx n=>(k2 (by decide +kernel) A.tooEarly G.sN (fun q=>absurd q (by decide +kernel))).at n
   have z': ¬ Aw < day:=fun q=>z (aE q)
   rw[aQ z'] at k1
   refine⟨_,rfl,pw,_,dw,_,_,rfl,hw,G.bD,G.dO,i7 g,g.pb,_,rfl,.inl (bE.of hW.hb),?_⟩
   refine⟨_,rfl,pw,_,dw,_,_,rfl,hw,G.bD,G.dO,i7 g,.inl ⟨rfl,_,bE.of hW.hb⟩,_,rfl,_,rfl,_,rfl,_,rfl,_,rfl,fun x dx nx IU ne=>?_⟩
   refine⟨x,dx,(g.ir.map V.ref).length,⟨aI,day,Aw,dE,dE⟩,rfl,ag,rfl,?_⟩
   rw[fS,hlen]
   have s1:=lp (C:=A.dJ) (fs:=fk S.aG.length ⟨aI,day,Aw,dE,dE⟩) nx IU ne
   have hx:ee (upd (upd H dx (.own x)) x (.ins A.dJ dx (fk S.aG.length ⟨aI,day,Aw,dE,dE⟩))) x A.dJ (fk S.aG.length ⟨aI,day,Aw,dE,dE⟩):=⟨dx,ag⟩
   generalize upd (upd H dx (.own x)) x (.ins A.dJ dx (fk S.aG.length ⟨aI,day,Aw,dE,dE⟩))=H3 at s1 hx
   have zy:=hW.same s1
   obtain⟨W4,F4⟩:=zy.kb hx
   refine⟨g.pb,_,_,rfl,rfl,zy.hb,bg (by lia),?_⟩
   have ew:pw≠g.pb:=fun z=>zy.ins zy.obj (z▸(by simp[eB.fp]))
   obtain⟨e1,e2,e3,e4,e5,e6,e7,e8,e9,Mt⟩:=eB.ne zy.nd
   refine⟨_,rfl,pw,_,dw,_,_,rfl,(by rw[aA ew]; exact s1 _ _ hw),G.bD,G.fm,lg g,.inl ⟨rfl,_,bE.of (by rw[aA e2.symm]; exact zy.hl)⟩,_,rfl,g.pl,_,_,rfl,rfl,(by rw[aA e2.symm]; exact zy.hl),bg (by rw[ae]; lia),?_⟩
   refine⟨_,rfl,?_⟩
   exact k1 rfl (g.kb x) _ rfl (F4.lU s1) W4
  ·rw[a7 h2] at k2
   exact k2 (by decide +kernel) A.ix G.km (fun q=>absurd q (by decide +kernel))
theorem mY (g:eB):(k9 g).lookup ("tell_credit":Str)=none:=by rfl
theorem vn (g:eB):(k9 g).lookup ("bill_at":Str)=none:=by rfl
theorem zA (g:eB):(k9 g).lookup ("credit_at":Str)=none:=by rfl
theorem Jb (g:eB):(k9 g).lookup ("put":Str)=none:=by rfl
inductive zB (A:dQ)(K:PySem.W.Frag)(vs:List V)(H:Hp)(Q:VK)(E:XK):Prop
 |mk (pw:Addr)(S:Bk)(f:eB)(aI:Str)(day dE:Int)(h1:vs=[.ref pw,.str aI,.int day,.int dE])(h2:dB A H pw S f)(h3:S.credits.length<=900)(h4:(S.bar (.qv aI day dE)=""->RD A Q H pw f (S.enter (.qv aI day dE)) (.int S.credits.length)))(h5:(S.bar (.qv aI day dE)≠""->Lx A K E (S.bar (.qv aI day dE)) H)):zB A K vs H Q E
theorem mZ:aS ["self","who","day","amount"] ["self","who","day","amount"] (ax (mem 25 2)):={}
theorem vo (T:Txt K mg){A:dQ}(G:jn K mg A):gO (mi P w mg) P w K mg base A.work "tell_payment" 6 ["self","who","day","amount"] (zB A K):=by
 have kH:gO (mi P w mg) P w K mg base A.work "tell_credit" 5 ["self","who","day","amount","only"] (tZ A K):=oB T G
 refine qJ (k:=5) G.mT G.bD mZ (fun f cK A' outer s H vs Q E hr l7 h=>?_)
 ·obtain⟨pw,S,g,aI,day,dE,rfl,hW,hl,k1,k2⟩:=h
  obtain⟨dw,hw⟩:=hW.obj
  have om:S.bar (.qv aI day dE)=(if dE < 1 then("no amount":Str) else("":Str)):=rfl
  rw[om] at k1 k2
  refine⟨_,(ao (a6 (mU kH (hr.mono (by decide)) l7.pass (pv 0) (aa (pv 1) (aa (pv 2) (aa (pv 3) (aa CD av))))))),?_⟩
  refine⟨_,rfl,pw,dw,_,rfl,hw,mY g,_,rfl,_,rfl,_,rfl,pw,S,g,aI,day,dE,-1,rfl,hW,hl,fun h1=>?_,fun h2=>?_⟩
  ·rw[aQ (by lia)] at k1
   exact k1 rfl
  ·rw[a7 h2] at k2
   exact k2 (by decide +kernel)
inductive zC (A:dQ)(K:PySem.W.Frag)(vs:List V)(H:Hp)(Q:VK)(E:XK):Prop
 |mk (pw:Addr)(S:Bk)(f:eB)(b day dE:Int)(h1:vs=[.ref pw,.int b,.int day,.int dE])(h2:dB A H pw S f)(h3:S.credits.length<=900)(h4:(S.bar (.note b day dE)=""->RD A Q H pw f (S.enter (.note b day dE)) (.int S.credits.length)))(h5:(S.bar (.note b day dE)≠""->Lx A K E (S.bar (.note b day dE)) H)):zC A K vs H Q E
theorem kz:aS ["self","bill_number","day","amount","bill"] ["self","bill_number","day","amount"] (ax (mem 25 3)):={}
theorem BK (T:Txt K mg){A:dQ}(G:jn K mg A):gO (mi P w mg) P w K mg base A.work "tell_note" 6 ["self","bill_number","day","amount"] (zC A K):=by
 have kH:gO (mi P w mg) P w K mg base A.work "tell_credit" 5 ["self","who","day","amount","only"] (tZ A K):=oB T G
 have rX:gO (mi P w mg) P w K mg base A.work "bill_at" 4 ["self","number"] (EE A K):=ya T G
 refine qJ (k:=5) G.qG G.bD kz (fun f cK A' outer s H vs Q E hr l7 h=>?_)
 ·obtain⟨pw,S,g,b,day,dE,rfl,hW,hl,k1,k2⟩:=h
  have nd:=kz.nd
  obtain⟨dw,hw⟩:=hW.obj
  rw[uW] at k1 k2
  refine⟨_,(ai (sv 4 nd (mU rX (hr.mono (by decide)) l7.pass (pv 0) (aa (pv 1) av)))
(ao (a6 (mU kH (hr.mono (by decide)) l7.pass (pv 0) (aa (bV (pv 4) rfl) (aa (pv 2) (aa (pv 3) (aa (pv 1) av)))))))),?_⟩
  refine⟨_,rfl,pw,dw,_,rfl,hw,vn g,_,rfl,pw,S,g,b,rfl,hW,fun jL p hp=>?_,fun hn=>?_⟩
  ·obtain⟨dp,RE⟩:=hp
   have zb: ¬ ¬ pT b S.aG.length:=fun z=>z jL
   rw[aQ zb] at k1 k2
   have ho:sJ b=V.int b:=aQ (fun z=>by have:=jL.1; lia)
   refine⟨_,rfl,pw,dw,_,rfl,hw,mY g,_,rfl,p,_,dp,_,_,rfl,RE,G.dU,G.ko,Dd _ _,_,rfl,_,rfl,_,rfl,pw,S,g,(S.bl b.toNat).aI,day,dE,b,(by rw[ho]; rfl),hW,hl,fun h1=>?_,fun h2=>?_⟩
   ·rw[aQ (by lia)] at k1
    exact k1 rfl
   ·rw[a7 h2] at k2
    exact k2 (by decide +kernel)
  ·rw[a7 hn] at k2
   exact k2 (by decide +kernel)
theorem yb {S:Bk}{n c b:Nat}(wf:WF S n)(hc:c < S.credits.length)(hb:b < S.aG.length):oA (S.cr c) (S.bl b) b=S.ez c b:=by
 unfold oA Bk.ez
 by_cases z:(S.cr c).c= -1
 ·rw[a7 z,aE z,Bool.true_or,Bool.and_true]
 ·rw[aQ z,bf z,Bool.false_or]
  rcases wf.o c hc with q|⟨b',e1,e2,e3⟩
  ·exact absurd q z
  ·by_cases y:(S.cr c).c=(b:Int)
   ·have:b'=b:=by lia
    subst this
    rw[aE y,aE e3]; rfl
   ·rw[bf y,lD]
inductive Jc (A:dQ)(K:PySem.W.Frag)(vs:List V)(H:Hp)(Q:VK)(E:XK):Prop
 |mk (pw:Addr)(S:Bk)(f:eB)(n:Nat)(ci bi dE:Int)(h1:vs=[.ref pw,.int ci,.int bi,.int dE])(h2:dB A H pw S f)(h3:WF S n)(h4:S.made.length < sizeLine)(h5:(S.bar (.set ci bi dE)=""->RD A Q H pw f (S.enter (.set ci bi dE)) (.int dE)))(h6:(S.bar (.set ci bi dE)≠""->Lx A K E (S.bar (.set ci bi dE)) H)):Jc A K vs H Q E
theorem ji:aS ["self","credit_number","bill_number","amount","credit","bill"] ["self","credit_number","bill_number","amount"] (ax (mem 25 5)):={}
theorem wQ (T:Txt K mg){A:dQ}(G:jn K mg A):gO (mi P w mg) P w K mg base A.work "set_by_hand" 5 ["self","credit_number","bill_number","amount"] (Jc A K):=by
 have BL:gO (mi P w mg) P w K mg base A.work "credit_at" 4 ["self","number"] (I9 A K):=BI T G
 have rX:gO (mi P w mg) P w K mg base A.work "bill_at" 4 ["self","number"] (EE A K):=ya T G
 have Jd:gO rJ P w K mg base A.work "put" 1 ["self","credit_number","bill_number","amount"] (zx A):=Mv G
 have Dp:eF P w K mg base "fits" 1 ["credit","bill"] (zr A):=IV T G
 have gi:vi P w K mg base "check_amount" 4 ["amount"] (qK A):=jR T G
 refine qJ (k:=4) G.oh G.bD ji (fun f cK A' outer s H vs Q E hr l7 h=>?_)
 ·obtain⟨pw,S,g,n,ci,bi,dE,rfl,hW,wf,hz,k1,k2⟩:=h
  have nd:=ji.nd
  obtain⟨dw,hw⟩:=hW.obj
  rw[yQ] at k1 k2
  refine⟨_,(ai (sv 4 nd (mU BL (hr.mono (by decide)) l7.pass (pv 0) (aa (pv 1) av)))
(ai (sv 5 nd (mU rX (hr.mono (by decide)) l7.pass (pv 0) (aa (pv 2) av)))
(ai (bM (jB (fT (fc Dp hr (aa (pv 4) (aa (pv 5) av)))))
(ao (jN l7 (zo T G) (hr.h.mono (by decide)) rfl rfl))
bb)
(ai (bJ (rW gi (hr.mono (by decide)) rfl l7.pass (aa (pv 3) av)))
(ai (bM (PW.pt (pw_or (aW iG (pv 3) (xl (bV (pv 0) rfl) (pv 1)) (aZ _)) (pw_or1 (aW iG (pv 3) (xl (bV (pv 0) rfl) (pv 2)) (aZ _)))))
(ao (jN l7 (Dl T G) (hr.h.mono (by decide)) rfl rfl))
bb)
(ai (bJ (mU Jd (hr.mono (by decide)) mE (pv 0) (aa (pv 1) (aa (pv 2) (aa (pv 3) av)))))
(ao (a6 (pv 3))))))))),?_⟩
  refine⟨_,rfl,pw,dw,_,rfl,hw,zA g,_,rfl,pw,S,g,ci,rfl,hW,fun ic p hp=>?_,fun hn=>?_⟩
  case refine_2=>
   rw[a7 hn] at k2
   exact k2 (by decide +kernel)
  have zc: ¬ ¬ pT ci S.credits.length:=fun z=>z ic
  rw[aQ zc] at k1 k2
  refine⟨_,rfl,pw,dw,_,rfl,hw,vn g,_,rfl,pw,S,g,bi,rfl,hW,fun ib q hq=>?_,fun hn=>?_⟩
  case refine_2=>
   rw[a7 hn] at k2
   exact k2 (by decide +kernel)
  have zb: ¬ ¬ pT bi S.aG.length:=fun z=>z ib
  rw[aQ zb] at k1 k2
  obtain⟨c,rfl⟩:=cv ic.1
  obtain⟨b,rfl⟩:=cv ib.1
  have hc:c < S.credits.length:=by have:=ic.2; lia
  have hb:b < S.aG.length:=by have:=ib.2; lia
  rw[dI] at hp hq k1 k2
  rw[dI] at k1 k2
  have hfg:=yb wf hc hb
  refine⟨_,rfl,_,rfl,p,q,c,b,_,_,rfl,hp,hq,_,rfl,?_⟩
  rw[hfg]
  refine cy (fun z=>?_) (fun z=>?_)
  ·have z':S.ez c b=false:=by simpa using z
   rw[a7 z'] at k2
   exact fun dx nn=>(k2 (by decide +kernel) A.jw G.qD (fun q=>absurd q (by decide +kernel))).at nn
  have zg: ¬ S.ez c b=false:=by simpa using z
  rw[aQ zg] at k1 k2
  refine⟨_,rfl,dE,rfl,fun h1=>?_,fun h2=>?_⟩
  case refine_2=>
   rw[a7 h2] at k2
   exact k2 (by decide +kernel) A.ix G.km (fun q=>absurd q (by decide +kernel))
  rw[aQ (by lia: ¬ dE < 1)] at k1 k2
  have RF:iD (S.cr c).d (S.bl b).d < dE-> ∀dx,H dx=none->E (.ref A.tooMuch) (some dx) (upd H dx (.xd [("text",.str "too much")])):=fun z dx nn=>by
   rw[a7 z] at k2
   exact(k2 (by decide +kernel) A.tooMuch G.pB (fun _=>rfl)).at nn
  refine⟨_,rfl,_,rfl,pw,_,dw,_,_,rfl,hw,G.bD,G.fq,lh g,_,rfl,g.pf,_,_,_,rfl,rfl,bE.of hW.hf,Lw hc,_,_,rfl,rfl,_,rfl,cy (fun z=>fv (RF ?_)) (fun z=>?_)⟩
  ·have z':(S.cr c).d < dE:=aN z
   unfold iD
   split <;> lia
  have z1: ¬ (S.cr c).d < dE:=fun q=>z (aE q)
  refine⟨_,rfl,_,rfl,pw,_,dw,_,_,rfl,hw,G.bD,G.fm,lg g,_,rfl,g.pl,_,_,_,rfl,rfl,bE.of hW.hl,Lw hb,_,_,rfl,rfl,_,rfl,cy (fun z=>RF ?_) (fun z=>?_)⟩
  ·have z':(S.bl b).d < dE:=aN z
   unfold iD
   split <;> lia
  have z2: ¬ (S.bl b).d < dE:=fun q=>z (aE q)
  have zm: ¬ iD (S.cr c).d (S.bl b).d < dE:=by
   unfold iD
   split <;> lia
  rw[aQ zm] at k1
  refine⟨_,rfl,pw,dw,_,rfl,hw,Jb g,_,rfl,_,rfl,_,rfl,pw,S,g,c,b,dE,rfl,hW,hc,hb,hz,fun H2 F2 W2=>?_⟩
  exact⟨_,rfl,k1 rfl g H2 rfl F2 W2⟩
def EF:Sp:=fun vs H Q _=>vs=[]/\ ∀(sd:Addr) (f:fB) (H':Hp),aD H H'->dm H' sd Bk.new f->H sd=none->(∀b∈f.fp,H b=none)->Q (.ref sd) H'
theorem wR:aS [] [] (ax (top 53)):={}
theorem qN (T:Txt K mg):eF P w K mg base "_law_begun" 1 [] EF:=by
 refine T.y1.fj (k:=0) wR (fun f cK A outer s H vs Q E hr h=>?_)
 ·obtain⟨rfl,k⟩:=h
  refine⟨_,(ao (a6 (KL (uG aR (bQ av) (uG aR (bQ av) (uG aR (bQ av) KJ))) (by rfl) rfl (by simp) (by decide)))),?_⟩
  intro sd Li
  refine⟨bp _,fun pb nb=>⟨bp _,fun pc nc=>⟨bp _,fun pm nm=>?_⟩⟩⟩
  have t0:=aD.new (o:= .dK []) Li
  have t1:=aD.new (o:= .lst []) nb
  have t2:=aD.new (o:= .lst []) nc
  have t3:=aD.new (o:= .lst []) nm
  have g0:=((t1.trans t2).trans t3) _ _ (ag (H:=H) (a:=sd) (o:= .dK []))
  have gb:=(t2.trans t3) _ _ (ag (H:=upd H sd (.dK [])) (a:=pb) (o:= .lst []))
  have gc:=t3 _ _ (ag (H:=upd (upd H sd (.dK [])) pb (.lst [])) (a:=pc) (o:= .lst []))
  have gm:=ag (H:=upd (upd (upd H sd (.dK [])) pb (.lst [])) pc (.lst [])) (a:=pm) (o:= .lst [])
  have nb0:=t0.free nb
  have nc0:=(t0.trans t1).free nc
  have nm0:=((t0.trans t1).trans t2).free nm
  have e1:sd≠pb:=aJ ag nb
  have e2:sd≠pc:=aJ (t1 _ _ ag) nc
  have e3:sd≠pm:=aJ ((t1.trans t2) _ _ ag) nm
  have e4:pb≠pc:=aJ ag nc
  have e5:pb≠pm:=aJ (t2 _ _ ag) nm
  have e6:pc≠pm:=aJ ag nm
  have s3:=((t0.trans t1).trans t2).trans t3
  generalize upd (upd (upd (upd H sd (.dK [])) pb (.lst [])) pc (.lst [])) pm (.lst [])=H3 at g0 gb gc gm s3 ⊢
  refine⟨g0,[(Sum.inr "bills",.ref pb),(Sum.inr "credits",.ref pc),(Sum.inr "made",.ref pm)],rfl,(by show 3<=15; lia),?_⟩
  refine k sd ⟨pb,pc,pm,[],[]⟩ _ (s3.cX Li) ⟨?_,by rw[aA e1.symm]; exact gb,by rw[aA e2.symm]; exact gc,⟨[],by rw[aA e3.symm]; exact gm,.nil⟩,.nil,.nil,?_,?_⟩ Li ?_
  ·rw[ag,NG]; rfl
  ·simp[fB.fp,e4,e5,e6]
  ·simp[fB.fp,e1,e2,e3]
  ·intro b hb
   simp only[fB.fp,List.append_nil,List.mem_cons,List.not_mem_nil,or_false] at hb
   rcases hb with rfl|rfl|rfl
   ·exact nb0
   ·exact nc0
   ·exact nm0
inductive zD (vs:List V)(H:Hp)(Q:VK)(E':XK):Prop
 |mk (sd:Addr)(S:Bk)(f:fB)(c b:Nat)(h1:vs=[.ref sd,.int c,.int b])(h2:dm H sd S f)(h3:c < S.credits.length)(h4:b < S.aG.length)(h5: ∀H',aD H H'->Q (.bl (S.ez c b)) H'):zD vs H Q E'
theorem qO:aS ["_law_state","_law_credit","_law_bill","_law_one"] ["_law_state","_law_credit","_law_bill"] (ax (top 54)):={}
theorem sO (T:Txt K mg):eF P w K mg base "_law_goes" 1 ["_law_state","_law_credit","_law_bill"] zD:=by
 refine T.Bh.fj (k:=0) qO (fun f cK A outer s H vs Q E hr h=>?_)
 ·obtain⟨sd,S,g,c,b,rfl,hB,hc,hb,k⟩:=h
  have hu:=jE hr
  have nd:=qO.nd
  obtain⟨p,_,ap,hp⟩:=hB.lc hc
  obtain⟨q,_,aq,hq⟩:=hB.lb hb
  refine⟨_,(ai (sv 3 nd (xl (cB hu (pv 0) aR (fun _ _=>rfl)) (pv 1)))
(ao (a6 (rD (fb cG (xl (pv 3) ah) (xl (xl (cB hu (pv 0) aR (fun _ _=>rfl)) (pv 2)) ah) (aZ _)) (oX (fb nL (xl (pv 3) ah) (bQ (aa (oy kC ah) (aa (pv 2) av))) (by rfl))))))),?_⟩
  refine⟨_,rfl,sd,_,rfl,hB.gC,_,rfl,g.pc,_,_,.ref p,rfl,rfl,bE.of hB.hc,ap,?_⟩
  refine⟨_,rfl,p,_,_,.str (S.cr c).aI,rfl,rfl,bE.of hp,rfl,_,rfl,sd,_,rfl,hB.gB,_,rfl,g.pb,_,_,.ref q,rfl,rfl,bE.of hB.hb,aq,q,_,_,.str (S.bl b).aI,rfl,rfl,bE.of hq,rfl,rfl,_,rfl,cy (fun d=>?_) (fun d=>?_)⟩
  ·have d':(S.cr c).aI=(S.bl b).aI:=by have:=aN d; injection this
   refine⟨_,rfl,p,_,_,.int (S.cr c).c,rfl,rfl,bE.of hp,rfl,_,rfl,_,rfl,(by show 2<=sizeLine; decide),fun p9 n9=>?_⟩
   refine⟨p9,_,rfl,.inl (bE.of ag),rfl,rfl,?_⟩
   have e:S.ez c b=wg (V.int (S.cr c).c) [V.int (-1),V.int (b:Int)]:=by
    unfold Bk.ez
    rw[aE d',Bool.true_and]
    rw[nS]
    simp[wg,KC]
    lia
   have q9:=k _ (aD.new (o:= .lst [V.int (-1),V.int (b:Int)]) n9)
   rw[e] at q9
   exact q9
  ·have d': ¬ (S.cr c).aI=(S.bl b).aI:=fun z=>d (aE (by rw[z]))
   have e:S.ez c b=false:=by
    unfold Bk.ez
    rw[bf d',pW]
   have q9:=k H (aD.refl _)
   rw[e] at q9
   exact q9
theorem jo {A:Hp->Prop}{H H':Hp}(e:H=H')(h:A H'):A H:=e▸h
inductive BN (vs:List V)(H:Hp)(Q:VK)(E':XK):Prop
 |mk (sd:Addr)(S:Bk)(f:fB)(c b:Nat)(x:Int)(h1:vs=[.ref sd,.int c,.int b,.int x])(h2:dm H sd S f)(h3:c < S.credits.length)(h4:b < S.aG.length)(h5:S.made.length < sizeLine)(h6: ∀H',Frame f.fp H H'->dm H' sd (S.put c b x) f->Q .d8 H'):BN vs H Q E'
theorem sP:aS ["_law_state","_law_credit","_law_bill","_law_amount"] ["_law_state","_law_credit","_law_bill","_law_amount"] (ax (top 55)):={}
theorem vp (T:Txt K mg):eF P w K mg base "_law_put" 1 ["_law_state","_law_credit","_law_bill","_law_amount"] BN:=by
 refine T.Dc.fj (k:=0) sP (fun f cK A outer s H vs Q E hr h=>?_)
 ·obtain⟨sd,S,g,c,b,x,rfl,hB,hc,hb,hz,k⟩:=h
  have hu:=jE hr
  have nd:=sP.nd
  obtain⟨p,pi,ap,hp⟩:=hB.lc hc
  refine⟨_,(ai (lG (aU eR (xl (xl (cB hu (pv 0) aR (fun _ _=>rfl)) (pv 1)) ah) (pv 3)) (oY (xl (cB hu (pv 0) aR (fun _ _=>rfl)) (pv 1)) ah set_list))
(ai (lG (aU eR (xl (xl (cB hu (pv 0) aR (fun _ _=>rfl)) (pv 2)) ah) (pv 3)) (oY (xl (cB hu (pv 0) aR (fun _ _=>rfl)) (pv 2)) ah set_list))
(ao (bJ (qA (cB hu (pv 0) aR (fun _ _=>rfl)) (dg (aa (pv 1) (aa (pv 2) (aa (pv 3) av))))))))),?_⟩
  refine⟨_,rfl,sd,_,rfl,hB.gC,_,rfl,g.pc,_,_,.ref p,rfl,rfl,bE.of hB.hc,ap,p,_,_,.int (S.cr c).d,rfl,rfl,bE.of hp,rfl,_,rfl,_,_,rfl,rfl,?_⟩
  refine⟨_,rfl,sd,_,rfl,hB.gC,_,rfl,g.pc,_,_,.ref p,rfl,rfl,bE.of hB.hc,ap,p,_,4,4,rfl,rfl,hp,rfl,?_⟩
  have B1:=hB.setC (r:=(S.cr c).less x) pi ⟨_,hp⟩
  have F1:Frame g.fp H (upd H p (.lst ((S.cr c).less x).vs)):=Frame.upd (by have:=List.mem_of_getElem? pi; simp[fB.fp,this])
  refine jo (H':=upd H p (.lst ((S.cr c).less x).vs)) rfl ?_
  generalize upd H p (.lst ((S.cr c).less x).vs)=H1 at B1 F1 ⊢
  obtain⟨q,qi,aq,hq⟩:=B1.lb (b:=b) hb
  change H1 q=some (.lst (S.bl b).vs) at hq
  refine⟨_,rfl,sd,_,rfl,B1.gB,_,rfl,g.pb,_,_,.ref q,rfl,rfl,bE.of B1.hb,aq,q,_,_,.int (S.bl b).d,rfl,rfl,bE.of hq,rfl,_,rfl,_,_,rfl,rfl,?_⟩
  refine⟨_,rfl,sd,_,rfl,B1.gB,_,rfl,g.pb,_,_,.ref q,rfl,rfl,bE.of B1.hb,aq,q,_,4,4,rfl,rfl,hq,rfl,?_⟩
  have B2:=B1.setB (r:=(S.bl b).less x) qi ⟨_,hq⟩
  have F2:Frame g.fp H1 (upd H1 q (.lst ((S.bl b).less x).vs)):=Frame.upd (by have:=List.mem_of_getElem? qi; simp[fB.fp,this])
  refine jo (H':=upd H1 q (.lst ((S.bl b).less x).vs)) rfl ?_
  generalize upd H1 q (.lst ((S.bl b).less x).vs)=H2 at B2 F2 ⊢
  obtain⟨ms,m1,m2⟩:=B2.hm
  refine⟨_,rfl,sd,_,rfl,B2.gM,.inl ⟨rfl,_,bE.of m1⟩,_,rfl,_,rfl,_,rfl,(by show 3<=sizeLine; decide),fun p8 n8=>?_⟩
  have t8:=aD.new (o:= .tup [V.int c,.int b,.int x]) n8
  refine⟨g.pm,ms,_,rfl,rfl,t8 _ _ m1,?_,?_⟩
  ·rw[← aL m2]
   exact hz
  ·refine k _ ((F1.tr F2).tr ((t8.frame).tr (Frame.upd (by simp[fB.fp])))) ?_
   exact(B2.same t8).Vc (t:=(c,b,x)) (t8 _ _ m1) (m2.mono t8.tk) ag
def EG (x:Int×Nat):List Int:=[x.1,(x.2:Int)]
def BO (rows:List Rw)(aI:Str)(key:Rw->Int)(i:Nat):List (Int×Nat):=
 ((List.range i).filter fun k=>decide ((rows.getD k default).aI=aI) && decide (0 < (rows.getD k default).d)).map fun k=>(key (rows.getD k default),k)
theorem Ly {rows:List Rw}{aI:Str}{key:Rw->Int}{i:Nat}(h:(rows.getD i default).aI=aI)(h2:0 < (rows.getD i default).d):BO rows aI key (i + 1)=BO rows aI key i ++ [(key (rows.getD i default),i)]:=by
 unfold BO
 rw[nX,j9,aM]
 congr 1
 rw[cu (by rw[aE h,aE h2]; rfl)]
 rfl
theorem Oc {rows:List Rw}{aI:Str}{key:Rw->Int}{i:Nat}(h: ¬ ((rows.getD i default).aI=aI/\0 < (rows.getD i default).d)):BO rows aI key (i + 1)=BO rows aI key i:=by
 unfold BO
 rw[List.range_succ,List.filter_append,List.map_append,List.filter_cons_of_neg (by simpa using h)]
 simp
theorem Od {rows:List Rw}{aI:Str}{key:Rw->Int}{i:Nat}: ∀x∈BO rows aI key i,x.2 < i:=by
 intro x hx
 obtain⟨k,hk,rfl⟩:=bC.mp hx
 exact df.mp (eM.mp hk).1
theorem Oe {rows:List Rw}{aI:Str}{key:Rw->Int}{i:Nat}:((BO rows aI key i).map (·.2)).Nodup:=by
 unfold BO
 rw[eO]
 have e:((fun x:Int×Nat=>x.2) ∘ fun k=>(key (rows.getD k default),k))=id:=rfl
 rw[e,AD]
 exact me.filter _
theorem zE {rows:List Rw}{aI:Str}{key:Rw->Int}{i:Nat}:(BO rows aI key i).length<=i:=by
 unfold BO
 rw[ae]
 exact aY (aX _ _) (by rw[di]; exact aC _)
theorem ua {x y:Str}(d:decide (V.str x=V.str y)=true):x=y:=by
 have:=aN d
 injection this
theorem qP {x y:Str}(d: ¬ decide (V.str x=V.str y)=true): ¬ x=y:=fun z=>d (aE (by rw[z]))
theorem lq: ∀{l:List (Int×Nat)} {x y:Int×Nat},(l.map (·.2)).Nodup->x∈l->y∈l->x.2=y.2->x=y
 |[],_,_,_,h,_,_=>by cases h
 |z :: l,x,y,nd,hx,hy,e=>by
  rw[cU,fE] at nd
  rcases aw.mp hx with xS|xS
  ·rcases aw.mp hy with zF|zF
   ·rw[xS,zF]
   ·exact absurd (bC.mpr ⟨y,zF,by rw[← e,xS]⟩) nd.1
  ·rcases aw.mp hy with zF|zF
   ·exact absurd (bC.mpr ⟨x,xS,by rw[e,zF]⟩) nd.1
   ·exact lq nd.2 xS zF e
inductive vq (vs:List V)(H:Hp)(Q:VK)(E':XK):Prop
 |mk (p:Addr)(ps:List Addr)(rows:List Rw)(aI:Str)(Gv:Int)(key:Rw->Int)(h1:vs=[.ref p,.str aI,.int Gv])(h2:H p=some (.lst (ps.map V.ref)))(h3:eU H rows ps)(h4:rows.length < 64)(h5:(∀r:Rw,rH r.vs Gv=some (.int (key r))))(h6: ∀D H',aD H H'->H D=none->H' D=some (.lst ((inTurn rows aI key).map fun(k:Nat)=>V.int (k:Int)))->Q (.ref D) H'):vq vs H Q E'
theorem l8:aS ["_law_rows","_law_who","_law_spot","_law_keys","_law_k"] ["_law_rows","_law_who","_law_spot"] (ax (top 56)):={}
theorem vt (T:Txt K mg):eF P w K mg base "_law_in_turn" 1 ["_law_rows","_law_who","_law_spot"] vq:=by
 refine T.vf.fj (k:=0) l8 (fun f cK A outer s H vs Q E hr h=>?_)
 ·obtain⟨p,ps,rows,aI,Gv,key,rfl,hp,hR,hl,hk,k⟩:=h
  have nd:=l8.nd
  have hlen:=hR.length
  refine⟨_,(ai (sv 3 nd (bQ av))
(ai (eQ bH rfl (iN rfl T.lT (aa (mO T.dR (pv 0)) av)) (gn 4 nd)
(ao (bM (PW.pt (pw_and (aW cG (xl (xl (pv 0) (pv 4)) ah) (pv 1) (aZ _)) (pw_and1 (aW iG (xl (xl (pv 0) (pv 4)) ah) ah (aZ _)))))
(ao (bJ (qA (pv 3) (dg (aa (xl (xl (pv 0) (pv 4)) (pv 2)) (aa (pv 4) av))))))
bb)))
(ao (a6 (gJ (tn:=["_law_key"]) (cn:=[]) (cj:=[]) rfl Ee (dj (cI qu (by rfl) T.qB boot_sorted (aa (pv 3) av))) (fun _ _ _ _=>(eu (i:=0) (show(["_law_key"]:List Str).Nodup by decide +kernel) rfl (Or.inl rfl))) (fun _ _ _ _=>mF) (fun _ _ _ _=>(jg (nM (K:=K) rfl) (pv 0) ah (fun _ _=>rfl)))))))),?_⟩
  refine⟨bp _,fun pk nk=>?_⟩
  have s1:aD H (upd H pk (.lst [])):=aD.new nk
  refine⟨_,rfl,p,_,rfl,.inl (bE.of (s1 _ _ hp)),((ps.map V.ref).length:Int),rfl,by lia,by rw[ae]; lia,?_⟩
  rw[dI]
  refine jr (lo:=0) (n:=(ps.map V.ref).length) (fun i σ H2=> ∃(xs:List V) (x4:Option V),σ=[some (.ref p),some (.str aI),some (.int Gv),some (.ref pk),x4]/\aD H H2/\H2 pk=some (.lst xs)/\fZ H2 ((BO rows aI key i).map EG) xs)
   ⟨[],none,rfl,s1,ag,.nil⟩ ?_ ?_
  ·rintro i σ H2 hi ⟨xs,x4,rfl,s2,hx,hT⟩
   rw[jq]
   have vV:i < rows.length:=by rw[ae] at hi; lia
   obtain⟨r,ri,Kb⟩:=hR.at vV
   have ar:rH (ps.map V.ref) (i:Int)=some (.ref r):=cz (by rw[aB,ri]; rfl)
   have tq:=s2 _ _ hp
   have yc:=s2 _ _ Kb
   have Of:xs.length<=i:=by
    have:=aL hT
    rw[ae] at this
    have:=zE (rows:=rows) (aI:=aI) (key:=key) (i:=i)
    lia
   have no: ¬ ((rows.getD i default).aI=aI/\0 < (rows.getD i default).d)-> ∃(xs:List V) (x4:Option V),[some (V.ref p),some (.str aI),some (.int Gv),some (.ref pk),some (.int (i:Int))]=[some (.ref p),some (.str aI),some (.int Gv),some (.ref pk),x4]/\aD H H2/\H2 pk=some (.lst xs)/\fZ H2 ((BO rows aI key (i + 1)).map EG) xs:=fun n=>
    ⟨xs,_,rfl,s2,hx,by rw[Oc n]; exact hT⟩
   generalize Gw:rows.getD i default=row at yc no
   refine⟨_,rfl,_,rfl,p,_,_,.ref r,rfl,rfl,bE.of tq,ar,r,_,_,.str row.aI,rfl,rfl,bE.of yc,rfl,_,rfl,rfl,_,rfl,cy (fun d1=>?_) (fun d1=>bR (no fun z=>qP d1 z.1))⟩
   refine⟨_,rfl,_,rfl,p,_,_,.ref r,rfl,rfl,bE.of tq,ar,r,_,_,.int row.d,rfl,rfl,bE.of yc,rfl,_,_,rfl,rfl,_,rfl,cy (fun d2=>?_) (fun d2=>no fun z=>d2 (aE z.2))⟩
   have RG:=ua d1
   have VS:0 < row.d:=aN d2
   refine⟨_,rfl,.inl ⟨rfl,_,bE.of hx⟩,_,rfl,_,rfl,p,_,_,.ref r,rfl,rfl,bE.of tq,ar,_,rfl,r,_,_,.int (key row),rfl,rfl,bE.of yc,hk row,_,rfl,(by show 2<=sizeLine; decide),fun p8 n8=>?_⟩
   have t8:=aD.new (o:= .tup [V.int (key row),.int (i:Int)]) n8
   refine⟨pk,xs,_,rfl,rfl,t8 _ _ hx,bg (by lia),xs ++ [.ref p8],_,rfl,(s2.trans t8).cX nk,ag,?_⟩
   rw[Ly (by rw[Gw]; exact RG) (by rw[Gw]; exact VS),aM,Gw]
   exact fZ.snoc (hT.mono (t8.tk.trans (fI (t8 _ _ hx)))) (dA (t8 _ _ hx) _ _ ag)
  ·rintro σ H2 ⟨xs,x4,rfl,s2,hx,hT⟩
   have Of:=aL hT
   have TC:=zE (rows:=rows) (aI:=aI) (key:=key) (i:=(ps.map V.ref).length)
   have EH:=Od (rows:=rows) (aI:=aI) (key:=key) (i:=(ps.map V.ref).length)
   have l6:(ps.map V.ref).length=rows.length:=by rw[ae]; lia
   have hle: ∀x∈BO rows aI key (ps.map V.ref).length,x.2 < 1000:=fun x hx=>by have:=EH x hx; lia
   have jL:inTurn rows aI key=(d9 (BO rows aI key (ps.map V.ref).length)).map (·.2):=by rw[l6]; rfl
   have hnd:=Oe (rows:=rows) (aI:=aI) (key:=key) (i:=(ps.map V.ref).length)
   generalize BO rows aI key (ps.map V.ref).length=ks at hT Of TC hle jL hnd
   rw[ae] at Of
   refine⟨_,rfl,pk,xs,_,tG,rfl,bE.of hx,(by lia),hT,(fun t ht=>?_),(fun t ht u hu=>?_),fun D ys us nD Ka perm le=>?_⟩
   ·obtain⟨x,_,rfl⟩:=bC.mp ht
    simp[EG]
   ·obtain⟨x,xS,rfl⟩:=bC.mp ht
    obtain⟨y,zF,rfl⟩:=bC.mp hu
    refine qC (hle x xS) (hle y zF) (fun e=>⟨rfl,?_⟩) rfl
    exact lq hnd xS zF e
   ·have Qv:=sI hle hnd (fun x _=>rfl) perm le
    subst Qv
    have tD:=aD.new (o:= .lst ys) nD
    refine⟨D,rfl,⟨_,bE.of ag⟩,?_⟩
    have EI:=Ka.mono tD.tk
    generalize Lz:upd H2 D (.lst ys)=H3 at tD EI
    have Px:H3 D=some (.lst ys):=by rw[← Lz]; exact ag
    have s3:=s2.trans tD
    clear Lz Ka perm le hT
    have RH:=aL EI
    refine eA (K:=K) (a:=D) (xs:=ys) (fun D' i σ H6=>H3 D'=none/\ ∃v,σ=[v]/\aD H3 H6/\H6 D'=some (.lst (((d9 ks).take i).map fun x=>V.int (x.2:Int)))) (fun D' pE=>⟨pE,none,rfl,aD.new pE,ag⟩) (fun D' i σ H6 _ ⟨_,_,_,t3,_⟩=>bE.of (t3 _ _ Px)) ?_ ?_
    ·rintro D' i x σ H6 EJ ⟨pE,v,rfl,t3,gj⟩
     have hi:i < (d9 ks).length:=by
      have:=(au.mp EJ).1
      rw[ae] at RH
      lia
     have g0:((d9 ks).map EG)[i]? =some (EG (d9 ks)[i]):=by rw[aB,af hi]; rfl
     obtain⟨v',hv,pp,e1,Hc⟩:=bG EI g0
     rw[EJ] at hv
     obtain rfl:x=v':=aF hv
     subst e1
     have nK:=ow hi
     have Gx:=t3 _ _ Hc
     generalize (d9 ks)[i]=z at Gx nK
     have Dq:((d9 ks).take i).length<=100:=by
      rw[bh]
      have:=(cY ks).length_eq
      lia
     refine⟨_,rfl,pp,_,_,.int (z.2:Int),rfl,rfl,cm.of Gx,rfl,_,gj,bg (by rw[ae]; lia),pE,_,rfl,t3.cX pE,?_⟩
     rw[ag,nK,aM]
     rfl
    ·rintro D' σ H6 pE ⟨_,v,rfl,t3,gj⟩
     refine k D' H6 (s3.trans t3) (s3.free pE) ?_
     rw[gj,jL,eO,RH.symm,ae,a8]
     rfl
theorem sQ {α β:Type}{F:α->β->Prop}: ∀{l₁:List α} {l₂:List β} (n:Nat),Paired F l₁ l₂->Paired F (l₁.drop n) (l₂.drop n)
 |_,_,0,h=>by rwa [List.drop_zero,List.drop_zero]
 |_,_,_ + 1,.nil=> .nil
 |_,_,n + 1,.cons _ t=>by rw[List.drop_succ_cons,List.drop_succ_cons]; exact sQ n t
theorem Gy (xs:List V)(n:Nat)(h:n<=xs.length):qj xs (some (n:Int)) none=xs.drop n:=by
 unfold qj
 rw[HT.HM,HT.yz,Nat.min_eq_left h,List.take_of_length_le]
 rw[md]
 exact aC _
structure zG (H0:Hp)(sd:Addr)(S:Bk)(f:fB)(H2:Hp)(S2:Bk)(m:Nat):Prop where
 fr:Frame f.fp H0 H2
 bk:dm H2 sd S2 f
 bl:S2.aG.length=S.aG.length
 cl:S2.credits.length=S.credits.length
 ml:S2.made.length<=S.made.length + m
theorem zG.put {H0:Hp}{sd:Addr}{S:Bk}{f:fB}{H2 H':Hp}{S2:Bk}{m c b:Nat}{x:Int}(I:zG H0 sd S f H2 S2 m)(fr:Frame f.fp H2 H')(bk:dm H' sd (S2.put c b x) f):zG H0 sd S f H' (S2.put c b x) (m + 1):=by
 refine⟨I.fr.tr fr,bk,?_,?_,?_⟩
 ·show(S2.aG.set _ _).length=_
  rw[dX]; exact I.bl
 ·show(S2.credits.set _ _).length=_
  rw[dX]; exact I.cl
 ·show(S2.made ++ [_]).length<=_
  rw[aH]
  have:=I.ml
  simp
  lia
theorem zG.up {H0:Hp}{sd:Addr}{S:Bk}{f:fB}{H2:Hp}{S2:Bk}{m n:Nat}(I:zG H0 sd S f H2 S2 m)(h:m<=n):zG H0 sd S f H2 S2 n:=⟨I.fr,I.bk,I.bl,I.cl,aY I.ml (by lia)⟩
theorem zG.from {H0 H1:Hp}{sd:Addr}{S:Bk}{f:fB}{H2:Hp}{S2:Bk}{m:Nat}(I:zG H0 sd S f H2 S2 m)(s:aD H2 H1):zG H1 sd S f H1 S2 m:=⟨Frame.refl,I.bk.same s,I.bl,I.cl,I.ml⟩
theorem zG.back {H0 H1:Hp}{sd:Addr}{S:Bk}{f:fB}{H2 H3:Hp}{S2 S3:Bk}{m n:Nat}(I:zG H0 sd S f H2 S2 m)(s:aD H2 H1)(J:zG H1 sd S f H3 S3 n):zG H0 sd S f H3 S3 n:=⟨(I.fr.dh s).tr J.fr,J.bk,J.bl,J.cl,J.ml⟩
theorem _root_.L2.dm.ub {H:Hp}{sd D:Addr}{S:Bk}{f:fB}(h:dm H sd S f)(n:H D=none):D∉f.fp:=fun z=>by
 obtain⟨ms,m1,_⟩:=h.hm
 have rows: ∀(rs:List Rw) (ps:List Addr),eU H rs ps->D∈ps->False:=fun rs ps hr hp=>by
  obtain⟨i,hi⟩:=yt hp
  have iO:i < rs.length:=by
   rw[hr.length]
   exact(au.mp hi).1
  obtain⟨q,e1,e2⟩:=hr.at iO
  rw[e1] at hi
  cases hi
  rw[n] at e2
  cases e2
 unfold fB.fp at z
 rcases aw.mp z with rfl|z
 ·have:=h.hb; rw[n] at this; cases this
 rcases aw.mp z with rfl|z
 ·have:=h.hc; rw[n] at this; cases this
 rcases aw.mp z with rfl|z
 ·rw[n] at m1; cases m1
 rcases bA.mp z with z|z
 ·exact rows _ _ h.rb z
 ·exact rows _ _ h.rc z
theorem jK (rows:List Rw)(aI:Str)(key:Rw->Int):(inTurn rows aI key).length<=rows.length:=by
 have e:inTurn rows aI key=(d9 (BO rows aI key rows.length)).map (·.2):=rfl
 rw[e,ae,(cY _).length_eq]
 exact zE
theorem jy {α β:Type}(g:β->α->β)(l:List α)(s:β){i:Nat}{x:α}(h:l[i]? =some x):(l.take (i + 1)).foldl g s=g ((l.take i).foldl g s) x:=by
 rw[E9,h,rA]
 rfl
theorem _root_.L2.Frame.free {fp:List Addr}{H H':Hp}{p:Addr}(a:Frame fp H H')(h:p∉fp)(n:H' p=none):H p=none:=by
 cases e:H p with
 |none=>rfl
 |some o=>have:=a p o h e; rw[n] at this; cases this
inductive zH (vs:List V)(H:Hp)(Q:VK)(E':XK):Prop
 |mk (sd:Addr)(S:Bk)(f:fB)(aI:Str)(h1:vs=[.ref sd,.str aI])(h2:dm H sd S f)(h3:S.credits.length < 64)(h4:S.aG.length < 64)(h5:S.made.length + 10000 < sizeLine)(h6: ∀D ms H',Frame f.fp H H'->dm H' sd (S.jI aI) f->H D=none->H' D=some (.lst ms)->g8 H' ((S.jI aI).made.drop S.made.length) ms->Q (.ref D) H'):zH vs H Q E'
theorem oC:aS ["_law_state","_law_who","_law_many","_law_exact","_law_credit","_law_bill","_law_free","_law_left"] ["_law_state","_law_who"] (ax (top 57)):={}
theorem zI (T:Txt K mg):eF P w K mg base "_law_swept" 2 ["_law_state","_law_who"] zH:=by
 have m8:eF P w K mg base "_law_in_turn" 1 ["_law_rows","_law_who","_law_spot"] vq:=vt T
 have m9:eF P w K mg base "_law_goes" 1 ["_law_state","_law_credit","_law_bill"] zD:=sO T
 have pF:eF P w K mg base "_law_put" 1 ["_law_state","_law_credit","_law_bill","_law_amount"] BN:=vp T
 refine T.y2.fj (k:=1) oC (fun f cK A outer s H vs Q E hr h=>?_)
 ·obtain⟨sd,S,g,aI,rfl,hB,qz,LA,Hd,k⟩:=h
  have hu:=jE hr
  have nd:=oC.nd
  obtain⟨ms,m1,m2⟩:=hB.hm
  have VT:S.made.length=ms.length:=aL m2
  refine⟨_,(ai (sv 2 nd (mO T.dR (cB hu (pv 0) aR (fun _ _=>rfl))))
(ai (eQ bH rfl (dj (bQ (aa kP (aa kP av)))) (gn 3 nd)
(ao (eQ bH rfl (dj (fc m8 hr (aa (cB hu (pv 0) aR (fun _ _=>rfl)) (aa (pv 1) (aa ah av))))) (gn 4 nd)
(ao (eQ bH rfl (dj (fc m8 hr (aa (cB hu (pv 0) aR (fun _ _=>rfl)) (aa (pv 1) (aa ah av))))) (gn 5 nd)
(ai (sv 6 nd (xl (xl (cB hu (pv 0) aR (fun _ _=>rfl)) (pv 4)) ah))
(ai (sv 7 nd (xl (xl (cB hu (pv 0) aR (fun _ _=>rfl)) (pv 5)) ah))
(ao (bM (PW.pt (pw_and (aW iG (pv 6) ah (aZ _)) (pw_and1 (fT (fc m9 hr (aa (pv 0) (aa (pv 4) (aa (pv 5) av))))))))
(ao (bM (PW.pt (pw_or (aW cG (pv 6) (pv 7) (aZ _)) (pw_or1 (jB (fT (pv 3))))))
(ao (bJ (fc pF hr (aa (pv 0) (aa (pv 4) (aa (pv 5) (aa (cI (rF rfl) (by rfl) T.II boot_min (aa (pv 6) (aa (pv 7) av))) av)))))))
bb))
bb)))))))))
(ao (a6 (qh tW (cB hu (pv 0) aR (fun _ _=>rfl)) (qg (pv 2)) yA))))),?_⟩
  refine⟨_,rfl,sd,_,rfl,hB.gM,g.pm,_,rfl,.inl (bE.of m1),?_⟩
  refine⟨(by show 2<=sizeLine; decide),fun pl nl=>⟨pl,rfl,⟨_,bE.of ag⟩,?_⟩⟩
  have s1:aD H (upd H pl (.lst ([true,false].map V.bl))):=aD.new nl
  have nlf:=hB.ub nl
  have hV:upd H pl (.lst ([true,false].map V.bl)) pl=some (.lst ([true,false].map V.bl)):=ag
  have Mw:=hB.same s1
  refine jo (H':=upd H pl (.lst ([true,false].map V.bl))) rfl ?_
  generalize upd H pl (.lst ([true,false].map V.bl))=H1 at s1 hV Mw
  refine fX (K:=K) (a:=pl) (xs:=[true,false].map V.bl) (fun i σ H2=> ∃x3 x4 x5 x6 x7:Option V,σ=[some (.ref sd),some (.str aI),some (.int (ms.length:Int)),x3,x4,x5,x6,x7]/\zG H1 sd S g H2 (([true,false].take i).foldl (bN aI) S) (i * 4096))
   ⟨none,none,none,none,none,rfl,Frame.refl,Mw,rfl,rfl,Nat.le_add_right _ _⟩ (fun i σ H2 _ ⟨_,_,_,_,_,_,I⟩=>bE.of (I.fr _ _ nlf hV)) ?_ ?_
  ·rintro i x σ H2 hx ⟨x3,x4,x5,x6,x7,rfl,I⟩
   rw[aB] at hx
   obtain⟨ex,hex,rfl⟩:=bq.mp hx
   have hi:i < 2:=(au.mp hex).1
   rw[jy (bN aI) [true,false] S hex]
   generalize ([true,false].take i).foldl (bN aI) S=S1 at I ⊢
   have c1:=I.cl
   have b1:=I.bl
   refine⟨_,rfl,sd,_,rfl,I.bk.gC,_,rfl,g.pc,g.cps,S1.credits,aI,1,(·.a),rfl,I.bk.hc,I.bk.rc,by lia,(fun _=>rfl),fun D1 H3 t3 n3 Gz=>?_⟩
   have D1f:=I.bk.ub n3
   have I3:=I.from t3
   refine⟨D1,rfl,⟨_,bE.of Gz⟩,?_⟩
   have hcs:(inTurn S1.credits aI (·.a)).length<=63:=by have:=jK S1.credits aI (·.a); lia
   have Yg: ∀c∈inTurn S1.credits aI (·.a),c < S.credits.length:=fun c hc=>by have:=(eI.mp hc).1; lia
   have XB:bN aI S1 ex=(inTurn S1.credits aI (·.a)).foldl (cJ aI ex) S1:=rfl
   rw[XB]
   generalize inTurn S1.credits aI (·.a)=cs at Gz hcs Yg
   refine fX (K:=K) (a:=D1) (xs:=cs.map fun(k:Nat)=>V.int (k:Int)) (fun j σ H4=> ∃x4 x5 x6 x7:Option V,σ=[some (.ref sd),some (.str aI),some (.int (ms.length:Int)),some (.bl ex),x4,x5,x6,x7]/\zG H3 sd S g H4 ((cs.take j).foldl (cJ aI ex) S1) (i * 4096 + j * 64))
    ⟨_,_,_,_,rfl,I3.up (by lia)⟩ (fun j σ H4 _ ⟨_,_,_,_,_,J⟩=>bE.of (J.fr _ _ D1f Gz)) ?_ ?_
   ·rintro j x σ H4 hx ⟨x4,x5,x6,x7,rfl,J⟩
    rw[aB] at hx
    obtain⟨c,hc,rfl⟩:=bq.mp hx
    have aaG:=Yg c (gp hc)
    have hj:j < cs.length:=(au.mp hc).1
    rw[jy (cJ aI ex) cs S1 hc]
    generalize (cs.take j).foldl (cJ aI ex) S1=S2 at J ⊢
    have b2:=J.bl
    refine⟨_,rfl,sd,_,rfl,J.bk.gB,_,rfl,g.pb,g.ir,S2.aG,aI,2,(·.b),rfl,J.bk.hb,J.bk.rb,by lia,(fun _=>rfl),fun D2 H5 t5 n5 GA=>?_⟩
    have D2f:=J.bk.ub n5
    have J5:=J.from t5
    refine⟨D2,rfl,⟨_,bE.of GA⟩,?_⟩
    have hbs:(inTurn S2.aG aI (·.b)).length<=63:=by have:=jK S2.aG aI (·.b); lia
    have KS: ∀b∈inTurn S2.aG aI (·.b),b < S.aG.length:=fun b hb=>by have:=(eI.mp hb).1; lia
    have rg:cJ aI ex S2 c=(inTurn S2.aG aI (·.b)).foldl (cq ex c) S2:=rfl
    rw[rg]
    generalize inTurn S2.aG aI (·.b)=bs at GA hbs KS
    refine fX (K:=K) (a:=D2) (xs:=bs.map fun(k:Nat)=>V.int (k:Int)) (fun l σ H6=> ∃x5 x6 x7:Option V,σ=[some (.ref sd),some (.str aI),some (.int (ms.length:Int)),some (.bl ex),some (.int (c:Int)),x5,x6,x7]/\zG H5 sd S g H6 ((bs.take l).foldl (cq ex c) S2) (i * 4096 + j * 64 + l))
     ⟨_,_,_,rfl,J5.up (by lia)⟩ (fun l σ H6 _ ⟨_,_,_,_,L⟩=>bE.of (L.fr _ _ D2f GA)) ?_ ?_
    ·rintro l x σ H6 hx ⟨x5,x6,x7,rfl,L⟩
     rw[aB] at hx
     obtain⟨b,hb,rfl⟩:=bq.mp hx
     have aaJ:=KS b (gp hb)
     have hl:l < bs.length:=(au.mp hb).1
     rw[jy (cq ex c) bs S2 hb]
     generalize (bs.take l).foldl (cq ex c) S2=S3 at L ⊢
     have b3:=L.bl
     have c3:=L.cl
     have m3:=L.ml
     obtain⟨p,_,ap,hp⟩:=L.bk.lc (b:=c) (by lia)
     obtain⟨q,_,aq,hq⟩:=L.bk.lb (b:=b) (by lia)
     have no: ¬ (0 < (S3.cr c).d/\S3.ez c b=true/\((S3.cr c).d=(S3.bl b).d∨ex=false))-> ∀H7,aD H6 H7-> ∃x5 x6 x7:Option V,[some (V.ref sd),some (.str aI),some (.int (ms.length:Int)),some (.bl ex),some (.int (c:Int)),some (.int (b:Int)),some (.int (S3.cr c).d),some (.int (S3.bl b).d)]=[some (.ref sd),some (.str aI),some (.int (ms.length:Int)),some (.bl ex),some (.int (c:Int)),x5,x6,x7]/\zG H5 sd S g H7 (cq ex c S3 b) (i * 4096 + j * 64 + (l + 1)):=fun n H7 t7=>by
      refine⟨_,_,_,rfl,?_⟩
      unfold cq
      rw[aQ n]
      exact(L.back t7 (L.from t7)).up (by lia)
     refine⟨_,rfl,sd,_,rfl,L.bk.gC,_,rfl,g.pc,_,_,.ref p,rfl,rfl,bE.of L.bk.hc,ap,p,_,_,.int (S3.cr c).d,rfl,rfl,bE.of hp,rfl,?_⟩
     refine⟨_,rfl,sd,_,rfl,L.bk.gB,_,rfl,g.pb,_,_,.ref q,rfl,rfl,bE.of L.bk.hb,aq,q,_,_,.int (S3.bl b).d,rfl,rfl,bE.of hq,rfl,?_⟩
     refine⟨_,rfl,_,_,rfl,rfl,_,rfl,cy (fun d1=>?_) (fun d1=>bR (no (fun z=>d1 (aE z.1)) _ (aD.refl _)))⟩
     have RG:0 < (S3.cr c).d:=aN d1
     refine⟨_,rfl,_,rfl,_,rfl,sd,S3,g,c,b,rfl,L.bk,by lia,by lia,fun H7 t7=>⟨_,rfl,cy (fun d2=>?_) (fun d2=>no (fun z=>d2 z.2.1) _ t7)⟩⟩
     have L7:=L.bk.same t7
     have RI:((S3.cr c).d=(S3.bl b).d∨ex=false)-> ∀H',Frame g.fp H7 H'->dm H' sd (S3.put c b (iD (S3.cr c).d (S3.bl b).d)) g-> ∃x5 x6 x7:Option V,[some (V.ref sd),some (.str aI),some (.int (ms.length:Int)),some (.bl ex),some (.int (c:Int)),some (.int (b:Int)),some (.int (S3.cr c).d),some (.int (S3.bl b).d)]=[some (.ref sd),some (.str aI),some (.int (ms.length:Int)),some (.bl ex),some (.int (c:Int)),x5,x6,x7]/\zG H5 sd S g H' (cq ex c S3 b) (i * 4096 + j * 64 + (l + 1)):=fun z H' Pl VU=>by
      refine⟨_,_,_,rfl,?_⟩
      unfold cq
      rw[a7 ⟨RG,d2,z⟩]
      exact(L.put (t7.frame.tr Pl) VU).up (by lia)
     have EK:((S3.cr c).d=(S3.bl b).d∨ex=false)->BN [.ref sd,.int (c:Int),.int (b:Int),.int (if(S3.bl b).d < (S3.cr c).d then(S3.bl b).d else(S3.cr c).d)] H7 (fun _ H'=> ∃x5 x6 x7:Option V,[some (V.ref sd),some (.str aI),some (.int (ms.length:Int)),some (.bl ex),some (.int (c:Int)),some (.int (b:Int)),some (.int (S3.cr c).d),some (.int (S3.bl b).d)]=[some (.ref sd),some (.str aI),some (.int (ms.length:Int)),some (.bl ex),some (.int (c:Int)),x5,x6,x7]/\zG H5 sd S g H' (cq ex c S3 b) (i * 4096 + j * 64 + (l + 1))) (fun _ _ _=>False):=fun z=>
      ⟨sd,S3,g,c,b,_,rfl,L7,by lia,by lia,by lia,fun H' Pl VU=>RI z H' Pl VU⟩
     refine⟨_,rfl,_,rfl,rfl,_,rfl,cy (fun d3=>fv ?_) (fun d3=>?_)⟩
     ·have d3':(S3.cr c).d=(S3.bl b).d:=by have:=aN d3; injection this
      exact⟨_,rfl,_,rfl,_,rfl,_,rfl,_,rfl,_,_,rfl,EK (.inl d3')⟩
     ·refine⟨_,rfl,_,rfl,cy (fun d4=>?_) (fun d4=>no (fun z=>?_) _ t7)⟩
      ·have d4':ex=false:=by simpa using d4
       exact⟨_,rfl,_,rfl,_,rfl,_,rfl,_,rfl,_,_,rfl,EK (.inr d4')⟩
      ·rcases z.2.2 with z|z
       ·exact d3 (aE (by rw[z]))
       ·exact d4 (by rw[z]; rfl)
    ·rintro σ H6 ⟨x5,x6,x7,rfl,L⟩
     rw[ae,a8] at L
     exact⟨_,_,_,_,rfl,(J.back t5 L).up (by lia)⟩
   ·rintro σ H4 ⟨x4,x5,x6,x7,rfl,J⟩
    rw[ae,a8] at J
    exact⟨_,_,_,_,_,rfl,(I.back t3 J).up (by lia)⟩
  ·rintro σ H2 ⟨x3,x4,x5,x6,x7,rfl,I⟩
   have UX:([true,false].take ([true,false].map V.bl).length).foldl (bN aI) S=S.jI aI:=rfl
   rw[UX] at I
   obtain⟨Mx,k1,k2⟩:=I.bk.hm
   refine⟨_,rfl,sd,_,rfl,I.bk.gM,_,rfl,_,rfl,g.pm,Mx,rfl,bE.of k1,fun p np=>?_⟩
   have tp:=aD.new (o:= .lst (qj Mx (some (ms.length:Int)) none)) np
   have hle:ms.length<=Mx.length:=by
    have e0:=aL k2
    obtain⟨_,l,e1,_⟩:=mK S aI
    rw[e1,aH] at e0
    lia
   refine k p (Mx.drop ms.length) _ ((s1.frame.tr I.fr).dh tp) (I.bk.same tp) ?_ ?_ ?_
   ·exact s1.free (Frame.free I.fr (I.bk.ub np) np)
   ·rw[ag,Gy _ _ hle]
   ·rw[VT]
    exact sQ _ (k2.mono tp.tk)
inductive uc (A:dQ)(vs:List V)(H:Hp)(Q:VK)(E':XK):Prop
 |mk (x dx:Addr)(h1:vs=[.ref x])(h2:H x=some (.ins A.work dx []))(h3: ∀f H',Frame [x] H H'->dB A H' x Bk.new f->(∀b∈f.fp,H b=none)->Q .d8 H'):uc A vs H Q E'
theorem Je (f:eB):ej "made" (.ref f.pm) (ej "frees" (.ref f.pf) (ej "lefts" (.ref f.pl) (ej "all_credits" (.ref f.pc) (ej "bills" (.ref f.pb) []))))=k9 f:=by rfl
theorem BP {H Hk:Hp}{x dx p C:Addr}{fs:List (Str×V)}{f:Str}(F:Frame [x] H Hk)(hx:Hk x=some (.ins C dx fs))(n:Hk p=none):p≠x/\H p=none/\Frame [x] H (upd (upd Hk p (.lst [])) x (.ins C dx (ej f (.ref p) fs)))/\
  upd (upd Hk p (.lst [])) x (.ins C dx (ej f (.ref p) fs)) x=some (.ins C dx (ej f (.ref p) fs))/\upd (upd Hk p (.lst [])) x (.ins C dx (ej f (.ref p) fs)) p=some (.lst [])/\
  (∀q o,q≠x->Hk q=some o->upd (upd Hk p (.lst [])) x (.ins C dx (ej f (.ref p) fs)) q=some o/\q≠p):=by
 have ne:p≠x:=(aJ hx n).symm
 refine⟨ne,F.free (by simpa using ne) n,(F.tr (aD.new n).frame).tr (Frame.upd (by simp)),ag,by rw[aA ne,ag],fun q o hq e=>⟨?_,aJ e n⟩⟩
 rw[aA hq]
 exact aD.new n _ _ e
theorem LB:aS ["self"] ["self"] (ax (mem 25 0)):={}
theorem Jf {A:dQ}(G:jn K mg A):tI P w K mg base "Work" A.work 1 ["self"] (uc A):=by
 refine Ls (k:=0) G.Lo G.Ln LB (fun f cK A' outer s H vs Q E hr h=>?_)
 ·obtain⟨x,dx,rfl,hx,k⟩:=h
  refine⟨_,(ai (fH (pv 0) (bQ av) rfl)
(ai (fH (pv 0) (bQ av) rfl)
(ai (fH (pv 0) (bQ av) rfl)
(ai (fH (pv 0) (bQ av) rfl)
(ao (fH (pv 0) (bQ av) rfl)))))),?_⟩
  have F0:Frame [x] H H:=Frame.refl
  refine⟨bp _,fun p1 n1=>⟨_,rfl,x,_,dx,_,rfl,aD.new n1 _ _ hx,G.bD,G.dO,lt1000 BG (by decide),?_⟩⟩
  obtain⟨ne1,f1,F1,x1,g1,t1⟩:=BP (f:="bills") F0 hx n1
  generalize hH1:upd (upd H p1 (.lst [])) x (.ins A.work dx (ej "bills" (.ref p1) _))=H1 at F1 x1 g1
  clear hH1 t1
  refine⟨bp _,fun p2 n2=>⟨_,rfl,x,_,dx,_,rfl,aD.new n2 _ _ x1,G.bD,G.cD,lt1000 (pl BG) (by decide),?_⟩⟩
  obtain⟨ne2,f2,F2,x2,g2,t2⟩:=BP (f:="all_credits") F1 x1 n2
  obtain⟨g1,RJ⟩:=t2 p1 _ ne1 g1
  generalize Ta:upd (upd H1 p2 (.lst [])) x (.ins A.work dx (ej "all_credits" (.ref p2) _))=H2 at F2 x2 g1 g2
  clear Ta t2
  refine⟨bp _,fun p3 n3=>⟨_,rfl,x,_,dx,_,rfl,aD.new n3 _ _ x2,G.bD,G.fm,lt1000 (pl (pl BG)) (by decide),?_⟩⟩
  obtain⟨ne3,f3,F3,x3,g3,t3⟩:=BP (f:="lefts") F2 x2 n3
  obtain⟨g1,RK⟩:=t3 p1 _ ne1 g1
  obtain⟨g2,RL⟩:=t3 p2 _ ne2 g2
  generalize Lz:upd (upd H2 p3 (.lst [])) x (.ins A.work dx (ej "lefts" (.ref p3) _))=H3 at F3 x3 g1 g2 g3
  clear Lz t3
  refine⟨bp _,fun p4 n4=>⟨_,rfl,x,_,dx,_,rfl,aD.new n4 _ _ x3,G.bD,G.fq,lt1000 (pl (pl (pl BG))) (by decide),?_⟩⟩
  obtain⟨ne4,f4,F4,x4,g4,t4⟩:=BP (f:="frees") F3 x3 n4
  obtain⟨g1,RM⟩:=t4 p1 _ ne1 g1
  obtain⟨g2,RN⟩:=t4 p2 _ ne2 g2
  obtain⟨g3,RO⟩:=t4 p3 _ ne3 g3
  generalize hH4:upd (upd H3 p4 (.lst [])) x (.ins A.work dx (ej "frees" (.ref p4) _))=H4 at F4 x4 g1 g2 g3 g4
  clear hH4 t4
  refine⟨bp _,fun p5 n5=>⟨_,rfl,x,_,dx,_,rfl,aD.new n5 _ _ x4,G.bD,G.lV,lt1000 (pl (pl (pl (pl BG)))) (by decide),?_⟩⟩
  obtain⟨ne5,f5,F5,x5,g5,t5⟩:=BP (f:="made") F4 x4 n5
  obtain⟨g1,RP⟩:=t5 p1 _ ne1 g1
  obtain⟨g2,RQ⟩:=t5 p2 _ ne2 g2
  obtain⟨g3,RS⟩:=t5 p3 _ ne3 g3
  obtain⟨g4,RT⟩:=t5 p4 _ ne4 g4
  refine k ⟨p1,p2,p3,p4,p5,[],[]⟩ _ F5 ⟨⟨dx,?_⟩,g1,g2,g3,g4,⟨[],g5,.nil⟩,⟨rfl,fun i p e=>by simp at e⟩,⟨rfl,fun i p e=>by simp at e⟩,?_⟩ ?_
  ·rw[x5]
   exact cL (fun z=>some (HO.ins A.work dx z)) (Je ⟨p1,p2,p3,p4,p5,[],[]⟩)
  ·simp[eB.fp,RJ,RK,RM,RP,RL,RN,RQ,RO,RS,RT]
  ·intro b hb
   simp only[eB.fp,List.mem_cons,List.not_mem_nil,or_false] at hb
   rcases hb with rfl|rfl|rfl|rfl|rfl
   ·exact f1
   ·exact f2
   ·exact f3
   ·exact f4
   ·exact f5
def iy (A:dQ)(H:Hp)(S:Bk)(bs:List Nat)(qs:List Addr):Prop:=Paired (fun(b:Nat) q=>ee H q A.dJ (fk b (S.bl b))) bs qs
def gz (A:dQ)(H:Hp)(S:Bk)(cs:List Nat)(qs:List Addr):Prop:=Paired (fun(c:Nat) q=>ee H q A.dS (eV c (S.cr c))) cs qs
theorem iy.same {A:dQ}{H H':Hp}{S:Bk}{bs:List Nat}{qs:List Addr}(h:iy A H S bs qs)(s:aD H H'):iy A H' S bs qs:=Paired.gR h fun _ _ z=>z.same s
theorem gz.same {A:dQ}{H H':Hp}{S:Bk}{bs:List Nat}{qs:List Addr}(h:gz A H S bs qs)(s:aD H H'):gz A H' S bs qs:=Paired.gR h fun _ _ z=>z.same s
inductive Jg (A:dQ)(vs:List V)(H:Hp)(Q:VK)(E':XK):Prop
 |mk (p pt:Addr)(S:Bk)(c:Nat)(bs:List Nat)(qs:List Addr)(h1:vs=[.ref p,.ref pt])(h2:ee H p A.dS (eV c (S.cr c)))(h3:H pt=some (.lst (qs.map V.ref)))(h4:iy A H S bs qs)(h5:bs.length<=100)(h6: ∀D H',aD H H'->H D=none->H' D=some (.lst ((bs.map fun b=>oA (S.cr c) (S.bl b) b).map V.bl))->Q (.ref D) H'):Jg A vs H Q E'
theorem vv:aS ["credit","bills"] ["credit","bills"] (ax (top 27)):={}
theorem wU (T:Txt K mg){A:dQ}(G:jn K mg A):eF P w K mg base "row_of_fits" 2 ["credit","bills"] (Jg A):=by
 have Dp:eF P w K mg base "fits" 1 ["credit","bill"] (zr A):=IV T G
 refine T.wA.fj (k:=1) vv (fun f cK A' outer s H vs Q E hr h=>?_)
 ·obtain⟨p,pt,S,c,bs,qs,rfl,hp,yd,hB,hl,k⟩:=h
  have hlen:=aL hB
  refine⟨_,(ao (a6 (gJ (tn:=["bill"]) (cn:=["credit"]) (cj:=[0]) rfl (ig (yI:=[(".0",.local),("bill",.local),("fits",.globalImplicit),("credit",.cell)])) (dj (pv 1)) (fun _ _ _ _=>(eu (i:=0) (show(["bill","credit"]:List Str).Nodup by decide +kernel) rfl (Or.inl rfl))) (fun _ _ _ _=>mF) (fun _ _ _ _=>(fc Dp hr (aa (pv 1) (aa (pv 0) av))))))),?_⟩
  refine⟨_,rfl,pt,rfl,⟨_,bE.of yd⟩,?_⟩
  refine eA (K:=K) (a:=pt) (xs:=qs.map V.ref) (fun D i σ H6=>H D=none/\ ∃v,σ=[v,some (.ref p)]/\aD H H6/\H6 D=some (.lst (((bs.take i).map fun b=>oA (S.cr c) (S.bl b) b).map V.bl))) (fun D hD=>⟨hD,none,rfl,aD.new hD,ag⟩) (fun D i σ H6 _ ⟨_,_,_,t3,_⟩=>bE.of (t3 _ _ yd)) ?_ ?_
  ·rintro D i x σ H6 hx ⟨hD,v,rfl,t3,gj⟩
   rw[aB] at hx
   obtain⟨q,hq,rfl⟩:=bq.mp hx
   have hi:i < bs.length:=by have:=(au.mp hq).1; lia
   obtain⟨q',su,lu⟩:=bG hB (af hi)
   rw[hq] at su
   obtain rfl:q=q':=aF su
   have nK:=ow hi
   generalize bs[i]=b at lu nK
   refine⟨_,rfl,_,rfl,p,q,c,b,_,_,rfl,hp.same t3,lu.same t3,_,gj,bg (by rw[ae,ae,bh]; lia),hD,_,rfl,t3.cX hD,?_⟩
   rw[ag,nK,aM,aM]
   rfl
  ·rintro D σ H6 hD ⟨_,v,rfl,t3,gj⟩
   refine k D H6 t3 hD ?_
   rw[gj,ae,← hlen,a8]
def bu.vs:bu->List V
 | .dJ w d u a=>[.str "bill",.str w,.int d,.int u,.int a]
 | .qv w d a=>[.str "pay",.str w,.int d,.int a]
 | .note b d a=>[.str "note",.int b,.int d,.int a]
 | .set c b a=>[.str "set",.int c,.int b,.int a]
 | .fu w=>[.str "sweep",.str w]
 | .iQ n=>[.str "undo",.int n]
 | .ask o w d=>[.str (if o then "owed" else "free"),.str w,.int d]
 | .iC _ _ _=>[]
theorem je {x y:Str}(h:x≠y):V.bl (decide (V.str x=V.str y))=V.bl false:=cL V.bl (bf fun z=>h (by injection z))
theorem ye (x:Str):V.bl (decide (V.str x=V.str x))=V.bl true:=cL V.bl (aE rfl)
theorem RU {x y:Str}(h:x≠y):V.bl (!decide (V.str x=V.str y))=V.bl true:=by rw[show decide (V.str x=V.str y)=false from bf fun z=>h (by injection z)]; rfl
theorem Yh (x:Str):V.bl (!decide (V.str x=V.str x))=V.bl false:=by rw[show decide (V.str x=V.str x)=true from aE rfl]; rfl
theorem vw {x:Int}{n:Nat}{ta tc:TE}{σ:L2.St}{H:Hp}{Q:Bool->Hp->Prop}(ha: ∀R:VK,R (.int x) H->ta σ H R)(hc: ∀R:VK,R (.int (n:Int)) H->tc σ H R)(q:Q (decide (pT x n)) H):
  Hy (HA (JV fun i j=> .bl (decide (i<=j))) (JV fun i j=> .bl (decide (i < j))) (tC (.int 0)) ta tc) σ H Q:=by
 refine ha _ ⟨_,_,rfl,rfl,_,rfl,cy (fun d=>hc _ ⟨_,_,rfl,rfl,_,rfl,?_⟩) (fun d=>⟨_,rfl,?_⟩)⟩
 ·have d':(0:Int)<=x:=aN d
  have e:decide (pT x n)=decide (x < (n:Int)):=mf.mpr ⟨fun z=>z.2,fun z=>⟨d',z⟩⟩
  rw[e] at q
  exact q
 ·have d': ¬ (0:Int)<=x:=fun z=>d (aE z)
  have e:decide (pT x n)=false:=bf fun z=>d' z.1
  rw[e] at q
  exact q
inductive vx (vs:List V)(H:Hp)(Q:VK)(E':XK):Prop
 |mk (sd pd:Addr)(S:Bk)(f:fB)(d:bu)(h1:vs=[.ref sd,.ref pd])(h2:dm H sd S f)(h3:H pd=some (.tup (bu.vs d)))(h4:d.tells=true)(h5: ∀H',aD H H'->Q (.str (S.bar d)) H'):vx vs H Q E'
theorem ng:aS ["_law_state","_law_deed","_law_word","_law_spot"] ["_law_state","_law_deed"] (ax (top 58)):={}
theorem wV (T:Txt K mg):eF P w K mg base "_law_barred" 2 ["_law_state","_law_deed"] vx:=by
 have m9:eF P w K mg base "_law_goes" 1 ["_law_state","_law_credit","_law_bill"] zD:=sO T
 refine T.wH.fj (k:=1) ng (fun f cK A outer s H vs Q E hr h=>?_)
 ·obtain⟨sd,pd,S,g,d,rfl,hB,hd,ht,k⟩:=h
  have hu:=jE hr
  have nd:=ng.nd
  refine⟨_,(ai (sv 2 nd (xt (pv 1) ah))
(ai (sv 3 nd (fQ js (by rfl) T.vg boot_int (aa (fb cG (pv 2) aR (aZ _)) av)))
(ai (bM (PW.pt (pw_and (aW cG (pv 3) ah (aZ _)) (pw_and1 (jB (AQ sm jD ah (xt (pv 1) ah) (mO T.dR (cB hu (pv 0) aR (fun _ _=>rfl))))))))
(ao (a6 aR))
bb)
(ai (bM (PW.pt (pw_and (aW nL (pv 2) (bQ (aa aR (aa aR av))) (by rfl)) (pw_and1 (jB (AQ sm jD ah (xt (pv 1) (aU cW ah (pv 3))) (mO T.dR (cB hu (pv 0) aR (fun _ _=>rfl))))))))
(ao (a6 aR))
bb)
(ai (bM (PW.pt (pw_and (aW cG (pv 2) aR (aZ _)) (pw_and1 (jB (fT (fc m9 hr (aa (pv 0) (aa (xt (pv 1) ah) (aa (xt (pv 1) ah) av)))))))))
(ao (a6 aR))
bb)
(ai (bM (PW.pt (pw_and (aW qa (pv 2) aR (aZ _)) (pw_and1 (aW jD (xt (pv 1) (oy kC ah)) ah (aZ _)))))
(ao (a6 aR))
bb)
(ai (bM (PW.pt (pw_and (aW cG (pv 2) aR (aZ _)) (pw_and1 (aW jD (xt (pv 1) ah) (xt (pv 1) ah) (aZ _)))))
(ao (a6 aR))
bb)
(ai (bM (aW cG (pv 2) aR (aZ _))
(ao (bM (aW iG (xt (pv 1) ah) (cI (rF rfl) (by rfl) T.II boot_min (aa (xl (xl (cB hu (pv 0) aR (fun _ _=>rfl)) (xt (pv 1) ah)) ah) (aa (xl (xl (cB hu (pv 0) aR (fun _ _=>rfl)) (xt (pv 1) ah)) ah) av))) (aZ _))
(ao (a6 aR))
bb))
bb)
(ao (a6 aR)))))))))),?_⟩
  have kk: ∀(t:Str) (H':Hp),S.bar d=t->aD H H'->Q (.str t) H':=fun t H' e z=>e▸k H' z
  clear k
  cases d with
  |iQ n=>cases ht
  |ask o w d=>cases ht
  |iC w d l=>cases ht
  |dJ wh dy du am=>
   refine⟨_,rfl,pd,_,_,.str "bill",rfl,rfl,cm.of hd,rfl,_,rfl,rfl,.inr ⟨false,(by rw[je (show("bill":Str)≠"set" by decide +kernel)]),?_⟩⟩
   refine⟨_,rfl,rfl,false,cL V.bl (by decide +kernel),bR (bR ?_)⟩
   refine⟨_,rfl,(by show 2<=sizeLine; decide),fun p9 n9=>⟨p9,_,rfl,.inl (bE.of ag),rfl,rfl,false,cL V.bl (by decide +kernel),bR (bR ?_)⟩⟩
   have s9:=aD.new (o:= .lst [V.str "set",.str "note"]) n9
   have BQ:=s9 _ _ hd
   refine jo (H':=upd H p9 (.lst [V.str "set",.str "note"])) rfl ?_
   generalize upd H p9 (.lst [V.str "set",.str "note"])=H9 at s9 BQ
   refine⟨_,rfl,rfl,false,je (show("bill":Str)≠"set" by decide +kernel),bR (bR ?_)⟩
   refine⟨_,rfl,rfl,true,RU (show("bill":Str)≠"sweep" by decide +kernel),fv ⟨_,rfl,_,rfl,pd,_,_,.int am,rfl,rfl,cm.of BQ,rfl,_,_,rfl,rfl,_,rfl,cy (fun z=>?_) (fun z=>?_)⟩⟩
   ·have z':am < 1:=aN z
    exact kk _ _ (a7 z') s9
   have z1: ¬ am < 1:=fun q=>z (aE q)
   refine⟨_,rfl,rfl,true,ye _,fv ⟨_,rfl,pd,_,_,.int du,rfl,rfl,cm.of BQ,rfl,_,rfl,pd,_,_,.int dy,rfl,rfl,cm.of BQ,rfl,_,_,rfl,rfl,_,rfl,cy (fun z=>?_) (fun z=>?_)⟩⟩
   ·have z':du < dy:=aN z
    exact kk _ _ ((aQ z1).trans (a7 z')) s9
   have z2: ¬ du < dy:=fun q=>z (aE q)
   refine⟨_,rfl,rfl,false,je (show("bill":Str)≠"set" by decide +kernel),bR ?_⟩
   exact kk _ _ ((aQ z1).trans (aQ z2)) s9
  |qv wh dy am=>
   refine⟨_,rfl,pd,_,_,.str "pay",rfl,rfl,cm.of hd,rfl,_,rfl,rfl,.inr ⟨false,(by rw[je (show("pay":Str)≠"set" by decide +kernel)]),?_⟩⟩
   refine⟨_,rfl,rfl,false,cL V.bl (by decide +kernel),bR (bR ?_)⟩
   refine⟨_,rfl,(by show 2<=sizeLine; decide),fun p9 n9=>⟨p9,_,rfl,.inl (bE.of ag),rfl,rfl,false,cL V.bl (by decide +kernel),bR (bR ?_)⟩⟩
   have s9:=aD.new (o:= .lst [V.str "set",.str "note"]) n9
   have BQ:=s9 _ _ hd
   refine jo (H':=upd H p9 (.lst [V.str "set",.str "note"])) rfl ?_
   generalize upd H p9 (.lst [V.str "set",.str "note"])=H9 at s9 BQ
   refine⟨_,rfl,rfl,false,je (show("pay":Str)≠"set" by decide +kernel),bR (bR ?_)⟩
   refine⟨_,rfl,rfl,true,RU (show("pay":Str)≠"sweep" by decide +kernel),fv ⟨_,rfl,_,rfl,pd,_,_,.int am,rfl,rfl,cm.of BQ,rfl,_,_,rfl,rfl,_,rfl,cy (fun z=>?_) (fun z=>?_)⟩⟩
   ·have z':am < 1:=aN z
    exact kk _ _ (a7 z') s9
   have z1: ¬ am < 1:=fun q=>z (aE q)
   refine⟨_,rfl,rfl,false,je (show("pay":Str)≠"bill" by decide +kernel),bR (bR ?_)⟩
   refine⟨_,rfl,rfl,false,je (show("pay":Str)≠"set" by decide +kernel),bR ?_⟩
   exact kk _ _ (aQ z1) s9
  |fu wh=>
   refine⟨_,rfl,pd,_,_,.str "sweep",rfl,rfl,cm.of hd,rfl,_,rfl,rfl,.inr ⟨false,(by rw[je (show("sweep":Str)≠"set" by decide +kernel)]),?_⟩⟩
   refine⟨_,rfl,rfl,false,cL V.bl (by decide +kernel),bR (bR ?_)⟩
   refine⟨_,rfl,(by show 2<=sizeLine; decide),fun p9 n9=>⟨p9,_,rfl,.inl (bE.of ag),rfl,rfl,false,cL V.bl (by decide +kernel),bR (bR ?_)⟩⟩
   have s9:=aD.new (o:= .lst [V.str "set",.str "note"]) n9
   refine jo (H':=upd H p9 (.lst [V.str "set",.str "note"])) rfl ?_
   generalize upd H p9 (.lst [V.str "set",.str "note"])=H9 at s9
   refine⟨_,rfl,rfl,false,je (show("sweep":Str)≠"set" by decide +kernel),bR (bR ?_)⟩
   refine⟨_,rfl,rfl,false,Yh _,bR (bR ?_)⟩
   refine⟨_,rfl,rfl,false,je (show("sweep":Str)≠"bill" by decide +kernel),bR (bR ?_)⟩
   refine⟨_,rfl,rfl,false,je (show("sweep":Str)≠"set" by decide +kernel),bR ?_⟩
   exact kk _ _ rfl s9
  |note bi dy am=>
   refine⟨_,rfl,pd,_,_,.str "note",rfl,rfl,cm.of hd,rfl,_,rfl,rfl,.inr ⟨false,(by rw[je (show("note":Str)≠"set" by decide +kernel)]),?_⟩⟩
   refine⟨_,rfl,rfl,false,cL V.bl (by decide +kernel),bR (bR ?_)⟩
   refine⟨_,rfl,(by show 2<=sizeLine; decide),fun p9 n9=>⟨p9,_,rfl,.inl (bE.of ag),rfl,rfl,true,cL V.bl (by decide +kernel),fv ?_⟩⟩
   have s9:=aD.new (o:= .lst [V.str "set",.str "note"]) n9
   have BQ:=s9 _ _ hd
   have B9:=hB.same s9
   generalize upd H p9 (.lst [V.str "set",.str "note"])=H9 at s9 BQ B9
   have hlen:g.ir.length=S.aG.length:=B9.rb.length.symm
   refine vw (x:=bi) (n:=S.aG.length) (fun R q=>⟨_,rfl,_,rfl,_,_,rfl,rfl,pd,_,_,.int bi,rfl,rfl,cm.of BQ,rfl,q⟩) (fun R q=>⟨_,rfl,sd,_,rfl,B9.gB,g.pb,_,rfl,.inl (bE.of B9.hb),by rw[ae,hlen]; exact q⟩) (cy (fun z=>?_) (fun z=>?_))
   ·have z': ¬ pT bi S.aG.length:=by simpa using z
    exact kk _ _ (a7 z') s9
   have z0: ¬ ¬ pT bi S.aG.length:=by simpa using z
   refine⟨_,rfl,rfl,false,je (show("note":Str)≠"set" by decide +kernel),bR (bR ?_)⟩
   refine⟨_,rfl,rfl,true,RU (show("note":Str)≠"sweep" by decide +kernel),fv ⟨_,rfl,_,rfl,pd,_,_,.int am,rfl,rfl,cm.of BQ,rfl,_,_,rfl,rfl,_,rfl,cy (fun z=>?_) (fun z=>?_)⟩⟩
   ·have z':am < 1:=aN z
    exact kk _ _ ((aQ z0).trans (a7 z')) s9
   have z1: ¬ am < 1:=fun q=>z (aE q)
   refine⟨_,rfl,rfl,false,je (show("note":Str)≠"bill" by decide +kernel),bR (bR ?_)⟩
   refine⟨_,rfl,rfl,false,je (show("note":Str)≠"set" by decide +kernel),bR ?_⟩
   exact kk _ _ ((aQ z0).trans (aQ z1)) s9
  |set ci bi am=>
   have Yi:g.cps.length=S.credits.length:=hB.rc.length.symm
   refine⟨_,rfl,pd,_,_,.str "set",rfl,rfl,cm.of hd,rfl,_,rfl,rfl,.inr ⟨true,(by rw[ye]),?_⟩⟩
   refine⟨_,rfl,rfl,true,cL V.bl (by decide +kernel),fv ?_⟩
   refine vw (x:=ci) (n:=S.credits.length) (fun R q=>⟨_,rfl,pd,_,_,.int ci,rfl,rfl,cm.of hd,rfl,q⟩) (fun R q=>⟨_,rfl,sd,_,rfl,hB.gC,g.pc,_,rfl,.inl (bE.of hB.hc),by rw[ae,Yi]; exact q⟩) (cy (fun z=>?_) (fun z=>?_))
   ·have z': ¬ pT ci S.credits.length:=by simpa using z
    exact kk _ _ (a7 z') (aD.refl _)
   have zc: ¬ ¬ pT ci S.credits.length:=by simpa using z
   refine⟨_,rfl,(by show 2<=sizeLine; decide),fun p9 n9=>⟨p9,_,rfl,.inl (bE.of ag),rfl,rfl,true,cL V.bl (by decide +kernel),fv ?_⟩⟩
   have s9:=aD.new (o:= .lst [V.str "set",.str "note"]) n9
   have BQ:=s9 _ _ hd
   have B9:=hB.same s9
   generalize upd H p9 (.lst [V.str "set",.str "note"])=H9 at s9 BQ B9
   have hlen:g.ir.length=S.aG.length:=B9.rb.length.symm
   refine vw (x:=bi) (n:=S.aG.length) (fun R q=>⟨_,rfl,_,rfl,_,_,rfl,rfl,pd,_,_,.int bi,rfl,rfl,cm.of BQ,rfl,q⟩) (fun R q=>⟨_,rfl,sd,_,rfl,B9.gB,g.pb,_,rfl,.inl (bE.of B9.hb),by rw[ae,hlen]; exact q⟩) (cy (fun z=>?_) (fun z=>?_))
   ·have z': ¬ pT bi S.aG.length:=by simpa using z
    exact kk _ _ ((aQ zc).trans (a7 z')) s9
   have zb: ¬ ¬ pT bi S.aG.length:=by simpa using z
   have ic:=Fb.mp zc
   have ib:=Fb.mp zb
   obtain⟨c,rfl⟩:=cv ic.1
   obtain⟨b,rfl⟩:=cv ib.1
   have hc:c < S.credits.length:=by have:=ic.2; lia
   have hb:b < S.aG.length:=by have:=ib.2; lia
   refine⟨_,rfl,rfl,true,ye _,fv ⟨_,rfl,_,rfl,pd,_,_,.int (c:Int),rfl,rfl,cm.of BQ,rfl,_,rfl,pd,_,_,.int (b:Int),rfl,rfl,cm.of BQ,rfl,sd,S,g,c,b,rfl,B9,hc,hb,fun H10 Dr=>⟨_,rfl,cy (fun z=>?_) (fun z=>?_)⟩⟩⟩
   ·have z':S.ez c b=false:=by simpa using z
    exact kk _ _ ((if_neg zc).trans ((if_neg zb).trans (if_pos (by simpa using z')))) (s9.trans Dr)
   have zg: ¬ S.ez (c:Int).toNat (b:Int).toNat=false:=by simpa using z
   have LC:=Dr _ _ BQ
   have Py:=B9.same Dr
   have zJ:=s9.trans Dr
   refine⟨_,rfl,rfl,true,RU (show("set":Str)≠"sweep" by decide +kernel),fv ⟨_,rfl,_,rfl,pd,_,_,.int am,rfl,rfl,cm.of LC,rfl,_,_,rfl,rfl,_,rfl,cy (fun z=>?_) (fun z=>?_)⟩⟩
   ·have z':am < 1:=aN z
    exact kk _ _ ((aQ zc).trans ((aQ zb).trans ((aQ zg).trans (a7 z')))) zJ
   have z1: ¬ am < 1:=fun q=>z (aE q)
   refine⟨_,rfl,rfl,false,je (show("set":Str)≠"bill" by decide +kernel),bR (bR ?_)⟩
   obtain⟨p,_,ap,hp⟩:=Py.lc hc
   obtain⟨q,_,aq,hq⟩:=Py.lb hb
   refine⟨_,rfl,rfl,true,ye _,fv ?_⟩
   refine⟨_,rfl,pd,_,_,.int am,rfl,rfl,cm.of LC,rfl,_,rfl,sd,_,rfl,Py.gC,_,rfl,pd,_,_,.int (c:Int),rfl,rfl,cm.of LC,rfl,g.pc,_,_,.ref p,rfl,rfl,bE.of Py.hc,ap,p,_,_,.int (S.cr c).d,rfl,rfl,bE.of hp,rfl,?_⟩
   refine⟨_,rfl,sd,_,rfl,Py.gB,_,rfl,pd,_,_,.int (b:Int),rfl,rfl,cm.of LC,rfl,g.pb,_,_,.ref q,rfl,rfl,bE.of Py.hb,aq,q,_,_,.int (S.bl b).d,rfl,rfl,bE.of hq,rfl,_,_,rfl,_,_,rfl,rfl,_,rfl,cy (fun z=>?_) (fun z=>?_)⟩
   ·have z':iD (S.cr (c:Int).toNat).d (S.bl (b:Int).toNat).d < am:=aN z
    exact kk _ _ ((aQ zc).trans ((aQ zb).trans ((aQ zg).trans ((aQ z1).trans (a7 z'))))) zJ
   ·have z': ¬ iD (S.cr (c:Int).toNat).d (S.bl (b:Int).toNat).d < am:=fun q=>z (aE q)
    exact kk _ _ ((aQ zc).trans ((aQ zb).trans ((aQ zg).trans ((aQ z1).trans (aQ z'))))) zJ
def Og (H:Hp)(f f':fB):Prop:= ∀x∈f'.fp,x∈f.fp∨H x=none
def VW (Q:VK)(H:Hp)(sd:Addr)(S:Bk)(f:fB)(d:bu):Prop:=
 ∀v f' H',Frame f.fp H H'->dm H' sd (S.enter d) f'->Og H f f'->Rp H' (S.Hb d).dt v->Q v H'
inductive ud (vs:List V)(H:Hp)(Q:VK)(E':XK):Prop
 |mk (sd pd:Addr)(S:Bk)(f:fB)(d:bu)(h1:vs=[.ref sd,.ref pd])(h2:dm H sd S f)(h3:H pd=some (.tup (bu.vs d)))(h4:d.tells=true)(h5:S.credits.length < 64)(h6:S.aG.length < 64)(h7:S.made.length + 10000 < sizeLine)(h8:(S.bar d≠""-> ∀H',aD H H'->Q (.str (S.bar d)) H'))(h9:(S.bar d=""->VW Q H sd S f d)):ud vs H Q E'
theorem oE:aS ["_law_state","_law_deed","_law_text","_law_who"] ["_law_state","_law_deed"] (ax (top 59)):={}
theorem qQ (T:Txt K mg):eF P w K mg base "_law_enter" 3 ["_law_state","_law_deed"] ud:=by
 have wW:eF P w K mg base "_law_barred" 2 ["_law_state","_law_deed"] vx:=wV T
 have pF:eF P w K mg base "_law_put" 1 ["_law_state","_law_credit","_law_bill","_law_amount"] BN:=vp T
 have zK:eF P w K mg base "_law_swept" 2 ["_law_state","_law_who"] zH:=zI T
 refine T.y3.fj (k:=2) oE (fun f cK A outer s H vs Q E hr h=>?_)
 ·obtain⟨sd,pd,S,g,d,rfl,hB,hd,ht,qz,LA,Hd,kn,ky⟩:=h
  have hu:=jE hr
  have nd:=oE.nd
  refine⟨_,(ai (sv 2 nd (fc wW hr (aa (pv 0) (aa (pv 1) av))))
(ai (bM (aW qa (pv 2) aR (aZ _))
(ao (a6 (pv 2)))
bb)
(ai (bM (aW cG (xt (pv 1) ah) aR (aZ _))
(ai (bJ (qA (cB hu (pv 0) aR (fun _ _=>rfl)) (bQ (aa (xt (pv 1) ah) (aa (xt (pv 1) ah) (aa (xt (pv 1) ah) (aa (xt (pv 1) ah) (aa (xt (pv 1) ah) av))))))))
(ao (a6 (aU eR (mO T.dR (cB hu (pv 0) aR (fun _ _=>rfl))) ah))))
bb)
(ai (bM (aW cG (xt (pv 1) ah) aR (aZ _))
(ai (bJ (qA (cB hu (pv 0) aR (fun _ _=>rfl)) (bQ (aa (xt (pv 1) ah) (aa (xt (pv 1) ah) (aa (xt (pv 1) ah) (aa (oy kC ah) (aa (xt (pv 1) ah) av))))))))
(ao (a6 (aU eR (mO T.dR (cB hu (pv 0) aR (fun _ _=>rfl))) ah))))
bb)
(ai (bM (aW cG (xt (pv 1) ah) aR (aZ _))
(ai (sv 3 nd (xl (xl (cB hu (pv 0) aR (fun _ _=>rfl)) (xt (pv 1) ah)) ah))
(ai (bJ (qA (cB hu (pv 0) aR (fun _ _=>rfl)) (bQ (aa (pv 3) (aa (xt (pv 1) ah) (aa (xt (pv 1) ah) (aa (xt (pv 1) ah) (aa (xt (pv 1) ah) av))))))))
(ao (a6 (aU eR (mO T.dR (cB hu (pv 0) aR (fun _ _=>rfl))) ah)))))
bb)
(ai (bM (aW cG (xt (pv 1) ah) aR (aZ _))
(ai (bJ (fc pF hr (aa (pv 0) (aa (xt (pv 1) ah) (aa (xt (pv 1) ah) (aa (xt (pv 1) ah) av))))))
(ao (a6 (xt (pv 1) ah))))
bb)
(ao (a6 (fc zK hr (aa (pv 0) (aa (xt (pv 1) ah) av))))))))))),?_⟩
  refine⟨_,rfl,_,rfl,sd,pd,S,g,d,rfl,hB,hd,ht,fun H1 s1=>?_⟩
  by_cases om:S.bar d=""
  case neg=>exact⟨_,rfl,rfl,true,RU om,fv ⟨_,rfl,kn om H1 s1⟩⟩
  refine⟨_,rfl,rfl,false,(by rw[om]; exact Yh _),bR ?_⟩
  have B1:=hB.same s1
  have lM:=s1 _ _ hd
  have RV: ∀v f' H',Frame g.fp H1 H'->dm H' sd (S.enter d) f'->Og H1 g f'->Rp H' (S.Hb d).dt v->Q v H':=fun v f' H' fr b fi r=>ky om v f' H' (fr.lU s1) b (fun x hx=>(fi x hx).elim .inl fun z=> .inr (s1.free z)) r
  clear ky kn
  have lb:=B1.rb.length
  have lc:=B1.rc.length
  cases d with
  |iQ n=>cases ht
  |ask o w d=>cases ht
  |iC w d l=>cases ht
  |dJ wh dy du am=>
   refine⟨_,rfl,pd,_,_,.str "bill",rfl,rfl,cm.of lM,rfl,rfl,true,ye _,fv ?_⟩
   refine⟨_,rfl,sd,_,rfl,B1.gB,.inl ⟨rfl,_,bE.of B1.hb⟩,_,rfl,pd,_,_,.str wh,rfl,rfl,cm.of lM,rfl,_,rfl,pd,_,_,.int dy,rfl,rfl,cm.of lM,rfl,_,rfl,pd,_,_,.int du,rfl,rfl,cm.of lM,rfl,_,rfl,pd,_,_,.int am,rfl,rfl,cm.of lM,rfl,_,rfl,pd,_,_,.int am,rfl,rfl,cm.of lM,rfl,(by show 5<=sizeLine; decide),fun pr nr=>?_⟩
   have t1:=aD.new (o:= .lst (Rw.vs ⟨wh,dy,du,am,am⟩)) nr
   refine⟨g.pb,_,_,rfl,rfl,t1 _ _ B1.hb,bg (by rw[ae]; lia),?_⟩
   have B2:=B1.kb (r:=⟨wh,dy,du,am,am⟩) nr
   have F2:Frame g.fp H1 (upd (upd H1 pr (.lst (Rw.vs ⟨wh,dy,du,am,am⟩))) g.pb (.lst (g.ir.map V.ref ++ [.ref pr]))):=t1.frame.tr (Frame.upd (by simp[fB.fp]))
   refine jo (H':=upd (upd H1 pr (.lst (Rw.vs ⟨wh,dy,du,am,am⟩))) g.pb (.lst (g.ir.map V.ref ++ [.ref pr]))) rfl ?_
   generalize upd (upd H1 pr (.lst (Rw.vs ⟨wh,dy,du,am,am⟩))) g.pb (.lst (g.ir.map V.ref ++ [.ref pr]))=H2 at B2 F2
   refine⟨_,rfl,sd,_,rfl,B2.gB,_,_,rfl,.inl (bE.of B2.hb),_,_,rfl,rfl,?_⟩
   refine RV _ (g.kb pr) H2 F2 B2 (fun x hx=>?_) (dz.mpr ?_)
   ·rcases aw.mp ((g.IM pr).mem_iff.mp hx) with rfl|hx
    ·exact .inr nr
    ·exact .inl hx
   ·show V.int _ =V.int (S.aG.length:Int)
    congr 1
    rw[ae]
    show((g.ir ++ [pr]).length:Int) - 1=_
    rw[aH,lb]
    simp
  |qv wh dy am=>
   refine⟨_,rfl,pd,_,_,.str "pay",rfl,rfl,cm.of lM,rfl,rfl,false,je (show("pay":Str)≠"bill" by decide +kernel),bR ?_⟩
   refine⟨_,rfl,pd,_,_,.str "pay",rfl,rfl,cm.of lM,rfl,rfl,true,ye _,fv ?_⟩
   refine⟨_,rfl,sd,_,rfl,B1.gC,.inl ⟨rfl,_,bE.of B1.hc⟩,_,rfl,pd,_,_,.str wh,rfl,rfl,cm.of lM,rfl,_,rfl,pd,_,_,.int dy,rfl,rfl,cm.of lM,rfl,_,rfl,pd,_,_,.int am,rfl,rfl,cm.of lM,rfl,_,rfl,_,rfl,pd,_,_,.int am,rfl,rfl,cm.of lM,rfl,(by show 5<=sizeLine; decide),fun pr nr=>?_⟩
   have t1:=aD.new (o:= .lst (Rw.vs ⟨wh,dy,am,-1,am⟩)) nr
   refine⟨g.pc,_,_,rfl,rfl,t1 _ _ B1.hc,bg (by rw[ae]; lia),?_⟩
   have B2:=B1.hX (r:=⟨wh,dy,am,-1,am⟩) nr
   have F2:Frame g.fp H1 (upd (upd H1 pr (.lst (Rw.vs ⟨wh,dy,am,-1,am⟩))) g.pc (.lst (g.cps.map V.ref ++ [.ref pr]))):=t1.frame.tr (Frame.upd (by simp[fB.fp]))
   refine jo (H':=upd (upd H1 pr (.lst (Rw.vs ⟨wh,dy,am,-1,am⟩))) g.pc (.lst (g.cps.map V.ref ++ [.ref pr]))) rfl ?_
   generalize upd (upd H1 pr (.lst (Rw.vs ⟨wh,dy,am,-1,am⟩))) g.pc (.lst (g.cps.map V.ref ++ [.ref pr]))=H2 at B2 F2
   refine⟨_,rfl,sd,_,rfl,B2.gC,_,_,rfl,.inl (bE.of B2.hc),_,_,rfl,rfl,?_⟩
   refine RV _ (g.hX pr) H2 F2 B2 (fun x hx=>?_) (dz.mpr ?_)
   ·rcases aw.mp ((g.EC pr).mem_iff.mp hx) with rfl|hx
    ·exact .inr nr
    ·exact .inl hx
   ·show V.int _ =V.int (S.credits.length:Int)
    congr 1
    rw[ae]
    show((g.cps ++ [pr]).length:Int) - 1=_
    rw[aH,lc]
    simp
  |note bi dy am=>
   obtain⟨ib,ia⟩:=rP om
   obtain⟨b,rfl⟩:=cv ib.1
   have hb:b < S.aG.length:=by have:=ib.2; lia
   obtain⟨q,_,aq,hq⟩:=B1.lb hb
   refine⟨_,rfl,pd,_,_,.str "note",rfl,rfl,cm.of lM,rfl,rfl,false,je (show("note":Str)≠"bill" by decide +kernel),bR ?_⟩
   refine⟨_,rfl,pd,_,_,.str "note",rfl,rfl,cm.of lM,rfl,rfl,false,je (show("note":Str)≠"pay" by decide +kernel),bR ?_⟩
   refine⟨_,rfl,pd,_,_,.str "note",rfl,rfl,cm.of lM,rfl,rfl,true,ye _,fv ?_⟩
   refine⟨_,rfl,sd,_,rfl,B1.gB,_,rfl,pd,_,_,.int (b:Int),rfl,rfl,cm.of lM,rfl,g.pb,_,_,.ref q,rfl,rfl,bE.of B1.hb,aq,q,_,_,.str (S.bl b).aI,rfl,rfl,bE.of hq,rfl,?_⟩
   refine⟨_,rfl,sd,_,rfl,B1.gC,.inl ⟨rfl,_,bE.of B1.hc⟩,_,rfl,_,rfl,pd,_,_,.int dy,rfl,rfl,cm.of lM,rfl,_,rfl,pd,_,_,.int am,rfl,rfl,cm.of lM,rfl,_,rfl,pd,_,_,.int (b:Int),rfl,rfl,cm.of lM,rfl,_,rfl,pd,_,_,.int am,rfl,rfl,cm.of lM,rfl,(by show 5<=sizeLine; decide),fun pr nr=>?_⟩
   have t1:=aD.new (o:= .lst (Rw.vs ⟨(S.bl b).aI,dy,am,b,am⟩)) nr
   refine⟨g.pc,_,_,rfl,rfl,t1 _ _ B1.hc,bg (by rw[ae]; lia),?_⟩
   have B2:=B1.hX (r:=⟨(S.bl b).aI,dy,am,b,am⟩) nr
   have F2:Frame g.fp H1 (upd (upd H1 pr (.lst (Rw.vs ⟨(S.bl b).aI,dy,am,b,am⟩))) g.pc (.lst (g.cps.map V.ref ++ [.ref pr]))):=t1.frame.tr (Frame.upd (by simp[fB.fp]))
   refine jo (H':=upd (upd H1 pr (.lst (Rw.vs ⟨(S.bl b).aI,dy,am,b,am⟩))) g.pc (.lst (g.cps.map V.ref ++ [.ref pr]))) rfl ?_
   generalize upd (upd H1 pr (.lst (Rw.vs ⟨(S.bl b).aI,dy,am,b,am⟩))) g.pc (.lst (g.cps.map V.ref ++ [.ref pr]))=H2 at B2 F2
   refine⟨_,rfl,sd,_,rfl,B2.gC,_,_,rfl,.inl (bE.of B2.hc),_,_,rfl,rfl,?_⟩
   refine RV _ (g.hX pr) H2 F2 B2 (fun x hx=>?_) (dz.mpr ?_)
   ·rcases aw.mp ((g.EC pr).mem_iff.mp hx) with rfl|hx
    ·exact .inr nr
    ·exact .inl hx
   ·show V.int _ =V.int (S.credits.length:Int)
    congr 1
    rw[ae]
    show((g.cps ++ [pr]).length:Int) - 1=_
    rw[aH,lc]
    simp
  |set ci bi am=>
   obtain⟨ic,ib,_,_,_,_⟩:=qw om
   obtain⟨c,rfl⟩:=cv ic.1
   obtain⟨b,rfl⟩:=cv ib.1
   have hc:c < S.credits.length:=by have:=ic.2; lia
   have hb:b < S.aG.length:=by have:=ib.2; lia
   refine⟨_,rfl,pd,_,_,.str "set",rfl,rfl,cm.of lM,rfl,rfl,false,je (show("set":Str)≠"bill" by decide +kernel),bR ?_⟩
   refine⟨_,rfl,pd,_,_,.str "set",rfl,rfl,cm.of lM,rfl,rfl,false,je (show("set":Str)≠"pay" by decide +kernel),bR ?_⟩
   refine⟨_,rfl,pd,_,_,.str "set",rfl,rfl,cm.of lM,rfl,rfl,false,je (show("set":Str)≠"note" by decide +kernel),bR ?_⟩
   refine⟨_,rfl,pd,_,_,.str "set",rfl,rfl,cm.of lM,rfl,rfl,true,ye _,fv ?_⟩
   refine⟨_,rfl,_,rfl,pd,_,_,.int (c:Int),rfl,rfl,cm.of lM,rfl,_,rfl,pd,_,_,.int (b:Int),rfl,rfl,cm.of lM,rfl,_,rfl,pd,_,_,.int am,rfl,rfl,cm.of lM,rfl,sd,S,g,c,b,am,rfl,B1,hc,hb,by lia,fun H2 F2 B2=>?_⟩
   have hd2:=B1.tk F2 _ _ lM
   refine⟨_,rfl,pd,_,_,.int am,rfl,rfl,cm.of hd2,rfl,?_⟩
   exact RV _ g H2 F2 B2 (fun x hx=> .inl hx) (dz.mpr rfl)
  |fu wh=>
   refine⟨_,rfl,pd,_,_,.str "sweep",rfl,rfl,cm.of lM,rfl,rfl,false,je (show("sweep":Str)≠"bill" by decide +kernel),bR ?_⟩
   refine⟨_,rfl,pd,_,_,.str "sweep",rfl,rfl,cm.of lM,rfl,rfl,false,je (show("sweep":Str)≠"pay" by decide +kernel),bR ?_⟩
   refine⟨_,rfl,pd,_,_,.str "sweep",rfl,rfl,cm.of lM,rfl,rfl,false,je (show("sweep":Str)≠"note" by decide +kernel),bR ?_⟩
   refine⟨_,rfl,pd,_,_,.str "sweep",rfl,rfl,cm.of lM,rfl,rfl,false,je (show("sweep":Str)≠"set" by decide +kernel),bR ?_⟩
   refine⟨_,rfl,_,rfl,pd,_,_,.str wh,rfl,rfl,cm.of lM,rfl,sd,S,g,wh,rfl,B1,qz,LA,Hd,fun D ms H2 F2 B2 nD hD hT=>?_⟩
   exact RV _ g H2 F2 B2 (fun x hx=> .inl hx) (jG.mpr ⟨D,ms,rfl,hD,hT.Pu⟩)
def bu.word:bu->Str
 | .dJ _ _ _ _=>"bill"
 | .qv _ _ _=>"pay"
 | .note _ _ _=>"note"
 | .set _ _ _=>"set"
 | .fu _=>"sweep"
 | .iQ _=>"undo"
 | .ask o _ _=>if o then "owed" else "free"
 | .iC _ _ _=>"ages"
theorem ue {d:bu}(h:d.tells=true∨ ∃m,d= .iQ m): ∃r,bu.vs d= .str (bu.word d) :: r:=by
 cases d with
 |iC w d l=>rcases h with h|⟨m,h⟩ <;> cases h
 |_=>exact⟨_,rfl⟩
theorem EL {d:bu}(h:d.tells=true):wg (.str (bu.word d)) [.str "set",.str "sweep"]=d.isSet:=by
 cases d with
 |dJ _ _ _ _=>show wg (.str "bill") _ =false; decide +kernel
 |qv _ _ _=>show wg (.str "pay") _ =false; decide +kernel
 |note _ _ _=>show wg (.str "note") _ =false; decide +kernel
 |set _ _ _=>show wg (.str "set") _ =true; decide +kernel
 |fu _=>show wg (.str "sweep") _ =true; decide +kernel
 |iQ _=>cases h
 |ask _ _ _=>cases h
 |iC _ _ _=>cases h
def gA (H:Hp)(ss:List (Int×bu))(vs:List V):Prop:=Paired (fun(st:Int×bu) v=> ∃p pd,v= .ref p/\H p=some (.tup [.int st.1,.ref pd])/\H pd=some (.tup (bu.vs st.2))/\st.2.tells=true) ss vs
theorem gA.mono {H H':Hp}{ss:List (Int×bu)}{vs:List V}(h:gA H ss vs)(k:cF H H'):gA H' ss vs:=
 Paired.gR h fun _ _ ⟨p,pd,e,q1,q2,t⟩=>⟨p,pd,e,k _ _ q1,k _ _ q2,t⟩
inductive vy (vs:List V)(H:Hp)(Q:VK)(E':XK):Prop
 |mk (ps:Addr)(ss:List (Int×bu))(us:List V)(h1:vs=[.ref ps])(h2:H ps=some (.lst us))(h3:gA H ss us)(h4:ss.length<=59)(h5:(cE ss Bk.new=none-> ∀H',aD H H'->Q .d8 H'))(h6:(∀S,cE ss Bk.new=some S-> ∀sd f H',aD H H'->dm H' sd S f->(∀b∈f.fp,H b=none)->Q (.ref sd) H')):vy vs H Q E'
theorem ni:aS ["_law_steps","_law_state","_law_number","_law_deed"] ["_law_steps"] (ax (top 60)):={}
theorem wX (T:Txt K mg):eF P w K mg base "_law_worked" 4 ["_law_steps"] vy:=by
 have lW:eF P w K mg base "_law_begun" 1 [] EF:=qN T
 have lX:eF P w K mg base "_law_enter" 3 ["_law_state","_law_deed"] ud:=qQ T
 refine T.wI.fj (k:=3) ni (fun f cK A outer s H vs Q E hr h=>?_)
 ·obtain⟨ps,ss,us,rfl,l6,LD,hl,kn,ky⟩:=h
  have nd:=ni.nd
  have hlen:=aL LD
  refine⟨_,(ai (sv 1 nd (HZ lW (hr.mono (by decide)) rfl))
(ai (eQ bH rfl (dj (pv 0)) (iM rfl (bX (gn 2 nd) (bX (gn 3 nd) gu)))
(ao (bM (fT (cI eG (by rfl) T.de dZ (aa (fc lX hr (aa (pv 1) (aa (pv 3) av))) (aa (gr (v:= .ty "str") (by rfl) T.EA boot_str rfl) av))))
(ao (a6 CD))
bb)))
(ao (a6 (pv 1))))),?_⟩
  refine⟨rfl,fun sd f0 H1 s1 B1 Li nf=>?_⟩
  refine⟨_,rfl,ps,rfl,⟨_,bE.of (s1 _ _ l6)⟩,?_⟩
  refine fX (K:=K) (a:=ps) (xs:=us) (fun i σ H2=> ∃(S:Bk) (f:fB) (x2 x3:Option V),σ=[some (.ref ps),some (.ref sd),x2,x3]/\aD H H2/\dm H2 sd S f/\(∀b∈f.fp,H b=none)/\WF S i/\cE ss Bk.new=cE (ss.drop i) S)
   ⟨Bk.new,f0,none,none,rfl,s1,B1,nf,WF.new,rfl⟩ (fun i σ H2 _ ⟨_,_,_,_,_,s2,_⟩=>bE.of (s2 _ _ l6)) ?_ ?_
  ·rintro i x σ H2 hx ⟨S,f2,x2,x3,rfl,s2,B2,TF,wf,hw⟩
   have hi:i < ss.length:=by have:=(au.mp hx).1; lia
   obtain⟨v,hv,p,pd,rfl,hp,He,ht⟩:=bG LD (af hi)
   rw[hx] at hv
   obtain rfl:x= .ref p:=aF hv
   have hdr:=MR hi
   rw[hdr] at hw
   generalize ss[i]=st at hp He ht hw
   obtain⟨n,d⟩:=st
   have tq:=s2 _ _ hp
   have Oh:=s2 _ _ He
   refine⟨p,_,rfl,cm.of tq,rfl,_,_,rfl,_,_,rfl,rfl,?_⟩
   refine⟨_,rfl,_,rfl,sd,pd,S,f2,d,rfl,B2,Oh,ht,by have:=wf.lc; lia,by have:=wf.lb; lia,by have:=wf.lm; rw[en]; lia,fun hb H3 s3=>?_,fun hb v f3 H3 F3 B3 fi r=>?_⟩
   ·refine⟨_,_,_,true,rfl,.str _,xO (.str (S.bar d)),_,rfl,fv ?_⟩
    refine kn ?_ _ (s2.trans s3)
    rw[hw]
    show(if S.bar d="" then _ else none)=none
    rw[aQ hb]
   ·have hS:Te (S.Hb d).dt=false:=by cases d <;> first|rfl|cases ht
    refine⟨_,_,_,false,rfl,r.ty,(xO _).trans (cL some hS),_,rfl,bR ?_⟩
    refine⟨S.enter d,f3,_,_,rfl,F3.same s2 TF,B3,fun b Ed=>?_,wf.enter (by lia) hb,?_⟩
    ·rcases fi b Ed with z|z
     ·exact TF b z
     ·exact s2.free z
    ·rw[hw]
     show(if S.bar d="" then _ else none)=_
     rw[a7 hb]
  ·rintro σ H2 ⟨S,f2,x2,x3,rfl,s2,B2,TF,wf,hw⟩
   rw[← hlen,List.drop_length] at hw
   exact⟨_,rfl,ky S hw sd f2 H2 s2 B2 TF⟩
inductive EM (vs:List V)(H:Hp)(Q:VK)(E':XK):Prop
 |mk (pd:Addr)(wd:Str)(r:List V)(h1:vs=[.ref pd])(h2:H pd=some (.tup (.str wd :: r)))(h3: ∀H',aD H H'->Q (.bl (wg (.str wd) [.str "bill",.str "pay",.str "note",.str "set",.str "sweep"])) H'):EM vs H Q E'
theorem wY:aS ["_law_deed"] ["_law_deed"] (ax (top 61)):={}
theorem zL (T:Txt K mg):eF P w K mg base "_law_tells" 1 ["_law_deed"] EM:=by
 refine T.y4.fj (k:=0) wY (fun f cK A outer s H vs Q E hr h=>?_)
 ·obtain⟨pd,wd,r,rfl,hd,k⟩:=h
  refine⟨_,(ao (a6 (fb nL (xt (pv 0) ah) (bQ (aa aR (aa aR (aa aR (aa aR (aa aR av)))))) (by rfl)))),?_⟩
  refine⟨_,rfl,pd,_,_,.str wd,rfl,rfl,cm.of hd,cz (j:=0) rfl,(by show 5<=sizeLine; decide),fun p9 n9=>⟨p9,_,rfl,.inl (bE.of ag),rfl,rfl,?_⟩⟩
  exact k _ (aD.new n9)
def My (Q:VK)(H:Hp)(ps:Addr)(f:fB)(r:Ax×ja):Prop:=
 ∀(t:Addr) (v:V) (tL zM:Addr) (f':fB) (zN:List V) (H':Hp),H' t=some (.tup [v,.ref tL,.ref zM])->Rp H' r.1.dt v->H' tL=some (.lst zN)->gA H' r.2.steps zN->dm H' zM r.2.bk f'->Frame f.fp H H'->Og H f f'->tL∉f'.fp->(∀a o,a∉f.fp->H a=some o->tL=a->tL=ps)->Q (.ref t) H'
inductive Jh (vs:List V)(H:Hp)(Q:VK)(E':XK):Prop
 |mk (ps sd pd:Addr)(n:Nat)(T:ja)(us:List V)(f:fB)(d:bu)(h1:vs=[.ref ps,.ref sd,.int n,.ref pd])(h2:H ps=some (.lst us))(h3:gA H T.steps us)(h4:dm H sd T.bk f)(h5:ps∉f.fp)(h6:H pd=some (.tup (bu.vs d)))(h7:(d.tells=true∨ ∃m,d= .iQ m))(h8:Good T n)(h9:n<=59)(JZ:My Q H ps f (dM T n d)):Jh vs H Q E'
theorem pG {T:ja}{n:Int}{d:bu}(h:d.tells=true):dM T n d=if T.bk.bar d="" then(T.bk.Hb d,(⟨T.steps ++ [(n,d)],T.bk.enter d⟩:ja)) else(.txt (T.bk.bar d),T):=by
 cases d <;> first|rfl|cases h
theorem qR:aS ["_law_steps","_law_state","_law_number","_law_deed","_law_rest","_law_step","_law_later","_law_answer"] ["_law_steps","_law_state","_law_number","_law_deed"] (ax (top 62)):={}
theorem ff {α:Type}(p:α->Bool){l:List α}{i:Nat}{x:α}(h:l[i]? =some x):(l.take (i + 1)).filter p=(l.take i).filter p ++ (if p x=true then[x] else[]):=by
 rw[E9,h,j9]
 congr 1
 show[x].filter p=_
 by_cases c:p x=true
 ·rw[a7 c,cu c]; rfl
 ·rw[aQ c,gI c]; rfl
theorem BR (T:Txt K mg):eF P w K mg base "_law_done" 5 ["_law_steps","_law_state","_law_number","_law_deed"] Jh:=by
 have wZ:eF P w K mg base "_law_worked" 4 ["_law_steps"] vy:=wX T
 have lX:eF P w K mg base "_law_enter" 3 ["_law_state","_law_deed"] ud:=qQ T
 refine T.Bi.fj (k:=4) qR (fun f cK A outer s H vs Q E hr h=>?_)
 ·obtain⟨ps,sd,pd,n,T0,us,g,d,rfl,l6,LD,hB,Mz,hd,hk,good,hn,k⟩:=h
  have nd:=qR.nd
  have hlen:=aL LD
  have hT:=good.len
  obtain⟨rr,Yj⟩:=ue hk
  have TH:H pd=some (.tup (.str (bu.word d) :: rr)):=Yj▸hd
  refine⟨_,(ai (bM (aW cG (xt (pv 3) ah) aR (aZ _))
(ai (sv 4 nd (bQ av))
(ai (eQ bH rfl (dj (pv 0)) (gn 5 nd)
(ao (bM (PW.pt (pw_or (aW qa (xt (pv 5) ah) (xt (pv 3) ah) (aZ _)) (pw_or1 (aW yE (xt (xt (pv 5) ah) ah) (bQ (aa aR (aa aR av))) (by rfl)))))
(ao (bJ (qA (pv 4) (pv 5))))
bb)))
(ai (bM (aW cG (mO T.dR (pv 4)) (mO T.dR (pv 0)) (aZ _))
(ao (a6 (dg (aa aR (aa (pv 0) (aa (pv 1) av))))))
bb)
(ai (sv 6 nd (fc wZ hr (aa (pv 4) av)))
(ai (bM (yu (Hs (pv 6)))
(ao (a6 (dg (aa aR (aa (pv 0) (aa (pv 1) av))))))
bb)
(ao (a6 (dg (aa aR (aa (pv 4) (aa (pv 6) av)))))))))))
bb)
(ai (sv 7 nd (fc lX hr (aa (pv 1) (aa (pv 3) av))))
(ai (bM (fT (cI eG (by rfl) T.de dZ (aa (pv 7) (aa (gr (v:= .ty "str") (by rfl) T.EA boot_str rfl) av))))
(ao (a6 (dg (aa (pv 7) (aa (pv 0) (aa (pv 1) av))))))
bb)
(ao (a6 (dg (aa (pv 7) (aa (aU o4 (pv 0) (bQ (aa (dg (aa (pv 2) (aa (pv 3) av))) av))) (aa (pv 1) av))))))))),?_⟩
  refine⟨_,rfl,pd,_,_,.str (bu.word d),rfl,rfl,cm.of TH,cz (j:=0) rfl,rfl,?_⟩
  clear TH Yj rr
  by_cases ht:d.tells=true
  ·
   have hw:bu.word d≠"undo":=by
    cases d with
    |iQ m=>cases ht
    |ask _ _ _=>cases ht
    |iC _ _ _=>cases ht
    |dJ _ _ _ _=>show("bill":Str)≠"undo"; decide +kernel
    |qv _ _ _=>show("pay":Str)≠"undo"; decide +kernel
    |note _ _ _=>show("note":Str)≠"undo"; decide +kernel
    |set _ _ _=>show("set":Str)≠"undo"; decide +kernel
    |fu _=>show("sweep":Str)≠"undo"; decide +kernel
   refine⟨false,je hw,bR ?_⟩
   have wf:=good.wf (by lia)
   rw[pG ht] at k
   refine⟨_,rfl,_,rfl,sd,pd,T0.bk,g,d,rfl,hB,hd,ht,by have:=wf.lc; lia,by have:=wf.lb; lia,by have:=wf.lm; rw[en]; lia,fun hb H3 s3=>?_,fun hb v f3 H3 F3 B3 fi r=>?_⟩
   ·rw[aQ hb] at k
    refine⟨_,rfl,_,_,_,true,rfl,.str _,xO (.str (T0.bk.bar d)),_,rfl,fv ?_⟩
    refine⟨_,rfl,_,rfl,_,rfl,(by show 3<=sizeLine; decide),fun t nt=>?_⟩
    have s4:=s3.trans (aD.new (o:= .tup [V.str (T0.bk.bar d),.ref ps,.ref sd]) nt)
    exact k t _ ps sd g us _ ag (gF.mpr rfl) (s4 _ _ l6) (LD.mono s4.tk) (hB.same s4) s4.frame (fun x hx=> .inl hx) Mz (fun _ _ _ _ _=>rfl)
   ·rw[a7 hb] at k
    have hS:Te (T0.bk.Hb d).dt=false:=by cases d <;> first|rfl|cases ht
    refine⟨_,rfl,_,_,_,false,rfl,r.ty,(xO _).trans (cL some hS),_,rfl,bR ?_⟩
    have Yk:=hB.tk F3
    have Ji:=F3 _ _ Mz l6
    have VX:=LD.mono Yk
    have Hf:=Yk _ _ hd
    refine⟨_,rfl,_,rfl,_,rfl,_,rfl,(by show 2<=sizeLine; decide),fun p1 n1=>⟨(by show 1<=sizeLine; decide),fun p2 n2=>?_⟩⟩
    have t1:=aD.new (o:= .tup [V.int (n:Int),.ref pd]) n1
    have t2:=aD.new (o:= .lst [V.ref p1]) n2
    have g1:upd (upd H3 p1 (.tup [V.int (n:Int),.ref pd])) p2 (.lst [V.ref p1]) p1=some (.tup [V.int (n:Int),.ref pd]):=t2 _ _ ag
    have g2:upd (upd H3 p1 (.tup [V.int (n:Int),.ref pd])) p2 (.lst [V.ref p1]) p2=some (.lst [V.ref p1]):=ag
    have sR:=t1.trans t2
    refine⟨ps,p2,_,_,rfl,rfl,sR _ _ Ji,g2,?_,fun p4 n4=>?_⟩
    ·refine dG (bg ?_)
     show us.length + 1<=1000
     lia
    generalize upd (upd H3 p1 (.tup [V.int (n:Int),.ref pd])) p2 (.lst [V.ref p1])=H4 at sR g1 g2 n4
    have t4:=aD.new (o:= .lst (us ++ [V.ref p1])) n4
    refine⟨_,rfl,(by show 3<=sizeLine; decide),fun t nt=>?_⟩
    have t5:=aD.new (o:= .tup [v,V.ref p4,.ref sd]) nt
    have RW:=(sR.trans t4).trans t5
    have B5:=B3.same RW
    refine k t v p4 sd f3 (us ++ [.ref p1]) _ ag (Rp.mono RW _ r) (t5 _ _ ag) ?_ B5 (F3.dh RW) fi (B3.off ?_) (fun a o ha e q=>absurd q.symm (aJ (sR _ _ (F3 _ _ ha e)) n4))
    ·exact cA (VX.mono RW.tk) ⟨p1,pd,rfl,(t4.trans t5) _ _ g1,RW _ _ Hf,ht⟩
    ·exact sR.free n4
  ·
   obtain⟨m,rfl⟩: ∃m,d= .iQ m:=hk.resolve_left ht
   refine⟨true,ye _,fv ?_⟩
   refine⟨bp _,fun pr nr=>?_⟩
   have s1:aD H (upd H pr (.lst [])):=aD.new nr
   refine⟨_,rfl,ps,rfl,⟨_,bE.of (s1 _ _ l6)⟩,?_⟩
   refine fX (K:=K) (a:=ps) (xs:=us) (fun i σ H2=> ∃(rs:List V) (x5:Option V),σ=[some (.ref ps),some (.ref sd),some (.int (n:Int)),some (.ref pd),some (.ref pr),x5,none,none]/\aD H H2/\H2 pr=some (.lst rs)/\gA H2 ((T0.steps.take i).filter (bW m)) rs)
    ⟨[],none,rfl,s1,ag,.nil⟩ (fun i σ H2 _ ⟨_,_,_,s2,_⟩=>bE.of (s2 _ _ l6)) ?_ ?_
   ·rintro i x σ H2 hx ⟨rs,x5,rfl,s2,Kc,Kd⟩
    have hi:i < T0.steps.length:=by have:=(au.mp hx).1; lia
    have oo:=af hi
    obtain⟨v,hv,p,pe,rfl,hp,Yl,TJ⟩:=bG LD oo
    rw[hx] at hv
    obtain rfl:x= .ref p:=aF hv
    have kI:=ff (bW m) oo
    generalize T0.steps[i]=st at hp Yl TJ kI
    obtain⟨n0,e⟩:=st
    have tq:=s2 _ _ hp
    have Oi:=s2 _ _ Yl
    have hd2:=s2 _ _ hd
    have A4:rs.length<=100:=by
     have:=aL Kd
     have:=aX (bW m) (T0.steps.take i)
     rw[bh] at this
     lia
    have yes:bW m (n0,e)=true-> ∀H3,aD H2 H3->(UL (V.ref pr) [V.ref p] H3 fun l xs y=> ∃(rs:List V) (x5:Option V),[some (V.ref ps),some (.ref sd),some (.int (n:Int)),some (.ref pd),some (.ref pr),some (.ref p),none,none]=[some (.ref ps),some (.ref sd),some (.int (n:Int)),some (.ref pd),some (.ref pr),x5,none,none]/\aD H (upd H3 l (.lst (xs ++ [y])))/\upd H3 l (.lst (xs ++ [y])) pr=some (.lst rs)/\gA (upd H3 l (.lst (xs ++ [y]))) ((T0.steps.take (i + 1)).filter (bW m)) rs):=fun z H3 s3=>by
     refine⟨pr,rs,_,rfl,rfl,s3 _ _ Kc,bg (by lia),rs ++ [.ref p],_,rfl,(s2.trans s3).cX nr,ag,?_⟩
     rw[kI,a7 z]
     have tk:=s3.tk.trans (fI (o:= .lst (rs ++ [.ref p])) (s3 _ _ Kc))
     exact cA (Kd.mono tk) ⟨p,pe,rfl,tk _ _ tq,tk _ _ Oi,TJ⟩
    refine⟨_,rfl,p,_,_,.int n0,rfl,rfl,cm.of tq,rfl,_,rfl,pd,_,_,.int m,rfl,rfl,cm.of hd2,rfl,rfl,_,rfl,cy (fun z=>fv ?_) (fun z=>?_)⟩
    ·have z':n0≠m:=fun q=>by rw[q] at z; simp at z
     refine⟨_,rfl,.inl ⟨rfl,_,bE.of Kc⟩,_,rfl,yes ?_ H2 (aD.refl _)⟩
     show(!(decide (n0=m) && e.isSet))=true
     rw[bf z']; rfl
    ·have z':n0=m:=by
      by_cases q:n0=m
      ·exact q
      ·exact absurd (by rw[bf (fun w=>q (by injection w))]; rfl) z
     obtain⟨re,hev⟩:=ue (d:=e) (.inl TJ)
     rw[hev] at Oi
     refine⟨_,rfl,p,_,_,.ref pe,rfl,rfl,cm.of tq,rfl,pe,_,_,.str (bu.word e),rfl,rfl,cm.of Oi,cz (j:=0) rfl,(by show 2<=sizeLine; decide),fun p9 n9=>⟨p9,_,rfl,.inl (bE.of ag),rfl,rfl,!e.isSet,cL V.bl (by rw[a7 rfl,EL TJ]),cy (fun q=>?_) (fun q=>?_)⟩⟩
     ·have t9:=aD.new (o:= .lst [V.str "set",.str "sweep"]) n9
      refine⟨_,rfl,.inl ⟨rfl,_,bE.of (t9 _ _ Kc)⟩,_,rfl,yes ?_ _ t9⟩
      show(!(decide (n0=m) && e.isSet))=true
      rw[aE z',Bool.true_and]; exact q
     ·have t9:=aD.new (o:= .lst [V.str "set",.str "sweep"]) n9
      refine⟨rs,_,rfl,s2.trans t9,t9 _ _ Kc,?_⟩
      have no: ¬ bW m (n0,e)=true:=by
       show ¬ (!(decide (n0=m) && e.isSet))=true
       rw[aE z',Bool.true_and]; exact q
      rw[kI,aQ no,bP]
      exact Kd.mono t9.tk
   ·rintro σ H2 ⟨rs,x5,rfl,s2,Kc,Kd⟩
    rw[← hlen,a8] at Kd
    have A4:=aL Kd
    have TK:=aX (bW m) T0.steps
    have oF:dM T0 n (.iQ m)=if(T0.steps.filter (bW m)).length=T0.steps.length then(.txt "no setting",T0) else
      match cE (T0.steps.filter (bW m)) Bk.new with
      |none=>(.txt "needed",T0)
      |some S=>(.txt "undone",⟨T0.steps.filter (bW m),S⟩):=rfl
    have Ke:=hB.same s2
    refine⟨_,rfl,pr,_,rfl,.inl (bE.of Kc),_,rfl,ps,_,rfl,.inl (bE.of (s2 _ _ l6)),rfl,_,rfl,cy (fun z=>?_) (fun z=>?_)⟩
    ·have z':(T0.steps.filter (bW m)).length=T0.steps.length:=by
      have:=aN z
      injection this with this
      lia
     rw[oF,a7 z'] at k
     refine⟨_,rfl,_,rfl,(by show 3<=sizeLine; decide),fun t nt=>?_⟩
     have s4:=s2.trans (aD.new (o:= .tup [V.str "no setting",.ref ps,.ref sd]) nt)
     exact k t _ ps sd g us _ ag (gF.mpr rfl) (s4 _ _ l6) (LD.mono s4.tk) (hB.same s4) s4.frame (fun x hx=> .inl hx) Mz (fun _ _ _ _ _=>rfl)
    have z': ¬ (T0.steps.filter (bW m)).length=T0.steps.length:=fun q=>z (aE (by congr 1; lia))
    rw[oF,aQ z'] at k
    refine⟨_,rfl,pr,T0.steps.filter (bW m),rs,rfl,Kc,Kd,by lia,fun hw H3 s3=>?_,fun S hw Ym f3 H3 s3 B3 nf=>?_⟩
    ·rw[hw] at k
     refine⟨_,rfl,true,rfl,fv ⟨_,rfl,_,rfl,(by show 3<=sizeLine; decide),fun t nt=>?_⟩⟩
     have s4:=(s2.trans s3).trans (aD.new (o:= .tup [V.str "needed",.ref ps,.ref sd]) nt)
     exact k t _ ps sd g us _ ag (gF.mpr rfl) (s4 _ _ l6) (LD.mono s4.tk) (hB.same s4) s4.frame (fun x hx=> .inl hx) Mz (fun _ _ _ _ _=>rfl)
    ·rw[hw] at k
     refine⟨_,rfl,false,rfl,bR ⟨_,rfl,_,rfl,(by show 3<=sizeLine; decide),fun t nt=>?_⟩⟩
     have t4:=aD.new (o:= .tup [V.str "undone",.ref pr,.ref Ym]) nt
     have s4:=(s2.trans s3).trans t4
     refine k t _ pr Ym f3 rs _ ag (gF.mpr rfl) ((s3.trans t4) _ _ Kc) (Kd.mono (s3.trans t4).tk) (B3.same t4) s4.frame (fun x hx=> .inr (s2.free (nf x hx))) (fun q=>?_) (fun a o ha e q=>absurd q.symm (aJ e nr))
     have:=nf pr q
     rw[Kc] at this
     cases this
end
end eE
namespace L2
open PySem PySem.Spec PyProof.Rows
theorem zO {X:Cx}{scope:Scope}{x y:Str}{c d:Addr}{j k:Nat}(FF:closureFor scope X.env=pure [(x,c),(y,d)]:=by rfl)(l5: ∀z∈scope.names,z.2≠ .cell:=by decide +kernel)(mB:scope.kind= .function:=by rfl)(uK: ∀x∈scope.names,x.2= .local->scope.names.lookup x.1=some .local:=by decide +kernel)
  (hx:X.env.cells.lookup x=some c:=by rfl) (hy:X.env.cells.lookup y=some d:=by rfl) (yI:List (Str×NameKind)) (QO:(relabel scope X.env).names=yI:=by rfl) (A4: ∀z∈yI,(z.2= .cell∨z.2= .free)->z.1=x∨z.1=y:=by decide +kernel)
  (hN:X.N[j]? =some x:=by rfl) (hN2:X.N[k]? =some y:=by rfl) (hk:X.env.kindOf x=some .cell∨X.env.kindOf x=some .free:=by exact Or.inl rfl) (JX:X.env.kindOf y=some .cell∨X.env.kindOf y=some .free:=by exact Or.inl rfl)
  (Mh:(relabel scope X.env).names.lookup x=some .cell∨(relabel scope X.env).names.lookup x=some .free:=by exact Or.inl rfl) (VY:(relabel scope X.env).names.lookup y=some .cell∨(relabel scope X.env).names.lookup y=some .free:=by exact Or.inl rfl):rK X scope [(x,c),(y,d)] [x,y] [j,k]:=by
 refine⟨FF,l5,mB,uK,fun z c' h=>?_,fun z h=>?_,.cons ⟨hN,hk,Mh⟩ (.cons ⟨hN2,JX,VY⟩ .nil)⟩
 ·rcases aw.mp (b9 h) with e|e
  ·cases e; exact hx
  ·rcases aw.mp e with e|e
   ·cases e; exact hy
   ·cases e
 ·have e:z=x∨z=y:=by
   rcases h with h|h
   ·rw[QO] at h
    exact A4 _ (b9 h) (.inl rfl)
   ·rw[QO] at h
    exact A4 _ (b9 h) (.inr rfl)
  by_cases q:z=x
  ·exact⟨c,by rw[q]; simp[List.lookup]⟩
  ·have q2:z=y:=e.resolve_left q
   have q3:(z == x)=false:=by simpa using q
   exact⟨d,by rw[List.lookup,q3,q2]; simp[List.lookup]⟩
end L2
namespace eE
open PySem L2 PyProof.Rows K2
seal L2.oV L2.PS L2.PE L2.PT L2.PW L2.PA L2.PC L2.PG L2.Ks L2.PI L2.Mg L2.KO L2.PO L2.ox L2.M7 L2.iY L2.JW L2.Pg
section
variable {P:Program}{w:World}{K:PySem.W.Frag}{mg:Str->Option Value}{base:Heap}
inductive pH (A:dQ)(vs:List V)(H:Hp)(Q:VK)(E':XK):Prop
 |mk (pw p:Addr)(S:Bk)(f:eB)(t:Nat×Nat×Int)(day:Int)(h1:vs=[.ref pw,.ref p,.int day])(h2:dB A H pw S f)(h3:H p=some (.tup [.int t.1,.int t.2.1,.int t.2.2]))(h4:t.1 < S.credits.length)(h5:t.2.1 < S.aG.length)(h6:Q (.bl (decide (S.fU t<=day))) H):pH A vs H Q E'
theorem zP:aS ["work","setting","day"] ["work","setting","day"] (ax (top 40)):={}
theorem BS (T:Txt K mg){A:dQ}(G:jn K mg A):eF P w K mg base "counts_at" 2 ["work","setting","day"] (pH A):=by
 have w6:eF P w K mg base "counts_from" 1 ["credit","bill"] (Dm A):=wL T G
 refine T.Be.fj (k:=1) zP (fun f cK A' outer s H vs Q E hr h=>?_)
 ·obtain⟨pw,p,S,g,t,day,rfl,hW,hp,hc,hb,k⟩:=h
  obtain⟨dw,hw⟩:=hW.obj
  obtain⟨pc,c1,c2⟩:=hW.rc.get hc
  obtain⟨pb,b1,b2⟩:=hW.rb.get hb
  refine⟨_,(ao (a6 (fb sm (fc w6 hr (aa (xl (bV (pv 0) rfl) (xt (pv 1) ah)) (aa (xl (bV (pv 0) rfl) (xt (pv 1) ah)) av))) (pv 2) (aZ _)))),?_⟩
  refine⟨_,rfl,pw,_,dw,_,_,rfl,hw,G.bD,G.cD,gW g,_,rfl,p,_,_,.int t.1,rfl,rfl,cm.of hp,rfl,g.pc,_,_,.ref pc,rfl,rfl,bE.of hW.hc,cz (by rw[aB,c1]; rfl),?_⟩
  refine⟨_,rfl,pw,_,dw,_,_,rfl,hw,G.bD,G.dO,i7 g,_,rfl,p,_,_,.int t.2.1,rfl,rfl,cm.of hp,rfl,g.pb,_,_,.ref pb,rfl,rfl,bE.of hW.hb,cz (by rw[aB,b1]; rfl),?_⟩
  exact⟨pc,pb,t.1,t.2.1,S.cr t.1,S.bl t.2.1,rfl,c2,b2,_,rfl,_,_,rfl,rfl,k⟩
inductive pI (A:dQ)(vs:List V)(H:Hp)(Q:VK)(E':XK):Prop
 |mk (pw:Addr)(S:Bk)(f:eB)(n:Nat)(day:Int)(h1:vs=[.ref pw,.int day])(h2:dB A H pw S f)(h3:WF S n)(h4:S.made.length<=1000000)(h5: ∀D ms H',aD H H'->H D=none->H' D=some (.lst ms)->g8 H' (S.made.filter fun t=>decide (S.fU t<=day)) ms->Q (.ref D) H'):pI A vs H Q E'
theorem vz:aS ["work","day"] ["work","day"] (ax (top 39)):={}
theorem w9 (T:Txt K mg){A:dQ}(G:jn K mg A):eF P w K mg base "counting_at" 3 ["work","day"] (pI A):=by
 have BU:eF P w K mg base "counts_at" 2 ["work","setting","day"] (pH A):=BS T G
 refine T.wB.fj (k:=2) vz (fun f cK A' outer s H vs Q E hr h=>?_)
 ·obtain⟨pw,S,g,n,day,rfl,hW,wf,hz,k⟩:=h
  obtain⟨dw,hw⟩:=hW.obj
  obtain⟨ms,m1,m2⟩:=hW.hm
  have hlen:=aL m2
  refine⟨_,(ao (a6 (gJ (tn:=["setting"]) (cn:=["work","day"]) (cj:=[0,1]) rfl (zO (yI:=[(".0",.local),("setting",.local),("counts_at",.globalImplicit),("day",.cell),("work",.cell)])) (dj (bV (pv 0) rfl)) (fun _ _ _ _=>(eu (i:=0) (show(["setting","work","day"]:List Str).Nodup by decide +kernel) rfl (Or.inl rfl))) (fun _ _ _ _=>(mG (fT (fc BU hr (aa (pv 1) (aa (pv 0) (aa (pv 2) av))))))) (fun _ _ _ _=>(pv 0))))),?_⟩
  refine⟨_,rfl,pw,_,dw,_,_,rfl,hw,G.bD,G.lV,ED g,g.pm,rfl,⟨_,bE.of m1⟩,?_⟩
  refine eA (K:=K) (a:=g.pm) (xs:=ms) (fun D i σ H6=>H D=none/\ ∃v rs,σ=[v,some (.ref pw),some (.int day)]/\aD H H6/\H6 D=some (.lst rs)/\g8 H6 ((S.made.take i).filter fun t=>decide (S.fU t<=day)) rs) (fun D hD=>⟨hD,none,[],rfl,aD.new hD,ag,.nil⟩) (fun D i σ H6 _ ⟨_,_,_,_,t3,_⟩=>bE.of (t3 _ _ m1)) ?_ ?_
  ·rintro D i x σ H6 hx ⟨hD,v,rs,rfl,t3,gj,hT⟩
   have hi:i < S.made.length:=by have:=(au.mp hx).1; lia
   have oo:=af hi
   obtain⟨v',hv,p,rfl,hp⟩:=bG m2 oo
   rw[hx] at hv
   obtain rfl:x= .ref p:=aF hv
   have hm:=wf.m _ (bF hi)
   have kI:=ff (fun t=>decide (S.fU t<=day)) oo
   generalize S.made[i]=t at hp hm kI
   have Kd:rs.length<=1000000:=by
    have:=aL hT
    have:=aX (fun t=>decide (S.fU t<=day)) (S.made.take i)
    rw[bh] at this
    lia
   refine⟨_,rfl,_,rfl,_,rfl,pw,p,S,g,t,day,rfl,hW.same t3,t3 _ _ hp,hm.1,hm.2,_,rfl,cy (fun z=>?_) (fun z=>?_)⟩
   ·rw[a7 z] at kI
    refine⟨_,rfl,_,gj,iU Kd,hD,_,rs ++ [.ref p],rfl,t3.cX hD,ag,?_⟩
    rw[kI]
    have tk:=fI (o:= .lst (rs ++ [.ref p])) gj
    exact cA (hT.mono tk) ⟨p,rfl,tk _ _ (t3 _ _ hp)⟩
   ·rw[aQ z,bP] at kI
    refine⟨hD,_,rs,rfl,t3,gj,?_⟩
    rw[kI]
    exact hT
  ·rintro D σ H6 hD ⟨_,v,rs,rfl,t3,gj,hT⟩
   rw[← hlen,a8] at hT
   exact k D rs H6 t3 hD gj hT
def iH (H:Hp)(l:List (Nat×Int))(vs:List V):Prop:=Paired (fun(t:Nat×Int) v=> ∃p,v= .ref p/\H p=some (.tup [.int t.1,.int t.2])) l vs
theorem iH.mono {H H':Hp}{l:List (Nat×Int)}{vs:List V}(h:iH H l vs)(k:cF H H'):iH H' l vs:=Paired.gR h fun _ _ ⟨p,e,q⟩=>⟨p,e,k _ _ q⟩
theorem iH.Pu {H:Hp}: ∀{l:List (Nat×Int)} {vs:List V},iH H l vs->gQ H (l.map fun t=> .tup [.int t.1,.int t.2]) vs
 |_,_,.nil=>c9.mpr rfl
 |_,_,.cons ⟨p,e,q⟩ t=>by
  subst e
  exact bL.mpr ⟨_,_,rfl,fA q (bL.mpr ⟨_,_,rfl,dz.mpr rfl,bL.mpr ⟨_,_,rfl,dz.mpr rfl,c9.mpr rfl⟩⟩),iH.Pu t⟩
section
variable (S:Bk)(aO:Bool)(aI:Str)(day:Int)
def pD (k:Nat):Bool:=decide (((S.rows aO).getD k default).aI=aI) && (decide (((S.rows aO).getD k default).a<=day) && decide (0 < S.rest aO k day))
def kD (i:Nat):List (Int×Nat):=((List.range i).filter (pD S aO aI day)).map fun k=>(keyOf aO ((S.rows aO).getD k default),k)
def gD (x:Int×Nat):List Int:=[x.1,(x.2:Int),S.rest aO x.2 day]
end
section
variable {S:Bk}{aO:Bool}{aI:Str}{day:Int}{i:Nat}
theorem EN:kD S aO aI day (i + 1)=kD S aO aI day i ++ (if pD S aO aI day i=true then[(keyOf aO ((S.rows aO).getD i default),i)] else[]):=by
 unfold kD
 rw[nX,j9,aM]
 congr 1
 by_cases c:pD S aO aI day i=true
 ·rw[a7 c,cu c]; rfl
 ·rw[aQ c,gI c]; rfl
theorem RX: ∀x∈kD S aO aI day i,x.2 < i:=by
 intro x hx
 obtain⟨k,hk,rfl⟩:=bC.mp hx
 exact df.mp (eM.mp hk).1
theorem RY:((kD S aO aI day i).map (·.2)).Nodup:=by
 unfold kD
 rw[eO]
 have e:((fun x:Int×Nat=>x.2) ∘ fun k=>(keyOf aO ((S.rows aO).getD k default),k))=id:=rfl
 rw[e,AD]
 exact me.filter _
theorem Ds:(kD S aO aI day i).length<=i:=by
 unfold kD
 rw[ae]
 exact aY (aX _ _) (by rw[di]; exact aC _)
theorem BV:S.gK aO aI day=(d9 (kD S aO aI day (S.rows aO).length)).map fun x=>(x.2,S.rest aO x.2 day):=by
 have e:kD S aO aI day (S.rows aO).length=(f7 (S.rows aO) aI (keyOf aO)).filter fun x=>decide (((S.rows aO).getD x.2 default).a<=day) && decide (0 < S.rest aO x.2 day):=by
  unfold kD f7
  rw[Kk,pQ]
  congr 1
  apply rz
  intro k _
  show pD S aO aI day k=_
  unfold pD
  rw[Bool.and_comm]
  rfl
 rw[e,lN]
 unfold Bk.gK inOrder
 rw[← sE (fun x:Int×Nat=>x.2) (fun k=>decide (((S.rows aO).getD k default).a<=day) && decide (0 < S.rest aO k day)),eO]
 rfl
end
inductive uf (vs:List V)(H:Hp)(Q:VK)(E':XK):Prop
 |mk (sd:Addr)(S:Bk)(f:fB)(n:Nat)(aO:Bool)(aI:Str)(day:Int)(h1:vs=[.ref sd,.str aI,.int day,.int (if aO=true then 1 else 0)])(h2:dm H sd S f)(h3:WF S n)(h4:n<=60)(h5: ∀D ms H',aD H H'->H D=none->H' D=some (.lst ms)->iH H' (S.gK aO aI day) ms->Q (.ref D) H'):uf vs H Q E'
theorem Oj (aO:Bool)(r:Rw):rH r.vs (2 + (if aO=true then(1:Int) else 0))=some (.int (sG aO r)):=by cases aO <;> rfl
theorem Ol (aO:Bool)(r:Rw):rH r.vs (1 + (if aO=true then(1:Int) else 0))=some (.int (keyOf aO r)):=by cases aO <;> rfl
theorem EO (aO:Bool)(t:Nat×Nat×Int):rH [V.int t.1,.int t.2.1,.int t.2.2] (if aO=true then(1:Int) else 0)=some (.int (spotOf aO t:Int)):=by cases aO <;> rfl
theorem nj:aS ["_law_state","_law_who","_law_day","_law_spot","_law_rows","_law_keys","_law_k","_law_amount","_law_setting","_law_late"] ["_law_state","_law_who","_law_day","_law_spot"] (ax (top 63)):={}
theorem oG (T:Txt K mg):eF P w K mg base "_law_at_day" 1 ["_law_state","_law_who","_law_day","_law_spot"] uf:=by
 refine T.wJ.fj (k:=0) nj (fun f cK A outer s H vs Q E hr h=>?_)
 ·obtain⟨sd,S,g,n,aO,aI,day,rfl,hB,wf,hn,k⟩:=h
  have hu:=jE hr
  have nd:=nj.nd
  refine⟨_,(ij (sv 4 nd (cB hu (pv 0) (xl (bQ (aa aR (aa aR av))) (pv 3)) (fun _ _=>rfl)))
(ai (sv 5 nd (bQ av))
(ai (eQ bH rfl (iN rfl T.lT (aa (mO T.dR (pv 4)) av)) (gn 6 nd)
(ai (sv 7 nd (xl (xl (pv 4) (pv 6)) (aU cW ah (pv 3))))
(ai (eQ bH rfl (dj (cB hu (pv 0) aR (fun _ _=>rfl))) (gn 8 nd)
(ai (sv 9 nd (cI (xA rfl) (by rfl) T.Ms boot_max (aa (xl (xl (cB hu (pv 0) aR (fun _ _=>rfl)) (xt (pv 8) ah)) ah) (aa (xl (xl (cB hu (pv 0) aR (fun _ _=>rfl)) (xt (pv 8) ah)) ah) av))))
(ao (bM (PW.pt (pw_and (aW cG (xt (pv 8) (pv 3)) (pv 6) (aZ _)) (pw_and1 (aW sm (pv 9) (pv 2) (aZ _)))))
(ao (sv 7 nd (aU eR (pv 7) (xt (pv 8) ah))))
bb))))
(ao (bM (PW.pt (pw_and (aW cG (xl (xl (pv 4) (pv 6)) ah) (pv 1) (aZ _)) (pw_and (aW sm (xl (xl (pv 4) (pv 6)) ah) (pv 2) (aZ _)) (pw_and1 (aW iG (pv 7) ah (aZ _))))))
(ao (bJ (qA (pv 5) (dg (aa (xl (xl (pv 4) (pv 6)) (aU cW ah (pv 3))) (aa (pv 6) (aa (pv 7) av)))))))
bb)))))
(ao (a6 (gJ (tn:=["_law_key"]) (cn:=[]) (cj:=[]) rfl Ee (dj (cI qu (by rfl) T.qB boot_sorted (aa (pv 5) av))) (fun _ _ _ _=>(eu (i:=0) (show(["_law_key"]:List Str).Nodup by decide +kernel) rfl (Or.inl rfl))) (fun _ _ _ _=>mF) (fun _ _ _ _=>(dg (aa (jg (nM (K:=K) rfl) (pv 0) ah (fun _ _=>rfl)) (aa (jg (nM (K:=K) rfl) (pv 0) ah (fun _ _=>rfl)) av)))))))))),?_⟩
  refine⟨fun σ' H'=> ∃(pR:Addr) (GB:List Addr),σ'=[some (.ref sd),some (.str aI),some (.int day),some (.int (if aO=true then 1 else 0)),some (.ref pR),none,none,none,none,none]/\aD H H'/\H' pR=some (.lst (GB.map V.ref))/\eU H' (S.rows aO) GB,?_,?_⟩
  ·refine⟨_,rfl,(by show 2<=sizeLine; decide),fun p9 n9=>⟨_,rfl,?_⟩⟩
   have t9:=aD.new (o:= .lst [V.str "credits",.str "bills"]) n9
   have B9:=hB.same t9
   cases aO with
   |true=>exact⟨p9,_,_,.str "bills",rfl,rfl,bE.of ag,rfl,sd,_,rfl,B9.gB,g.pb,g.ir,rfl,t9,B9.hb,B9.rb⟩
   |false=>exact⟨p9,_,_,.str "credits",rfl,rfl,bE.of ag,rfl,sd,_,rfl,B9.gC,g.pc,g.cps,rfl,t9,B9.hc,B9.rc⟩
  rintro σ H1 ⟨pR,GB,rfl,s1,Yn,Yo⟩
  refine⟨bp _,fun pk nk=>?_⟩
  have VZ:=s1.free nk
  have s1k:aD H (upd H1 pk (.lst [])):=(s1.trans (aD.new nk))
  have hlR:=Yo.length
  have A4:(S.rows aO).length<=60:=by
   cases aO with
   |true=>exact aY wf.lb hn
   |false=>exact aY wf.lc hn
  refine⟨_,rfl,pR,_,rfl,.inl (bE.of (aD.new nk _ _ Yn)),((GB.map V.ref).length:Int),rfl,by lia,by rw[ae]; lia,?_⟩
  rw[dI]
  refine jr (lo:=0) (n:=(GB.map V.ref).length) (fun i σ H2=> ∃(xs:List V) (x6 x7 x8 x9:Option V),σ=[some (.ref sd),some (.str aI),some (.int day),some (.int (if aO=true then 1 else 0)),some (.ref pR),some (.ref pk),x6,x7,x8,x9]/\aD H1 H2/\H2 pk=some (.lst xs)/\fZ H2 ((kD S aO aI day i).map (gD S aO day)) xs)
   ⟨[],none,none,none,none,rfl,aD.new nk,ag,.nil⟩ ?_ ?_
  ·rintro i σ H2 hi ⟨xs,x6,x7,x8,x9,rfl,s2,hx,hT⟩
   rw[jq]
   have vV:i < (S.rows aO).length:=by rw[ae] at hi; lia
   obtain⟨r,ri,Kb⟩:=Yo.at vV
   have ar:rH (GB.map V.ref) (i:Int)=some (.ref r):=cz (by rw[aB,ri]; rfl)
   have tq:=s2 _ _ Yn
   have yc:=s2 _ _ Kb
   have B2:=hB.same (s1.trans s2)
   obtain⟨ms,m1,m2⟩:=B2.hm
   have Of:xs.length<=i:=by
    have:=aL hT
    rw[ae] at this
    have:=Ds (S:=S) (aO:=aO) (aI:=aI) (day:=day) (i:=i)
    lia
   refine⟨_,rfl,_,rfl,pR,_,_,.ref r,rfl,rfl,bE.of tq,ar,_,rfl,_,_,rfl,rfl,r,_,_,_,rfl,rfl,bE.of yc,Oj aO _,?_⟩
   refine⟨_,rfl,sd,_,rfl,B2.gM,g.pm,rfl,⟨_,bE.of m1⟩,?_⟩
   refine fX (K:=K) (a:=g.pm) (xs:=ms) (fun j σ H3=> ∃(x8 x9:Option V),σ=[some (.ref sd),some (.str aI),some (.int day),some (.int (if aO=true then 1 else 0)),some (.ref pR),some (.ref pk),some (.int (i:Int)),some (.int (sG aO ((S.rows aO).getD i default) - (((S.made.take j).filter (S.cnt aO i day)).map (·.2.2)).sum)),x8,x9]/\H3=H2)
    ⟨x8,x9,by simp[List.take_zero],rfl⟩ (fun j σ H3 _ ⟨_,_,_,e⟩=>by rw[e]; exact bE.of m1) ?_ ?_
   ·rintro j x σ H3 Yp ⟨x8,x9,rfl,rfl⟩
    have hj:j < S.made.length:=by have:=(au.mp Yp).1; have:=aL m2; lia
    have RZ:=af hj
    obtain⟨v,hv,p8,rfl,R0⟩:=bG m2 RZ
    rw[Yp] at hv
    obtain rfl:x= .ref p8:=aF hv
    have tM:=wf.m _ (bF hj)
    have kI:=ff (S.cnt aO i day) RZ
    generalize S.made[j]=t at R0 tM kI
    obtain⟨qc,_,ac,hqc⟩:=B2.lc tM.1
    obtain⟨qb,_,ab,hqb⟩:=B2.lb tM.2
    refine⟨_,rfl,sd,_,rfl,B2.gC,_,rfl,p8,_,_,.int t.1,rfl,rfl,cm.of R0,rfl,g.pc,_,_,.ref qc,rfl,rfl,bE.of B2.hc,ac,qc,_,_,.int (S.cr t.1).a,rfl,rfl,bE.of hqc,rfl,?_⟩
    refine⟨_,rfl,sd,_,rfl,B2.gB,_,rfl,p8,_,_,.int t.2.1,rfl,rfl,cm.of R0,rfl,g.pb,_,_,.ref qb,rfl,rfl,bE.of B2.hb,ab,qb,_,_,.int (S.bl t.2.1).a,rfl,rfl,bE.of hqb,rfl,_,_,rfl,?_⟩
    have no:S.cnt aO i day t=false-> ∃(y8 y9:Option V),[some (V.ref sd),some (.str aI),some (.int day),some (.int (if aO=true then 1 else 0)),some (.ref pR),some (.ref pk),some (.int (i:Int)),some (.int (sG aO ((S.rows aO).getD i default) - (((S.made.take j).filter (S.cnt aO i day)).map (·.2.2)).sum)),some (.ref p8),some (.int (if(S.cr t.1).a < (S.bl t.2.1).a then(S.bl t.2.1).a else(S.cr t.1).a))]=[some (.ref sd),some (.str aI),some (.int day),some (.int (if aO=true then 1 else 0)),some (.ref pR),some (.ref pk),some (.int (i:Int)),some (.int (sG aO ((S.rows aO).getD i default) - (((S.made.take (j + 1)).filter (S.cnt aO i day)).map (·.2.2)).sum)),y8,y9]/\H3=H3:=fun z=>by
     refine⟨some (.ref p8),some (.int (if(S.cr t.1).a < (S.bl t.2.1).a then(S.bl t.2.1).a else(S.cr t.1).a)),?_,rfl⟩
     rw[aQ (by rw[z]; exact aV),bP] at kI
     rw[kI]
    refine⟨_,rfl,_,rfl,p8,_,_,_,rfl,rfl,cm.of R0,EO aO t,_,rfl,rfl,_,rfl,cy (fun z1=>?_) (fun z1=>bR (no ?_))⟩
    ·refine⟨_,rfl,_,rfl,_,_,rfl,rfl,_,rfl,cy (fun z2=>?_) (fun z2=>no ?_)⟩
     ·refine⟨_,rfl,_,rfl,p8,_,_,.int t.2.2,rfl,rfl,cm.of R0,rfl,_,_,rfl,rfl,some (.ref p8),some (.int (if(S.cr t.1).a < (S.bl t.2.1).a then(S.bl t.2.1).a else(S.cr t.1).a)),?_,rfl⟩
      have e1:spotOf aO t=i:=by
       have:=aN z1
       injection this with this
       lia
      have e2:S.fU t<=day:=aN z2
      have yes:S.cnt aO i day t=true:=by
       unfold Bk.cnt
       rw[aE e1,aE e2]; rfl
      rw[a7 yes] at kI
      rw[kI,aM,List.sum_append]
      show[_,_,_,_,_,_,_,some (V.int (_ - _ - t.2.2)),_,_]=_
      simp only[List.map_cons,List.map_nil,List.sum_cons,List.sum_nil,Int.add_zero,Int.sub_sub]
     ·unfold Bk.cnt
      have e2: ¬ S.fU t<=day:=fun q=>z2 (aE q)
      rw[bf e2,lD]
    ·unfold Bk.cnt
     have e1: ¬ spotOf aO t=i:=fun q=>z1 (aE (by rw[q]))
     rw[bf e1,pW]
   ·rintro σ H3 ⟨x8,x9,rfl,rfl⟩
    have Hd:ms.length=S.made.length:=(aL m2).symm
    have Ez:sG aO ((S.rows aO).getD i default) - (((S.made.take ms.length).filter (S.cnt aO i day)).map (·.2.2)).sum=S.rest aO i day:=by
     rw[Hd,a8]; rfl
    rw[Ez]
    have no:pD S aO aI day i=false-> ∃(ys:List V) (y6 y7 y8 y9:Option V),[some (V.ref sd),some (.str aI),some (.int day),some (.int (if aO=true then 1 else 0)),some (.ref pR),some (.ref pk),some (.int (i:Int)),some (.int (S.rest aO i day)),x8,x9]=[some (.ref sd),some (.str aI),some (.int day),some (.int (if aO=true then 1 else 0)),some (.ref pR),some (.ref pk),y6,y7,y8,y9]/\aD H1 H3/\H3 pk=some (.lst ys)/\fZ H3 ((kD S aO aI day (i + 1)).map (gD S aO day)) ys:=fun z=>
     ⟨xs,_,_,_,_,rfl,s2,hx,by rw[EN,aQ (by rw[z]; exact aV),bP]; exact hT⟩
    generalize Gw:(S.rows aO).getD i default=row at yc
    have Om:pD S aO aI day i=(decide (row.aI=aI) && (decide (row.a<=day) && decide (0 < S.rest aO i day))):=by unfold pD; rw[Gw]
    refine⟨_,rfl,_,rfl,pR,_,_,.ref r,rfl,rfl,bE.of tq,ar,r,_,_,.str row.aI,rfl,rfl,bE.of yc,rfl,_,rfl,rfl,_,rfl,cy (fun d1=>?_) (fun d1=>bR (no (by rw[Om,bf (qP d1)]; rfl)))⟩
    refine⟨_,rfl,_,rfl,pR,_,_,.ref r,rfl,rfl,bE.of tq,ar,r,_,_,.int row.a,rfl,rfl,bE.of yc,rfl,_,rfl,_,_,rfl,rfl,_,rfl,cy (fun d2=>?_) (fun d2=>bR (no (by rw[Om,bf (fun q=>d2 (aE q)),pW,lD])))⟩
    refine⟨_,rfl,_,_,rfl,rfl,_,rfl,cy (fun d3=>?_) (fun d3=>no (by rw[Om,bf (fun q=>d3 (aE q)),lD,lD]))⟩
    have yes:pD S aO aI day i=true:=by
     rw[Om,aE (ua d1),aE (aN d2),aE (aN d3)]; rfl
    refine⟨_,rfl,.inl ⟨rfl,_,bE.of hx⟩,_,rfl,_,rfl,pR,_,_,.ref r,rfl,rfl,bE.of tq,ar,_,rfl,_,_,rfl,rfl,r,_,_,_,rfl,rfl,bE.of yc,Ol aO row,_,rfl,_,rfl,(by show 3<=sizeLine; decide),fun p8 n8=>?_⟩
    have t8:=aD.new (o:= .tup [V.int (keyOf aO row),.int (i:Int),.int (S.rest aO i day)]) n8
    refine⟨pk,xs,_,rfl,rfl,t8 _ _ hx,bg (by lia),xs ++ [.ref p8],_,_,_,_,rfl,(s2.trans t8).cX nk,ag,?_⟩
    rw[EN,a7 yes,aM,Gw]
    exact fZ.snoc (hT.mono (t8.tk.trans (fI (t8 _ _ hx)))) (dA (t8 _ _ hx) _ _ ag)
  ·rintro σ H2 ⟨xs,x6,x7,x8,x9,rfl,s2,hx,hT⟩
   have Of:=aL hT
   have TC:=Ds (S:=S) (aO:=aO) (aI:=aI) (day:=day) (i:=(GB.map V.ref).length)
   have EH:=RX (S:=S) (aO:=aO) (aI:=aI) (day:=day) (i:=(GB.map V.ref).length)
   have l6:(GB.map V.ref).length=(S.rows aO).length:=by rw[ae]; lia
   have hle: ∀x∈kD S aO aI day (GB.map V.ref).length,x.2 < 1000:=fun x hx=>by have:=EH x hx; lia
   have jL:S.gK aO aI day=(d9 (kD S aO aI day (GB.map V.ref).length)).map fun x=>(x.2,S.rest aO x.2 day):=by rw[l6]; exact BV
   have hnd:=RY (S:=S) (aO:=aO) (aI:=aI) (day:=day) (i:=(GB.map V.ref).length)
   generalize kD S aO aI day (GB.map V.ref).length=ks at hT Of TC hle jL hnd
   rw[ae] at Of
   refine⟨_,rfl,pk,xs,_,tG,rfl,bE.of hx,(by lia),hT,(fun t ht=>?_),(fun t ht u hu=>?_),fun D ys us nD Ka perm le=>?_⟩
   ·obtain⟨x,_,rfl⟩:=bC.mp ht
    simp[gD]
   ·obtain⟨x,xS,rfl⟩:=bC.mp ht
    obtain⟨y,zF,rfl⟩:=bC.mp hu
    refine qC (u:=[S.rest aO x.2 day]) (v:=[S.rest aO y.2 day]) (hle x xS) (hle y zF) (fun e=>⟨by rw[e],lq hnd xS zF e⟩) ?_
    rw[HT.lJ,a7 rfl]; rfl
   ·have Qv:=sI hle hnd (fun x _=>rfl) perm le
    subst Qv
    have tD:=aD.new (o:= .lst ys) nD
    refine⟨D,rfl,⟨_,bE.of ag⟩,?_⟩
    have EI:=Ka.mono tD.tk
    generalize Lz:upd H2 D (.lst ys)=H3 at tD EI
    have Px:H3 D=some (.lst ys):=by rw[← Lz]; exact ag
    have s3:=(s1.trans s2).trans tD
    clear Lz Ka perm le hT
    have RH:=aL EI
    refine eA (K:=K) (a:=D) (xs:=ys) (fun D' i σ H6=>H3 D'=none/\ ∃v rs,σ=[v]/\aD H3 H6/\H6 D'=some (.lst rs)/\iH H6 (((d9 ks).take i).map fun x=>(x.2,S.rest aO x.2 day)) rs) (fun D' pE=>⟨pE,none,[],rfl,aD.new pE,ag,.nil⟩) (fun D' i σ H6 _ ⟨_,_,_,_,t3,_⟩=>bE.of (t3 _ _ Px)) ?_ ?_
    ·rintro D' i x σ H6 EJ ⟨pE,v,rs,rfl,t3,gj,hP⟩
     have hi:i < (d9 ks).length:=by
      have:=(au.mp EJ).1
      rw[ae] at RH
      lia
     have g0:((d9 ks).map (gD S aO day))[i]? =some (gD S aO day (d9 ks)[i]):=by rw[aB,af hi]; rfl
     obtain⟨v',hv,pp,e1,Hc⟩:=bG EI g0
     rw[EJ] at hv
     obtain rfl:x=v':=aF hv
     subst e1
     have nK:=ow hi
     have Gx:=t3 _ _ Hc
     generalize (d9 ks)[i]=z at Gx nK
     have Dq:rs.length<=100:=by
      have:=aL hP
      rw[ae,bh] at this
      have:=(cY ks).length_eq
      lia
     refine⟨_,rfl,pp,_,_,.int (z.2:Int),rfl,rfl,cm.of Gx,rfl,_,rfl,pp,_,_,.int (S.rest aO z.2 day),rfl,rfl,cm.of Gx,rfl,(by show 2<=sizeLine; decide),fun r6 m6=>?_⟩
     have t6:=aD.new (o:= .tup [V.int (z.2:Int),.int (S.rest aO z.2 day)]) m6
     refine⟨rs,t6 _ _ gj,bg (by lia),pE,_,rs ++ [.ref r6],rfl,(t3.trans t6).cX pE,ag,?_⟩
     rw[nK,aM]
     have tk:=t6.tk.trans (fI (o:= .lst (rs ++ [.ref r6])) (t6 _ _ gj))
     exact cA (hP.mono tk) ⟨r6,rfl,fI (o:= .lst (rs ++ [.ref r6])) (t6 _ _ gj) _ _ ag⟩
    ·rintro D' σ H6 pE ⟨_,v,rs,rfl,t3,gj,hP⟩
     refine k D' rs H6 (s3.trans t3) (s3.free pE) gj ?_
     rw[jL]
     rw[← RH,ae,a8] at hP
     exact hP
theorem yf {S:Bk}{aO:Bool}{aI:Str}{day:Int}{t:Nat×Int}(h:t∈S.gK aO aI day):t.1 < (S.rows aO).length:=by
 unfold Bk.gK at h
 obtain⟨k,hk,rfl⟩:=bC.mp h
 exact(kh.mp (eM.mp hk).1).1
theorem GC {S:Bk}{aO:Bool}{aI:Str}{day:Int}:(S.gK aO aI day).length<=(S.rows aO).length:=by
 rw[BV,ae,(cY _).length_eq]
 exact Ds
theorem vA (fU:Int)(bO:List Int):L2.placeOf fU bO < bO.length + 2:=by
 unfold L2.placeOf
 split
 ·lia
 ·have:=aX (fun l=>decide (l < fU)) bO
  lia
theorem yg (l:List Int)(i:Nat)(x:Int):(kj l i x).length=l.length:=by unfold kj; rw[List.length_set]
theorem ER (n:Nat)(b:Int):(List.replicate n [V.int b]).flatten=(List.replicate n b).map V.int:=by
 induction n with
 |zero=>rfl
 |succ n ih=>rw[c8,iK,ih,c8]; rfl
inductive Du (vs:List V)(H:Hp)(Q:VK)(E':XK):Prop
 |mk (sd pl:Addr)(S:Bk)(f:fB)(n:Nat)(aI:Str)(day:Int)(bO:List Int)(h1:vs=[.ref sd,.str aI,.int day,.ref pl])(h2:dm H sd S f)(h3:WF S n)(h4:n<=60)(h5:H pl=some (.tup (bO.map V.int)))(h6:bO.length<=11)(h7: ∀D H',aD H H'->H D=none->H' D=some (.lst ((S.wq aI day bO).map V.int))->Q (.ref D) H'):Du vs H Q E'
theorem qS:aS ["_law_state","_law_who","_law_day","_law_limits","_law_sums","_law_bill","_law_left","_law_late","_law_place"] ["_law_state","_law_who","_law_day","_law_limits"] (ax (top 64)):={}
theorem BW (T:Txt K mg):eF P w K mg base "_law_aged" 2 ["_law_state","_law_who","_law_day","_law_limits"] Du:=by
 have kJ:eF P w K mg base "_law_at_day" 1 ["_law_state","_law_who","_law_day","_law_spot"] uf:=oG T
 refine T.Bj.fj (k:=1) qS (fun f cK A outer s H vs Q E hr h=>?_)
 ·obtain⟨sd,pl,S,g,n,aI,day,bO,rfl,hB,wf,hn,hV,Dq,k⟩:=h
  have hu:=jE hr
  have nd:=qS.nd
  refine⟨_,(ai (sv 4 nd (aU yG (bQ (aa ah av)) (aU cW (mO T.dR (pv 3)) ah)))
(ai (eQ bH rfl (dj (fc kJ hr (aa (pv 0) (aa (pv 1) (aa (pv 2) (aa ah av)))))) (iM rfl (bX (gn 5 nd) (bX (gn 6 nd) gu)))
(ai (sv 7 nd (aU eR (pv 2) (xl (xl (cB hu (pv 0) aR (fun _ _=>rfl)) (pv 5)) ah)))
(ai (sv 8 nd ah)
(ij (bM (aW iG (pv 7) ah (aZ _))
(ao (sv 8 nd (aU cW ah (mO T.dR (gJ (tn:=["_law_limit"]) (cn:=["_law_late"]) (cj:=[7]) rfl (ig (yI:=[(".0",.local),("_law_limit",.local),("_law_late",.cell)])) (Hu (pv 3)) (fun _ _ _ _=>(eu (i:=0) (show(["_law_limit","_law_late"]:List Str).Nodup by decide +kernel) rfl (Or.inl rfl))) (fun _ _ _ _=>(mG (aW jD (pv 0) (pv 1) (aZ _)))) (fun _ _ _ _=>(pv 0)))))))
bb)
(ao (lG (aU cW (xl (pv 4) (pv 8)) (pv 6)) (oY (pv 4) (pv 8) set_list)))))))
(ao (a6 (pv 4))))),?_⟩
  refine⟨(by show 1<=sizeLine; decide),fun p9 n9=>?_⟩
  have t9:=aD.new (o:= .lst [V.int 0]) n9
  have Jj:(bO.map V.int).length=bO.length:=ae _
  refine⟨_,rfl,pl,_,rfl,.inr (cm.of (t9 _ _ hV)),_,_,rfl,rfl,p9,_,_,rfl,rfl,ag,by lia,by lia,?_,fun ps GD=>?_⟩
  ·show 1 * _<=sizeLine
   rw[Jj,en]
   lia
  have e2:(((bO.map V.int).length:Int) + 2).toNat=bO.length + 2:=by rw[Jj]; lia
  rw[e2,ER]
  have zJ:=aD.new (o:= .lst ((List.replicate (bO.length + 2) (0:Int)).map V.int)) GD
  have Dr:=t9.trans zJ
  have l6:upd (upd H p9 (.lst [V.int 0])) ps (.lst ((List.replicate (bO.length + 2) (0:Int)).map V.int)) ps=some (.lst ((List.replicate (bO.length + 2) (0:Int)).map V.int)):=ag
  have GF:H ps=none:=t9.free GD
  generalize upd (upd H p9 (.lst [V.int 0])) ps (.lst ((List.replicate (bO.length + 2) (0:Int)).map V.int))=H1 at Dr l6
  refine⟨_,rfl,_,rfl,_,rfl,sd,S,g,n,true,aI,day,rfl,hB.same Dr,wf,hn,fun D ms H2 s2 nD hD hP=>?_⟩
  refine⟨D,rfl,⟨_,bE.of hD⟩,?_⟩
  have Pj:=Dr.trans s2
  have tM: ∀t∈S.gK true aI day,t.1 < S.aG.length:=fun t ht=>yf (aO:=true) ht
  have V0:S.wq aI day bO=(S.gK true aI day).foldl (fun l t=>kj l (L2.placeOf (day - (S.bl t.1).b) bO) t.2) (List.replicate (bO.length + 2) 0):=rfl
  rw[V0] at k
  generalize S.gK true aI day=ts at hP tM k
  have V3:D≠ps:=fun e=>by rw[e,l6] at nD; cases nD
  refine fX (K:=K) (a:=D) (xs:=ms) (fun i σ H3=> ∃(l:List Int) (x5 x6 x7 x8:Option V),σ=[some (.ref sd),some (.str aI),some (.int day),some (.ref pl),some (.ref ps),x5,x6,x7,x8]/\aD H H3/\H3 D=some (.lst ms)/\iH H3 ts ms/\H3 ps=some (.lst (l.map V.int))/\l.length=bO.length + 2/\l=(ts.take i).foldl (fun l t=>kj l (L2.placeOf (day - (S.bl t.1).b) bO) t.2) (List.replicate (bO.length + 2) 0))
   ⟨_,none,none,none,none,rfl,Pj,hD,hP,s2 _ _ l6,eN,rfl⟩ (fun i σ H3 _ ⟨_,_,_,_,_,_,_,h,_⟩=>bE.of h) ?_ ?_
  ·rintro i x σ H3 hx ⟨l,x5,x6,x7,x8,rfl,s3,Px,LF,HY,Jk,he⟩
   have hi:i < ts.length:=by have:=(au.mp hx).1; have:=aL LF; lia
   have oo:=af hi
   obtain⟨v,hv,p,rfl,hp⟩:=bG LF oo
   rw[hx] at hv
   obtain rfl:x= .ref p:=aF hv
   have hm:=tM _ (bF hi)
   rw[jy (fun l t=>kj l (L2.placeOf (day - (S.bl t.1).b) bO) t.2) ts _ oo,← he]
   generalize ts[i]=t at hp hm
   have B3:=hB.same s3
   obtain⟨q,_,aq,hq⟩:=B3.lb hm
   refine⟨p,_,rfl,cm.of hp,rfl,_,_,rfl,_,_,rfl,rfl,?_⟩
   refine⟨_,rfl,_,rfl,sd,_,rfl,B3.gB,_,rfl,g.pb,_,_,.ref q,rfl,rfl,bE.of B3.hb,aq,q,_,_,.int (S.bl t.1).b,rfl,rfl,bE.of hq,rfl,_,_,rfl,rfl,?_⟩
   refine⟨fun σ' H'=>σ'=[some (.ref sd),some (.str aI),some (.int day),some (.ref pl),some (.ref ps),some (.int (t.1:Int)),some (.int t.2),some (.int (day - (S.bl t.1).b)),some (.int (L2.placeOf (day - (S.bl t.1).b) bO:Int))]/\aD H3 H',?_,?_⟩
   ·refine⟨_,rfl,_,_,rfl,rfl,_,rfl,cy (fun z=>?_) (fun z=>?_)⟩
    ·have z':0 < (day - (S.bl t.1).b):=aN z
     refine⟨_,rfl,pl,rfl,⟨_,cm.of (s3 _ _ hV)⟩,?_⟩
     refine A3 (K:=K) (a:=pl) (xs:=bO.map V.int) (fun D' j σ H6=>H3 D'=none/\ ∃v,σ=[v,some (.int (day - (S.bl t.1).b))]/\aD H3 H6/\H6 D'=some (.lst (((bO.take j).filter fun l=>decide (l < (day - (S.bl t.1).b))).map V.int))) (fun D' pE=>⟨pE,none,rfl,aD.new pE,ag⟩) (fun D' j σ H6 _ ⟨_,_,_,t3,_⟩=>cm.of (t3 _ _ (s3 _ _ hV))) ?_ ?_
     ·rintro D' j x σ H6 EJ ⟨pE,v,rfl,t3,gj⟩
      rw[aB] at EJ
      obtain⟨y,hy,rfl⟩:=bq.mp EJ
      have kI:=ff (fun l=>decide (l < (day - (S.bl t.1).b))) hy
      have hlen:((bO.take j).filter fun l=>decide (l < (day - (S.bl t.1).b))).length<=100:=by
       have:=aX (fun l=>decide (l < (day - (S.bl t.1).b))) (bO.take j)
       rw[bh] at this
       lia
      refine⟨_,rfl,_,rfl,_,_,rfl,rfl,_,rfl,cy (fun q=>?_) (fun q=>?_)⟩
      ·rw[a7 q] at kI
       refine⟨_,rfl,_,gj,bg (by rw[ae]; lia),pE,_,rfl,t3.cX pE,?_⟩
       rw[ag,kI,aM]
       rfl
      ·rw[aQ q,bP] at kI
       refine⟨pE,_,rfl,t3,?_⟩
       rw[kI]
       exact gj
     ·rintro D' σ H6 pE ⟨_,v,rfl,t3,gj⟩
      refine⟨D',_,rfl,.inl (bE.of gj),_,_,rfl,rfl,?_,t3⟩
      have e:L2.placeOf (day - (S.bl t.1).b) bO=1 + (bO.filter fun l=>decide (l < (day - (S.bl t.1).b))).length:=by
       unfold L2.placeOf
       rw[aQ (by lia)]
      rw[e,ae,ae,a8]
      simp
    ·have z': ¬ 0 < (day - (S.bl t.1).b):=fun q=>z (aE q)
     have e:L2.placeOf (day - (S.bl t.1).b) bO=0:=by
      unfold L2.placeOf
      rw[a7 (by lia)]
     rw[e]
     exact⟨rfl,aD.refl _⟩
   ·rintro σ' H4 ⟨rfl,s4⟩
    have Yq:=vA (day - (S.bl t.1).b) bO
    generalize L2.placeOf (day - (S.bl t.1).b) bO=j at Yq
    have Pz:=s4 _ _ HY
    refine⟨_,rfl,_,rfl,ps,_,_,.int (l.getD j 0),rfl,rfl,bE.of Pz,pC (by lia),_,rfl,_,_,rfl,rfl,?_⟩
    refine⟨_,rfl,_,rfl,ps,_,_,j,rfl,rfl,Pz,qL (by rw[ae]; lia),?_⟩
    have tk:=fI (o:= .lst ((l.map V.int).set j (.int (l.getD j 0 + t.2)))) Pz
    refine⟨kj l j t.2,_,_,_,_,rfl,(s3.trans s4).cX GF,?_,(LF.mono s4.tk).mono tk,?_,?_,rfl⟩
    ·rw[aA V3]; exact s4 _ _ Px
    ·rw[ag]
     unfold kj
     rw[G4]
    ·rw[yg]; exact Jk
  ·rintro σ H3 ⟨l,x5,x6,x7,x8,rfl,s3,Px,LF,HY,Jk,he⟩
   rw[← aL LF,a8] at he
   rw[he] at HY
   exact⟨_,rfl,k ps H3 s3 GF HY⟩
def pJ (H:Hp)(ok:Addr->Prop):Ax->V->Prop
 | .int i,v=>v= .int i
 | .txt s,v=>v= .str s
 | .sets l,v=> ∃D ms,v= .ref D/\ok D/\H D=some (.lst ms)/\g8 H l ms
 | .pairs l,v=> ∃D ms,v= .ref D/\ok D/\H D=some (.lst ms)/\iH H l ms
 | .ints l,v=> ∃D,v= .ref D/\ok D/\H D=some (.lst (l.map V.int))
theorem pJ.keep {H H':Hp}{ok Yr:Addr->Prop}{a:Ax}{v:V}(h:pJ H ok a v)(kl: ∀D xs,ok D->H D=some (.lst xs)->Yr D/\H' D=some (.lst xs))(kt:cF H H'):pJ H' Yr a v:=by
 cases a with
 |int i=>exact h
 |txt s=>exact h
 |sets l=>
  obtain⟨D,ms,e,o,z,t⟩:=h
  obtain⟨o',z'⟩:=kl _ _ o z
  exact⟨D,ms,e,o',z',t.mono kt⟩
 |pairs l=>
  obtain⟨D,ms,e,o,z,t⟩:=h
  obtain⟨o',z'⟩:=kl _ _ o z
  exact⟨D,ms,e,o',z',iH.mono t kt⟩
 |«ints» l=>
  obtain⟨D,e,o,z⟩:=h
  obtain⟨o',z'⟩:=kl _ _ o z
  exact⟨D,e,o',z'⟩
inductive vB (vs:List V)(H:Hp)(Q:VK)(E':XK):Prop
 |mk (sd pd:Addr)(S:Bk)(f:fB)(n:Nat)(h1:vs=[.ref sd,.ref pd])(h2:dm H sd S f)(h3:WF S n)(h4:n<=60)(h5:((∃(o:Bool) (aI:Str) (day:Int),H pd=some (.tup (bu.vs (.ask o aI day)))/\ ∀v H',aD H H'->pJ H' (fun D=>H D=none) (.pairs (S.gK o aI day)) v->Q v H')∨(∃(aI:Str) (day:Int) (bO:List Int) (pl:Addr),H pd=some (.tup [.str "ages",.str aI,.int day,.ref pl])/\H pl=some (.tup (bO.map V.int))/\bO.length<=11/\ ∀v H',aD H H'->pJ H' (fun D=>H D=none) (.ints (S.wq aI day bO)) v->Q v H'))):vB vs H Q E'
theorem rY:aS ["_law_state","_law_deed"] ["_law_state","_law_deed"] (ax (top 65)):={}
theorem BX {H:Hp}: ∀l:List Int,gQ H (l.map Dt.int) (l.map V.int)
 |[]=>c9.mpr rfl
 |x :: l=>bL.mpr ⟨_,_,rfl,dz.mpr rfl,BX l⟩
theorem tN (T:Txt K mg):eF P w K mg base "_law_reported" 3 ["_law_state","_law_deed"] vB:=by
 have kJ:eF P w K mg base "_law_at_day" 1 ["_law_state","_law_who","_law_day","_law_spot"] uf:=oG T
 have BY:eF P w K mg base "_law_aged" 2 ["_law_state","_law_who","_law_day","_law_limits"] Du:=BW T
 refine T.tF.fj (k:=2) rY (fun f cK A outer s H vs Q E hr h=>?_)
 ·obtain⟨sd,pd,S,g,n,rfl,hB,wf,hn,hk⟩:=h
  refine⟨_,(ai (bM (aW cG (xt (pv 1) ah) aR (aZ _))
(ao (a6 (fc BY hr (aa (pv 0) (aa (xt (pv 1) ah) (aa (xt (pv 1) ah) (aa (xt (pv 1) ah) av)))))))
bb)
(ao (a6 (fc kJ hr (aa (pv 0) (aa (xt (pv 1) ah) (aa (xt (pv 1) ah) (aa (fQ js (by rfl) T.vg boot_int (aa (fb cG (xt (pv 1) ah) aR (aZ _)) av)) av)))))))),?_⟩
  rcases hk with⟨o,aI,day,hd,k⟩|⟨aI,day,bO,pl,hd,hV,Dq,k⟩
  ·have iZ:(if o=true then("owed":Str) else "free")≠"ages":=by cases o <;> decide +kernel
   refine⟨_,rfl,pd,_,_,.str (if o=true then "owed" else "free"),rfl,rfl,cm.of hd,rfl,rfl,false,je iZ,bR ?_⟩
   refine⟨_,rfl,_,rfl,pd,_,_,.str aI,rfl,rfl,cm.of hd,rfl,_,rfl,pd,_,_,.int day,rfl,rfl,cm.of hd,rfl,_,rfl,pd,_,_,.str (if o=true then "owed" else "free"),rfl,rfl,cm.of hd,rfl,rfl,.inr ⟨o,?_,sd,S,g,n,o,aI,day,rfl,hB,wf,hn,fun D ms H2 s2 nD hD hP=>?_⟩⟩
   ·cases o with
    |true=>exact cL (fun x=>[x]) (ye _)
    |false=>exact cL (fun x=>[x]) (je (by decide +kernel))
   ·exact k _ _ s2 ⟨D,ms,rfl,nD,hD,hP⟩
  ·refine⟨_,rfl,pd,_,_,.str "ages",rfl,rfl,cm.of hd,rfl,rfl,true,ye _,fv ?_⟩
   refine⟨_,rfl,_,rfl,pd,_,_,.str aI,rfl,rfl,cm.of hd,rfl,_,rfl,pd,_,_,.int day,rfl,rfl,cm.of hd,rfl,_,rfl,pd,_,_,.ref pl,rfl,rfl,cm.of hd,rfl,sd,pl,S,g,n,aI,day,bO,rfl,hB,wf,hn,hV,Dq,fun D H2 s2 nD hD=>?_⟩
   exact k _ _ s2 ⟨D,rfl,nD,hD⟩
theorem fh {X:Cx}{K:PySem.W.Frag}{e:Expr}{f:Str}{pos:Pos}{ta:TE}(h:X.K=K)(he:PE X e ta)(hb:attributeBase e f X.env (eval e X.env)=eval e X.env):PE X (.Attribute e f pos) (Qp K ta f):=by subst h; exact bV he hb
def BZ (A:dQ)(aO:Bool):Addr:=if aO=true then A.dJ else A.dS
def zQ (aO:Bool)(k:Nat)(r:Rw):List (Str×V):=if aO=true then fk k r else eV k r
theorem yh (aO:Bool)(k:Nat)(r:Rw):(zQ aO k r).lookup ("number":Str)=some (V.int k):=by cases aO <;> rfl
theorem Oo (aO:Bool)(k:Nat)(r:Rw):(zQ aO k r).lookup ("day":Str)=some (V.int r.a):=by cases aO <;> rfl
theorem GG (aO:Bool)(k:Nat)(r:Rw):(zQ aO k r).lookup ("amount":Str)=some (V.int (sG aO r)):=by cases aO <;> rfl
theorem zR {A:dQ}(G:jn K mg A)(aO:Bool):wc K (BZ A aO):=by cases aO; exact G.cZ; exact G.dU
theorem yi {A:dQ}(G:jn K mg A)(aO:Bool):b0 K (BZ A aO) "number":=by cases aO; exact G.eD; exact G.eJ
theorem Oq {A:dQ}(G:jn K mg A)(aO:Bool):b0 K (BZ A aO) "day":=by cases aO; exact G.iV; exact G.mQ
theorem GH {A:dQ}(G:jn K mg A)(aO:Bool):b0 K (BZ A aO) "amount":=by cases aO; exact G.lj; exact G.mS
def LG (A:dQ)(H:Hp)(S:Bk)(aO:Bool)(ks:List Nat)(qs:List Addr):Prop:=Paired (fun(k:Nat) q=>ee H q (BZ A aO) (zQ aO k ((S.rows aO).getD k default))) ks qs
def pR (S:Bk)(aO:Bool)(day:Int)(k:Nat):Bool:=decide (((S.rows aO).getD k default).a<=day) && decide (0 < S.rest aO k day)
inductive qT (A:dQ)(vs:List V)(H:Hp)(Q:VK)(E':XK):Prop
 |mk (pw pt:Addr)(S:Bk)(f:eB)(n:Nat)(aO:Bool)(day:Int)(ks:List Nat)(qs:List Addr)(h1:vs=[.ref pw,.ref pt,.int (if aO=true then 1 else 0),.int day])(h2:dB A H pw S f)(h3:WF S n)(h4:S.made.length<=1000000)(h5:H pt=some (.lst (qs.map V.ref)))(h6:LG A H S aO ks qs)(h7:ks.length<=100)(h8: ∀D ms H',aD H H'->H D=none->H' D=some (.lst ms)->iH H' ((ks.filter (pR S aO day)).map fun k=>(k,S.rest aO k day)) ms->Q (.ref D) H'):qT A vs H Q E'
theorem l9:aS ["work","told","place","day","counting","remaining","item","rest"] ["work","told","place","day"] (ax (top 38)):={}
theorem nu (T:Txt K mg){A:dQ}(G:jn K mg A):eF P w K mg base "remaining_at" 4 ["work","told","place","day"] (qT A):=by
 have xa:eF P w K mg base "counting_at" 3 ["work","day"] (pI A):=w9 T G
 refine T.ve.fj (k:=3) l9 (fun f cK A' outer s H vs Q E hr h=>?_)
 ·obtain⟨pw,pt,S,g,n,aO,day,ks,qs,rfl,hW,wf,hz,yd,hI,EH,k⟩:=h
  have nd:=l9.nd
  have hlen:=aL hI
  refine⟨_,(ai (sv 4 nd (fc xa hr (aa (pv 0) (aa (pv 3) av))))
(ai (sv 5 nd (bQ av))
(ai (eQ bH rfl (dj (pv 1)) (gn 6 nd)
(ai (sv 7 nd (aU eR (bV (pv 6) rfl) (cI (rN rfl) (by rfl) T.IJ boot_sum (aa (gJ (tn:=["setting"]) (cn:=["place","item"]) (cj:=[2,6]) rfl (zO (yI:=[(".0",.local),("setting",.local),("item",.cell),("place",.cell)])) (dj (pv 4)) (fun _ _ _ _=>(eu (i:=0) (show(["setting","place","item"]:List Str).Nodup by decide +kernel) rfl (Or.inl rfl))) (fun _ _ _ _=>(mG (aW cG (jg (nM (K:=K) rfl) (pv 0) (pv 1) (fun _ _=>rfl)) (fh (K:=K) rfl (pv 2) rfl) (aZ _)))) (fun _ _ _ _=>(jg (nM (K:=K) rfl) (pv 0) ah (fun _ _=>rfl)))) av))))
(ao (bM (PW.pt (pw_and (aW sm (bV (pv 6) rfl) (pv 3) (aZ _)) (pw_and1 (aW iG (pv 7) ah (aZ _)))))
(ao (bJ (qA (pv 5) (dg (aa (bV (pv 6) rfl) (aa (pv 7) av))))))
bb))))
(ao (a6 (pv 5)))))),?_⟩
  refine⟨_,rfl,_,rfl,pw,S,g,n,day,rfl,hW,wf,hz,fun pc cs H1 s1 nc hc hT=>?_⟩
  refine⟨bp _,fun pr nr=>?_⟩
  have nr0:=s1.free nr
  have sr:=aD.new (o:= .lst []) nr
  refine⟨_,rfl,pt,rfl,⟨_,bE.of ((s1.trans sr) _ _ yd)⟩,?_⟩
  refine fX (K:=K) (a:=pt) (xs:=qs.map V.ref) (fun i σ H2=> ∃(rs:List V) (x6 x7:Option V),σ=[some (.ref pw),some (.ref pt),some (.int (if aO=true then 1 else 0)),some (.int day),some (.ref pc),some (.ref pr),x6,x7]/\aD H1 H2/\H2 pr=some (.lst rs)/\iH H2 (((ks.take i).filter (pR S aO day)).map fun k=>(k,S.rest aO k day)) rs)
   ⟨[],none,none,rfl,sr,ag,.nil⟩ (fun i σ H2 _ ⟨_,_,_,_,s2,_⟩=>bE.of ((s1.trans s2) _ _ yd)) ?_ ?_
  ·rintro i x σ H2 hx ⟨rs,x6,x7,rfl,s2,yc,hP⟩
   rw[aB] at hx
   obtain⟨q,hq,rfl⟩:=bq.mp hx
   have hi:i < ks.length:=by have:=(au.mp hq).1; lia
   have oo:=af hi
   obtain⟨q',su,lu⟩:=bG hI oo
   rw[hq] at su
   obtain rfl:q=q':=aF su
   have kI:=ff (pR S aO day) oo
   generalize ks[i]=kk at lu kI
   have s02:=s1.trans s2
   obtain⟨dq,Ay⟩:=lu.same s02
   have KW:=s2 _ _ hc
   have FI:=hT.mono s2.tk
   have qz:=aL FI
   have TK:=aX (fun t=>decide (S.fU t<=day)) S.made
   have A4:rs.length<=100:=by
    have e1:=aL hP
    have e2:=aX (pR S aO day) (ks.take i)
    rw[ae] at e1
    rw[bh] at e2
    lia
   refine⟨_,rfl,q,_,dq,_,_,rfl,Ay,zR G aO,GH G aO,GG aO _ _,_,rfl,pc,rfl,⟨_,bE.of KW⟩,?_⟩
   refine eA (K:=K) (a:=pc) (xs:=cs) (fun D j σ H6=>H2 D=none/\ ∃v,σ=[v,some (.int (if aO=true then 1 else 0)),some (.ref q)]/\aD H2 H6/\H6 D=some (.lst (((((S.made.filter fun t=>decide (S.fU t<=day)).take j).filter fun t=>decide (spotOf aO t=kk)).map (·.2.2)).map V.int))) (fun D hD=>⟨hD,none,rfl,aD.new hD,ag⟩) (fun D j σ H6 _ ⟨_,_,_,t3,_⟩=>bE.of (t3 _ _ KW)) ?_ ?_
   ·rintro D j x σ H6 EJ ⟨hD,v,rfl,t3,gj⟩
    have hj:j < (S.made.filter fun t=>decide (S.fU t<=day)).length:=by have:=(au.mp EJ).1; lia
    have RZ:=af hj
    obtain⟨v',hv,p,rfl,hp⟩:=bG FI RZ
    rw[EJ] at hv
    obtain rfl:x= .ref p:=aF hv
    have Jl:=ff (fun t=>decide (spotOf aO t=kk)) RZ
    generalize (S.made.filter fun t=>decide (S.fU t<=day))[j]=t at hp Jl
    have hsz:((((S.made.filter fun t=>decide (S.fU t<=day)).take j).filter fun t=>decide (spotOf aO t=kk)).map (·.2.2)).length<=1000000:=by
     rw[ae]
     have e1:=aX (fun t=>decide (spotOf aO t=kk)) ((S.made.filter fun t=>decide (S.fU t<=day)).take j)
     rw[bh] at e1
     lia
    have MA:=t3 _ _ hp
    refine⟨_,rfl,_,rfl,p,_,_,_,rfl,rfl,cm.of MA,EO aO t,_,rfl,q,_,dq,_,_,rfl,t3 _ _ Ay,zR G aO,yi G aO,yh aO _ _,rfl,_,rfl,cy (fun z=>?_) (fun z=>?_)⟩
    ·have z':spotOf aO t=kk:=by
      have:=aN z
      injection this with this
      lia
     rw[a7 (aE z')] at Jl
     refine⟨_,rfl,p,_,_,.int t.2.2,rfl,rfl,cm.of MA,rfl,_,gj,iU (by rw[ae]; exact hsz),hD,_,rfl,t3.cX hD,?_⟩
     rw[ag,Jl,aM,aM]
     rfl
    ·have z': ¬ spotOf aO t=kk:=fun e=>z (aE (by rw[e]))
     rw[aQ (by rw[bf z']; exact aV),bP] at Jl
     refine⟨hD,_,rfl,t3,?_⟩
     rw[Jl]
     exact gj
   ·rintro D σ H6 hD ⟨_,v,rfl,t3,gj⟩
    rw[← qz,a8,pQ] at gj
    refine⟨D,_,rfl,bE.of gj,_,_,rfl,rfl,?_⟩
    have Ez:sG aO ((S.rows aO).getD kk default) - ((S.made.filter fun t=>decide (spotOf aO t=kk) && decide (S.fU t<=day)).map (·.2.2)).sum=S.rest aO kk day:=rfl
    have MB:=t3 _ _ yc
    have PB:=hP.mono t3.tk
    have s6:=s2.trans t3
    have no:pR S aO day kk=false-> ∃(rs:List V) (x6 x7:Option V),[some (V.ref pw),some (.ref pt),some (.int (if aO=true then 1 else 0)),some (.int day),some (.ref pc),some (.ref pr),some (.ref q),some (.int (S.rest aO kk day))]=[some (.ref pw),some (.ref pt),some (.int (if aO=true then 1 else 0)),some (.int day),some (.ref pc),some (.ref pr),x6,x7]/\aD H1 H6/\H6 pr=some (.lst rs)/\iH H6 (((ks.take (i + 1)).filter (pR S aO day)).map fun k=>(k,S.rest aO k day)) rs:=fun z=>by
     rw[aQ (by rw[z]; exact aV),bP] at kI
     exact⟨rs,some (.ref q),some (.int (S.rest aO kk day)),rfl,s6,MB,by rw[kI]; exact PB⟩
    refine⟨_,rfl,q,_,dq,_,_,rfl,t3 _ _ Ay,zR G aO,Oq G aO,Oo aO _ _,_,rfl,_,_,rfl,rfl,_,rfl,cy (fun z1=>?_) (fun z1=>bR (no ?_))⟩
    ·refine⟨_,rfl,_,_,rfl,rfl,_,rfl,cy (fun z2=>?_) (fun z2=>no ?_)⟩
     ·have yes:pR S aO day kk=true:=by
       unfold pR
       rw[aE (aN z1),aE (show 0 < S.rest aO kk day from aN z2)]; rfl
      rw[a7 yes] at kI
      refine⟨_,rfl,.inl ⟨rfl,_,bE.of MB⟩,_,rfl,q,_,dq,_,_,rfl,t3 _ _ Ay,zR G aO,yi G aO,yh aO _ _,_,rfl,(by show 2<=sizeLine; decide),fun p8 n8=>?_⟩
      have t8:=aD.new (o:= .tup [V.int (kk:Int),.int (S.rest aO kk day)]) n8
      refine⟨pr,rs,_,rfl,rfl,t8 _ _ MB,bg (by lia),rs ++ [.ref p8],some (.ref q),some (.int (S.rest aO kk day)),rfl,(s6.trans t8).cX nr,ag,?_⟩
      rw[kI,aM]
      have tk:=t8.tk.trans (fI (o:= .lst (rs ++ [.ref p8])) (t8 _ _ MB))
      have fin:iH (upd (upd H6 p8 (.tup [V.int (kk:Int),.int (S.rest aO kk day)])) pr (.lst (rs ++ [.ref p8]))) ((((ks.take i).filter (pR S aO day)).map fun k=>(k,S.rest aO k day)) ++ [(kk,S.rest aO kk day)]) (rs ++ [.ref p8]):=cA (PB.mono tk) ⟨p8,rfl,fI (o:= .lst (rs ++ [.ref p8])) (t8 _ _ MB) _ _ ag⟩
      exact fin
     ·unfold pR
      rw[bf (show ¬ 0 < S.rest aO kk day from fun e=>z2 (aE e)),lD]
    ·unfold pR
     rw[bf (fun e=>z1 (aE e)),pW]
  ·rintro σ H2 ⟨rs,x6,x7,rfl,s2,yc,hP⟩
   rw[ae,← hlen,a8] at hP
   exact⟨_,rfl,k pr rs H2 (s1.trans s2) nr0 yc hP⟩
structure pU (K:PySem.W.Frag)(mg:Str->Option Value)(x:Str)(st:Stmt)(tb:Addr):Prop where
 ex: ∃(f c:Addr) (oc:Value) (od:Option Addr) (kV doc pm:Value) (an:Option Addr) (ct:Value) (Fu:Array (Option Value)),K.lookup f=some ⟨oc,od,.func (PySem.W.fnOf x x (gw st) (dv st) (ax st) .none kV doc pm an (.ref c) ct),Fu⟩/\PySem.W.codeIn K (.ref c) x=true/\
  PySem.W.keepIn K (.ref f)=true/\mg x=some (.ref f)/\PySem.W.codeHdIn K c tb=true
theorem pU.fj {x:Str}{st:Stmt}{tb:Addr}{N ps:List Str}{k:Nat}{sp:Sp}(D:pU K mg x st tb)(KB:K.In base)(S:aS N ps (ax st))
  (fN: ∀(f c:Addr) (A:Around) (outer:List Env) (s:Shared) (H:Hp) (vs:List V) (Q:VK) (E:XK),PySem.W.CodeHd base c tb->eT k (A.deeper (envOfC x (ax st) s.heap.objs.size f (.ref c)))->sp vs H Q E->
   ∃t,oV (kQ rJ P w K mg base N x (ax st) f (.ref c) A outer s H E).DV (dv st) t/\t {nx:=fun _ H'=>Q .d8 H',rt:=Q} (L2.start N vs) H)
  (hb: ∀(kV doc pm:Value) (an:Option Addr) (cK ct:Value) (us:List Value),us.length=ps.length->bindArgs (PySem.W.fnOf x x (gw st) (dv st) (ax st) .none kV doc pm an cK ct) ⟨us,[]⟩=pure (ps.zip us):=by intro _ _ _ _ _ _ us hl; rcases us with _|⟨_,_|⟨_,_|⟨_,_⟩⟩⟩ <;> first|(cases hl; done)|rfl)
  (len: ∀vs H Q E,sp vs H Q E->vs.length=ps.length:=by intro _ _ _ _ h; first|(cases h; subst_vars; rfl)|(repeat (first|(obtain⟨rfl,_⟩:=h; rfl; done)|obtain⟨_,h⟩:=h))):eF P w K mg base x (k + 1) ps sp:=by
 obtain⟨f,c,oc,od,kV,doc,pm,an,ct,Fu,lk,rg,hk,hm,hh⟩:=D.ex
 have F:fY K x x st f _:=o6 lk rg hk
 refine⟨f,_,HL lk rg S len fun A outer s H vs Q E hr yy=>?_,hm,hk,F.binds hb⟩
 obtain⟨t,h,q⟩:=fN f c A outer s H vs Q E (PySem.W.codeHd_of_K KB hh) hr yy
 exact⟨t,h.DV,q⟩
theorem qU {th:List (Int×Nat)}{i:Nat}(h:i < th.length):(th.map EG).getD i []=EG (th.getD i (0,0)):=getD_map EG th i (0,0) [] h
theorem vC {th:List (Int×Nat)}{p:List Nat}(h1: ∀x∈th,x.2 < 1000)(nd:(th.map (·.2)).Nodup)(hp:p.Perm (List.range th.length))(le:p.Pairwise (fun i j=>tG ((th.map EG).getD i [])<=tG ((th.map EG).getD j []))):p.map (fun i=>th.getD i (0,0))=d9 th:=by
 have hr:(List.range th.length).map (fun i=>th.getD i (0,0))=th:=xR th (0,0)
 refine mP tE _ _ ((hp.map _).trans ((List.Perm.of_eq hr).trans (cY th).symm)) ?_ (Bn h1 nd)
 rw[rq]
 refine le.imp_of_mem fun{a b} ha hb z=>?_
 have la:a < th.length:=df.mp (hp.mem_iff.mp ha)
 have lb:b < th.length:=df.mp (hp.mem_iff.mp hb)
 rw[qU la,qU lb] at z
 exact z
theorem nv {α β:Type}{F:α->β->Prop}{l₁:List α}{l₂:List β}(h:Paired F l₁ l₂)(d:α)(e:β): ∀p:List Nat,(∀i∈p,i < l₁.length)->Paired F (p.map fun i=>l₁.getD i d) (p.map fun i=>l₂.getD i e)
 |[],_=> .nil
 |i :: p,hi=>by
  have hl:=hi i bI
  obtain⟨b,e1,e2⟩:=bG h (af hl)
  refine .cons ?_ (nv h d e p fun j hj=>hi j (bc _ hj))
  show F (l₁.getD i d) (l₂.getD i e)
  rw[aj,aj,af hl,e1]
  exact e2
theorem bT {H H':Hp}{tb:Addr}{pos:Pos}{qual:Str}(t:Tb H tb pos qual)(s:aD H H'):Tb H' tb pos qual:=by
 obtain⟨ps,h1,h2,h3⟩:=t
 refine⟨ps,s _ _ h1,h2,?_⟩
 rcases h3 with h3|⟨c',h3,h4⟩
 ·exact .inl h3
 ·exact .inr ⟨c',h3,s _ _ h4⟩
theorem vD {H:Hp}{tb q C:Addr}{pos:Pos}{qual:Str}{fs:List (Str×V)}(t:Tb H tb pos qual)(h:ee H q C fs):q∉[tb]:=fun z=>by
 obtain⟨ps,h1,_⟩:=t
 obtain⟨dx,e⟩:=h
 rw[ak.mp z,h1] at e
 cases e
def Ot:Pos:=⟨69,30,69,66⟩
def eW (rows:List Rw)(aI:Str)(i:Nat):List Nat:=(List.range i).filter fun k=>decide ((rows.getD k default).aI=aI)
inductive ug (A:dQ)(tb:Addr)(vs:List V)(H:Hp)(Q:VK)(E':XK):Prop
 |mk (pb:Addr)(ir:List Addr)(S:Bk)(aI:Str)(h1:vs=[.ref pb,.str aI])(h2:H pb=some (.lst (ir.map V.ref)))(h3:gf H A.dJ fk S.aG ir)(h4:S.aG.length < 64)(h5:Tb H tb Ot ((("bills_in_order":Str) ++ ".<locals>.") ++ "<lambda>"))(h6: ∀D qs H',Frame [tb] H H'->Tb H' tb Ot ((("bills_in_order":Str) ++ ".<locals>.") ++ "<lambda>")->H D=none->H' D=some (.lst (qs.map V.ref))->iy A H' S (inOrder S.aG aI (·.b)) qs->Q (.ref D) H'):ug A tb vs H Q E'
theorem kA:aS ["bills","who","theirs"] ["bills","who"] (ax (top 17)):={}
theorem lx (T:Txt K mg){A:dQ}{tb:Addr}(G:jn K mg A)(DL:pU K mg "bills_in_order" (top 17) tb)(KB:K.In base)(BM:BMain mg base):eF P w K mg base "bills_in_order" 2 ["bills","who"] (ug A tb):=by
 refine DL.fj (k:=1) KB kA (fun f c A' outer s H vs Q E CH hr h=>?_)
 ·obtain⟨pb,ir,S,aI,rfl,R3,hO,hl,V4,k⟩:=h
  have nd:=kA.nd
  refine⟨_,(ai (kY (i:=2) nd rfl (Or.inl rfl) (tn:=["bill"]) (cn:=["who"]) (cj:=[1]) rfl (ig (yI:=[(".0",.local),("bill",.local),("who",.cell)])) (dj (pv 0)) (fun _ _ _ _=>(eu (i:=0) (show(["bill","who"]:List Str).Nodup by decide +kernel) rfl (Or.inl rfl))) (fun _ _ _ _=>(mG (aW cG (fh (K:=K) rfl (pv 0) rfl) (pv 1) (aZ _)))) (fun _ _ _ _=>(pv 0)))
(ao (a6 (vc (N:=["bill"]) (y:="bill") rfl T.qB BM rfl CH (hr.mono (by decide)) {} (fun _ _ _ _ _=>(dg (aa (fh (K:=K) rfl (pv 0) rfl) (aa (fh (K:=K) rfl (pv 0) rfl) av)))) (pv 2))))),?_⟩
  refine⟨_,rfl,pb,rfl,⟨_,bE.of R3⟩,?_⟩
  refine eA (K:=K) (a:=pb) (xs:=ir.map V.ref) (fun D i σ H6=>H D=none/\ ∃(v:Option V) (qs:List Addr),σ=[v,some (.str aI)]/\aD H H6/\H6 D=some (.lst (qs.map V.ref))/\iy A H6 S (eW S.aG aI i) qs) (fun D hD=>⟨hD,none,[],rfl,aD.new hD,ag,.nil⟩) (fun D i σ H6 _ ⟨_,_,_,_,t3,_⟩=>bE.of (t3 _ _ R3)) ?_ ?_
  ·rintro D i x σ H6 hx ⟨hD,v,qs,rfl,t3,gj,hB⟩
   rw[aB] at hx
   obtain⟨q,hq,rfl⟩:=bq.mp hx
   have hi:i < S.aG.length:=by have:=(au.mp hq).1; have:=hO.1; lia
   obtain⟨dq,Ay⟩:=(hO.2 i q hq).same t3
   have hql:qs.length<=100:=by
    have e1:=aL hB
    have e2:(eW S.aG aI i).length<=i:=aY (aX _ _) (by rw[di]; exact aC _)
    lia
   have qV:eW S.aG aI (i + 1)=eW S.aG aI i ++ (if decide ((S.aG.getD i default).aI=aI)=true then[i] else[]):=by
    unfold eW
    rw[nX,j9]
    congr 1
    by_cases z:decide ((S.aG.getD i default).aI=aI)=true
    ·rw[a7 z,cu (p:=fun k=>decide ((S.aG.getD k default).aI=aI)) z]; rfl
    ·rw[aQ z,gI (p:=fun k=>decide ((S.aG.getD k default).aI=aI)) z]; rfl
   refine⟨_,rfl,q,_,dq,_,_,rfl,Ay,G.dU,G.ko,Dd _ _,_,rfl,rfl,_,rfl,cy (fun z=>?_) (fun z=>?_)⟩
   ·rw[a7 (aE (ua z))] at qV
    refine⟨_,rfl,_,gj,bg (by rw[ae]; lia),hD,_,qs ++ [q],rfl,t3.cX hD,by rw[ag,aM]; rfl,?_⟩
    rw[qV]
    have kp: ∀{y C:Addr} {gs:List (Str×V)},ee H6 y C gs->ee (upd H6 D (.lst (qs.map V.ref ++ [V.ref q]))) y C gs:=fun{y C gs} ⟨dy,ey⟩=>⟨dy,by rw[aA (mw ey gj (by intro w; cases w))]; exact ey⟩
    exact cA (Paired.gR hB fun _ _ w=>kp w) (kp ⟨dq,Ay⟩)
   ·rw[aQ (by rw[bf (qP z)]; exact aV),bP] at qV
    refine⟨hD,_,qs,rfl,t3,gj,?_⟩
    rw[qV]
    exact hB
  ·rintro D σ H6 hD ⟨_,v,qs,rfl,t3,gj,hB⟩
   have LA:(ir.map V.ref).length=S.aG.length:=by rw[ae]; exact hO.1
   rw[LA] at hB
   have GI:=bT V4 t3
   have hth:f7 S.aG aI (·.b)=(eW S.aG aI S.aG.length).map fun k=>((S.bl k).b,k):=rfl
   have EH: ∀x∈eW S.aG aI S.aG.length,x < S.aG.length:=fun x hx=>df.mp (eM.mp hx).1
   have Ld:(eW S.aG aI S.aG.length).Nodup:=me.filter _
   have V5:(eW S.aG aI S.aG.length).length<=S.aG.length:=aY (aX _ _) (by rw[di]; exact aC _)
   have jL:inOrder S.aG aI (·.b)=(d9 ((eW S.aG aI S.aG.length).map fun k=>((S.bl k).b,k))).map (·.2):=rfl
   generalize eW S.aG aI S.aG.length=ks at hB EH Ld V5 jL
   have V6:=aL hB
   have Jm:((ks.map fun k=>((S.bl k).b,k)):List (Int×Nat)).length=ks.length:=ae _
   have qW: ∀x∈(ks.map fun k=>((S.bl k).b,k)),x.2 < 1000:=fun x hx=>by
    obtain⟨k0,Pk,rfl⟩:=bC.mp hx
    have:=EH k0 Pk
    show k0 < 1000
    lia
   have hnd:((ks.map fun k=>((S.bl k).b,k)).map (·.2)).Nodup:=by
    rw[eO]
    have e:((fun x:Int×Nat=>x.2) ∘ fun k=>((S.bl k).b,k))=id:=rfl
    rw[e,AD]
    exact Ld
   have tO: ∀i,i < ks.length->(ks.map fun k=>((S.bl k).b,k)).getD i (0,0)=((S.bl (ks.getD i 0)).b,ks.getD i 0):=fun i hi=>getD_map (fun k=>((S.bl k).b,k)) ks i 0 (0,0) hi
   generalize V7:(ks.map fun k=>((S.bl k).b,k))=th at Jm qW hnd tO jL
   refine⟨_,rfl,D,qs.map V.ref,th.map EG,tG,rfl,bE.of gj,by rw[ae]; lia,by rw[ae,ae]; lia,GI,(fun t ht=>?_),(fun t ht u hu=>?_),fun i hi H2 fr R hR=>?_,fun D2 p H2 hp le fr FI Hg GA=>?_⟩
   ·obtain⟨x,_,rfl⟩:=bC.mp ht
    simp[EG]
   ·obtain⟨x,xS,rfl⟩:=bC.mp ht
    obtain⟨y,zF,rfl⟩:=bC.mp hu
    exact qC (qW x xS) (qW y zF) (fun e=>⟨rfl,lq hnd xS zF e⟩) rfl
   ·rw[ae] at hi
    have vV:i < ks.length:=by lia
    obtain⟨q,e1,e2⟩:=bG hB (af vV)
    have V8:(qs.map V.ref).getD i .d8= .ref q:=by rw[aj,aB,e1]; rfl
    have V9:ks.getD i 0=ks[i]:=by rw[aj,af vV]; rfl
    obtain⟨dq,Ay⟩:=e2.frame fr (vD GI e2)
    rw[qU (by lia),tO i vV,V9] at hR
    rw[V8]
    exact⟨_,rfl,q,_,dq,_,_,rfl,Ay,G.dU,G.mR,IP _ _,_,rfl,q,_,dq,_,_,rfl,Ay,G.dU,G.eJ,k8 _ _,(by show 2<=sizeLine; decide),fun p np=>hR p np⟩
   ·rw[ae] at hp
    have hV: ∀i∈p,i < ks.length:=fun i hi=>by have:=df.mp (hp.mem_iff.mp hi); lia
    have Ou:=vC qW hnd (by rw[Jm,V6]; exact hp) le
    have Ke:iy A H2 S ks qs:=Paired.gR hB fun _ _ w=>w.frame fr (vD GI w)
    refine k D2 (p.map fun i=>qs.getD i tb) H2 ((t3.frame).tr fr) FI (t3.free Hg) ?_ ?_
    ·rw[GA,eO]
     congr 2
     apply gH
     intro i hi
     exact getD_map V.ref qs i tb .d8 (by have:=hV i hi; lia)
    ·rw[jL,← Ou,eO]
     have e:p.map ((fun x:Int×Nat=>x.2) ∘ fun i=>th.getD i (0,0))=p.map fun i=>ks.getD i 0:=gH fun i hi=>by
      show(th.getD i (0,0)).2=_
      rw[tO i (hV i hi)]
     rw[e]
     exact nv Ke 0 tb p hV
def Ov:Pos:=⟨72,30,72,72⟩
inductive uh (A:dQ)(tb:Addr)(vs:List V)(H:Hp)(Q:VK)(E':XK):Prop
 |mk (pb:Addr)(ir:List Addr)(S:Bk)(aI:Str)(h1:vs=[.ref pb,.str aI])(h2:H pb=some (.lst (ir.map V.ref)))(h3:gf H A.dS eV S.credits ir)(h4:S.credits.length < 64)(h5:Tb H tb Ov ((("credits_in_order":Str) ++ ".<locals>.") ++ "<lambda>"))(h6: ∀D qs H',Frame [tb] H H'->Tb H' tb Ov ((("credits_in_order":Str) ++ ".<locals>.") ++ "<lambda>")->H D=none->H' D=some (.lst (qs.map V.ref))->gz A H' S (inOrder S.credits aI (·.a)) qs->Q (.ref D) H'):uh A tb vs H Q E'
theorem jj:aS ["all_credits","who","theirs"] ["all_credits","who"] (ax (top 18)):={}
theorem jS (T:Txt K mg){A:dQ}{tb:Addr}(G:jn K mg A)(DL:pU K mg "credits_in_order" (top 18) tb)(KB:K.In base)(BM:BMain mg base):eF P w K mg base "credits_in_order" 2 ["all_credits","who"] (uh A tb):=by
 refine DL.fj (k:=1) KB jj (fun f c A' outer s H vs Q E CH hr h=>?_)
 ·obtain⟨pb,ir,S,aI,rfl,R3,hO,hl,V4,k⟩:=h
  have nd:=jj.nd
  refine⟨_,(ai (kY (i:=2) nd rfl (Or.inl rfl) (tn:=["credit"]) (cn:=["who"]) (cj:=[1]) rfl (ig (yI:=[(".0",.local),("credit",.local),("who",.cell)])) (dj (pv 0)) (fun _ _ _ _=>(eu (i:=0) (show(["credit","who"]:List Str).Nodup by decide +kernel) rfl (Or.inl rfl))) (fun _ _ _ _=>(mG (aW cG (fh (K:=K) rfl (pv 0) rfl) (pv 1) (aZ _)))) (fun _ _ _ _=>(pv 0)))
(ao (a6 (vc (N:=["credit"]) (y:="credit") rfl T.qB BM rfl CH (hr.mono (by decide)) {} (fun _ _ _ _ _=>(dg (aa (fh (K:=K) rfl (pv 0) rfl) (aa (fh (K:=K) rfl (pv 0) rfl) av)))) (pv 2))))),?_⟩
  refine⟨_,rfl,pb,rfl,⟨_,bE.of R3⟩,?_⟩
  refine eA (K:=K) (a:=pb) (xs:=ir.map V.ref) (fun D i σ H6=>H D=none/\ ∃(v:Option V) (qs:List Addr),σ=[v,some (.str aI)]/\aD H H6/\H6 D=some (.lst (qs.map V.ref))/\gz A H6 S (eW S.credits aI i) qs) (fun D hD=>⟨hD,none,[],rfl,aD.new hD,ag,.nil⟩) (fun D i σ H6 _ ⟨_,_,_,_,t3,_⟩=>bE.of (t3 _ _ R3)) ?_ ?_
  ·rintro D i x σ H6 hx ⟨hD,v,qs,rfl,t3,gj,hB⟩
   rw[aB] at hx
   obtain⟨q,hq,rfl⟩:=bq.mp hx
   have hi:i < S.credits.length:=by have:=(au.mp hq).1; have:=hO.1; lia
   obtain⟨dq,Ay⟩:=(hO.2 i q hq).same t3
   have hql:qs.length<=100:=by
    have e1:=aL hB
    have e2:(eW S.credits aI i).length<=i:=aY (aX _ _) (by rw[di]; exact aC _)
    lia
   have qV:eW S.credits aI (i + 1)=eW S.credits aI i ++ (if decide ((S.credits.getD i default).aI=aI)=true then[i] else[]):=by
    unfold eW
    rw[nX,j9]
    congr 1
    by_cases z:decide ((S.credits.getD i default).aI=aI)=true
    ·rw[a7 z,cu (p:=fun k=>decide ((S.credits.getD k default).aI=aI)) z]; rfl
    ·rw[aQ z,gI (p:=fun k=>decide ((S.credits.getD k default).aI=aI)) z]; rfl
   refine⟨_,rfl,q,_,dq,_,_,rfl,Ay,G.cZ,G.kG,IQ _ _,_,rfl,rfl,_,rfl,cy (fun z=>?_) (fun z=>?_)⟩
   ·rw[a7 (aE (ua z))] at qV
    refine⟨_,rfl,_,gj,bg (by rw[ae]; lia),hD,_,qs ++ [q],rfl,t3.cX hD,by rw[ag,aM]; rfl,?_⟩
    rw[qV]
    have kp: ∀{y C:Addr} {gs:List (Str×V)},ee H6 y C gs->ee (upd H6 D (.lst (qs.map V.ref ++ [V.ref q]))) y C gs:=fun{y C gs} ⟨dy,ey⟩=>⟨dy,by rw[aA (mw ey gj (by intro w; cases w))]; exact ey⟩
    exact cA (Paired.gR hB fun _ _ w=>kp w) (kp ⟨dq,Ay⟩)
   ·rw[aQ (by rw[bf (qP z)]; exact aV),bP] at qV
    refine⟨hD,_,qs,rfl,t3,gj,?_⟩
    rw[qV]
    exact hB
  ·rintro D σ H6 hD ⟨_,v,qs,rfl,t3,gj,hB⟩
   have LA:(ir.map V.ref).length=S.credits.length:=by rw[ae]; exact hO.1
   rw[LA] at hB
   have GI:=bT V4 t3
   have hth:f7 S.credits aI (·.a)=(eW S.credits aI S.credits.length).map fun k=>((S.cr k).a,k):=rfl
   have EH: ∀x∈eW S.credits aI S.credits.length,x < S.credits.length:=fun x hx=>df.mp (eM.mp hx).1
   have Ld:(eW S.credits aI S.credits.length).Nodup:=me.filter _
   have V5:(eW S.credits aI S.credits.length).length<=S.credits.length:=aY (aX _ _) (by rw[di]; exact aC _)
   have jL:inOrder S.credits aI (·.a)=(d9 ((eW S.credits aI S.credits.length).map fun k=>((S.cr k).a,k))).map (·.2):=rfl
   generalize eW S.credits aI S.credits.length=ks at hB EH Ld V5 jL
   have V6:=aL hB
   have Jm:((ks.map fun k=>((S.cr k).a,k)):List (Int×Nat)).length=ks.length:=ae _
   have qW: ∀x∈(ks.map fun k=>((S.cr k).a,k)),x.2 < 1000:=fun x hx=>by
    obtain⟨k0,Pk,rfl⟩:=bC.mp hx
    have:=EH k0 Pk
    show k0 < 1000
    lia
   have hnd:((ks.map fun k=>((S.cr k).a,k)).map (·.2)).Nodup:=by
    rw[eO]
    have e:((fun x:Int×Nat=>x.2) ∘ fun k=>((S.cr k).a,k))=id:=rfl
    rw[e,AD]
    exact Ld
   have tO: ∀i,i < ks.length->(ks.map fun k=>((S.cr k).a,k)).getD i (0,0)=((S.cr (ks.getD i 0)).a,ks.getD i 0):=fun i hi=>getD_map (fun k=>((S.cr k).a,k)) ks i 0 (0,0) hi
   generalize V7:(ks.map fun k=>((S.cr k).a,k))=th at Jm qW hnd tO jL
   refine⟨_,rfl,D,qs.map V.ref,th.map EG,tG,rfl,bE.of gj,by rw[ae]; lia,by rw[ae,ae]; lia,GI,(fun t ht=>?_),(fun t ht u hu=>?_),fun i hi H2 fr R hR=>?_,fun D2 p H2 hp le fr FI Hg GA=>?_⟩
   ·obtain⟨x,_,rfl⟩:=bC.mp ht
    simp[EG]
   ·obtain⟨x,xS,rfl⟩:=bC.mp ht
    obtain⟨y,zF,rfl⟩:=bC.mp hu
    exact qC (qW x xS) (qW y zF) (fun e=>⟨rfl,lq hnd xS zF e⟩) rfl
   ·rw[ae] at hi
    have vV:i < ks.length:=by lia
    obtain⟨q,e1,e2⟩:=bG hB (af vV)
    have V8:(qs.map V.ref).getD i .d8= .ref q:=by rw[aj,aB,e1]; rfl
    have V9:ks.getD i 0=ks[i]:=by rw[aj,af vV]; rfl
    obtain⟨dq,Ay⟩:=e2.frame fr (vD GI e2)
    rw[qU (by lia),tO i vV,V9] at hR
    rw[V8]
    exact⟨_,rfl,q,_,dq,_,_,rfl,Ay,G.cZ,G.iV,IS _ _,_,rfl,q,_,dq,_,_,rfl,Ay,G.cZ,G.eD,nO _ _,(by show 2<=sizeLine; decide),fun p np=>hR p np⟩
   ·rw[ae] at hp
    have hV: ∀i∈p,i < ks.length:=fun i hi=>by have:=df.mp (hp.mem_iff.mp hi); lia
    have Ou:=vC qW hnd (by rw[Jm,V6]; exact hp) le
    have Ke:gz A H2 S ks qs:=Paired.gR hB fun _ _ w=>w.frame fr (vD GI w)
    refine k D2 (p.map fun i=>qs.getD i tb) H2 ((t3.frame).tr fr) FI (t3.free Hg) ?_ ?_
    ·rw[GA,eO]
     congr 2
     apply gH
     intro i hi
     exact getD_map V.ref qs i tb .d8 (by have:=hV i hi; lia)
    ·rw[jL,← Ou,eO]
     have e:p.map ((fun x:Int×Nat=>x.2) ∘ fun i=>th.getD i (0,0))=p.map fun i=>ks.getD i 0:=gH fun i hi=>by
      show(th.getD i (0,0)).2=_
      rw[tO i (hV i hi)]
     rw[e]
     exact nv Ke 0 tb p hV
theorem vE {A:dQ}{H H':Hp}{pw tb:Addr}{S:Bk}{f:eB}(h:dB A H pw S f)(ht: ∃ps,H tb=some (.nJ ps))(fr:Frame [tb] H H'):dB A H' pw S f:=by
 obtain⟨ps,ht⟩:=ht
 have kl: ∀{a:Addr} {xs:List V},H a=some (.lst xs)->H' a=some (.lst xs):=fun{a xs} e=>fr _ _ (fun z=>by rw[ak.mp z,ht] at e; cases e) e
 have ki: ∀{a C dx:Addr} {gs:List (Str×V)},H a=some (.ins C dx gs)->H' a=some (.ins C dx gs):=fun{a C dx gs} e=>fr _ _ (fun z=>by rw[ak.mp z,ht] at e; cases e) e
 have kt:cF H H':=fun a xs e=>fr _ _ (fun z=>by rw[ak.mp z,ht] at e; cases e) e
 obtain⟨dw,hw⟩:=h.obj
 obtain⟨ms,m1,m2⟩:=h.hm
 exact⟨⟨dw,ki hw⟩,kl h.hb,kl h.hc,kl h.hl,kl h.hf,⟨ms,kl m1,m2.mono kt⟩,h.rb.keep fun _ _ _ e=>ki e,h.rc.keep fun _ _ _ e=>ki e,h.nd⟩
def lY (H:Hp)(tb:Addr):Prop:=Tb H tb Ot ((("bills_in_order":Str) ++ ".<locals>.") ++ "<lambda>")
def mj (H:Hp)(tb:Addr):Prop:=Tb H tb Ov ((("credits_in_order":Str) ++ ".<locals>.") ++ "<lambda>")
inductive zS (A:dQ)(tb:Addr)(vs:List V)(H:Hp)(Q:VK)(E':XK):Prop
 |mk (pw:Addr)(S:Bk)(f:eB)(n:Nat)(aI:Str)(day:Int)(h1:vs=[.ref pw,.str aI,.int day])(h2:dB A H pw S f)(h3:WF S n)(h4:n<=60)(h5:lY H tb)(h6: ∀D ms H',Frame [tb] H H'->lY H' tb->H D=none->H' D=some (.lst ms)->iH H' (S.gK true aI day) ms->Q (.ref D) H'):zS A tb vs H Q E'
inductive Dv (A:dQ)(tb:Addr)(vs:List V)(H:Hp)(Q:VK)(E':XK):Prop
 |mk (pw:Addr)(S:Bk)(f:eB)(n:Nat)(aI:Str)(day:Int)(h1:vs=[.ref pw,.str aI,.int day])(h2:dB A H pw S f)(h3:WF S n)(h4:n<=60)(h5:mj H tb)(h6: ∀D ms H',Frame [tb] H H'->mj H' tb->H D=none->H' D=some (.lst ms)->iH H' (S.gK false aI day) ms->Q (.ref D) H'):Dv A tb vs H Q E'
theorem Dw:aS ["work","who","day"] ["work","who","day"] (ax (top 36)):={}
theorem yj (T:Txt K mg){A:dQ}{tb:Addr}(G:jn K mg A)(DL:pU K mg "bills_in_order" (top 17) tb)(KB:K.In base)(BM:BMain mg base):eF P w K mg base "owed_at" 5 ["work","who","day"] (zS A tb):=by
 have iT:eF P w K mg base "bills_in_order" 2 ["bills","who"] (ug A tb):=lx T G DL KB BM
 have jT:eF P w K mg base "remaining_at" 4 ["work","told","place","day"] (qT A):=nu T G
 refine T.Gb.fj (k:=4) Dw (fun f cK A' outer s H vs Q E hr h=>?_)
 ·obtain⟨pw,S,g,n,aI,day,rfl,hW,wf,hn,hT,k⟩:=h
  obtain⟨dw,hw⟩:=hW.obj
  refine⟨_,(ao (a6 (fc jT hr (aa (pv 0) (aa (fc iT hr (aa (bV (pv 0) rfl) (aa (pv 1) av))) (aa ah (aa (pv 2) av))))))),?_⟩
  refine⟨_,rfl,_,rfl,pw,_,dw,_,_,rfl,hw,G.bD,G.dO,i7 g,_,rfl,g.pb,g.ir,S,aI,rfl,hW.hb,hW.rb,(by have:=wf.lb; lia),hT,fun D qs H1 fr Hh nD hD hB=>?_⟩
  have Cv:=vE hW (let⟨ps,e,_⟩:=hT; ⟨ps,e⟩) fr
  have LH:(inOrder S.aG aI (·.b)).length<=100:=by
   have e:(inOrder S.aG aI (·.b)).length=((List.range S.aG.length).filter fun k=>decide ((S.aG.getD k default).aI=aI)).length:=by
    unfold inOrder f7
    rw[ae,(cY _).length_eq,ae]
   have:=aX (fun k=>decide ((S.aG.getD k default).aI=aI)) (List.range S.aG.length)
   rw[di] at this
   have:=wf.lb
   lia
  refine⟨_,rfl,pw,D,S,g,n,true,day,inOrder S.aG aI (·.b),qs,rfl,Cv,wf,(by have:=wf.lm; lia),hD,hB,LH,fun D2 ms H2 s2 Hg GA hP=>?_⟩
  exact k D2 ms H2 (fr.dh s2) (bT Hh s2) (fr.free (fun z=>by
   obtain⟨ps,e,_⟩:=Hh
   rw[ak.mp z,e] at Hg
   cases Hg) Hg) GA hP
theorem Dx:aS ["work","who","day"] ["work","who","day"] (ax (top 37)):={}
theorem GJ (T:Txt K mg){A:dQ}{tb:Addr}(G:jn K mg A)(DL:pU K mg "credits_in_order" (top 18) tb)(KB:K.In base)(BM:BMain mg base):eF P w K mg base "free_at" 5 ["work","who","day"] (Dv A tb):=by
 have gX:eF P w K mg base "credits_in_order" 2 ["all_credits","who"] (uh A tb):=jS T G DL KB BM
 have jT:eF P w K mg base "remaining_at" 4 ["work","told","place","day"] (qT A):=nu T G
 refine T.Gd.fj (k:=4) Dx (fun f cK A' outer s H vs Q E hr h=>?_)
 ·obtain⟨pw,S,g,n,aI,day,rfl,hW,wf,hn,hT,k⟩:=h
  obtain⟨dw,hw⟩:=hW.obj
  refine⟨_,(ao (a6 (fc jT hr (aa (pv 0) (aa (fc gX hr (aa (bV (pv 0) rfl) (aa (pv 1) av))) (aa ah (aa (pv 2) av))))))),?_⟩
  refine⟨_,rfl,_,rfl,pw,_,dw,_,_,rfl,hw,G.bD,G.cD,gW g,_,rfl,g.pc,g.cps,S,aI,rfl,hW.hc,hW.rc,(by have:=wf.lc; lia),hT,fun D qs H1 fr Hh nD hD hB=>?_⟩
  have Cv:=vE hW (let⟨ps,e,_⟩:=hT; ⟨ps,e⟩) fr
  have LH:(inOrder S.credits aI (·.a)).length<=100:=by
   have e:(inOrder S.credits aI (·.a)).length=((List.range S.credits.length).filter fun k=>decide ((S.credits.getD k default).aI=aI)).length:=by
    unfold inOrder f7
    rw[ae,(cY _).length_eq,ae]
   have:=aX (fun k=>decide ((S.credits.getD k default).aI=aI)) (List.range S.credits.length)
   rw[di] at this
   have:=wf.lc
   lia
  refine⟨_,rfl,pw,D,S,g,n,false,day,inOrder S.credits aI (·.a),qs,rfl,Cv,wf,(by have:=wf.lm; lia),hD,hB,LH,fun D2 ms H2 s2 Hg GA hP=>?_⟩
  exact k D2 ms H2 (fr.dh s2) (bT Hh s2) (fr.free (fun z=>by
   obtain⟨ps,e,_⟩:=Hh
   rw[ak.mp z,e] at Hg
   cases Hg) Hg) GA hP
inductive zT (vs:List V)(H:Hp)(Q:VK)(E':XK):Prop
 |mk (fU:Int)(pl:Addr)(bO:List Int)(h1:vs=[.int fU,.ref pl])(h2:H pl=some (.tup (bO.map V.int)))(h3:bO.length<=11)(h4: ∀H',aD H H'->Q (.int (L2.placeOf fU bO:Int)) H'):zT vs H Q E'
theorem B0:aS ["late","limits"] ["late","limits"] (ax (top 1)):={}
theorem Dy (T:Txt K mg):eF P w K mg base "place_of" 1 ["late","limits"] zT:=by
 refine T.C7.fj (k:=0) B0 (fun f cK A' outer s H vs Q E hr h=>?_)
 ·obtain⟨fU,pl,bO,rfl,hV,Dq,k⟩:=h
  refine⟨_,(ai (bM (aW sm (pv 0) ah (aZ _))
(ao (a6 ah))
bb)
(ao (a6 (aU cW ah (mO T.dR (gJ (tn:=["limit"]) (cn:=["late"]) (cj:=[0]) rfl (ig (yI:=[(".0",.local),("limit",.local),("late",.cell)])) (Hu (pv 1)) (fun _ _ _ _=>(eu (i:=0) (show(["limit","late"]:List Str).Nodup by decide +kernel) rfl (Or.inl rfl))) (fun _ _ _ _=>(mG (aW jD (pv 0) (pv 1) (aZ _)))) (fun _ _ _ _=>(pv 0)))))))),?_⟩
  refine⟨_,rfl,_,_,rfl,rfl,_,rfl,cy (fun z=>?_) (fun z=>?_)⟩
  ·have z':fU<=0:=aN z
   have e:L2.placeOf fU bO=0:=a7 z'
   have q:=k H (aD.refl _)
   rw[e] at q
   exact q
  have z': ¬ fU<=0:=fun q=>z (aE q)
  have e:L2.placeOf fU bO=1 + (bO.filter fun l=>decide (l < fU)).length:=aQ z'
  refine⟨_,rfl,pl,rfl,⟨_,cm.of hV⟩,?_⟩
  refine A3 (K:=K) (a:=pl) (xs:=bO.map V.int) (fun D' j σ H6=>H D'=none/\ ∃v,σ=[v,some (.int fU)]/\aD H H6/\H6 D'=some (.lst (((bO.take j).filter fun l=>decide (l < fU)).map V.int))) (fun D' pE=>⟨pE,none,rfl,aD.new pE,ag⟩) (fun D' j σ H6 _ ⟨_,_,_,t3,_⟩=>cm.of (t3 _ _ hV)) ?_ ?_
  ·rintro D' j x σ H6 EJ ⟨pE,v,rfl,t3,gj⟩
   rw[aB] at EJ
   obtain⟨y,hy,rfl⟩:=bq.mp EJ
   have kI:=ff (fun l=>decide (l < fU)) hy
   have hlen:((bO.take j).filter fun l=>decide (l < fU)).length<=100:=by
    have:=aX (fun l=>decide (l < fU)) (bO.take j)
    rw[bh] at this
    lia
   refine⟨_,rfl,_,rfl,_,_,rfl,rfl,_,rfl,cy (fun q=>?_) (fun q=>?_)⟩
   ·rw[a7 q] at kI
    refine⟨_,rfl,_,gj,bg (by rw[ae]; lia),pE,_,rfl,t3.cX pE,?_⟩
    rw[ag,kI,aM]
    rfl
   ·rw[aQ q,bP] at kI
    refine⟨pE,_,rfl,t3,?_⟩
    rw[kI]
    exact gj
  ·rintro D' σ H6 pE ⟨_,v,rfl,t3,gj⟩
   refine⟨D',_,rfl,.inl (bE.of gj),_,_,rfl,rfl,?_⟩
   have q:=k H6 t3
   rw[e] at q
   have e2:(1:Int) + ((((bO.take (bO.map V.int).length).filter fun l=>decide (l < fU)).map V.int).length:Int)=((1 + (bO.filter fun l=>decide (l < fU)).length:Nat):Int):=by
    rw[ae,ae,a8]
    simp
   rw[← e2] at q
   exact q
inductive Dz (A:dQ)(tb:Addr)(vs:List V)(H:Hp)(Q:VK)(E':XK):Prop
 |mk (pw pl:Addr)(S:Bk)(f:eB)(n:Nat)(aI:Str)(day:Int)(bO:List Int)(h1:vs=[.ref pw,.str aI,.int day,.ref pl])(h2:dB A H pw S f)(h3:WF S n)(h4:n<=60)(h5:lY H tb)(h6:H pl=some (.tup (bO.map V.int)))(h7:bO.length<=11)(h8: ∀D H',Frame [tb] H H'->lY H' tb->H D=none->H' D=some (.lst ((S.wq aI day bO).map V.int))->Q (.ref D) H'):Dz A tb vs H Q E'
theorem vF:aS ["work","who","day","limits","sums","number","left","place"] ["work","who","day","limits"] (ax (top 41)):={}
theorem GK (T:Txt K mg){A:dQ}{tb:Addr}(G:jn K mg A)(DL:pU K mg "bills_in_order" (top 17) tb)(KB:K.In base)(BM:BMain mg base):eF P w K mg base "ages_at" 6 ["work","who","day","limits"] (Dz A tb):=by
 have rZ:eF P w K mg base "owed_at" 5 ["work","who","day"] (zS A tb):=yj T G DL KB BM
 have DA:eF P w K mg base "place_of" 1 ["late","limits"] zT:=Dy T
 refine T.Ge.fj (k:=5) vF (fun f cK A' outer s H vs Q E hr h=>?_)
 ·obtain⟨pw,pl,S,g,n,aI,day,bO,rfl,hW,wf,hn,hT,hV,Dq,k⟩:=h
  have nd:=vF.nd
  refine⟨_,(ai (sv 4 nd (aU yG (bQ (aa ah av)) (aU cW (mO T.dR (pv 3)) ah)))
(ai (eQ bH rfl (dj (fc rZ hr (aa (pv 0) (aa (pv 1) (aa (pv 2) av))))) (iM rfl (bX (gn 5 nd) (bX (gn 6 nd) gu)))
(ai (sv 7 nd (fc DA hr (aa (aU eR (pv 2) (bV (xl (bV (pv 0) rfl) (pv 5)) rfl)) (aa (pv 3) av))))
(ao (lG (aU cW (xl (pv 4) (pv 7)) (pv 6)) (oY (pv 4) (pv 7) set_list)))))
(ao (a6 (pv 4))))),?_⟩
  refine⟨(by show 1<=sizeLine; decide),fun p9 n9=>?_⟩
  have t9:=aD.new (o:= .lst [V.int 0]) n9
  have Jj:(bO.map V.int).length=bO.length:=ae _
  refine⟨_,rfl,pl,_,rfl,.inr (cm.of (t9 _ _ hV)),_,_,rfl,rfl,p9,_,_,rfl,rfl,ag,by lia,by lia,?_,fun ps GD=>?_⟩
  ·show 1 * _<=sizeLine
   rw[Jj,en]
   lia
  have e2:(((bO.map V.int).length:Int) + 2).toNat=bO.length + 2:=by rw[Jj]; lia
  rw[e2,ER]
  have zJ:=aD.new (o:= .lst ((List.replicate (bO.length + 2) (0:Int)).map V.int)) GD
  have Dr:=t9.trans zJ
  have l6:upd (upd H p9 (.lst [V.int 0])) ps (.lst ((List.replicate (bO.length + 2) (0:Int)).map V.int)) ps=some (.lst ((List.replicate (bO.length + 2) (0:Int)).map V.int)):=ag
  have GF:H ps=none:=t9.free GD
  generalize upd (upd H p9 (.lst [V.int 0])) ps (.lst ((List.replicate (bO.length + 2) (0:Int)).map V.int))=H1 at Dr l6
  have Hh:=bT hT Dr
  refine⟨_,rfl,_,rfl,_,rfl,pw,S,g,n,aI,day,rfl,hW.same Dr,wf,hn,Hh,fun D ms H2 fr FI nD hD hP=>?_⟩
  refine⟨D,rfl,⟨_,bE.of hD⟩,?_⟩
  have nJ: ∃q,H1 tb=some (.nJ q):=let⟨q,e,_⟩:=Hh; ⟨q,e⟩
  have off: ∀{a:Addr} {o:HO},H1 a=some o->(∀q,o≠ .nJ q)->H2 a=some o:=fun{a o} e hq=>fr _ _ (fun z=>by
   obtain⟨q,eq⟩:=nJ
   rw[ak.mp z,eq] at e
   exact hq q (aF e).symm) e
  have zU:=vE (hW.same Dr) nJ fr
  have Ow:=off l6 (fun _ z=>by cases z)
  have Ox:=off (Dr _ _ hV) (fun _ z=>by cases z)
  have fr0:Frame [tb] H H2:=fr.lU Dr
  have tM: ∀t∈S.gK true aI day,t.1 < S.aG.length:=fun t ht=>yf (aO:=true) ht
  have V0:S.wq aI day bO=(S.gK true aI day).foldl (fun l t=>kj l (L2.placeOf (day - (S.bl t.1).b) bO) t.2) (List.replicate (bO.length + 2) 0):=rfl
  rw[V0] at k
  generalize S.gK true aI day=ts at hP tM k
  have V3:D≠ps:=fun e=>by rw[e,l6] at nD; cases nD
  refine fX (K:=K) (a:=D) (xs:=ms) (fun i σ H3=> ∃(l:List Int) (x5 x6 x7:Option V),σ=[some (.ref pw),some (.str aI),some (.int day),some (.ref pl),some (.ref ps),x5,x6,x7]/\Frame [ps] H2 H3/\H3 ps=some (.lst (l.map V.int))/\l.length=bO.length + 2/\l=(ts.take i).foldl (fun l t=>kj l (L2.placeOf (day - (S.bl t.1).b) bO) t.2) (List.replicate (bO.length + 2) 0))
   ⟨_,none,none,none,rfl,Frame.refl,Ow,List.length_replicate,rfl⟩ (fun i σ H3 _ ⟨_,_,_,_,_,f3,_⟩=>bE.of (f3 _ _ (by simpa using V3) hD)) ?_ ?_
  ·rintro i x σ H3 hx ⟨l,x5,x6,x7,rfl,f3,HY,Jk,he⟩
   have TL: ∀{a:Addr} {o:HO},H2 a=some o->(∀q,o≠ .lst q)->H3 a=some o:=fun{a o} e hq=>f3 _ _ (fun z=>by
    rw[ak.mp z,Ow] at e
    exact hq _ (aF e).symm) e
   have hi:i < ts.length:=by have:=(au.mp hx).1; have:=aL hP; lia
   have oo:=af hi
   obtain⟨v,hv,p,rfl,hp⟩:=bG hP oo
   rw[hx] at hv
   obtain rfl:x= .ref p:=aF hv
   have hm:=tM _ (bF hi)
   rw[jy (fun l t=>kj l (L2.placeOf (day - (S.bl t.1).b) bO) t.2) ts _ oo,← he]
   generalize ts[i]=t at hp hm
   obtain⟨dw,hw⟩:=zU.obj
   obtain⟨q,q1,dq,q2⟩:=zU.rb.get hm
   have Wa:g.pb∉[ps]:=fun z=>by
    have e:=hW.hb
    rw[ak.mp z,GF] at e
    cases e
   have PD:=TL hp (fun _ z=>by cases z)
   have hw3:=TL hw (fun _ z=>by cases z)
   have hq3:=TL q2 (fun _ z=>by cases z)
   have Wb:=TL Ox (fun _ z=>by cases z)
   refine⟨p,_,rfl,cm.of PD,rfl,_,_,rfl,_,_,rfl,rfl,?_⟩
   refine⟨_,rfl,_,rfl,pw,_,dw,_,_,rfl,hw3,G.bD,G.dO,i7 g,_,rfl,g.pb,_,_,.ref q,rfl,rfl,bE.of (f3 _ _ Wa zU.hb),cz (by rw[aB,q1]; rfl),q,_,dq,_,_,rfl,hq3,G.dU,G.mR,IP _ _,_,_,rfl,rfl,_,rfl,_,pl,bO,rfl,Wb,Dq,fun H4 s4=>?_⟩
   have Yq:=vA (day - (S.bl t.1).b) bO
   have Pz:=s4 _ _ HY
   refine⟨_,rfl,_,rfl,ps,_,_,.int (l.getD (L2.placeOf (day - (S.bl t.1).b) bO) 0),rfl,rfl,bE.of Pz,pC (by show L2.placeOf (day - (S.bl t.1).b) bO < _; lia),_,rfl,_,_,rfl,rfl,?_⟩
   refine⟨_,rfl,_,rfl,ps,_,_,L2.placeOf (day - (S.bl t.1).b) bO,rfl,rfl,Pz,qL (by rw[ae]; show L2.placeOf (day - (S.bl t.1).b) bO < _; lia),?_⟩
   refine⟨kj l (L2.placeOf (day - (S.bl t.1).b) bO) t.2,_,_,_,rfl,(f3.dh s4).tr (Frame.upd (by simp)),?_,?_,rfl⟩
   ·rw[ag]
    unfold kj
    rw[G4]
   ·rw[yg]; exact Jk
  ·rintro σ H3 ⟨l,x5,x6,x7,rfl,f3,HY,Jk,he⟩
   rw[← aL hP,a8] at he
   rw[he] at HY
   refine⟨_,rfl,k ps H3 (fun b o hb e=>f3 b o (fun z=>by rw[ak.mp z,GF] at e; cases e) (fr0 b o hb e)) ?_ GF HY⟩
   obtain⟨q,e1,QJ,e3⟩:=FI
   have kx: ∀{a:Addr} {o:HO},H2 a=some o->(∀q,o≠ .lst q)->H3 a=some o:=fun{a o} e hq=>f3 _ _ (fun z=>by
    rw[ak.mp z,Ow] at e
    exact hq _ (aF e).symm) e
   refine⟨q,kx e1 (fun _ z=>by cases z),QJ,?_⟩
   rcases e3 with e3|⟨c',e3,e4⟩
   ·exact .inl e3
   ·exact .inr ⟨c',e3,kx e4 (fun _ z=>by cases z)⟩
def eL (pk pw:Addr):List (Str×V):=[("kept",.ref pk),("work",.ref pw)]
theorem ui (pk pw:Addr):(eL pk pw).lookup ("kept":Str)=some (V.ref pk):=by rfl
theorem uj (pk pw:Addr):(eL pk pw).lookup ("work":Str)=some (V.ref pw):=by rfl
theorem Jn (pk pw:Addr):ej "work" (.ref pw) (ej "kept" (.ref pk) [])=eL pk pw:=by rfl
inductive zV (A:dQ)(vs:List V)(H:Hp)(Q:VK)(E':XK):Prop
 |mk (x dx:Addr)(h1:vs=[.ref x])(h2:H x=some (.ins A.book dx []))(h3: ∀pk pw f H',Frame [x] H H'->H' x=some (.ins A.book dx (eL pk pw))->H' pk=some (.dK [])->dB A H' pw Bk.new f->H pk=none->H pw=none->(∀b∈f.fp,H b=none)->pk∉f.fp->Q .d8 H'):zV A vs H Q E'
theorem LI:aS ["self"] ["self"] (ax (mem 29 0)):={}
theorem Oy {A:dQ}(G:jn K mg A):tI P w K mg base "Book" A.book 3 ["self"] (zV A):=by
 have DD:tI P w K mg base "Work" A.work 1 ["self"] (uc A):=Jf G
 refine Ls (k:=2) G.Lq G.Lp LI (fun f cK A' outer s H vs Q E hr h=>?_)
 ·obtain⟨x,dx,rfl,hx,k⟩:=h
  refine⟨_,(ai (fH (pv 0) AZ rfl) (ao (fH (pv 0) (IT DD (hr.mono (by decide)) rfl) rfl))),?_⟩
  intro pk nk
  have ne1:pk≠x:=(aJ hx nk).symm
  refine⟨_,rfl,x,_,dx,_,rfl,aD.new nk _ _ hx,G.eK,G.gx,lt1000 BG (by decide),?_⟩
  have F1:Frame [x] H (upd (upd H pk (.dK [])) x (.ins A.book dx (ej "kept" (.ref pk) []))):=(aD.new nk).frame.tr (Frame.upd (by simp))
  have g1:upd (upd H pk (.dK [])) x (.ins A.book dx (ej "kept" (.ref pk) [])) x=some (.ins A.book dx (ej "kept" (.ref pk) [])):=ag
  have k1:upd (upd H pk (.dK [])) x (.ins A.book dx (ej "kept" (.ref pk) [])) pk=some (.dK []):=by rw[aA ne1,ag]
  generalize upd (upd H pk (.dK [])) x (.ins A.book dx (ej "kept" (.ref pk) []))=H1 at F1 g1 k1 ⊢
  intro xw Wc LJ Oz ne
  have s2:=lp (C:=A.work) (fs:=[]) LJ Oz ne
  refine⟨xw,Wc,rfl,ag,fun g H3 Ku W3 nf=>⟨rfl,?_⟩⟩
  have Wd:x≠xw:=aJ g1 LJ
  have nek:pk≠xw:=aJ k1 LJ
  have g3:=Ku _ _ (by simpa using Wd) (s2 _ _ g1)
  have k3:=Ku _ _ (by simpa using nek) (s2 _ _ k1)
  refine⟨_,rfl,x,_,dx,_,rfl,g3,G.eK,G.gy,lt1000 (pl BG) (by decide),?_⟩
  rw[Jn]
  have fw: ∀b∈g.fp,H1 b=none:=fun b hb=>s2.free (nf b hb)
  have off: ∀b,H1 b=none->b≠x->H b=none:=fun b e n=>F1.free (by simpa using n) e
  have xf:x∉g.fp:=fun z=>by have:=fw x z; rw[g1] at this; cases this
  have R4:dB A (upd H3 x (.ins A.book dx (eL pk xw))) xw Bk.new g:=by
   obtain⟨dw,hw⟩:=W3.obj
   obtain⟨ms,m1,m2⟩:=W3.hm
   have nx: ∀p∈g.fp,p≠x:=fun p hp z=>xf (z▸hp)
   refine⟨⟨dw,by rw[aA Wd.symm]; exact hw⟩,by rw[aA (nx _ (by simp[eB.fp]))]; exact W3.hb,by rw[aA (nx _ (by simp[eB.fp]))]; exact W3.hc,by rw[aA (nx _ (by simp[eB.fp]))]; exact W3.hl,by rw[aA (nx _ (by simp[eB.fp]))]; exact W3.hf,⟨ms,by rw[aA (nx _ (by simp[eB.fp]))]; exact m1,?_⟩,?_,?_,W3.nd⟩
   ·cases m2
    exact .nil
   ·exact⟨W3.rb.1,fun i p e=>by have:=(au.mp e).1; have h0:=W3.rb.1; rw[h0] at this; exact absurd this (iB _)⟩
   ·exact⟨W3.rc.1,fun i p e=>by have:=(au.mp e).1; have h0:=W3.rc.1; rw[h0] at this; exact absurd this (iB _)⟩
  refine k pk xw g _ ?_ ag (by rw[aA ne1]; exact k3) R4 nk (off xw LJ Wd.symm) (fun b hb=>off b (fw b hb) (fun z=>xf (z▸hb))) (fun z=>by have:=fw pk z; rw[k1] at this; cases this)
  intro b o hb e
  have bx:b≠x:=by simpa using hb
  rw[aA bx]
  have e1:=F1 b o hb e
  exact Ku b o (by simpa using aJ e1 LJ) (s2 b o e1)
def zW (r:List Bool):Dt:= .lst (r.map Dt.bl)
def Jo (t:Nat×Nat×Int):Dt:= .tup [.int t.1,.int t.2.1,.int t.2.2]
theorem gZ (fs ls:List Int)(al:List (List Bool)): ∀i,(bS fs ls al i).2.length<=i
 |0=>aC _
 |i + 1=>by
  have:=gZ fs ls al i
  unfold bS
  split
  ·lia
  ·rw[aH]; show _ + 1<=_; lia
def We:Option Nat->V
 |none=> .d8
 |some j=> .int j
def pK (a9:List (Key×V))(j:Nat):Bool:=(fW a9 (Sum.inl (j:Int):Key)).isSome
inductive zX (K:PySem.W.Frag)(vs:List V)(H:Hp)(Q:VK)(E':XK):Prop
 |mk (f:Int)(pl:Addr)(ls:List Int)(pr:Addr)(row:List Bool)(pt:Addr)(a9:List (Key×V))(h1:vs=[.int f,.ref pl,.ref pr,.ref pt])(h2:bE K H pl (ls.map V.int))(h3:bE K H pr (row.map V.bl))(h4:row.length=ls.length)(h5:H pt=some (.dK a9))(h6: ∀H',aD H H'->Q (We (gT f ls row (pK a9))) H'):zX K vs H Q E'
def ny (H:Hp)(ms:List (Nat×Nat×Int))(vs:List V):Prop:=Paired (fun(t:Nat×Nat×Int) v=> ∃p,v= .ref p/\H p=some (.tup [.int t.1,.int t.2.1,.int t.2.2])) ms vs
theorem ny.mono {H H':Hp}{ms:List (Nat×Nat×Int)}{vs:List V}(h:ny H ms vs)(k: ∀b xs,H b=some (.tup xs)->H' b=some (.tup xs)):ny H' ms vs:=
 Paired.gR h fun _ _ ⟨p,e,q⟩=>⟨p,e,k _ _ q⟩
theorem ny.rp {H:Hp}: ∀{ms:List (Nat×Nat×Int)} {vs:List V},ny H ms vs->gQ H (ms.map Jo) vs
 |_,_,.nil=>c9.mpr rfl
 |_,_,.cons ⟨p,e,q⟩ t=>bL.mpr ⟨_,_,rfl,e▸fA q (bL.mpr ⟨_,_,rfl,dz.mpr rfl,bL.mpr ⟨_,_,rfl,dz.mpr rfl,bL.mpr ⟨_,_,rfl,dz.mpr rfl,c9.mpr rfl⟩⟩⟩),ny.rp t⟩
theorem LK {H:Hp}{p:Addr}{o:HO}{a9:List (Key×V)}(h:H p=some (.dK a9)): ∀b xs,H b=some (.tup xs)->upd H p o b=some (.tup xs):=fun b xs e=>by
 rw[aA (mw e h (by intro z; cases z))]; exact e
theorem nz:aS ["free","lefts","fitting","taken","bill","left"] ["free","lefts","fitting","taken"] (ax (top 21)):={}
theorem xc (T:Txt K mg):eF P w K mg base "first_alike" 1 ["free","lefts","fitting","taken"] (zX K):=by
 refine T.wz.fj (k:=0) nz (fun f cK A outer s H vs Q E hr h=>?_)
 ·obtain⟨fr,pl,ls,pr,row,pt,a9,rfl,hL,hR,A4,hT,k⟩:=h
  have hu:=jE hr
  have nd:=nz.nd
  refine⟨_,(ai (eQ bH rfl (qo rfl T.i6 (aa (pv 1) av)) (iM rfl (bX (gn 4 nd) (bX (gn 5 nd) gu)))
(ao (bM (PW.pt (pw_and (fT (xl (pv 2) (pv 4))) (pw_and (aW cG (pv 5) (pv 0) (aZ _)) (pw_and1 (yu (FA hu (pv 4) (pv 3)))))))
(ao (a6 (pv 4)))
bb)))
(ao (a6 CD))),?_⟩
  refine⟨_,rfl,pl,rfl,⟨_,hL⟩,?_⟩
  refine mH (K:=K) (a:=pl) (xs:=ls.map V.int) (fun i σ H2=> ∃x4 x5,σ=[some (.int fr),some (.ref pl),some (.ref pr),some (.ref pt),x4,x5]/\aD H H2/\ ∀j,j < i->(row.getD j false && decide (ls.getD j 0=fr) && !pK a9 j)=false)
   ⟨none,none,rfl,aD.refl _,fun j hj=>absurd hj (iB _)⟩ (fun i σ H2 _ ⟨_,_,_,s2,_⟩=>s2.seq hL) ?_ ?_
  ·rintro i x p σ H2 hx hp ⟨x4,x5,rfl,s2,R5⟩
   have hi:i < ls.length:=by have:=(au.mp hx).1; rwa [ae] at this
   rw[aB,af hi] at hx
   obtain rfl:V.int ls[i]=x:=aF hx
   have s3:aD H2 (upd H2 p (.tup [.int i,.int ls[i]])):=aD.new hp
   refine⟨p,_,rfl,cm.of ag,rfl,_,_,rfl,_,_,rfl,rfl,?_⟩
   have s4:=s2.trans s3
   generalize upd H2 p (.tup [.int i,.int ls[i]])=H3 at s4 ⊢
   have R6:i < row.length:=by lia
   have OA:ls.getD i 0=ls[i]:=by rw[aj,af hi]; rfl
   have R7:row.getD i false=row[i]:=by rw[aj,af R6]; rfl
   have next:(row.getD i false && decide (ls.getD i 0=fr) && !pK a9 i)=false-> ∀j,j < i + 1->(row.getD j false && decide (ls.getD j 0=fr) && !pK a9 j)=false:=fun e j hj=>by
    rcases Nat.lt_succ_iff_lt_or_eq.mp hj with h|h
    ·exact R5 j h
    ·rw[h]; exact e
   refine⟨_,rfl,_,rfl,pr,_,_,.bl row[i],rfl,rfl,s4.seq hR,cz (by rw[aB,af R6]; rfl),_,rfl,?_⟩
   refine cy (fun c1=>?_) (fun c1=>bR ?_)
   ·refine⟨_,rfl,_,rfl,rfl,_,rfl,cy (fun c2=>?_) (fun c2=>bR ?_)⟩
    ·have R8:ls[i]=fr:=by have:=aN c2; injection this
     refine⟨_,rfl,_,rfl,pt,_,rfl,mh.k (k:=Sum.inl (i:Int)) (s4 _ _ hT),_,rfl,cy (fun c3=>?_) (fun c3=>?_)⟩
     ·
      refine⟨_,rfl,?_⟩
      have e:gT fr ls row (pK a9)=some i:=by
       unfold gT
       refine List.find?_range_eq_some.mpr ⟨?_,df.mpr hi,fun j hj=>?_⟩
       ·rw[R7,OA,c1,R8]
        simpa[pK] using c3
       ·rw[R5 j hj]; rfl
      have q:=k H3 s4
      rw[e] at q
      exact q
     ·refine⟨_,_,rfl,s4,next ?_⟩
      have c3':pK a9 i=true:=by
       unfold pK
       cases h:(fW a9 (Sum.inl (i:Int):Key)).isSome with
       |true=>rfl
       |false=>rw[h] at c3; exact absurd rfl c3
      rw[c3']; simp
    ·have R8: ¬ ls[i]=fr:=fun z=>c2 (aE (by rw[z]))
     refine⟨_,_,rfl,s4,next ?_⟩
     rw[OA,decide_eq_false R8]; simp
   ·refine⟨_,_,rfl,s4,next ?_⟩
    rw[R7,Bool.eq_false_iff.mpr c1]; rfl
  ·rintro σ H2 ⟨x4,x5,rfl,s2,R5⟩
   rw[ae] at R5
   have e:gT fr ls row (pK a9)=none:=by
    unfold gT
    refine List.find?_eq_none.mpr fun j hj=>?_
    rw[R5 j (df.mp hj)]
    exact aV
   have q:=k H2 s2
   rw[e] at q
   exact q
inductive vG (K:PySem.W.Frag)(vs:List V)(H:Hp)(Q:VK)(E':XK):Prop
 |mk (pf pl pa:Addr)(fs ls:List Int)(al:List (List Bool))(h1:vs=[.ref pf,.ref pl,.ref pa])(h2:bE K H pf (fs.map V.int))(h3:bE K H pl (ls.map V.int))(h4:Rp H (.lst (al.map zW)) (.ref pa))(h5:fs.length<=1000)(h6:al.length=fs.length)(h7:(∀r∈al,r.length=ls.length))(h8: ∀v H',aD H H'->Rp H' (.lst ((bS fs ls al fs.length).2.map Jo)) v->Q v H'):vG K vs H Q E'
theorem B4:aS ["frees","lefts","allowed","taken","made","credit","free","bill"] ["frees","lefts","allowed"] (ax (top 20)):={}
theorem LL (T:Txt K mg):eF P w K mg base "alike" 2 ["frees","lefts","allowed"] (vG K):=by
 have xg:eF P w K mg base "first_alike" 1 ["free","lefts","fitting","taken"] (zX K):=xc T
 refine T.Le.fj (k:=1) B4 (fun f cK A outer s H vs Q E hr h=>?_)
 ·obtain⟨pf,pl,pa,fs,ls,al,rfl,hF,hL,hA,hf1,U5,Jp,k⟩:=h
  have hu:=jE hr
  have nd:=B4.nd
  obtain⟨pa',refs,e0,Wf,LM⟩:=jG.mp hA
  cases e0
  refine⟨_,(ai (sv 3 nd AZ)
(ai (sv 4 nd (bQ av))
(ai (eQ bH rfl (qo rfl T.i6 (aa (pv 0) av)) (iM rfl (bX (gn 5 nd) (bX (gn 6 nd) gu)))
(ai (sv 7 nd (fc xg hr (aa (pv 6) (aa (pv 1) (aa (xl (pv 2) (pv 5)) (aa (pv 3) av))))))
(ao (bM (yu (Kr (pv 7)))
(ai (Ec hu (pv 3) (pv 7) kP rfl)
(ao (bJ (qA (pv 4) (dg (aa (pv 5) (aa (pv 7) (aa (pv 6) av))))))))
bb))))
(ao (a6 (pv 4)))))),?_⟩
  intro pt nt
  refine⟨bp _,fun pm nm=>?_⟩
  have s1:aD H (upd H pt (.dK [])):=aD.new nt
  have s2:aD H (upd (upd H pt (.dK [])) pm (.lst [])):=s1.trans (aD.new nm)
  have Wg:H pm=none:=s1.free nm
  have MC:pt≠pm:=aJ ag nm
  refine⟨_,rfl,pf,rfl,⟨_,s2.seq hF⟩,?_⟩
  refine mH (K:=K) (a:=pf) (xs:=fs.map V.int) (fun i σ H2=> ∃x5 x6 x7 a9 ms,σ=[some (.ref pf),some (.ref pl),some (.ref pa),some (.ref pt),some (.ref pm),x5,x6,x7]/\aD H H2/\H2 pt=some (.dK a9)/\(∀j:Nat,pK a9 j=(bS fs ls al i).1 j)/\a9.length<=i/\H2 pm=some (.lst ms)/\ny H2 (bS fs ls al i).2 ms)
   ⟨none,none,none,[],[],rfl,s2,by rw[aA MC]; exact ag,fun j=>rfl,aC _,ag,.nil⟩ (fun i σ H2 _ ⟨_,_,_,_,_,_,s3,_⟩=>s3.seq hF) ?_ ?_
  ·rintro i x p σ H2 hx hp ⟨x5,x6,x7,a9,ms,rfl,s3,hT,nK,EH,hM,ES⟩
   have hi:i < fs.length:=by have:=(au.mp hx).1; rwa [ae] at this
   rw[aB,af hi] at hx
   obtain rfl:V.int fs[i]=x:=aF hx
   have s4:aD H2 (upd H2 p (.tup [.int i,.int fs[i]])):=aD.new hp
   refine⟨p,_,rfl,cm.of ag,rfl,_,_,rfl,_,_,rfl,rfl,?_⟩
   have s5:=s3.trans s4
   have MD:=s4 _ _ hT
   have qX:=s4 _ _ hM
   have DE:=ES.mono (fR s4)
   generalize upd H2 p (.tup [.int i,.int fs[i]])=H3 at s5 MD qX DE ⊢
   clear s4 hp
   have R9:i < al.length:=by lia
   have g0:(al.map zW)[i]? =some (zW al[i]):=by rw[aB,af R9]; rfl
   obtain⟨rv,TM,TN⟩:=LM.get g0
   obtain⟨pr,Wh,e1,Kb,yc⟩:=jG.mp TN
   subst e1
   have hrx:Wh=al[i].map V.bl:=by
    clear Kb TM TN
    generalize al[i]=r at yc
    induction r generalizing Wh with
    |nil=>exact c9.mp yc
    |cons b r ih=>
     obtain⟨v,rest,e,h1,h2⟩:=bL.mp yc
     rw[e,qq.mp h1,ih rest h2]; rfl
   subst hrx
   have Wi:fs.getD i 0=fs[i]:=by rw[aj,af hi]; rfl
   have Wj:al.getD i []=al[i]:=by rw[aj,af R9]; rfl
   refine⟨_,rfl,_,rfl,_,rfl,_,rfl,pa,_,_,.ref pr,rfl,rfl,bE.of (s5 _ _ Wf),cz TM,_,rfl,fs[i],pl,ls,pr,al[i],pt,a9,rfl,s5.seq hL,bE.of (s5 _ _ Kb),Jp _ (bF _),MD,fun H4 s6=>?_⟩
   have etk:pK a9=(bS fs ls al i).1:=funext nK
   have sk:bS fs ls al (i + 1)=match gT fs[i] ls al[i] (pK a9) with
     |none=>bS fs ls al i
     |some j=>(fun x=>x == j || (bS fs ls al i).1 x,(bS fs ls al i).2 ++ [(i,j,fs[i])]):=by
    rw[etk,← Wi,← Wj]; rfl
   cases hb:gT fs[i] ls al[i] (pK a9) with
   |none=>
    rw[hb] at sk
    refine⟨_,rfl,_,rfl,bR ?_⟩
    refine⟨_,_,_,a9,ms,rfl,s5.trans s6,s6 _ _ MD,?_,by lia,s6 _ _ qX,?_⟩
    ·intro j; rw[sk]; exact nK j
    ·rw[sk]; exact DE.mono (fR s6)
   |some j=>
    rw[hb] at sk
    refine⟨_,rfl,_,rfl,fv ?_⟩
    have PF:=s6 _ _ MD
    have vH:=s6 _ _ qX
    refine⟨_,rfl,_,rfl,pt,_,rfl,Fx.k (k:=Sum.inl (j:Int)) PF (bg (by lia)),?_⟩
    have Jq:upd H4 pt (.dK (putK a9 (Sum.inl (j:Int):Key) (.bl true))) pm=some (.lst ms):=by rw[aA MC.symm]; exact vH
    have Hd:=(DE.length)
    have PH:=gZ fs ls al i
    have s7:aD H (upd H4 pt (.dK (putK a9 (Sum.inl (j:Int):Key) (.bl true)))):=(s5.trans s6).cX nt
    have DF:ny (upd H4 pt (.dK (putK a9 (Sum.inl (j:Int):Key) (.bl true)))) (bS fs ls al i).2 ms:=(DE.mono (fR s6)).mono (LK PF)
    have GI:upd H4 pt (.dK (putK a9 (Sum.inl (j:Int):Key) (.bl true))) pt=some (.dK (putK a9 (Sum.inl (j:Int):Key) (.bl true))):=ag
    generalize upd H4 pt (.dK (putK a9 (Sum.inl (j:Int):Key) (.bl true)))=H5 at Jq s7 DF GI ⊢
    refine⟨_,rfl,.inl ⟨rfl,_,bE.of Jq⟩,_,rfl,_,rfl,_,rfl,(by show 3<=sizeLine; decide),fun p8 n8=>?_⟩
    have s8:aD H5 (upd H5 p8 (.tup [.int i,.int j,.int fs[i]])):=aD.new n8
    refine⟨pm,ms,_,rfl,rfl,s8 _ _ Jq,bg (by lia),?_⟩
    refine⟨_,_,_,putK a9 (Sum.inl (j:Int):Key) (.bl true),ms ++ [.ref p8],rfl,(s7.trans s8).cX Wg,?_,fun x=>?_,?_,ag,?_⟩
    ·rw[aA MC]; exact s8 _ _ GI
    ·rw[sk]
     unfold pK
     rw[HS]
     by_cases hx:x=j
     ·subst hx; simp
     ·have: ¬ (Sum.inl (x:Int):Key)=Sum.inl (j:Int):=fun z=>hx (by injection z with z; lia)
      rw[aQ this]
      have h2:=nK x
      unfold pK at h2
      rw[h2]
      simp[hx]
    ·have:=kg a9 (Sum.inl (j:Int):Key) (.bl true)
     lia
    ·rw[sk]
     exact cA ((DF.mono (fR s8)).mono (dA (s8 _ _ Jq))) ⟨p8,rfl,dA (s8 _ _ Jq) _ _ ag⟩
  ·rintro σ H2 ⟨x5,x6,x7,a9,ms,rfl,s3,hT,nK,EH,hM,ES⟩
   rw[ae] at ES
   refine⟨_,rfl,?_⟩
   exact k _ _ s3 (jm hM ES.rp)
def cH (fs ls:List Int)(al:List (List Bool))(i:Nat):List (Nat×Int):=(bz (fs.getD i 0) (ck fs ls al i).1 (al.getD i []) (ck fs ls al i).1.length).2
theorem B6 (fs ls:List Int)(al:List (List Bool))(i:Nat):(ck fs ls al (i + 1)).1=dD (ck fs ls al i).1 (cH fs ls al i):=rfl
theorem sS (fs ls:List Int)(al:List (List Bool))(i:Nat):(ck fs ls al (i + 1)).2=(ck fs ls al i).2 ++ (cH fs ls al i).map fun x=>(i,x.1,x.2):=rfl
def OB (H:Hp)(ps:List (Nat×Int))(vs:List V):Prop:=Paired (fun(t:Nat×Int) v=> ∃p,v= .ref p/\H p=some (.tup [.int t.1,.int t.2])) ps vs
theorem OB.mono {H H':Hp}{ps:List (Nat×Int)}{vs:List V}(h:OB H ps vs)(k: ∀b xs,H b=some (.tup xs)->H' b=some (.tup xs)):OB H' ps vs:=
 Paired.gR h fun _ _ ⟨p,e,q⟩=>⟨p,e,k _ _ q⟩
theorem f9 (f:Int)(l:List Int)(row:List Bool): ∀j,(bz f l row j).2.length<=j
 |0=>aC _
 |j + 1=>by
  have:=f9 f l row j
  rw[bz]
  split
  ·rw[aH]; show _ + 1<=_; lia
  ·lia
inductive zY (K:PySem.W.Frag)(vs:List V)(H:Hp)(Q:VK)(E':XK):Prop
 |mk (f:Int)(pl:Addr)(ls:List Int)(pr:Addr)(row:List Bool)(h1:vs=[.int f,.ref pl,.ref pr])(h2:bE K H pl (ls.map V.int))(h3:bE K H pr (row.map V.bl))(h4:row.length=ls.length)(h5:ls.length<=100)(h6: ∀(q:Addr) (ms:List V) (H':Hp),aD H H'->H q=none->H' q=some (.lst ms)->OB H' (bz f ls row ls.length).2 ms->Q (.ref q) H'):zY K vs H Q E'
theorem sT:aS ["free","lefts","fitting","still_free","parts","bill","left","amount"] ["free","lefts","fitting"] (ax (top 23)):={}
theorem DG (T:Txt K mg):eF P w K mg base "parts_of" 1 ["free","lefts","fitting"] (zY K):=by
 refine T.C9.fj (k:=0) sT (fun f cK A outer s H vs Q E hr h=>?_)
 ·obtain⟨fr,pl,ls,pr,row,rfl,hL,hR,A4,RC,k⟩:=h
  have hu:=jE hr
  have nd:=sT.nd
  refine⟨_,(ai (sv 3 nd (pv 0))
(ai (sv 4 nd (bQ av))
(ai (eQ bH rfl (qo rfl T.i6 (aa (pv 1) av)) (iM rfl (bX (gn 5 nd) (bX (gn 6 nd) gu)))
(ai (sv 7 nd (cI (rF rfl) (by rfl) T.II boot_min (aa (pv 3) (aa (pv 6) av))))
(ao (bM (PW.pt (pw_and (fT (xl (pv 2) (pv 5))) (pw_and1 (aW iG (pv 7) ah (aZ _)))))
(ai (bJ (qA (pv 4) (dg (aa (pv 5) (aa (pv 7) av)))))
(ao (sv 3 nd (aU eR (pv 3) (pv 7)))))
bb))))
(ao (a6 (pv 4)))))),?_⟩
  refine⟨_,rfl,?_⟩
  refine⟨bp _,fun q nq=>?_⟩
  have s1:aD H (upd H q (.lst [])):=aD.new nq
  refine⟨_,rfl,pl,rfl,⟨_,s1.seq hL⟩,?_⟩
  refine mH (K:=K) (a:=pl) (xs:=ls.map V.int) (fun i σ H2=> ∃(x5 x6 x7:Option V) (ms:List V),σ=[some (.int fr),some (.ref pl),some (.ref pr),some (.int (bz fr ls row i).1),some (.ref q),x5,x6,x7]/\aD H H2/\H2 q=some (.lst ms)/\OB H2 (bz fr ls row i).2 ms)
   ⟨none,none,none,[],rfl,s1,ag,.nil⟩ (fun i σ H2 _ ⟨_,_,_,_,_,s2,_⟩=>s2.seq hL) ?_ ?_
  ·rintro i x p σ H2 hx hp ⟨x5,x6,x7,ms,rfl,s2,hM,hP⟩
   have hi:i < ls.length:=by have:=(au.mp hx).1; rwa [ae] at this
   rw[aB,af hi] at hx
   obtain rfl:V.int ls[i]=x:=aF hx
   have s3:aD H2 (upd H2 p (.tup [.int i,.int ls[i]])):=aD.new hp
   refine⟨p,_,rfl,cm.of ag,rfl,_,_,rfl,_,_,rfl,rfl,?_⟩
   have s4:=s2.trans s3
   have PJ:=s3 _ _ hM
   have LF:=hP.mono (fR s3)
   generalize upd H2 p (.tup [.int i,.int ls[i]])=H3 at s4 PJ LF ⊢
   have R6:i < row.length:=by lia
   have OA:ls.getD i 0=ls[i]:=getD_at hi
   have R7:row.getD i false=row[i]:=getD_at R6
   have hlen:ms.length<=i:=by have:=hP.length; have:=f9 fr ls row i; lia
   refine⟨_,rfl,_,rfl,_,_,rfl,?_⟩
   have em:(if ls[i] < (bz fr ls row i).1 then ls[i] else(bz fr ls row i).1)=iD (bz fr ls row i).1 (ls.getD i 0):=by rw[OA]; rfl
   rw[em]
   have sk:bz fr ls row (i + 1)=if row.getD i false=true/\0 < iD (bz fr ls row i).1 (ls.getD i 0) then((bz fr ls row i).1 - iD (bz fr ls row i).1 (ls.getD i 0),(bz fr ls row i).2 ++ [(i,iD (bz fr ls row i).1 (ls.getD i 0))]) else bz fr ls row i:=by rw[bz]
   generalize iD (bz fr ls row i).1 (ls.getD i 0)=am at sk ⊢
   have no: ¬ (row.getD i false=true/\0 < am)-> ∃(x5 x6 x7:Option V) (ms:List V),[some (.int fr),some (.ref pl),some (.ref pr),some (.int (bz fr ls row i).1),some (.ref q),some (V.int i),some (V.int ls[i]),some (V.int am)]=[some (.int fr),some (.ref pl),some (.ref pr),some (.int (bz fr ls row (i + 1)).1),some (.ref q),x5,x6,x7]/\aD H H3/\H3 q=some (.lst ms)/\OB H3 (bz fr ls row (i + 1)).2 ms:=fun c=>by
    rw[sk,aQ c]
    exact⟨_,_,_,ms,rfl,s4,PJ,LF⟩
   refine⟨_,rfl,_,rfl,pr,_,_,.bl row[i],rfl,rfl,s4.seq hR,cz (by rw[aB,af R6]; rfl),_,rfl,?_⟩
   refine cy (fun c1=>?_) (fun c1=>bR ?_)
   ·refine⟨_,rfl,_,_,rfl,rfl,_,rfl,cy (fun c2=>?_) (fun c2=>?_)⟩
    ·have R8:0 < am:=aN c2
     rw[a7 ⟨by rw[R7]; exact c1,R8⟩] at sk
     refine⟨_,rfl,.inl ⟨rfl,_,bE.of PJ⟩,_,rfl,_,rfl,(by show 2<=sizeLine; decide),fun p8 n8=>?_⟩
     have s8:aD H3 (upd H3 p8 (.tup [.int i,.int am])):=aD.new n8
     refine⟨q,ms,_,rfl,rfl,s8 _ _ PJ,bg (by lia),?_⟩
     refine⟨_,rfl,_,rfl,_,_,rfl,rfl,?_⟩
     refine⟨_,_,_,ms ++ [.ref p8],by rw[sk]; rfl,(s4.trans s8).cX nq,ag,?_⟩
     rw[sk]
     exact cA ((LF.mono (fR s8)).mono (dA (s8 _ _ PJ))) ⟨p8,rfl,dA (s8 _ _ PJ) _ _ ag⟩
    ·exact no fun z=>c2 (aE z.2)
   ·exact no fun z=>c1 (by rw[← R7]; exact z.1)
  ·rintro σ H2 ⟨x5,x6,x7,ms,rfl,s2,hM,hP⟩
   rw[ae] at hP
   refine⟨_,rfl,?_⟩
   exact k _ _ _ s2 nq hM hP
theorem pL (f:Int)(l:List Int)(row:List Bool): ∀j,∀x∈(bz f l row j).2,x.1 < j
 |0,x,hx=>by cases hx
 |j + 1,x,hx=>by
  rw[bz] at hx
  split at hx
  ·rcases bA.mp hx with hx|hx
   ·have:=pL f l row j x hx; lia
   ·rw[ak] at hx; subst hx; exact fP _
  ·have:=pL f l row j x hx; lia
theorem B7 (fs ls:List Int)(al:List (List Bool)): ∀i,(ck fs ls al i).2.length<=i * ls.length
 |0=>by show 0<=_; lia
 |i + 1=>by
  have:=B7 fs ls al i
  have h2:=f9 (fs.getD i 0) (ck fs ls al i).1 (al.getD i []) (ck fs ls al i).1.length
  rw[sS,aH,ae,vZ]
  unfold cH
  rw[jv] at h2 ⊢
  lia
inductive vI (K:PySem.W.Frag)(vs:List V)(H:Hp)(Q:VK)(E':XK):Prop
 |mk (pf pl pa:Addr)(fs ls:List Int)(al:List (List Bool))(h1:vs=[.ref pf,.ref pl,.ref pa])(h2:bE K H pf (fs.map V.int))(h3:bE K H pl (ls.map V.int))(h4:Rp H (.lst (al.map zW)) (.ref pa))(h5:fs.length<=63)(h6:ls.length<=63)(h7:al.length=fs.length)(h8:(∀r∈al,r.length=ls.length))(h9: ∀(pm:Addr) (ms:List V) (H':Hp),aD H H'->H' pm=some (.lst ms)->ny H' (ck fs ls al fs.length).2 ms->Q (.ref pm) H'):vI K vs H Q E'
theorem ET {H:Hp}: ∀(r:List Bool) {xs:List V},gQ H (r.map Dt.bl) xs->xs=r.map V.bl
 |[],_,h=>c9.mp h
 |b :: r,_,h=>by
  obtain⟨v,rest,e,h1,h2⟩:=bL.mp h
  rw[e,qq.mp h1,ET r h2]; rfl
theorem OC {H:Hp}{al:List (List Bool)}{refs:List V}(h:gQ H (al.map zW) refs){i:Nat}(hi:i < al.length): ∃pr,refs[i]? =some (.ref pr)/\H pr=some (.lst (al[i].map V.bl)):=by
 have g0:(al.map zW)[i]? =some (zW al[i]):=by rw[aB,af hi]; rfl
 obtain⟨rv,TM,TN⟩:=h.get g0
 obtain⟨pr,Wh,e1,Kb,yc⟩:=jG.mp TN
 rw[ET _ yc] at Kb
 exact⟨pr,by rw[TM,e1],Kb⟩
theorem oH:aS ["frees","lefts","allowed","still_left","made","credit","free","parts","bill","amount"] ["frees","lefts","allowed"] (ax (top 22)):={}
theorem zZ (T:Txt K mg):eF P w K mg base "shared_out" 2 ["frees","lefts","allowed"] (vI K):=by
 have DH:eF P w K mg base "parts_of" 1 ["free","lefts","fitting"] (zY K):=DG T
 refine T.yU.fj (k:=1) oH (fun f cK A outer s H vs Q E hr h=>?_)
 ·obtain⟨pf,pl,pa,fs,ls,al,rfl,hF,hL,hA,hf1,RC,U5,Jp,k⟩:=h
  have hu:=jE hr
  have nd:=oH.nd
  obtain⟨pa',refs,e0,Wf,LM⟩:=jG.mp hA
  cases e0
  refine⟨_,(ai (sv 3 nd (fQ ql (by rfl) T.rT boot_list (aa (pv 1) av)))
(ai (sv 4 nd (bQ av))
(ai (eQ bH rfl (qo rfl T.i6 (aa (pv 0) av)) (iM rfl (bX (gn 5 nd) (bX (gn 6 nd) gu)))
(ai (sv 7 nd (fc DH hr (aa (pv 6) (aa (pv 3) (aa (xl (pv 2) (pv 5)) av)))))
(ao (eQ bH rfl (dj (pv 7)) (iM rfl (bX (gn 8 nd) (bX (gn 9 nd) gu)))
(ai (lG (aU eR (xl (pv 3) (pv 8)) (pv 9)) (oY (pv 3) (pv 8) set_list))
(ao (bJ (qA (pv 4) (dg (aa (pv 5) (aa (pv 8) (aa (pv 9) av))))))))))))
(ao (a6 (pv 4)))))),?_⟩
  refine⟨_,rfl,pl,_,rfl,.inl hL,fun q nq=>?_⟩
  refine⟨bp _,fun pm nm=>?_⟩
  have s1:aD H (upd H q (.lst (ls.map V.int))):=aD.new nq
  have s2:aD H (upd (upd H q (.lst (ls.map V.int))) pm (.lst [])):=s1.trans (aD.new nm)
  have Wg:H pm=none:=s1.free nm
  have Wk:q≠pm:=aJ ag nm
  refine⟨_,rfl,pf,rfl,⟨_,s2.seq hF⟩,?_⟩
  refine mH (K:=K) (a:=pf) (xs:=fs.map V.int) (fun i σ H2=> ∃(x5 x6 x7 x8 x9:Option V) (ms:List V),σ=[some (.ref pf),some (.ref pl),some (.ref pa),some (.ref q),some (.ref pm),x5,x6,x7,x8,x9]/\aD H H2/\H2 q=some (.lst ((ck fs ls al i).1.map V.int))/\H2 pm=some (.lst ms)/\ny H2 (ck fs ls al i).2 ms)
   ⟨none,none,none,none,none,[],rfl,s2,by rw[aA Wk]; exact ag,ag,.nil⟩ (fun i σ H2 _ ⟨_,_,_,_,_,_,_,s3,_⟩=>s3.seq hF) ?_ ?_
  ·rintro i x p σ H2 hx hp ⟨x5,x6,x7,x8,x9,ms,rfl,s3,hQ,hM,ES⟩
   have hi:i < fs.length:=by have:=(au.mp hx).1; rwa [ae] at this
   rw[aB,af hi] at hx
   obtain rfl:V.int fs[i]=x:=aF hx
   have s4:aD H2 (upd H2 p (.tup [.int i,.int fs[i]])):=aD.new hp
   refine⟨p,_,rfl,cm.of ag,rfl,_,_,rfl,_,_,rfl,rfl,?_⟩
   have s5:=s3.trans s4
   have TQ:=s4 _ _ hQ
   have qX:=s4 _ _ hM
   have DE:=ES.mono (fR s4)
   generalize upd H2 p (.tup [.int i,.int fs[i]])=H3 at s5 TQ qX DE ⊢
   clear s4 hp
   have R9:i < al.length:=by lia
   obtain⟨pr,Wl,Wm⟩:=OC LM R9
   have Wi:fs.getD i 0=fs[i]:=getD_at hi
   have Wj:al.getD i []=al[i]:=getD_at R9
   have Dq:=jv fs ls al i
   have OD:cH fs ls al i=(bz fs[i] (ck fs ls al i).1 al[i] (ck fs ls al i).1.length).2:=by unfold cH; rw[Wi,Wj]
   have Ys:(cH fs ls al i).length<=ls.length:=by rw[OD,Dq]; exact f9 _ _ _ _
   have Wn: ∀x∈cH fs ls al i,x.1 < ls.length:=by rw[OD,Dq]; exact pL _ _ _ _
   have PH:=B7 fs ls al i
   have aa6:(ck fs ls al i).2.length<=3969:=aY PH (lC (show i<=63 by lia) RC)
   refine⟨_,rfl,_,rfl,_,rfl,_,rfl,pa,_,_,.ref pr,rfl,rfl,bE.of (s5 _ _ Wf),cz Wl,fs[i],q,(ck fs ls al i).1,pr,al[i],rfl,bE.of TQ,bE.of (s5 _ _ Wm),by rw[Dq]; exact Jp _ (bF _),by rw[Dq]; lia,fun r Sa H4 s6 Sb VM hP=>?_⟩
   rw[← OD] at hP
   have hQ5:=s6 _ _ TQ
   have vH:=s6 _ _ qX
   have Wo:=DE.mono (fR s6)
   have hrq:r≠q:=(aJ TQ Sb).symm
   have QR:r≠pm:=(aJ qX Sb).symm
   have s7:=s5.trans s6
   have Ox:Sa.length=(cH fs ls al i).length:=hP.length.symm
   refine⟨_,rfl,r,rfl,⟨_,bE.of VM⟩,?_⟩
   refine fX (K:=K) (a:=r) (xs:=Sa) (fun m σ H5=> ∃(x8 x9:Option V) (ms:List V),σ=[some (.ref pf),some (.ref pl),some (.ref pa),some (.ref q),some (.ref pm),some (.int i),some (.int fs[i]),some (.ref r),x8,x9]/\aD H H5/\H5 q=some (.lst ((dD (ck fs ls al i).1 ((cH fs ls al i).take m)).map V.int))/\H5 pm=some (.lst ms)/\ny H5 ((ck fs ls al i).2 ++ ((cH fs ls al i).take m).map fun x=>(i,x.1,x.2)) ms/\H5 r=some (.lst Sa)/\OB H5 (cH fs ls al i) Sa)
    ⟨_,_,ms,rfl,s7,hQ5,vH,by simpa using Wo,VM,hP⟩ (fun m σ H5 _ ⟨_,_,_,_,_,_,_,_,h,_⟩=>bE.of h) ?_ ?_
   ·rintro m x σ H5 hx ⟨y8,y9,Sd,rfl,t5,OE,Jq,DF,MB,PB⟩
    have hm:m < (cH fs ls al i).length:=by have:=(au.mp hx).1; lia
    have g0:(cH fs ls al i)[m]? =some (cH fs ls al i)[m]:=af hm
    obtain⟨v,hv,pp,e1,Hc⟩:=bG PB g0
    rw[hx] at hv
    obtain rfl:x=v:=aF hv
    subst e1
    have hb:(cH fs ls al i)[m].1 < ls.length:=Wn _ (bF _)
    have nK:=ow hm
    have Th:(dD (ck fs ls al i).1 ((cH fs ls al i).take m)).length=ls.length:=by rw[pj,Dq]
    generalize (cH fs ls al i)[m]=pt at Hc hb nK g0
    obtain⟨b,am⟩:=pt
    dsimp only at Hc hb
    refine⟨pp,_,rfl,cm.of Hc,rfl,_,_,rfl,_,_,rfl,rfl,?_⟩
    refine⟨_,rfl,_,rfl,q,_,_,_,rfl,rfl,bE.of OE,pC (by rw[Th]; exact hb),_,rfl,_,_,rfl,rfl,_,rfl,_,rfl,q,_,_,b,rfl,rfl,OE,qL (by rw[ae,Th]; exact hb),?_⟩
    rw[← G4]
    have hap:dD (ck fs ls al i).1 ((cH fs ls al i).take (m + 1))=(dD (ck fs ls al i).1 ((cH fs ls al i).take m)).set b ((dD (ck fs ls al i).1 ((cH fs ls al i).take m)).getD b 0 - am):=by rw[nK,sF]
    rw[← hap]
    have t6:aD H (upd H5 q (.lst ((dD (ck fs ls al i).1 ((cH fs ls al i).take (m + 1))).map V.int))):=t5.cX nq
    have GL:upd H5 q (.lst ((dD (ck fs ls al i).1 ((cH fs ls al i).take (m + 1))).map V.int)) pm=some (.lst Sd):=by rw[aA Wk.symm]; exact Jq
    have Yt:upd H5 q (.lst ((dD (ck fs ls al i).1 ((cH fs ls al i).take (m + 1))).map V.int)) q=some (.lst ((dD (ck fs ls al i).1 ((cH fs ls al i).take (m + 1))).map V.int)):=ag
    have Yu:upd H5 q (.lst ((dD (ck fs ls al i).1 ((cH fs ls al i).take (m + 1))).map V.int)) r=some (.lst Sa):=by rw[aA hrq]; exact MB
    have OF:=DF.mono (dA (o:= .lst ((dD (ck fs ls al i).1 ((cH fs ls al i).take (m + 1))).map V.int)) OE)
    have Yv:=PB.mono (dA (o:= .lst ((dD (ck fs ls al i).1 ((cH fs ls al i).take (m + 1))).map V.int)) OE)
    generalize upd H5 q (.lst ((dD (ck fs ls al i).1 ((cH fs ls al i).take (m + 1))).map V.int))=H6 at t6 GL Yt Yu OF Yv ⊢
    have Hd:=OF.length
    rw[aH,ae,bh] at Hd
    refine⟨_,rfl,.inl ⟨rfl,_,bE.of GL⟩,_,rfl,_,rfl,_,rfl,(by show 3<=sizeLine; decide),fun p8 n8=>?_⟩
    have s8:aD H6 (upd H6 p8 (.tup [.int i,.int b,.int am])):=aD.new n8
    refine⟨pm,Sd,_,rfl,rfl,s8 _ _ GL,iU (by lia),?_⟩
    refine⟨_,_,Sd ++ [.ref p8],rfl,(t6.trans s8).cX Wg,?_,ag,?_,?_,?_⟩
    ·rw[aA Wk]; exact s8 _ _ Yt
    ·rw[nK,aM,← gq]
     exact cA ((OF.mono (fR s8)).mono (dA (s8 _ _ GL))) ⟨p8,rfl,dA (s8 _ _ GL) _ _ ag⟩
    ·rw[aA QR]; exact s8 _ _ Yu
    ·exact(Yv.mono (fR s8)).mono (dA (s8 _ _ GL))
   ·rintro σ H5 ⟨y8,y9,Sd,rfl,t5,OE,Jq,DF,MB,PB⟩
    rw[Ox,a8] at OE DF
    exact⟨_,_,_,_,_,Sd,rfl,t5,by rw[B6]; exact OE,Jq,by rw[sS]; exact DF⟩
  ·rintro σ H2 ⟨x5,x6,x7,x8,x9,ms,rfl,s3,hQ,hM,ES⟩
   rw[ae] at ES
   refine⟨_,rfl,?_⟩
   exact k _ _ _ s3 hM ES
theorem LN {X:Cx}{K:PySem.W.Frag}{es:List Expr}{k:Nat}{pos:Pos}{t:Mb}{n:Nat}(hK:X.K=K)(hc:X.calm=true)(h:Ks X es t)(hn:(assignEach es X.env).length=n)(sk:(assignEach es X.env).findIdx? (·.1)=none):PG X (.Tuple es k pos) (Qh K n t):=by
 subst hK
 exact iM hc h hn sk
theorem fO {H H':Hp}{tb:Addr}{fp:List Addr}{pos:Pos}{qual:Str}(t:Tb H tb pos qual)(fr:Frame fp H H')(ht:tb∉fp)(hf: ∀a∈fp,∀φ,H a≠some (.ext φ)):Tb H' tb pos qual:=by
 obtain⟨ps,h1,h2,h3⟩:=t
 refine⟨ps,fr _ _ ht h1,h2,?_⟩
 rcases h3 with h3|⟨c',h3,h4⟩
 ·exact .inl h3
 ·exact .inr ⟨c',h3,fr _ _ (fun z=>hf _ z _ h4) h4⟩
theorem cS {H:Hp}{tb:Addr}{pos:Pos}{qual:Str}(t:Tb H tb pos qual): ∃ps,H tb=some (.nJ ps):=let⟨ps,e,_⟩:=t; ⟨ps,e⟩
theorem dC {fp QY:List Addr}{H H':Hp}(f:Frame fp H H')(h: ∀x∈fp,x∈QY):Frame QY H H':=fun b o hb e=>f b o (fun z=>hb (h b z)) e
theorem uk {H:Hp}{p C D:Addr}{fs:List (Str×V)}{ys:List V}{o:HO}(h:ee H p C fs)(e:H D=some (.lst ys)):ee (upd H D o) p C fs:=let⟨dx,z⟩:=h; ⟨dx,by rw[aA (mw z e (by intro q; cases q))]; exact z⟩
theorem gz.upd {A:dQ}{H:Hp}{S:Bk}{cs:List Nat}{qs:List Addr}{D:Addr}{ys:List V}{o:HO}(h:gz A H S cs qs)(e:H D=some (.lst ys)):gz A (L2.upd H D o) S cs qs:=Paired.gR h fun _ _ z=>uk z e
theorem iy.upd {A:dQ}{H:Hp}{S:Bk}{cs:List Nat}{qs:List Addr}{D:Addr}{ys:List V}{o:HO}(h:iy A H S cs qs)(e:H D=some (.lst ys)):iy A (L2.upd H D o) S cs qs:=Paired.gR h fun _ _ z=>uk z e
theorem gz.tb {A:dQ}{H H':Hp}{S:Bk}{cs:List Nat}{qs:List Addr}{tb:Addr}{pos:Pos}{qual:Str}(h:gz A H S cs qs)(t:Tb H tb pos qual)(fr:Frame [tb] H H'):gz A H' S cs qs:=Paired.gR h fun _ _ z=>z.frame fr (vD t z)
theorem nP {rows:List Rw}{c:Nat}(h:c < rows.length):(rows.map fun r=>V.int r.d)[c]? =some (.int (rows.getD c default).d):=by
 rw[aB,af h,aj,af h]; rfl
theorem nQ (rows:List Rw)(aI:Str)(key:Rw->Int):(inOrder rows aI key).length<=rows.length:=by
 have e:(inOrder rows aI key).length=((List.range rows.length).filter fun k=>decide ((rows.getD k default).aI=aI)).length:=by
  unfold inOrder f7
  rw[ae,(cY _).length_eq,ae]
 have:=aX (fun k=>decide ((rows.getD k default).aI=aI)) (List.range rows.length)
 rw[di] at this
 lia
def ma (rows:List Rw)(k:Nat):Bool:=decide (0 < (rows.getD k default).d)
abbrev Jr:=List Int->List Int->List (List Bool)->List (Nat×Nat×Int)
def pM:Jr:=fun fs ls al=>(bS fs ls al fs.length).2
def B8:Jr:=fun fs ls al=>(ck fs ls al fs.length).2
structure Js (way:Jr):Prop where
 lt: ∀fs ls al,∀t∈way fs ls al,t.1 < fs.length/\t.2.1 < ls.length
 len: ∀fs ls al,fs.length<=63->ls.length<=63->(way fs ls al).length<=4000
def OG (way:Jr)(sp:Sp):Prop:= ∀(pf pl pa:Addr) (fs ls:List Int) (al:List (List Bool)) (H:Hp) (Q:VK),H pf=some (.lst (fs.map V.int))->H pl=some (.lst (ls.map V.int))->Rp H (.lst (al.map zW)) (.ref pa)->fs.length<=63->ls.length<=63->al.length=fs.length->(∀r∈al,r.length=ls.length)->
 (∀(pm:Addr) (ms:List V) (H':Hp),aD H H'->H' pm=some (.lst ms)->g8 H' (way fs ls al) ms->Q (.ref pm) H')->sp [.ref pf,.ref pl,.ref pa] H Q E0
def iW (H:Hp)(D:Addr)(al:List (List Bool))(rs:List V):Prop:=Paired (fun(r:List Bool) v=> ∃p,v= .ref p/\p≠D/\H p=some (.lst (r.map V.bl))) al rs
theorem iW.upd {H:Hp}{D:Addr}{al:List (List Bool)}{rs:List V}{o:HO}(h:iW H D al rs):iW (L2.upd H D o) D al rs:=Paired.gR h fun _ _ ⟨p,e,n,z⟩=>⟨p,e,n,by rw[aA n]; exact z⟩
theorem iW.same {H H':Hp}{D:Addr}{al:List (List Bool)}{rs:List V}(h:iW H D al rs)(s:aD H H'):iW H' D al rs:=Paired.gR h fun _ _ ⟨p,e,n,z⟩=>⟨p,e,n,s _ _ z⟩
theorem yk {H:Hp}: ∀r:List Bool,gQ H (r.map Dt.bl) (r.map V.bl)
 |[]=>c9.mpr rfl
 |b :: r=>bL.mpr ⟨_,_,rfl,qq.mpr rfl,yk r⟩
theorem iW.rp {H:Hp}{D:Addr}: ∀{al:List (List Bool)} {rs:List V},iW H D al rs->gQ H (al.map zW) rs
 |_,_,.nil=>c9.mpr rfl
 |_,_,.cons ⟨p,e,_,z⟩ t=>bL.mpr ⟨_,_,rfl,e▸jm z (yk _),iW.rp t⟩
theorem GN {S:Bk}{l:List (Nat×Nat×Int)}{i:Nat}{t:Nat×Nat×Int}(h:l[i]? =some t):ka S (l.take (i + 1))=(ka S (l.take i)).put t.1 t.2.1 t.2.2:=jy (fun(S:Bk) (t:Nat×Nat×Int)=>S.put t.1 t.2.1 t.2.2) l S h
theorem EU (S:Bk): ∀l,(ka S l).aG.length=S.aG.length/\(ka S l).credits.length=S.credits.length
 |[]=>⟨rfl,rfl⟩
 |t :: l=>by
  obtain⟨a,b⟩:=EU (S.put t.1 t.2.1 t.2.2) l
  exact⟨a.trans dX,b.trans dX⟩
inductive z5 (P:Program)(w:World)(K:PySem.W.Frag)(mg:Str->Option Value)(base:Heap)(A:dQ)(tB tC:Addr)(vs:List V)(H:Hp)(Q:VK)(E':XK):Prop
 |mk (pw fa:Addr)(S:Bk)(f:eB)(n:Nat)(aI:Str)(way:Jr)(sp:Sp)(h1:vs=[.ref pw,.str aI,.ref fa])(h2:dB A H pw S f)(h3:WF S n)(h4:n<=62)(h5:lY H tB)(h6:mj H tC)(h7:Js way)(h8:VD P w K mg base 2 fa sp)(h9:OG way sp)(JZ: ∀gs ts fs ls al,uT S aI gs ts fs ls al-> ∀D ms H',Frame (tB :: tC :: f.fp) H H'->lY H' tB->mj H' tC->dB A H' pw (ka S ((way fs ls al).map (lP gs ts))) f->H D=none->H' D=some (.lst ms)->g8 H' ((way fs ls al).map (lP gs ts)) ms->Q (.ref D) H'):z5 P w K mg base A tB tC vs H Q E'
theorem kB:aS ["self","who","way","givers","takers","frees","lefts","found","numbered","credit_number","bill_number","amount"] ["self","who","way"] (ax (mem 25 7)):={}
theorem Ca (T:Txt K mg){A:dQ}{tB tC:Addr}(G:jn K mg A)(DB:pU K mg "bills_in_order" (top 17) tB)(DC:pU K mg "credits_in_order" (top 18) tC)(iZ:tB≠tC)(KB:K.In base)(BM:BMain mg base):gO rJ P w K mg base A.work "one_round" 3 ["self","who","way"] (z5 P w K mg base A tB tC):=by
 have iT:eF P w K mg base "bills_in_order" 2 ["bills","who"] (ug A tB):=lx T G DB KB BM
 have gX:eF P w K mg base "credits_in_order" 2 ["all_credits","who"] (uh A tC):=jS T G DC KB BM
 have xh:eF P w K mg base "row_of_fits" 2 ["credit","bills"] (Jg A):=wU T G
 have Jd:gO rJ P w K mg base A.work "put" 1 ["self","credit_number","bill_number","amount"] (zx A):=Mv G
 refine Lr (k:=2) G.qH G.bD kB (fun f cK A' outer s H vs Q E hr h=>?_)
 ·obtain⟨pw,fa,S,g,n,aI,way,sp,rfl,hW,wf,hn,jZ,jz,Se,Yw,Yx,k⟩:=h
  have nd:=kB.nd
  have Yi:S.credits.length<=62:=by have:=wf.lc; lia
  have hlb:S.aG.length<=62:=by have:=wf.lb; lia
  refine⟨_,(ai (sv 3 nd (gJ (tn:=["credit"]) (cn:=["self"]) (cj:=[0]) rfl (ig (yI:=[(".0",.local),("credit",.local),("self",.cell)])) (dj (fc gX hr (aa (bV (pv 0) rfl) (aa (pv 1) av)))) (fun _ _ _ _=>(eu (i:=0) (show(["credit","self"]:List Str).Nodup by decide +kernel) rfl (Or.inl rfl))) (fun _ _ _ _=>(mG (aW iG (jg (kZ (K:=K) rfl) (fh (K:=K) rfl (pv 1) rfl) (fh (K:=K) rfl (pv 0) rfl) (fun _ _=>rfl)) ah (aZ _)))) (fun _ _ _ _=>(pv 0))))
(ai (sv 4 nd (gJ (tn:=["bill"]) (cn:=["self"]) (cj:=[0]) rfl (ig (yI:=[(".0",.local),("bill",.local),("self",.cell)])) (dj (fc iT hr (aa (bV (pv 0) rfl) (aa (pv 1) av)))) (fun _ _ _ _=>(eu (i:=0) (show(["bill","self"]:List Str).Nodup by decide +kernel) rfl (Or.inl rfl))) (fun _ _ _ _=>(mG (aW iG (jg (kZ (K:=K) rfl) (fh (K:=K) rfl (pv 1) rfl) (fh (K:=K) rfl (pv 0) rfl) (fun _ _=>rfl)) ah (aZ _)))) (fun _ _ _ _=>(pv 0))))
(ai (kY (i:=5) nd rfl (Or.inl rfl) (tn:=["credit"]) (cn:=["self"]) (cj:=[0]) rfl (ig (yI:=[(".0",.local),("credit",.local),("self",.cell)])) (dj (pv 3)) (fun _ _ _ _=>(eu (i:=0) (show(["credit","self"]:List Str).Nodup by decide +kernel) rfl (Or.inl rfl))) (fun _ _ _ _=>mF) (fun _ _ _ _=>(jg (kZ (K:=K) rfl) (fh (K:=K) rfl (pv 1) rfl) (fh (K:=K) rfl (pv 0) rfl) (fun _ _=>rfl))))
(ai (kY (i:=6) nd rfl (Or.inl rfl) (tn:=["bill"]) (cn:=["self"]) (cj:=[0]) rfl (ig (yI:=[(".0",.local),("bill",.local),("self",.cell)])) (dj (pv 4)) (fun _ _ _ _=>(eu (i:=0) (show(["bill","self"]:List Str).Nodup by decide +kernel) rfl (Or.inl rfl))) (fun _ _ _ _=>mF) (fun _ _ _ _=>(jg (kZ (K:=K) rfl) (fh (K:=K) rfl (pv 1) rfl) (fh (K:=K) rfl (pv 0) rfl) (fun _ _=>rfl))))
(ai (sv 7 nd (N3 (i:=2) (k:=2) (hr.mono (by decide)) rfl (Or.inl rfl) (aa (pv 5) (aa (pv 6) (aa (gJ (tn:=["credit"]) (cn:=["takers"]) (cj:=[4]) rfl (ig (yI:=[(".0",.local),("credit",.local),("row_of_fits",.globalImplicit),("takers",.cell)])) (dj (pv 3)) (fun _ _ _ _=>(eu (i:=0) (show(["credit","takers"]:List Str).Nodup by decide +kernel) rfl (Or.inl rfl))) (fun _ _ _ _=>mF) (fun _ _ _ _=>(fc xh hr (aa (pv 0) (aa (pv 1) av))))) av)))))
(ai (kY (i:=8) nd rfl (Or.inl rfl) (tn:=["giver","taker","amount"]) (cn:=["takers","givers"]) (cj:=[4,3]) rfl (zO (yI:=[(".0",.local),("giver",.local),("taker",.local),("amount",.local),("givers",.cell),("takers",.cell)])) (dj (pv 7)) (fun _ _ _ _=>(LN (K:=K) (n:=3) rfl rfl (bX (eu (i:=0) (show(["giver","taker","amount","takers","givers"]:List Str).Nodup by decide +kernel) rfl (Or.inl rfl) (Or.inr rfl)) (bX (eu (i:=1) (show(["giver","taker","amount","takers","givers"]:List Str).Nodup by decide +kernel) rfl (Or.inl rfl) (Or.inr rfl)) (bX (eu (i:=2) (show(["giver","taker","amount","takers","givers"]:List Str).Nodup by decide +kernel) rfl (Or.inl rfl) (Or.inr rfl)) gu))) rfl rfl)) (fun _ _ _ _=>mF) (fun _ _ _ _=>(dg (aa (fh (K:=K) rfl (jg (kZ (K:=K) rfl) (pv 4) (pv 0) (fun _ _=>rfl)) rfl) (aa (fh (K:=K) rfl (jg (kZ (K:=K) rfl) (pv 3) (pv 1) (fun _ _=>rfl)) rfl) (aa (pv 2) av))))))
(ai (eQ bH rfl (dj (pv 8)) (iM rfl (bX (gn 9 nd) (bX (gn 10 nd) (bX (gn 11 nd) gu))))
(ao (bJ (mU Jd (hr.mono (by decide)) mE (pv 0) (aa (pv 9) (aa (pv 10) (aa (pv 11) av)))))))
(ao (a6 (pv 8)))))))))),?_⟩
  obtain⟨dw,hw⟩:=hW.obj
  refine⟨_,rfl,pw,_,dw,_,_,rfl,hw,G.bD,G.cD,gW g,_,rfl,g.pc,g.cps,S,aI,rfl,hW.hc,hW.rc,(by lia),jz,fun D1 Wq H1 Jt jU Sf Gz Iu=>?_⟩
  have Cv:=vE hW (cS jz) Jt
  have Ju: ∀a∈[tC],∀φ,H a≠some (.ext φ):=fun a ha φ e=>by
   obtain⟨ps,z⟩:=cS jz
   rw[ak.mp ha,z] at e
   cases e
  have jf:lY H1 tB:=fO jZ Jt (by simpa using iZ) Ju
  have F1:Frame (tB :: tC :: g.fp) H H1:=dC Jt (by intro x hx; rw[List.mem_singleton.mp hx]; simp)
  clear Ju
  refine⟨D1,rfl,⟨_,bE.of Gz⟩,?_⟩
  have LH:=nQ S.credits aI (·.a)
  have OH: ∀c∈inOrder S.credits aI (·.a),c < S.credits.length:=fun c hc=>(kh.mp hc).1
  have KY:=gY S.credits aI (·.a)
  generalize inOrder S.credits aI (·.a)=ord at Iu LH OH KY
  have OI:=aL Iu
  refine eA (K:=K) (a:=D1) (xs:=Wq.map V.ref) (fun D i σ H6=>H1 D=none/\ ∃(v:Option V) (rs:List Addr),σ=[v,some (.ref pw)]/\aD H1 H6/\H6 D=some (.lst (rs.map V.ref))/\gz A H6 S ((ord.take i).filter (ma S.credits)) rs) (fun D hD=>⟨hD,none,[],rfl,aD.new hD,ag,.nil⟩) (fun D i σ H6 _ ⟨_,_,_,_,t3,_⟩=>bE.of (t3 _ _ Gz)) ?_ ?_
  ·rintro D i x σ H6 hx ⟨hD,v,rs,rfl,t3,gj,OJ⟩
   rw[aB] at hx
   obtain⟨q,hq,rfl⟩:=bq.mp hx
   have hi:i < ord.length:=by have:=(au.mp hq).1; lia
   have oo:=af hi
   obtain⟨q',su,lu⟩:=bG Iu oo
   rw[hq] at su
   obtain rfl:q=q':=aF su
   have kI:=ff (ma S.credits) oo
   have qz:=OH _ (bF hi)
   generalize ord[i]=c at lu kI qz
   obtain⟨dq,LO⟩:=lu.same t3
   have Jv:=Cv.same t3
   obtain⟨OK,OL⟩:=Jv.obj
   have A4:rs.length<=1000:=by
    have e1:=aL OJ
    have e2:=aX (ma S.credits) (ord.take i)
    rw[bh] at e2
    lia
   refine⟨_,rfl,pw,_,OK,_,_,rfl,OL,G.bD,G.fq,lh g,_,rfl,q,_,dq,_,_,rfl,LO,G.cZ,G.eD,nO _ _,g.pf,_,_,.int (S.cr c).d,rfl,rfl,bE.of Jv.hf,cz (nP qz),_,_,rfl,rfl,_,rfl,cy (fun z=>?_) (fun z=>?_)⟩
   ·have z':ma S.credits c=true:=z
    rw[a7 z'] at kI
    refine⟨_,rfl,_,gj,bg (by rw[ae]; exact A4),hD,_,rs ++ [q],rfl,t3.cX hD,(by rw[ag,aM]; rfl),?_⟩
    rw[kI]
    exact cA (OJ.upd gj) (uk ⟨dq,LO⟩ gj)
   ·have z': ¬ ma S.credits c=true:=z
    rw[aQ z',bP] at kI
    refine⟨hD,_,rs,rfl,t3,gj,?_⟩
    rw[kI]
    exact OJ
  rintro pg σ H2 npg ⟨_,v,rs,rfl,s2,TR,LP⟩
  rw[ae,← OI,a8] at LP
  have Yy:ord.filter (ma S.credits)=inTurn S.credits aI (·.a):=KY.symm
  rw[Yy] at LP
  clear KY Yy OH LH Iu OI Gz
  have OA:(inTurn S.credits aI (·.a)).length<=62:=by
   rw[gY]
   have e1:=aX (fun k=>decide (0 < (S.credits.getD k default).d)) (inOrder S.credits aI (·.a))
   have e2:=nQ S.credits aI (·.a)
   lia
  have TU: ∀c∈inTurn S.credits aI (·.a),c < S.credits.length:=fun c hc=>(eI.mp hc).1
  have zU:=Cv.same s2
  have ke:lY H2 tB:=bT jf s2
  have mm:mj H2 tC:=bT jU s2
  have F2:=F1.dh s2
  clear Jt Cv jf jU s2 F1
  obtain⟨Wr,Pw⟩:=zU.obj
  refine⟨_,rfl,pw,_,Wr,_,_,rfl,Pw,G.bD,G.dO,i7 g,_,rfl,g.pb,g.ir,S,aI,rfl,zU.hb,zU.rb,(by lia),ke,fun D1 Wq H1 Jt jf Sf Gz Iu=>?_⟩
  have Cv:=vE zU (cS ke) Jt
  have Ju: ∀a∈[tB],∀φ,H2 a≠some (.ext φ):=fun a ha φ e=>by
   obtain⟨ps,z⟩:=cS ke
   rw[ak.mp ha,z] at e
   cases e
  have jU:mj H1 tC:=fO mm Jt (by simpa using iZ.symm) Ju
  have F1:Frame (tB :: tC :: g.fp) H H1:=F2.tr (dC Jt (by intro x hx; rw[List.mem_singleton.mp hx]; simp))
  have Yz:=LP.tb ke Jt
  have Sg:H1 pg=some (.lst (rs.map V.ref)):=Jt _ _ (fun z=>by
   obtain⟨ps,e⟩:=cS ke
   rw[ak.mp z,e] at TR
   cases TR) TR
  clear Ju
  refine⟨D1,rfl,⟨_,bE.of Gz⟩,?_⟩
  have LH:=nQ S.aG aI (·.b)
  have OH: ∀c∈inOrder S.aG aI (·.b),c < S.aG.length:=fun c hc=>(kh.mp hc).1
  have KY:=gY S.aG aI (·.b)
  generalize inOrder S.aG aI (·.b)=ord at Iu LH OH KY
  have OI:=aL Iu
  refine eA (K:=K) (a:=D1) (xs:=Wq.map V.ref) (fun D i σ H6=>H1 D=none/\ ∃(v:Option V) (us:List Addr),σ=[v,some (.ref pw)]/\aD H1 H6/\H6 D=some (.lst (us.map V.ref))/\iy A H6 S ((ord.take i).filter (ma S.aG)) us) (fun D hD=>⟨hD,none,[],rfl,aD.new hD,ag,.nil⟩) (fun D i σ H6 _ ⟨_,_,_,_,t3,_⟩=>bE.of (t3 _ _ Gz)) ?_ ?_
  ·rintro D i x σ H6 hx ⟨hD,v,us,rfl,t3,gj,OJ⟩
   rw[aB] at hx
   obtain⟨q,hq,rfl⟩:=bq.mp hx
   have hi:i < ord.length:=by have:=(au.mp hq).1; lia
   have oo:=af hi
   obtain⟨q',su,lu⟩:=bG Iu oo
   rw[hq] at su
   obtain rfl:q=q':=aF su
   have kI:=ff (ma S.aG) oo
   have qz:=OH _ (bF hi)
   generalize ord[i]=c at lu kI qz
   obtain⟨dq,LO⟩:=lu.same t3
   have Jv:=Cv.same t3
   obtain⟨OK,OL⟩:=Jv.obj
   have A4:us.length<=1000:=by
    have e1:=aL OJ
    have e2:=aX (ma S.aG) (ord.take i)
    rw[bh] at e2
    lia
   refine⟨_,rfl,pw,_,OK,_,_,rfl,OL,G.bD,G.fm,lg g,_,rfl,q,_,dq,_,_,rfl,LO,G.dU,G.eJ,k8 _ _,g.pl,_,_,.int (S.bl c).d,rfl,rfl,bE.of Jv.hl,cz (nP qz),_,_,rfl,rfl,_,rfl,cy (fun z=>?_) (fun z=>?_)⟩
   ·have z':ma S.aG c=true:=z
    rw[a7 z'] at kI
    refine⟨_,rfl,_,gj,bg (by rw[ae]; exact A4),hD,_,us ++ [q],rfl,t3.cX hD,(by rw[ag,aM]; rfl),?_⟩
    rw[kI]
    exact cA (OJ.upd gj) (uk ⟨dq,LO⟩ gj)
   ·have z': ¬ ma S.aG c=true:=z
    rw[aQ z',bP] at kI
    refine⟨hD,_,us,rfl,t3,gj,?_⟩
    rw[kI]
    exact OJ
  rintro pt σ H3 YA ⟨_,v',us,rfl,s3,yd,EI⟩
  rw[ae,← OI,a8] at EI
  have YB:ord.filter (ma S.aG)=inTurn S.aG aI (·.b):=KY.symm
  rw[YB] at EI
  clear KY YB OH LH Iu OI Gz
  have htl:(inTurn S.aG aI (·.b)).length<=62:=by
   rw[gY]
   have e1:=aX (fun k=>decide (0 < (S.aG.getD k default).d)) (inOrder S.aG aI (·.b))
   have e2:=nQ S.aG aI (·.b)
   lia
  have MC: ∀c∈inTurn S.aG aI (·.b),c < S.aG.length:=fun c hc=>(eI.mp hc).1
  have zy:=Cv.same s3
  have oq:lY H3 tB:=bT jf s3
  have ou:mj H3 tC:=bT jU s3
  have F3:=F1.dh s3
  have Sh:=Yz.same s3
  have LQ:=s3 _ _ Sg
  clear Jt Cv jf jU s3 F1 Yz Sg F2 zU ke mm LP TR Pw
  generalize hgs:inTurn S.credits aI (·.a)=gs at Sh OA TU
  generalize hts:inTurn S.aG aI (·.b)=ts at EI htl MC
  have YC:=aL Sh
  have htq:=aL EI
  have hR:uT S aI gs ts (gs.map fun g=>(S.cr g).d) (ts.map fun t=>(S.bl t).d) (gs.map fun g=>ts.map fun t=>S.ez g t):=⟨hgs.symm,hts.symm,rfl,rfl,rfl⟩
  refine⟨_,rfl,pg,rfl,⟨_,bE.of LQ⟩,?_⟩
  refine eA (K:=K) (a:=pg) (xs:=rs.map V.ref) (fun D i σ H6=>H3 D=none/\ ∃(v:Option V),σ=[v,some (.ref pw)]/\aD H3 H6/\H6 D=some (.lst (((gs.take i).map fun g=>(S.cr g).d).map V.int))) (fun D hD=>⟨hD,none,rfl,aD.new hD,ag⟩) (fun D i σ H6 _ ⟨_,_,_,t3,_⟩=>bE.of (t3 _ _ LQ)) ?_ ?_
  ·rintro D i x σ H6 hx ⟨hD,v,rfl,t3,gj⟩
   rw[aB] at hx
   obtain⟨q,hq,rfl⟩:=bq.mp hx
   have hi:i < gs.length:=by have:=(au.mp hq).1; lia
   obtain⟨q',su,lu⟩:=bG Sh (af hi)
   rw[hq] at su
   obtain rfl:q=q':=aF su
   have nK:=ow hi
   have qz:=TU _ (bF hi)
   generalize gs[i]=c at lu nK qz
   obtain⟨dq,LO⟩:=lu.same t3
   have Jv:=zy.same t3
   obtain⟨OK,OL⟩:=Jv.obj
   refine⟨_,rfl,pw,_,OK,_,_,rfl,OL,G.bD,G.fq,lh g,_,rfl,q,_,dq,_,_,rfl,LO,G.cZ,G.eD,nO _ _,g.pf,_,_,.int (S.cr c).d,rfl,rfl,bE.of Jv.hf,cz (nP qz),_,gj,bg (by rw[ae,ae,bh]; lia),hD,_,rfl,t3.cX hD,?_⟩
   rw[ag,nK,aM,aM]
   rfl
  rintro pf σ H4 npf ⟨_,v4,rfl,s4,Mz⟩
  rw[ae,← YC,a8] at Mz
  have YD:=Sh.same s4
  have MD:=EI.same s4
  have R4:=zy.same s4
  have tP:lY H4 tB:=bT oq s4
  have tQ:mj H4 tC:=bT ou s4
  have F4:=F3.dh s4
  have Sk:=s4 _ _ LQ
  have vJ:=s4 _ _ yd
  clear s4 F3 oq ou zy EI Sh LQ yd
  refine⟨_,rfl,pt,rfl,⟨_,bE.of vJ⟩,?_⟩
  refine eA (K:=K) (a:=pt) (xs:=us.map V.ref) (fun D i σ H6=>H4 D=none/\ ∃(v:Option V),σ=[v,some (.ref pw)]/\aD H4 H6/\H6 D=some (.lst (((ts.take i).map fun g=>(S.bl g).d).map V.int))) (fun D hD=>⟨hD,none,rfl,aD.new hD,ag⟩) (fun D i σ H6 _ ⟨_,_,_,t3,_⟩=>bE.of (t3 _ _ vJ)) ?_ ?_
  ·rintro D i x σ H6 hx ⟨hD,v,rfl,t3,gj⟩
   rw[aB] at hx
   obtain⟨q,hq,rfl⟩:=bq.mp hx
   have hi:i < ts.length:=by have:=(au.mp hq).1; lia
   obtain⟨q',su,lu⟩:=bG MD (af hi)
   rw[hq] at su
   obtain rfl:q=q':=aF su
   have nK:=ow hi
   have qz:=MC _ (bF hi)
   generalize ts[i]=c at lu nK qz
   obtain⟨dq,LO⟩:=lu.same t3
   have Jv:=R4.same t3
   obtain⟨OK,OL⟩:=Jv.obj
   refine⟨_,rfl,pw,_,OK,_,_,rfl,OL,G.bD,G.fm,lg g,_,rfl,q,_,dq,_,_,rfl,LO,G.dU,G.eJ,k8 _ _,g.pl,_,_,.int (S.bl c).d,rfl,rfl,bE.of Jv.hl,cz (nP qz),_,gj,bg (by rw[ae,ae,bh]; lia),hD,_,rfl,t3.cX hD,?_⟩
   rw[ag,nK,aM,aM]
   rfl
  rintro pl σ H5 npl ⟨_,v5,rfl,s5,hV⟩
  rw[ae,← htq,a8] at hV
  have Ws:=YD.same s5
  have PF:=MD.same s5
  have YE:=R4.same s5
  have Jw:lY H5 tB:=bT tP s5
  have Jx:mj H5 tC:=bT tQ s5
  have F5:=F4.dh s5
  have LR:=s5 _ _ Sk
  have DI:=s5 _ _ vJ
  have Sl:=s5 _ _ Mz
  clear s5 F4 tP tQ R4 MD YD Sk vJ Mz
  refine⟨fa,sp,rfl,Yw,_,rfl,_,rfl,_,rfl,pg,rfl,⟨_,bE.of LR⟩,?_⟩
  refine eA (K:=K) (a:=pg) (xs:=rs.map V.ref) (fun D i σ H6=>H5 D=none/\ ∃(v:Option V) (ws:List V),σ=[v,some (.ref pt)]/\aD H5 H6/\H6 D=some (.lst ws)/\iW H6 D ((gs.take i).map fun g=>ts.map fun t=>S.ez g t) ws) (fun D hD=>⟨hD,none,[],rfl,aD.new hD,ag,.nil⟩) (fun D i σ H6 _ ⟨_,_,_,_,t3,_⟩=>bE.of (t3 _ _ LR)) ?_ ?_
  ·rintro D i x σ H6 hx ⟨hD,v,ws,rfl,t3,gj,PL⟩
   rw[aB] at hx
   obtain⟨q,hq,rfl⟩:=bq.mp hx
   have hi:i < gs.length:=by have:=(au.mp hq).1; lia
   obtain⟨q',su,lu⟩:=bG Ws (af hi)
   rw[hq] at su
   obtain rfl:q=q':=aF su
   have nK:=ow hi
   have qz:=TU _ (bF hi)
   generalize gs[i]=c at lu nK qz
   have G7:=aL PL
   rw[ae,bh] at G7
   refine⟨_,rfl,_,rfl,q,pt,S,c,ts,us,rfl,lu.same t3,t3 _ _ DI,PF.same t3,(by lia),fun p H7 t7 np hp=>?_⟩
   have Wt:(ts.map fun b=>oA (S.cr c) (S.bl b) b)=ts.map fun t=>S.ez c t:=gH fun b hb=>yb wf qz (MC b hb)
   rw[Wt] at hp
   have PM:=t7 _ _ gj
   have Om:p≠D:=(aJ gj np).symm
   refine⟨_,PM,bg (by lia),hD,_,ws ++ [.ref p],rfl,(t3.trans t7).cX hD,ag,?_⟩
   rw[nK,aM]
   exact cA ((PL.same t7).upd) ⟨p,rfl,Om,by rw[aA Om]; exact hp⟩
  rintro pa σ H6 npa ⟨_,v6,ws,rfl,s6,PN,PL⟩
  rw[ae,← YC,a8] at PL
  refine Yx pf pl pa _ _ _ H6 _ (s6 _ _ Sl) (s6 _ _ hV) (jm PN PL.rp) (by rw[ae]; lia) (by rw[ae]; lia) (by rw[ae,ae]) (fun r hr=>by
   obtain⟨x,_,rfl⟩:=bC.mp hr
   rw[ae,ae]) fun pm ms H7 s7 Wu ES=>?_
  have iO:=Se.lt (gs.map fun g=>(S.cr g).d) (ts.map fun t=>(S.bl t).d) (gs.map fun g=>ts.map fun t=>S.ez g t)
  have hlen:=Se.len (gs.map fun g=>(S.cr g).d) (ts.map fun t=>(S.bl t).d) (gs.map fun g=>ts.map fun t=>S.ez g t) (by rw[ae]; lia) (by rw[ae]; lia)
  rw[ae,ae] at iO
  have kk:=k _ _ _ _ _ hR
  generalize way (gs.map fun g=>(S.cr g).d) (ts.map fun t=>(S.bl t).d) (gs.map fun g=>ts.map fun t=>S.ez g t)=fd at iO hlen ES kk
  have xi:=s6.trans s7
  have YF:=Ws.same xi
  have YG:=PF.same xi
  have TV:=YE.same xi
  have OM:lY H7 tB:=bT Jw xi
  have ON:mj H7 tC:=bT Jx xi
  have F7:=F5.dh xi
  have Sm:=xi _ _ LR
  have Sn:=xi _ _ DI
  clear xi s6 s7 F5 Jw Jx YE PF Ws LR DI Sl hV PL PN k Yx Yw
  have TK:=aL ES
  refine⟨_,rfl,pm,rfl,⟨_,bE.of Wu⟩,?_⟩
  refine eA (K:=K) (a:=pm) (xs:=ms) (fun D i σ H6=>H7 D=none/\ ∃(v1 v2 v3:Option V) (ws:List V),σ=[v1,v2,v3,some (.ref pt),some (.ref pg)]/\aD H7 H6/\H6 D=some (.lst ws)/\g8 H6 ((fd.take i).map (lP gs ts)) ws) (fun D hD=>⟨hD,none,none,none,[],rfl,aD.new hD,ag,.nil⟩) (fun D i σ H6 _ ⟨_,_,_,_,_,_,t3,_⟩=>bE.of (t3 _ _ Wu)) ?_ ?_
  ·rintro D i x σ H6 hx ⟨hD,v1,v2,v3,ws,rfl,t3,gj,GI⟩
   have hi:i < fd.length:=by have:=(au.mp hx).1; lia
   obtain⟨v',hv,p,rfl,hp⟩:=bG ES (af hi)
   rw[hx] at hv
   obtain rfl:x= .ref p:=aF hv
   have nK:=ow hi
   obtain⟨l1,l2⟩:=iO _ (bF hi)
   generalize fd[i]=t at hp nK l1 l2
   have G7:=aL GI
   rw[ae,bh] at G7
   have g1:gs[t.1]? =some (gs.getD t.1 0):=by rw[aj,af l1]; rfl
   have g2:ts[t.2.1]? =some (ts.getD t.2.1 0):=by rw[aj,af l2]; rfl
   obtain⟨q1,OI,i1⟩:=bG YF g1
   obtain⟨q2,Ay,i2⟩:=bG YG g2
   obtain⟨d1,e1⟩:=i1.same t3
   obtain⟨d2,e2⟩:=i2.same t3
   refine⟨p,_,rfl,cm.of (t3 _ _ hp),rfl,_,_,rfl,_,_,rfl,_,_,rfl,rfl,?_⟩
   refine⟨_,rfl,_,rfl,pg,_,_,.ref q1,rfl,rfl,bE.of (t3 _ _ Sm),cz (by rw[aB,OI]; rfl),q1,_,d1,_,_,rfl,e1,G.cZ,G.eD,nO _ _,?_⟩
   refine⟨_,rfl,_,rfl,pt,_,_,.ref q2,rfl,rfl,bE.of (t3 _ _ Sn),cz (by rw[aB,Ay]; rfl),q2,_,d2,_,_,rfl,e2,G.dU,G.eJ,k8 _ _,_,rfl,(by show 3<=sizeLine; decide),fun p8 n8=>?_⟩
   have s8:=aD.new (o:= .tup [.int (gs.getD t.1 0:Nat),.int (ts.getD t.2.1 0:Nat),.int t.2.2]) n8
   have YH:=s8 _ _ gj
   refine⟨_,YH,iU (by lia),hD,_,_,_,ws ++ [.ref p8],rfl,(t3.trans s8).cX hD,ag,?_⟩
   rw[nK,aM]
   have tk:=fI (o:= .lst (ws ++ [.ref p8])) YH
   exact cA ((GI.mono s8.tk).mono tk) ⟨p8,rfl,tk _ _ ag⟩
  rintro pn σ H8 So ⟨_,w1,w2,w3,ws,rfl,s8,N9,Sq⟩
  rw[← TK,a8] at Sq
  have PQ:=TV.same s8
  have Sr:lY H8 tB:=bT OM s8
  have Ss:mj H8 tC:=bT ON s8
  have F8:=F7.dh s8
  have Wv:H pn=none:=by
   cases e:H pn with
   |none=>rfl
   |some o=>
    exfalso
    by_cases jL:pn∈tB :: tC :: g.fp
    ·rcases aw.mp jL with z|jL
     ·obtain⟨ps,q⟩:=cS OM
      rw[← z,So] at q
      cases q
     ·rcases aw.mp jL with z|jL
      ·obtain⟨ps,q⟩:=cS ON
       rw[← z,So] at q
       cases q
      ·exact TV.new So jL
    ·have q:=F7 _ _ jL e
     rw[So] at q
     cases q
  have Su:pn∉g.fp:=TV.new So
  have tM: ∀t∈fd.map (lP gs ts),t.1 < S.credits.length/\t.2.1 < S.aG.length:=fun t ht=>by
   obtain⟨u,hu,rfl⟩:=bC.mp ht
   obtain⟨l1,l2⟩:=iO u hu
   exact⟨TU _ (jJ l1),MC _ (jJ l2)⟩
  have Dq:(fd.map (lP gs ts)).length<=4000:=by rw[ae]; exact hlen
  generalize fd.map (lP gs ts)=L at Sq kk tM Dq
  have G7:=aL Sq
  clear iO hlen ES Wu Sm Sn YF YG TV OM ON F7 s8
  refine⟨_,rfl,pn,rfl,⟨_,bE.of N9⟩,?_⟩
  refine fX (K:=K) (a:=pn) (xs:=ws) (fun i σ H2=> ∃(x9 GO GQ:Option V),σ=[some (.ref pw),some (.str aI),some (.ref fa),some (.ref pg),some (.ref pt),some (.ref pf),some (.ref pl),some (.ref pm),some (.ref pn),x9,GO,GQ]/\Frame g.fp H8 H2/\dB A H2 pw (ka S (L.take i)) g)
   ⟨none,none,none,rfl,Frame.refl,PQ⟩ (fun i σ H2 _ ⟨_,_,_,_,f2,_⟩=>bE.of (f2 _ _ Su N9)) ?_ ?_
  ·rintro i x σ H2 hx ⟨x9,GO,GQ,rfl,f2,zU⟩
   have hi:i < L.length:=by have:=(au.mp hx).1; lia
   have oo:=af hi
   obtain⟨v',hv,p,rfl,hp⟩:=bG Sq oo
   rw[hx] at hv
   obtain rfl:x= .ref p:=aF hv
   have yd:=GN (S:=S) oo
   obtain⟨m1,m2⟩:=tM _ (bF hi)
   generalize L[i]=t at hp yd m1 m2
   obtain⟨b1,b2⟩:=EU S (L.take i)
   have Hd:(ka S (L.take i)).made.length < sizeLine:=by
    rw[ju,aH,bh]
    have:=wf.lm
    exact iU (by lia)
   obtain⟨Wr,Pw⟩:=zU.obj
   refine⟨p,_,rfl,cm.of (PQ.tk f2 _ _ hp),rfl,_,_,rfl,_,_,rfl,_,_,rfl,rfl,?_⟩
   refine⟨_,rfl,pw,Wr,_,rfl,Pw,Jb g,_,rfl,_,rfl,_,rfl,pw,_,g,t.1,t.2.1,t.2.2,rfl,zU,(by rw[b2]; exact m1),(by rw[b1]; exact m2),Hd,fun H3 f3 W3=>?_⟩
   refine⟨_,_,_,rfl,f2.tr f3,?_⟩
   rw[yd]
   exact W3
  ·rintro σ H2 ⟨x9,GO,GQ,rfl,f2,zU⟩
   rw[← G7,a8] at zU
   have ext2: ∀a∈g.fp,∀φ,H8 a≠some (.ext φ):=fun a ha φ e=>by
    obtain⟨xs,z⟩:=PQ.lists a ha
    rw[z] at e
    cases e
   have GR:tB∉g.fp:=PQ.off fun xs e=>by
    obtain⟨ps,z⟩:=cS Sr
    rw[z] at e
    cases e
   have GS:tC∉g.fp:=PQ.off fun xs e=>by
    obtain⟨ps,z⟩:=cS Ss
    rw[z] at e
    cases e
   exact⟨_,rfl,kk pn ws H2 (F8.tr (dC f2 fun x hx=>by simp[hx])) (fO Sr f2 GR ext2) (fO Ss f2 GS ext2) zU Wv (f2 _ _ Su N9) (Sq.mono (PQ.tk f2))⟩
theorem qY (g:eB):(k9 g).lookup ("one_round":Str)=none:=by rfl
theorem oJ {α β:Type}{F:α->β->Prop}: ∀{l₁:List α} {r₁:List β} {l₂:List α} {r₂:List β},Paired F l₁ r₁->Paired F l₂ r₂->Paired F (l₁ ++ l₂) (r₁ ++ r₂)
 |_,_,_,_,.nil,h=>h
 |_,_,_,_,.cons a t,h=> .cons a (oJ t h)
theorem DJ:Js pM:=⟨fun fs ls al t h=>lQ fs ls al _ t h,fun fs ls al h1 _=>by
 have:=L2.gZ fs ls al fs.length
 show(bS fs ls al fs.length).2.length<=4000
 lia⟩
theorem Jy:Js B8:=⟨fun fs ls al t h=>uY fs ls al _ t h,fun fs ls al h1 h2=>by
 have:=pq fs ls al fs.length
 have h3:fs.length * ls.length<=63 * 63:=lC h1 h2
 show(ck fs ls al fs.length).2.length<=4000
 lia⟩
theorem sU {H:Hp}: ∀{ms:List (Nat×Nat×Int)} {xs:List V},gQ H (ms.map Jo) xs->g8 H ms xs
 |[],_,h=>by
  rw[c9.mp h]
  exact .nil
 |t :: ms,_,h=>by
  obtain⟨v,r,rfl,h1,h2⟩:=bL.mp h
  obtain⟨a,ys,rfl,h3,h4⟩:=jF.mp h1
  obtain⟨u1,r1,rfl,e1,h5⟩:=bL.mp h4
  obtain⟨u2,r2,rfl,e2,h6⟩:=bL.mp h5
  obtain⟨u3,r3,rfl,e3,h7⟩:=bL.mp h6
  obtain rfl:=c9.mp h7
  obtain rfl:=dz.mp e1
  obtain rfl:=dz.mp e2
  obtain rfl:=dz.mp e3
  exact .cons ⟨a,rfl,h3⟩ (sU h2)
theorem Jz:OG pM (vG K):=fun pf pl pa fs ls al H Q h1 h2 h3 h4 h5 h6 h7 k=>
 ⟨pf,pl,pa,fs,ls,al,rfl,bE.of h1,bE.of h2,h3,by lia,h6,h7,fun v H' s r=>by
  obtain⟨a,xs,rfl,e,r'⟩:=jG.mp r
  exact k a xs H' s e (sU r')⟩
theorem OO:OG B8 (vI K):=fun pf pl pa fs ls al H Q h1 h2 h3 h4 h5 h6 h7 k=>
 ⟨pf,pl,pa,fs,ls,al,rfl,bE.of h1,bE.of h2,h3,h4,h5,h6,h7,fun pm ms H' s e r=>k pm ms H' s e r⟩
inductive z6 (A:dQ)(tB tC:Addr)(vs:List V)(H:Hp)(Q:VK)(E':XK):Prop
 |mk (pw:Addr)(S:Bk)(f:eB)(n:Nat)(aI:Str)(h1:vs=[.ref pw,.str aI])(h2:dB A H pw S f)(h3:WF S n)(h4:n<=60)(h5:lY H tB)(h6:mj H tC)(h7: ∀D ms H',Frame (tB :: tC :: f.fp) H H'->lY H' tB->mj H' tC->dB A H' pw (S.jI aI) f->H D=none->H' D=some (.lst ms)->g8 H' ((S.jI aI).made.drop S.made.length) ms->Q (.ref D) H'):z6 A tB tC vs H Q E'
theorem oK:aS ["self","who","first","second"] ["self","who"] (ax (mem 25 6)):={}
theorem LS (T:Txt K mg){A:dQ}{tB tC:Addr}(G:jn K mg A)(DB:pU K mg "bills_in_order" (top 17) tB)(DC:pU K mg "credits_in_order" (top 18) tC)(iZ:tB≠tC)(KB:K.In base)(BM:BMain mg base):gO rJ P w K mg base A.work "sweep" 4 ["self","who"] (z6 A tB tC):=by
 have sV:gO rJ P w K mg base A.work "one_round" 3 ["self","who","way"] (z5 P w K mg base A tB tC):=Ca T G DB DC iZ KB BM
 obtain⟨f1,m1,V1⟩:=eF.X8 (LL (P:=P) (w:=w) (base:=base) T)
 obtain⟨f2,m2,V2⟩:=eF.X8 (zZ (P:=P) (w:=w) (base:=base) T)
 refine Lr (k:=3) G.wK G.bD oK (fun f cK A' outer s H vs Q E hr h=>?_)
 ·obtain⟨pw,S,g,n,aI,rfl,hW,wf,hn,jZ,jz,k⟩:=h
  have nd:=oK.nd
  refine⟨_,(ai (sv 2 nd (mU sV (hr.mono (by decide)) mE (pv 0) (aa (pv 1) (aa (DU (v:= .ref f1) rfl m1 rfl) av))))
(ai (sv 3 nd (mU sV (hr.mono (by decide)) mE (pv 0) (aa (pv 1) (aa (DU (v:= .ref f2) rfl m2 rfl) av))))
(ao (a6 (aU o4 (pv 2) (pv 3)))))),?_⟩
  obtain⟨dw,hw⟩:=hW.obj
  refine⟨_,rfl,pw,dw,_,rfl,hw,qY g,_,rfl,pw,f1,S,g,n,aI,pM,_,rfl,hW,wf,(by lia),jZ,jz,DJ,V1,Jz,fun gs ts fs ls al R D1 Ww H1 F1 jf jU Cv Sf Gz Hh=>?_⟩
  obtain⟨er,lr⟩:=Il R
  have Wt:fs.length=gs.length:=by rw[R.ef,ae]
  have eS:ka S ((pM fs ls al).map (lP gs ts))=bN aI S true:=by rw[er]; unfold pM; rw[Wt]
  have em:(bN aI S true).made=S.made ++ (pM fs ls al).map (lP gs ts):=by rw[← eS]; exact ju _ _
  obtain⟨_,l1,e1,b1,n1⟩:=uZ S aI true
  have el1:l1=(pM fs ls al).map (lP gs ts):=List.append_cancel_left (e1.symm.trans em)
  rw[eS] at Cv
  rw[← el1] at Hh
  have hcb:S.credits.length * S.aG.length<=60 * 60:=lC (by have:=wf.lc; lia) (by have:=wf.lb; lia)
  have wf1:WF (bN aI S true) (n + 1):=by
   refine wf.later lr (fun t ht=>?_) (dF _) ?_
   ·rw[e1] at ht
    rcases bA.mp ht with ht|ht
    ·exact wf.m t ht
    ·exact b1 t ht
   ·rw[e1,aH]
    have:=wf.lm
    have:=wf.lc
    lia
  obtain⟨dw1,RB⟩:=Cv.obj
  refine⟨_,rfl,pw,dw1,_,rfl,RB,qY g,_,rfl,pw,f2,_,g,n + 1,aI,B8,_,rfl,Cv,wf1,(by lia),jf,jU,Jy,V2,OO,fun Sv TX Sw TY TZ R2 D2 Mx H2 F2 ke mm zU Hg GA FI=>?_⟩
  obtain⟨er2,lr2⟩:=Iq R2
  have Wx:Sw.length=Sv.length:=by rw[R2.ef,ae]
  have YI:ka (bN aI S true) ((B8 Sw TY TZ).map (lP Sv TX))=S.jI aI:=by
   show _ =bN aI (bN aI S true) false
   rw[er2]; unfold B8; rw[Wx]
  have YJ:(S.jI aI).made=(bN aI S true).made ++ (B8 Sw TY TZ).map (lP Sv TX):=by rw[← YI]; exact ju _ _
  rw[YI] at zU
  have Hd:(S.jI aI).made.length<=8000 * 60 + 8000:=by
   obtain⟨_,l3,e3,_,n3⟩:=mK S aI
   rw[e3,aH]
   have:=wf.lm
   have:=wf.lc
   lia
  have Wy:D1∉tB :: tC :: g.fp:=fun z=>by
   rcases aw.mp z with z|z
   ·obtain⟨ps,e⟩:=cS jZ
    rw[← z,Sf] at e
    cases e
   ·rcases aw.mp z with z|z
    ·obtain⟨ps,e⟩:=cS jz
     rw[← z,Sf] at e
     cases e
    ·exact hW.new Sf z
  have Wz:=F2 _ _ Wy Gz
  have kt:cF H1 H2:=fun b xs e=>F2 b _ (fun z=>by
   rcases aw.mp z with z|z
   ·obtain⟨ps,e'⟩:=cS jf
    rw[z,e'] at e
    cases e
   ·rcases aw.mp z with z|z
    ·obtain⟨ps,e'⟩:=cS jU
     rw[z,e'] at e
     cases e
    ·obtain⟨ys,e'⟩:=Cv.lists b z
     rw[e'] at e
     cases e) e
  have t1:=aL Hh
  have t2:=aL FI
  have hlen:(S.jI aI).made.length=S.made.length + l1.length + ((B8 Sw TY TZ).map (lP Sv TX)).length:=by
   rw[YJ,e1,aH,aH]
  refine⟨_,rfl,_,rfl,D1,D2,Ww,Mx,rfl,rfl,Wz,GA,?_,fun p np=>?_⟩
  ·have:Ww.length + Mx.length<=1000000:=by lia
   exact dG (iU this)
  ·have s3:=aD.new (o:= .lst (Ww ++ Mx)) np
   have F:=F1.tr F2
   have np0:H p=none:=by
    cases e:H p with
    |none=>rfl
    |some o=>
     exfalso
     by_cases jL:p∈tB :: tC :: g.fp
     ·rcases aw.mp jL with z|jL
      ·obtain⟨ps,q⟩:=cS ke
       rw[← z,np] at q
       cases q
      ·rcases aw.mp jL with z|jL
       ·obtain⟨ps,q⟩:=cS mm
        rw[← z,np] at q
        cases q
       ·exact zU.new np jL
     ·have q:=F _ _ jL e
      rw[np] at q
      cases q
   refine k p _ _ (F.dh s3) (bT ke s3) (bT mm s3) (zU.same s3) np0 ag ?_
   have ed:(S.jI aI).made.drop S.made.length=l1 ++ (B8 Sw TY TZ).map (lP Sv TX):=by
    rw[YJ,e1,gq,List.drop_left]
   rw[ed]
   exact oJ ((Hh.mono kt).mono s3.tk) (FI.mono s3.tk)
theorem z7 (g:eB):(k9 g).lookup ("tell_bill":Str)=none:=by rfl
theorem tR (g:eB):(k9 g).lookup ("tell_payment":Str)=none:=by rfl
theorem z8 (g:eB):(k9 g).lookup ("tell_note":Str)=none:=by rfl
theorem vK (g:eB):(k9 g).lookup ("set_by_hand":Str)=none:=by rfl
theorem JA (g:eB):(k9 g).lookup ("sweep":Str)=none:=by rfl
inductive um (A:dQ)(K:PySem.W.Frag)(tB tC:Addr)(vs:List V)(H:Hp)(Q:VK)(E:XK):Prop
 |mk (pw pd:Addr)(S:Bk)(f:eB)(n:Nat)(d:bu)(h1:vs=[.ref pw,.ref pd])(h2:dB A H pw S f)(h3:WF S n)(h4:n<=60)(h5:lY H tB)(h6:mj H tC)(h7:H pd=some (.tup (bu.vs d)))(h8:d.tells=true)(h9:(S.bar d=""-> ∀v f' H',f'.fp=f.fp->Frame (tB :: tC :: f.fp) H H'->lY H' tB->mj H' tC->dB A H' pw (S.enter d) f'->pJ H' (fun D=>H D=none) (S.Hb d) v->Q v H'))(JZ:(S.bar d≠""->Lx A K E (S.bar d) H)):um A K tB tC vs H Q E
theorem EV:aS ["work","deed","kind"] ["work","deed"] (ax (top 30)):={}
theorem JB (T:Txt K mg){A:dQ}{tB tC:Addr}(G:jn K mg A)(DB:pU K mg "bills_in_order" (top 17) tB)(DC:pU K mg "credits_in_order" (top 18) tC)(iZ:tB≠tC)(KB:K.In base)(BM:BMain mg base):vi P w K mg base "done" 7 ["work","deed"] (um A K tB tC):=by
 have Cb:gO (mi P w mg) P w K mg base A.work "tell_bill" 5 ["self","who","day","due","amount"] (zz A K):=BJ T G
 have vL:gO (mi P w mg) P w K mg base A.work "tell_payment" 6 ["self","who","day","amount"] (zB A K):=vo T G
 have Cc:gO (mi P w mg) P w K mg base A.work "tell_note" 6 ["self","bill_number","day","amount"] (zC A K):=BK T G
 have xj:gO (mi P w mg) P w K mg base A.work "set_by_hand" 5 ["self","credit_number","bill_number","amount"] (Jc A K):=wQ T G
 have LU:gO rJ P w K mg base A.work "sweep" 4 ["self","who"] (z6 A tB tC):=LS T G DB DC iZ KB BM
 refine N7 (k:=6) T.NZ EV (fun f cK A' outer s H vs Q E hr l7 h=>?_)
 ·obtain⟨pw,pd,S,g,n,d,rfl,hW,wf,hn,jZ,jz,hd,ht,k1,k2⟩:=h
  have nd:=EV.nd
  obtain⟨dw,hw⟩:=hW.obj
  refine⟨_,(ai (sv 2 nd (xt (pv 1) ah))
(ai (bM (aW cG (pv 2) aR (aZ _))
(ao (a6 (mU Cb (hr.mono (by decide)) l7.pass (pv 0) (aa (xt (pv 1) ah) (aa (xt (pv 1) ah) (aa (xt (pv 1) ah) (aa (xt (pv 1) ah) av)))))))
bb)
(ai (bM (aW cG (pv 2) aR (aZ _))
(ao (a6 (mU vL (hr.mono (by decide)) l7.pass (pv 0) (aa (xt (pv 1) ah) (aa (xt (pv 1) ah) (aa (xt (pv 1) ah) av))))))
bb)
(ai (bM (aW cG (pv 2) aR (aZ _))
(ao (a6 (mU Cc (hr.mono (by decide)) l7.pass (pv 0) (aa (xt (pv 1) ah) (aa (xt (pv 1) ah) (aa (xt (pv 1) ah) av))))))
bb)
(ai (bM (aW cG (pv 2) aR (aZ _))
(ao (a6 (mU xj (hr.mono (by decide)) l7.pass (pv 0) (aa (xt (pv 1) ah) (aa (xt (pv 1) ah) (aa (xt (pv 1) ah) av))))))
bb)
(ao (a6 (mU LU (hr.mono (by decide)) mE (pv 0) (aa (xt (pv 1) ah) av))))))))),?_⟩
  have ext: ∀a∈g.fp,∀φ,H a≠some (.ext φ):=fun a ha φ e=>by
   obtain⟨xs,z⟩:=hW.lists a ha
   rw[z] at e
   cases e
  have GR:tB∉g.fp:=hW.off fun xs e=>by
   obtain⟨ps,z⟩:=cS jZ
   rw[z] at e
   cases e
  have GS:tC∉g.fp:=hW.off fun xs e=>by
   obtain⟨ps,z⟩:=cS jz
   rw[z] at e
   cases e
  cases d with
  |iQ n=>cases ht
  |ask o w d=>cases ht
  |iC w d l=>cases ht
  |dJ wh dy du am=>
   refine⟨_,rfl,pd,_,_,.str "bill",rfl,rfl,cm.of hd,rfl,?_⟩
   refine⟨_,rfl,rfl,true,ye _,fv ⟨_,rfl,pw,dw,_,rfl,hw,z7 g,_,rfl,pd,_,_,.str wh,rfl,rfl,cm.of hd,rfl,_,rfl,pd,_,_,.int dy,rfl,rfl,cm.of hd,rfl,_,rfl,pd,_,_,.int du,rfl,rfl,cm.of hd,rfl,_,rfl,pd,_,_,.int am,rfl,rfl,cm.of hd,rfl,pw,S,g,wh,dy,du,am,rfl,hW,(by have:=wf.lb; lia),fun hb f1 H1 e1 F1 W1=>?_,k2⟩⟩
   exact k1 hb _ f1 H1 e1 (dC F1 fun x hx=>by simp[hx]) (fO jZ F1 GR ext) (fO jz F1 GS ext) W1 rfl
  |qv wh dy am=>
   refine⟨_,rfl,pd,_,_,.str "pay",rfl,rfl,cm.of hd,rfl,?_⟩
   refine⟨_,rfl,rfl,false,je (show("pay":Str)≠"bill" by decide +kernel),bR ?_⟩
   refine⟨_,rfl,rfl,true,ye _,fv ⟨_,rfl,pw,dw,_,rfl,hw,tR g,_,rfl,pd,_,_,.str wh,rfl,rfl,cm.of hd,rfl,_,rfl,pd,_,_,.int dy,rfl,rfl,cm.of hd,rfl,_,rfl,pd,_,_,.int am,rfl,rfl,cm.of hd,rfl,pw,S,g,wh,dy,am,rfl,hW,(by have:=wf.lc; lia),fun hb f1 H1 e1 F1 W1=>?_,k2⟩⟩
   exact k1 hb _ f1 H1 e1 (dC F1 fun x hx=>by simp[hx]) (fO jZ F1 GR ext) (fO jz F1 GS ext) W1 rfl
  |note b dy am=>
   refine⟨_,rfl,pd,_,_,.str "note",rfl,rfl,cm.of hd,rfl,?_⟩
   refine⟨_,rfl,rfl,false,je (show("note":Str)≠"bill" by decide +kernel),bR ?_⟩
   refine⟨_,rfl,rfl,false,je (show("note":Str)≠"pay" by decide +kernel),bR ?_⟩
   refine⟨_,rfl,rfl,true,ye _,fv ⟨_,rfl,pw,dw,_,rfl,hw,z8 g,_,rfl,pd,_,_,.int b,rfl,rfl,cm.of hd,rfl,_,rfl,pd,_,_,.int dy,rfl,rfl,cm.of hd,rfl,_,rfl,pd,_,_,.int am,rfl,rfl,cm.of hd,rfl,pw,S,g,b,dy,am,rfl,hW,(by have:=wf.lc; lia),fun hb f1 H1 e1 F1 W1=>?_,k2⟩⟩
   exact k1 hb _ f1 H1 e1 (dC F1 fun x hx=>by simp[hx]) (fO jZ F1 GR ext) (fO jz F1 GS ext) W1 rfl
  |set c b am=>
   refine⟨_,rfl,pd,_,_,.str "set",rfl,rfl,cm.of hd,rfl,?_⟩
   refine⟨_,rfl,rfl,false,je (show("set":Str)≠"bill" by decide +kernel),bR ?_⟩
   refine⟨_,rfl,rfl,false,je (show("set":Str)≠"pay" by decide +kernel),bR ?_⟩
   refine⟨_,rfl,rfl,false,je (show("set":Str)≠"note" by decide +kernel),bR ?_⟩
   refine⟨_,rfl,rfl,true,ye _,fv ⟨_,rfl,pw,dw,_,rfl,hw,vK g,_,rfl,pd,_,_,.int c,rfl,rfl,cm.of hd,rfl,_,rfl,pd,_,_,.int b,rfl,rfl,cm.of hd,rfl,_,rfl,pd,_,_,.int am,rfl,rfl,cm.of hd,rfl,pw,S,g,n,c,b,am,rfl,hW,wf,(iU (by have:=wf.lm; lia)),fun hb f1 H1 e1 F1 W1=>?_,k2⟩⟩
   exact k1 hb _ f1 H1 e1 (dC F1 fun x hx=>by simp[hx]) (fO jZ F1 GR ext) (fO jz F1 GS ext) W1 rfl
  |fu wh=>
   refine⟨_,rfl,pd,_,_,.str "sweep",rfl,rfl,cm.of hd,rfl,?_⟩
   refine⟨_,rfl,rfl,false,je (show("sweep":Str)≠"bill" by decide +kernel),bR ?_⟩
   refine⟨_,rfl,rfl,false,je (show("sweep":Str)≠"pay" by decide +kernel),bR ?_⟩
   refine⟨_,rfl,rfl,false,je (show("sweep":Str)≠"note" by decide +kernel),bR ?_⟩
   refine⟨_,rfl,rfl,false,je (show("sweep":Str)≠"set" by decide +kernel),bR ?_⟩
   refine⟨_,rfl,pw,dw,_,rfl,hw,JA g,_,rfl,pd,_,_,.str wh,rfl,rfl,cm.of hd,rfl,pw,S,g,n,wh,rfl,hW,wf,(by lia),jZ,jz,fun D ms H1 F1 jf jU W1 nD hD hT=>?_⟩
   exact k1 rfl _ g H1 rfl F1 jf jU W1 ⟨D,ms,rfl,nD,hD,hT⟩
theorem JC {α:Type}(x:α)(xs:List α):rH (x :: xs) 0=some x:=cz (xs:=x :: xs) (j:=0) rfl
def kK (H:Hp)(ss:List (Int×bu))(a9:List (Key×V)):Prop:=Paired (fun(st:Int×bu) (kv:Key×V)=>kv.1=Sum.inl st.1/\ ∃pd,kv.2= .ref pd/\H pd=some (.tup (bu.vs st.2))/\st.2.tells=true) ss a9
theorem kK.mono {H H':Hp}{ss:List (Int×bu)}{a9:List (Key×V)}(h:kK H ss a9)(k:cF H H'):kK H' ss a9:=Paired.gR h fun _ _ ⟨e,p,e2,z,t⟩=>⟨e,p,e2,k _ _ z,t⟩
structure fC (A:dQ)(H:Hp)(pb pk pw:Addr)(T:ja)(f:eB):Prop where
 obj:ee H pb A.book (eL pk pw)
 kept: ∃a9,H pk=some (.dK a9)/\kK H T.steps a9
 wk:dB A H pw T.bk f
theorem fC.same {A:dQ}{H H':Hp}{pb pk pw:Addr}{T:ja}{f:eB}(h:fC A H pb pk pw T f)(s:aD H H'):fC A H' pb pk pw T f:=by
 obtain⟨a9,k1,k2⟩:=h.kept
 exact⟨h.obj.same s,⟨a9,s _ _ k1,k2.mono s.tk⟩,h.wk.same s⟩
theorem EW {A:dQ}{H H':Hp}{pw:Addr}{S:Bk}{f:eB}(h:dB A H pw S f)(kl: ∀a xs,H a=some (.lst xs)->H' a=some (.lst xs))(ki: ∀a C dx fs,fs.length=5->H a=some (.ins C dx fs)->H' a=some (.ins C dx fs))(kt:cF H H'):dB A H' pw S f:=by
 obtain⟨dw,hw⟩:=h.obj
 obtain⟨ms,m1,m2⟩:=h.hm
 exact⟨⟨dw,ki _ _ _ _ rfl hw⟩,kl _ _ h.hb,kl _ _ h.hc,kl _ _ h.hl,kl _ _ h.hf,⟨ms,kl _ _ m1,m2.mono kt⟩,⟨h.rb.1,fun i p e=>let⟨dx,z⟩:=h.rb.2 i p e; ⟨dx,ki _ _ _ _ rfl z⟩⟩,⟨h.rc.1,fun i p e=>let⟨dx,z⟩:=h.rc.2 i p e; ⟨dx,ki _ _ _ _ rfl z⟩⟩,h.nd⟩
def JD (o:HO):Prop:=(∀xs,o≠ .lst xs)/\(∀xs,o≠ .tup xs)/\ ∀C dx fs,fs.length=5->o≠ .ins C dx fs
theorem vM {A:dQ}{H:Hp}{pw p:Addr}{S:Bk}{f:eB}{o u:HO}(h:dB A H pw S f)(e:H p=some o)(n:JD o):dB A (upd H p u) pw S f:=
 EW h (fun a xs z=>by rw[aA (fun q=>by rw[q,e] at z; exact n.1 xs (aF z))]; exact z) (fun a C dx fs hl z=>by rw[aA (fun q=>by rw[q,e] at z; exact n.2.2 C dx fs hl (aF z))]; exact z)
  (fun a xs z=>by rw[aA (fun q=>by rw[q,e] at z; exact n.2.1 xs (aF z))]; exact z)
theorem uo (a9:List (Key×V)):JD (.dK a9):=⟨fun _ z=>(by cases z),fun _ z=>(by cases z),fun _ _ _ _ z=>(by cases z)⟩
theorem JE (φ:Heap->Prop):JD (.ext φ):=⟨fun _ z=>(by cases z),fun _ z=>(by cases z),fun _ _ _ _ z=>(by cases z)⟩
theorem yl (C dx pk pw:Addr):JD (.ins C dx (eL pk pw)):=⟨fun _ z=>(by cases z),fun _ z=>(by cases z),fun _ _ fs hl z=>(by injection z with _ _ z; rw[← z] at hl; cases hl)⟩
theorem z9 {H:Hp}{p:Addr}{o u:HO}(e:H p=some o)(n:JD o):cF H (upd H p u):=fun a xs z=>by rw[aA (fun q=>by rw[q,e] at z; exact n.2.1 xs (aF z))]; exact z
theorem r9 {H:Hp}{m:Int}: ∀{ss:List (Int×bu)} {a9:List (Key×V)},kK H ss a9->fW a9 (Sum.inl m:Key)=none-> ∀st∈ss,st.1≠m
 |_,_,.nil,_,_,h=>by cases h
 |_,_,.cons (a:=a) (b:=kv) ⟨e,_⟩ t,hv,st,h=>by
  by_cases q:kv.1=(Sum.inl m:Key)
  ·rw[fz q] at hv
   cases hv
  ·rw[fe q] at hv
   rcases aw.mp h with rfl|h
   ·intro z
    rw[e,z] at q
    exact q rfl
   ·exact r9 t hv st h
theorem ym {H:Hp}{m:Int}{v:V}: ∀{ss:List (Int×bu)} {a9:List (Key×V)},kK H ss a9->fW a9 (Sum.inl m:Key)=some v-> ∃st∈ss,st.1=m/\ ∃pd,v= .ref pd/\H pd=some (.tup (bu.vs st.2))/\st.2.tells=true
 |_,_,.nil,hv=>by cases hv
 |_,_,.cons (a:=a) (b:=kv) ⟨e,pd,e2,z,tl⟩ t,hv=>by
  by_cases q:kv.1=(Sum.inl m:Key)
  ·rw[fz q] at hv
   rw[e] at q
   refine⟨a,bI,by injection q,pd,?_,z,tl⟩
   rw[← aF hv,e2]
  ·rw[fe q] at hv
   obtain⟨st,h1,h2⟩:=ym t hv
   exact⟨st,bc _ h1,h2⟩
theorem Cd {H:Hp}{m:Int}: ∀{ss:List (Int×bu)} {a9:List (Key×V)},kK H ss a9->(∀st∈ss,st.1≠m)->fW a9 (Sum.inl m:Key)=none
 |_,_,.nil,_=>rfl
 |_,_,.cons (a:=a) (b:=kv) ⟨e,_⟩ t,h=>by
  rw[fe (fun q=>by
   rw[e] at q
   exact h a bI (by injection q))]
  exact Cd t fun st hs=>h st (bc _ hs)
theorem yn {H:Hp}{m:Int}: ∀{ss:List (Int×bu)} {a9:List (Key×V)},kK H ss a9->kK H (ss.filter fun st=>decide (st.1≠m)) (kW a9 (Sum.inl m:Key))
 |_,_,.nil=> .nil
 |_,_,.cons (a:=a) (b:=kv) ⟨e,r⟩ t=>by
  have ih:=yn (m:=m) t
  unfold kW at ih ⊢
  by_cases q:a.1=m
  ·have q':kv.1=(Sum.inl m:Key):=by rw[e,q]
   rw[List.filter_cons_of_neg (by simp[q]),List.filter_cons_of_neg (by simp[q'])]
   exact ih
  ·have q': ¬ kv.1=(Sum.inl m:Key):=by rw[e]; intro z; exact q (by injection z)
   rw[List.filter_cons_of_pos (by simp[q]),List.filter_cons_of_pos (by simp[q'])]
   exact .cons ⟨e,r⟩ ih
theorem vN: ∀{ss:List (Int×bu)},ss.Pairwise (fun a b=>a.1 < b.1)-> ∀{x y:Int×bu},x∈ss->y∈ss->x.1=y.1->x=y
 |[],_,_,_,h,_,_=>by cases h
 |a :: ss,hp,x,y,hx,hy,e=>by
  rw[eX] at hp
  rcases aw.mp hx with hx|hx
  ·rcases aw.mp hy with hy|hy
   ·rw[hx,hy]
   ·have:=hp.1 y hy
    rw[hx] at e
    lia
  ·rcases aw.mp hy with hy|hy
   ·have:=hp.1 x hx
    rw[hy] at e
    lia
   ·exact vN hp.2 hx hy e
def GU (ss:List (Int×bu))(m:Int):Bool:=ss.any fun st=>decide (st.1=m) && st.2.isSet
theorem pN (ss:List (Int×bu))(m:Int):(ss.filter (bW m)).length=ss.length↔GU ss m=false:=by
 rw[List.length_filter_eq_length_iff]
 unfold GU
 rw[rj]
 constructor
 ·intro h st hs
  have:=h st hs
  unfold bW at this
  cases h2:decide (st.1=m) && st.2.isSet
  ·simp
  ·rw[h2] at this
   cases this
 ·intro h st hs
  have:=h st hs
  unfold bW
  cases h2:decide (st.1=m) && st.2.isSet
  ·rfl
  ·exact absurd h2 this
theorem JF {ss:List (Int×bu)}{m:Int}{st:Int×bu}(hp:ss.Pairwise (fun a b=>a.1 < b.1))(hs:st∈ss)(e:st.1=m):GU ss m=st.2.isSet:=by
 unfold GU
 cases h:st.2.isSet with
 |true=>exact List.any_eq_true.mpr ⟨st,hs,by simp[e,h]⟩
 |false=>
  rw[rj]
  intro x hx z
  have z':x.1=m/\x.2.isSet=true:=by simpa using z
  have q:=vN hp hx hs (z'.1.trans e.symm)
  rw[q,h] at z'
  cases z'.2
theorem Ce {ss:List (Int×bu)}{m:Int}(h: ∀st∈ss,st.1≠m):GU ss m=false:=by
 unfold GU
 rw[rj]
 intro x hx z
 have z':x.1=m/\x.2.isSet=true:=by simpa using z
 exact h x hx z'.1
theorem JG {ss:List (Int×bu)}{m:Int}(hp:ss.Pairwise (fun a b=>a.1 < b.1))(h:GU ss m=true):ss.filter (bW m)=ss.filter fun st=>decide (st.1≠m):=by
 apply rz
 intro st hs
 unfold bW
 by_cases e:st.1=m
 ·rw[← JF hp hs e,h]
  simp[e]
 ·simp[e]
theorem Cf (pk pw:Addr):(eL pk pw).lookup ("in_force":Str)=none:=by rfl
theorem LV (pk pw:Addr):(eL pk pw).lookup ("undo":Str)=none:=by rfl
theorem Sx (pk pw:Addr):(eL pk pw).lookup ("do":Str)=none:=by rfl
inductive se (A:dQ)(vs:List V)(H:Hp)(Q:VK)(E':XK):Prop
 |mk (pb pk pw:Addr)(T:ja)(f:eB)(n:Nat)(m:Int)(h1:vs=[.ref pb,.int m])(h2:fC A H pb pk pw T f)(h3:Good T n)(h4: ∀H',aD H H'->Q (.bl (GU T.steps m)) H'):se A vs H Q E'
theorem sf:aS ["self","number"] ["self","number"] (ax (mem 29 3)):={}
theorem DK {A:dQ}(G:jn K mg A):gO rJ P w K mg base A.book "in_force" 1 ["self","number"] (se A):=by
 refine Lr (k:=0) G.rV G.eK sf (fun f cK A' outer s H vs Q E hr h=>?_)
 ·obtain⟨pb,pk,pw,T,g,n,m,rfl,hB,hG,k⟩:=h
  have hu:=jE hr
  obtain⟨db,hb⟩:=hB.obj
  obtain⟨a9,hk,hK⟩:=hB.kept
  refine⟨_,(ao (a6 (rD (MZ (Nm hu (pv 1) (bV (pv 0) rfl))) (oX (fb nL (xt (cB hu (bV (pv 0) rfl) (pv 1) (fun _ _=>rfl)) ah) (dg (aa aR (aa aR av))) (by rfl)))))),?_⟩
  refine⟨_,rfl,_,rfl,pb,_,db,_,_,rfl,hb,G.eK,G.gx,ui _ _,pk,_,rfl,mh.k (k:=(Sum.inl m:Key)) hk,_,rfl,?_⟩
  cases hv:fW a9 (Sum.inl m:Key) with
  |none=>
   refine bR ?_
   have q:=k H (aD.refl _)
   rw[Ce (r9 hK hv)] at q
   exact q
  |some v=>
   refine fv ?_
   obtain⟨st,hs,e,pd,rfl,He,ht⟩:=ym hK hv
   obtain⟨r,er⟩:=ue (.inl ht)
   rw[er] at He
   refine⟨_,rfl,pb,_,db,_,_,rfl,hb,G.eK,G.gx,ui _ _,_,rfl,pk,.ref pd,rfl,(by have z:=mh.k (k:=(Sum.inl m:Key)) hk; rw[hv] at z; exact z),pd,_,_,.str (bu.word st.2),rfl,rfl,cm.of He,JC _ _,(by show 2<=sizeLine; decide),fun p np=>?_⟩
   have s1:=aD.new (o:= .tup [.str "set",.str "sweep"]) np
   refine⟨p,_,rfl,.inr (cm.of ag),rfl,rfl,?_⟩
   have q:=k _ s1
   rw[JF hG.inc hs e,← EL ht] at q
   exact q
inductive OP (A:dQ)(K:PySem.W.Frag)(tB tC:Addr)(vs:List V)(H:Hp)(Q:VK)(E:XK):Prop
 |mk (pb pd pk pw:Addr)(T:ja)(f:eB)(n:Nat)(d:bu)(h1:vs=[.ref pb,.int n,.ref pd])(h2:fC A H pb pk pw T f)(h3:Good T n)(h4:n<=59)(h5:lY H tB)(h6:mj H tC)(h7:H pd=some (.tup (bu.vs d)))(h8:d.tells=true)(h9:(T.bk.bar d=""-> ∀v f' H',f'.fp=f.fp->Frame (tB :: tC :: pk :: f.fp) H H'->lY H' tB->mj H' tC->fC A H' pb pk pw ⟨T.steps ++ [((n:Int),d)],T.bk.enter d⟩ f'->pJ H' (fun D=>H D=none) (T.bk.Hb d) v->Q v H'))(JZ:(T.bk.bar d≠""->Lx A K E (T.bk.bar d) H)):OP A K tB tC vs H Q E
theorem vO:aS ["self","number","deed","answer"] ["self","number","deed"] (ax (mem 29 1)):={}
theorem WA (T:Txt K mg){A:dQ}{tB tC:Addr}(G:jn K mg A)(DB:pU K mg "bills_in_order" (top 17) tB)(DC:pU K mg "credits_in_order" (top 18) tC)(iZ:tB≠tC)(KB:K.In base)(BM:BMain mg base):gO (mi P w mg) P w K mg base A.book "do" 8 ["self","number","deed"] (OP A K tB tC):=by
 have DM:vi P w K mg base "done" 7 ["work","deed"] (um A K tB tC):=JB T G DB DC iZ KB BM
 refine qJ (k:=7) G.Di G.eK vO (fun f cK A' outer s H vs Q E hr l7 h=>?_)
 ·obtain⟨pb,pd,pk,pw,T,g,n,d,rfl,hB,hG,hn,jZ,jz,hd,ht,k1,k2⟩:=h
  have hu:=jE hr
  have nd:=vO.nd
  obtain⟨db,hb⟩:=hB.obj
  obtain⟨a9,hk,hK⟩:=hB.kept
  have hW:=hB.wk
  refine⟨_,(ai (sv 3 nd (rW DM (hr.mono (by decide)) rfl l7.pass (aa (bV (pv 0) rfl) (aa (pv 2) av))))
(ai (Ec hu (bV (pv 0) rfl) (pv 1) (pv 2) rfl)
(ao (a6 (pv 3))))),?_⟩
  refine⟨_,rfl,pb,_,db,_,_,rfl,hb,G.eK,G.gy,uj _ _,_,rfl,pw,pd,T.bk,g,n,d,rfl,hW,hG.wf (by lia),(by lia),jZ,jz,hd,ht,fun om v f1 H1 e1 F1 jf jU W1 hA=>?_,k2⟩
  have OQ: ∀a o,H a=some o->(∀xs,o≠ .lst xs)->(∀ps,o≠ .nJ ps)->a∉tB :: tC :: g.fp:=fun a o e n1 n2 z=>by
   rcases aw.mp z with z|z
   ·obtain⟨ps,q⟩:=cS jZ
    rw[z,q] at e
    exact n2 ps (aF e).symm
   ·rcases aw.mp z with z|z
    ·obtain⟨ps,q⟩:=cS jz
     rw[z,q] at e
     exact n2 ps (aF e).symm
    ·obtain⟨xs,q⟩:=hW.lists a z
     rw[q] at e
     exact n1 xs (aF e).symm
  have kt:cF H H1:=fun a xs e=>F1 _ _ (OQ _ _ e (fun _ z=>by cases z) (fun _ z=>by cases z)) e
  have Sy:=F1 _ _ (OQ _ _ hb (fun _ z=>by cases z) (fun _ z=>by cases z)) hb
  have GV:=F1 _ _ (OQ _ _ hk (fun _ z=>by cases z) (fun _ z=>by cases z)) hk
  have YK:=hK.mono kt
  have lM:=kt _ _ hd
  have EH:=aL hK
  have hlen:=hG.len
  refine⟨_,rfl,_,rfl,pb,_,db,_,_,rfl,Sy,G.eK,G.gx,ui _ _,_,rfl,pk,_,rfl,Fx.k (k:=(Sum.inl (n:Int):Key)) GV (bg (by lia)),?_⟩
  rw[HU _ (Cd YK fun st hs=>by have:=(hG.lt st hs).2; lia)]
  have s2: ∀a o,a≠pk->H1 a=some o->upd H1 pk (.dK (a9 ++ [(Sum.inl (n:Int),V.ref pd)])) a=some o:=fun a o hn e=>by rw[aA hn]; exact e
  have nbk:pb≠pk:=mw Sy GV (by intro z; cases z)
  have WB:=z9 (u:= .dK (a9 ++ [(Sum.inl (n:Int),V.ref pd)])) GV (uo a9)
  refine⟨_,rfl,k1 om v f1 _ e1 ((dC F1 fun x hx=>?_).tr (Frame.upd (by simp))) (fO jf (Frame.upd (fp:=[pk]) (by simp)) (fun z=>?_) (fun a ha φ e=>?_)) (fO jU (Frame.upd (fp:=[pk]) (by simp)) (fun z=>?_) (fun a ha φ e=>?_)) ⟨⟨db,s2 _ _ nbk Sy⟩,⟨_,ag,?_⟩,vM W1 GV (uo a9)⟩ ?_⟩
  ·rcases aw.mp hx with hx|hx
   ·simp[hx]
   ·rcases aw.mp hx with hx|hx
    ·simp[hx]
    ·simp[hx]
  ·obtain⟨ps,q⟩:=cS jf
   rw[ak.mp z,GV] at q
   cases q
  ·rw[ak.mp ha,GV] at e
   cases e
  ·obtain⟨ps,q⟩:=cS jU
   rw[ak.mp z,GV] at q
   cases q
  ·rw[ak.mp ha,GV] at e
   cases e
  ·exact cA (YK.mono WB) ⟨rfl,pd,rfl,WB _ _ lM,ht⟩
  ·exact hA.keep (fun D xs o e=>⟨o,s2 _ _ (mw e GV (by intro z; cases z)) e⟩) WB
theorem Cg: ∀{ss:List (Int×bu)} {B S:Bk} {i:Nat} {k:Int} {d:bu},cE (ss.take i) B=some S->ss[i]? =some (k,d)->S.bar d≠""->iq ss B=S.bar d/\cE ss B=none
 |[],_,_,_,_,_,_,h,_=>by simp at h
 |(k0,d0) :: ss,B,S,0,k,d,hw,h,hb=>by
  cases hw
  have e:(k0,d0)=(k,d):=by simpa using h
  cases e
  unfold iq cE
  rw[aQ hb,aQ hb]
  exact⟨rfl,rfl⟩
 |(k0,d0) :: ss,B,S,i + 1,k,d,hw,h,hb=>by
  rw[List.take_succ_cons] at hw
  unfold cE at hw
  split at hw
  ·rename_i q
   have ih:=Cg hw (by simpa using h) hb
   unfold iq cE
   rw[a7 q,a7 q]
   exact ih
  ·cases hw
theorem Ci {ss:List (Int×bu)}{B S:Bk}{i:Nat}{k:Int}{d:bu}(hw:cE (ss.take i) B=some S)(h:ss[i]? =some (k,d))(hb:S.bar d=""):cE (ss.take (i + 1)) B=some (S.enter d):=by
 obtain⟨hi,e⟩:=au.mp h
 rw[ow hi,kE,hw,e]
 show(if S.bar d="" then some (S.enter d) else none)=_
 rw[a7 hb]
def WC (A:dQ)(K:PySem.W.Frag)(tB tC:Addr)(fp:List Addr)(E:XK)(t:Str)(H:Hp):Prop:= ∀C dx H',gN K C A.refusal->Frame fp H H'->lY H' tB->mj H' tC->H dx=none->H' dx=some (.xd [("text",.str t)])->E (.ref C) (some dx) H'
inductive Aa (A:dQ)(K:PySem.W.Frag)(tB tC:Addr)(vs:List V)(H:Hp)(Q:VK)(E:XK):Prop
 |mk (pk:Addr)(ss:List (Int×bu))(a9:List (Key×V))(h1:vs=[.ref pk])(h2:H pk=some (.dK a9))(h3:kK H ss a9)(h4:ss.length<=59)(h5:(iq ss Bk.new=""∨iq ss Bk.new="too much"))(h6:lY H tB)(h7:mj H tC)(h8:(∀S,cE ss Bk.new=some S-> ∀pw f H',Frame [tB,tC] H H'->lY H' tB->mj H' tC->dB A H' pw S f->H pw=none->(∀b∈f.fp,H b=none)->Q (.ref pw) H'))(h9:(cE ss Bk.new=none->WC A K tB tC [tB,tC,pk] E "needed" H)):Aa A K tB tC vs H Q E
theorem oM:aS ["kept","work","deed"] ["kept"] (ax (top 31)):={}
theorem ME {H:Hp}{tb d:Addr}{pos:Pos}{qual:Str}{φ:Heap->Prop}{u:HO}(t:Tb H tb pos qual)(e:H d=some (.ext φ))(n: ∀q:Str,φ≠fun h=>h.CodeRec (.ref d) q):Tb (upd H d u) tb pos qual:=by
 obtain⟨ps,h1,h2,h3⟩:=t
 refine⟨ps,by rw[aA (mw h1 e (by intro z; cases z))]; exact h1,h2,?_⟩
 rcases h3 with h3|⟨c',h3,h4⟩
 ·exact .inl h3
 ·refine .inr ⟨c',h3,?_⟩
  by_cases z:c'=d
  ·subst z
   rw[e] at h4
   have h5:=aF h4
   injection h5 with h5
   exact absurd h5 (n qual)
  ·rw[aA z]
   exact h4
theorem Ab (T:Txt K mg){A:dQ}{tB tC:Addr}(G:jn K mg A)(DB:pU K mg "bills_in_order" (top 17) tB)(DC:pU K mg "credits_in_order" (top 18) tC)(iZ:tB≠tC)(hnd:A.iS≠A.tooMuch)(KB:K.In base)(BM:BMain mg base):vi P w K mg base "done_again" 8 ["kept"] (Aa A K tB tC):=by
 have DM:vi P w K mg base "done" 7 ["work","deed"] (um A K tB tC):=JB T G DB DC iZ KB BM
 have DD:tI P w K mg base "Work" A.work 1 ["self"] (uc A):=Jf G
 refine N7 (k:=7) T.yV oM (fun f cK A' outer s H vs Q E hr l7 h=>?_)
 ·obtain⟨pk,ss,a9,rfl,hk,hK,hl,hfb,jZ,jz,k1,k2⟩:=h
  have nd:=oM.nd
  refine⟨_,(ai (sv 1 nd (IT DD (hr.mono (by decide)) rfl))
(ai (Lf l7.own rfl (pv 0) (gn 2 nd)
(ao (Bc l7 rfl rfl G.vh G.pB (show mg "Needed"≠some (.ref A.tooMuch) from fun z=>hnd (by rw[G.xY] at z; injection z with z; injection z)) (Gs T G) (hr.h.mono (by decide)) rfl (fun xe pn E hx=>ao (bJ (rW DM (hr.mono (by decide)) rfl hx (aa (pv 1) (aa (pv 2) av))))))))
(ao (a6 (pv 1))))),?_⟩
  intro xw Wc LJ Oz ne
  have s1:=lp (C:=A.work) (fs:=[]) LJ Oz ne
  refine⟨xw,Wc,rfl,ag,fun g H1 F1 W1 nf=>⟨rfl,?_⟩⟩
  have fg: ∀b∈g.fp,H b=none:=fun b hb=>s1.free (nf b hb)
  have S1:aD H H1:=fun b o e=>F1 b o (by simpa using aJ e LJ) (s1 b o e)
  clear F1 nf s1
  refine⟨_,rfl,?_⟩
  have GV:=S1 _ _ hk
  have hlen:=aL hK
  refine IK (td:=fun _ _ _=>True) GV fun φ hφ=>⟨fun i σ H2=> ∃(S:Bk) (f:eB) (x2:Option V),σ=[some (.ref pk),some (.ref xw),x2]/\cE (ss.take i) Bk.new=some S/\dB A H2 xw S f/\(∀b∈f.fp,H b=none)/\Frame [tB,tC,pk] H H2/\H2 pk=some (.ext φ)/\lY H2 tB/\mj H2 tC,?_,?_,?_,?_⟩
  ·have ext: ∀a∈[pk],∀φ,H1 a≠some (.ext φ):=fun a ha φ e=>by
    rw[ak.mp ha,GV] at e
    cases e
   have nB:tB∉[pk]:=fun z=>by
    obtain⟨ps,q⟩:=cS jZ
    rw[ak.mp z,hk] at q
    cases q
   have nC:tC∉[pk]:=fun z=>by
    obtain⟨ps,q⟩:=cS jz
    rw[ak.mp z,hk] at q
    cases q
   exact⟨Bk.new,g,none,rfl,rfl,vM W1 GV (uo a9),fg,(S1.frame (fp:=[tB,tC,pk])).tr (Frame.upd (by simp)),ag,fO (bT jZ S1) (Frame.upd (fp:=[pk]) (by simp)) nB ext,fO (bT jz S1) (Frame.upd (fp:=[pk]) (by simp)) nC ext⟩
  ·rintro i σ H2 ⟨S,f,x2,_,_,_,_,_,e,_⟩
   exact e
  ·rintro i x σ H2 hx ⟨S,f,x2,rfl,hw,hW,hf,F2,e2,ke,mm⟩
   rw[aB] at hx
   obtain⟨kv,Tv,rfl⟩:=bq.mp hx
   have hi:i < ss.length:=by have:=(au.mp Tv).1; lia
   have oo:=af hi
   obtain⟨kv',Sz,ek,pd,epd,He,ht⟩:=bG hK oo
   rw[Tv] at Sz
   obtain rfl:kv=kv':=aF Sz
   generalize ss[i]=st at oo ek He ht
   obtain⟨sn,d⟩:=st
   rw[epd]
   have Oh:H2 pd=some (.tup (bu.vs d)):=F2 _ _ (fun z=>by
    simp only[List.mem_cons,List.not_mem_nil,or_false] at z
    rcases z with z|z|z
    ·obtain⟨ps,q⟩:=cS jZ
     rw[← z,He] at q
     cases q
    ·obtain⟨ps,q⟩:=cS jz
     rw[← z,He] at q
     cases q
    ·rw[z,hk] at He
     cases He) He
   have wf:WF S (0 + (ss.take i).length):=rR _ WF.new hw (by rw[bh]; lia)
   refine⟨_,rfl,_,rfl,xw,pd,S,f,_,d,rfl,hW,wf,(by rw[bh]; lia),ke,mm,Oh,ht,fun hb v f' H3 e3 F3 oq ou W3 _=>?_,fun hb=>?_⟩
   ·refine⟨S.enter d,f',_,rfl,Ci hw oo hb,W3,(by rw[e3]; exact hf),F2.trans F3 (fun x hx=>?_),F3 _ _ (fun z=>?_) e2,oq,ou⟩
    ·rcases aw.mp hx with hx|hx
     ·exact .inl (by simp[hx])
     ·rcases aw.mp hx with hx|hx
      ·exact .inl (by simp[hx])
      ·exact .inr (hf x hx)
    ·rcases aw.mp z with z|z
     ·obtain⟨ps,q⟩:=cS ke
      rw[← z,e2] at q
      cases q
     ·rcases aw.mp z with z|z
      ·obtain⟨ps,q⟩:=cS mm
       rw[← z,e2] at q
       cases q
      ·have:=hf _ z
       rw[hk] at this
       cases this
   ·obtain⟨ef,ew⟩:=Cg hw oo hb
    have et:S.bar d="too much":=(hfb.resolve_left (by rw[ef]; exact hb)).symm.trans ef |>.symm
    intro C hC hCt dx H3 s3 nd3 Hf
    have S5:C=A.tooMuch:=hCt et
    refine⟨by rw[S5],fun WD n2=>?_⟩
    have s4:=aD.new (o:= .xd [("text",.str "needed")]) n2
    have JH:=s3.trans s4
    refine k2 ew A.iS WD _ G.xZ (F2.dh JH) (bT ke JH) (bT mm JH) ?_ ag
    have SA:=s3.free n2
    cases e:H WD with
    |none=>rfl
    |some o=>
     exfalso
     by_cases jL:WD∈[tB,tC,pk]
     ·simp only[List.mem_cons,List.not_mem_nil,or_false] at jL
      rcases jL with z|z|z
      ·obtain⟨ps,q⟩:=cS ke
       rw[← z,SA] at q
       cases q
      ·obtain⟨ps,q⟩:=cS mm
       rw[← z,SA] at q
       cases q
      ·rw[z,e2] at SA
       cases SA
     ·have q:=F2 _ _ jL e
      rw[SA] at q
      cases q
  ·rintro σ H2 ⟨S,f,x2,rfl,hw,hW,hf,F2,e2,ke,mm⟩
   rw[← hlen,a8] at hw
   refine⟨_,rfl,k1 S hw xw f _ (fun b o hb e=>?_) (ME ke e2 hφ.2) (ME mm e2 hφ.2) (vM hW e2 (JE φ)) LJ hf⟩
   by_cases z:b=pk
   ·subst z
    rw[hk] at e
    rw[ag]
    exact e
   ·rw[aA z]
    exact F2 _ _ (by simp only[List.mem_cons,List.not_mem_nil,or_false,not_or] at hb ⊢; exact⟨hb.1,hb.2,z⟩) e
theorem OR (pk pw rh:Addr):ej "work" (.ref rh) (eL pk pw)=eL pk rh:=by rfl
theorem OS (pk vP pw:Addr):ej "kept" (.ref vP) (eL pk pw)=eL vP pw:=by rfl
inductive DN (A:dQ)(K:PySem.W.Frag)(tB tC:Addr)(vs:List V)(H:Hp)(Q:VK)(E:XK):Prop
 |mk (pb pk pw:Addr)(T:ja)(f:eB)(n:Nat)(m:Int)(h1:vs=[.ref pb,.int m])(h2:fC A H pb pk pw T f)(h3:Good T n)(h4:n<=59)(h5:lY H tB)(h6:mj H tC)(h7:(GU T.steps m=true-> ∀S,cE (T.steps.filter (bW m)) Bk.new=some S-> ∀vP rh f' H',Frame [tB,tC,pb] H H'->lY H' tB->mj H' tC->fC A H' pb vP rh ⟨T.steps.filter (bW m),S⟩ f'->H vP=none->(∀b∈f'.fp,H b=none)->Q (.str "undone") H'))(h8:(GU T.steps m=true->cE (T.steps.filter (bW m)) Bk.new=none->WC A K tB tC [tB,tC] E "needed" H))(h9:(GU T.steps m=false->WC A K tB tC [tB,tC] E "no setting" H)):DN A K tB tC vs H Q E
theorem qZ:aS ["self","number","kept"] ["self","number"] (ax (mem 29 2)):={}
theorem OT (T:Txt K mg){A:dQ}{tB tC:Addr}(G:jn K mg A)(DB:pU K mg "bills_in_order" (top 17) tB)(DC:pU K mg "credits_in_order" (top 18) tC)(iZ:tB≠tC)(hnd:A.iS≠A.tooMuch)(KB:K.In base)(BM:BMain mg base):gO (mi P w mg) P w K mg base A.book "undo" 9 ["self","number"] (DN A K tB tC):=by
 have Ac:vi P w K mg base "done_again" 8 ["kept"] (Aa A K tB tC):=Ab T G DB DC iZ hnd KB BM
 have DO:gO rJ P w K mg base A.book "in_force" 1 ["self","number"] (se A):=DK G
 refine qJ (k:=8) G.zk G.eK qZ (fun f cK A' outer s H vs Q E hr l7 h=>?_)
 ·obtain⟨pb,pk,pw,TT,g,n,m,rfl,hB,hG,hn,jZ,jz,k1,k2,k3⟩:=h
  have hu:=jE hr
  have nd:=qZ.nd
  obtain⟨db,hb⟩:=hB.obj
  refine⟨_,(ai (bM (jB (fT (mU DO (hr.mono (by decide)) mE (pv 0) (aa (pv 1) av))))
(ao (jN l7 (zq T G) (hr.h.mono (by decide)) rfl rfl))
bb)
(ai (sv 2 nd (fQ Bm (by rfl) T.N1 (by rfl) (aa (bV (pv 0) rfl) av)))
(ai (bJ (HW (pv 2) (pv 1) ⟨rfl,rfl,rfl,rfl⟩))
(ai (fH (pv 0) (rW Ac (hr.mono (by decide)) rfl l7.pass (aa (pv 2) av)) rfl)
(ai (fH (pv 0) (pv 2) rfl)
(ao (a6 aR))))))),?_⟩
  refine⟨_,rfl,pb,db,_,rfl,hb,Cf _ _,_,rfl,pb,pk,pw,TT,g,n,m,rfl,hB,hG,fun H1 s1=>⟨_,rfl,?_⟩⟩
  refine cy (fun z=>?_) (fun z=>?_)
  ·have z':GU TT.steps m=false:=by simpa using z
   intro dx nn
   have s2:=s1.trans (aD.new (o:= .xd [("text",.str "no setting")]) nn)
   exact k3 z' A.jx dx _ G.qE s2.frame (bT jZ s2) (bT jz s2) (s1.free nn) ag
  have z':GU TT.steps m=true:=by simpa using z
  have Mw:=hB.same s1
  obtain⟨a9,hk,hK⟩:=Mw.kept
  have Sy:=s1 _ _ hb
  refine⟨_,rfl,pb,_,db,_,_,rfl,Sy,G.eK,G.gx,ui _ _,pk,a9,rfl,hk,fun p2 YL=>?_⟩
  have s2:=aD.new (o:= .dK a9) YL
  have tq:upd H1 p2 (.dK a9) p2=some (.dK a9):=ag
  have n2:H p2=none:=s1.free YL
  have S2:=s1.trans s2
  have YM:=hK.mono s2.tk
  generalize upd H1 p2 (.dK a9)=H2 at tq S2 YM
  clear s2
  cases hv:fW a9 (Sum.inl m:Key) with
  |none=>
   have:=Ce (r9 hK hv)
   rw[z'] at this
   cases this
  |some v=>
  refine⟨_,rfl,p2,rfl,.inl ⟨a9,.inl tq⟩,_,rfl,a9,(Sum.inl m:Key),v,tq,rfl,hv,?_⟩
  have T1:=(yn (m:=m) YM).mono (z9 (u:= .dK (kW a9 (Sum.inl m:Key))) tq (uo a9))
  rw[← JG hG.inc z'] at T1
  have S3:aD H (upd H2 p2 (.dK (kW a9 (Sum.inl m:Key)))):=S2.cX n2
  have PD:upd H2 p2 (.dK (kW a9 (Sum.inl m:Key))) p2=some (.dK (kW a9 (Sum.inl m:Key))):=ag
  generalize upd H2 p2 (.dK (kW a9 (Sum.inl m:Key)))=H3 at T1 S3 PD
  have TK:=aX (bW m) TT.steps
  have OA:=hG.len
  have SD:(cE TT.steps Bk.new).isSome=true:=by rw[hG.w]; rfl
  refine⟨_,rfl,p2,_,_,rfl,PD,T1,(by lia),NF m TT.steps (mL.refl Bk.new) SD,bT jZ S3,bT jz S3,fun S hS rh f' H4 F4 tP tQ W4 npw nf4=>?_,fun hS=>?_⟩
  case refine_2=>
   intro C dx H4 hC F4 tP tQ nd4 hd4
   refine k2 z' hS C dx H4 hC ((S3.frame (fp:=[tB,tC])).trans F4 (fun x hx=>?_)) tP tQ (S3.free nd4) hd4
   simp only[List.mem_cons,List.not_mem_nil,or_false] at hx
   rcases hx with hx|hx|hx
   ·exact .inl (by simp[hx])
   ·exact .inl (by simp[hx])
   ·exact .inr (by rw[hx]; exact n2)
  have off: ∀a o,H3 a=some o->(∀ps,o≠ .nJ ps)->a∉[tB,tC]:=fun a o e n1 z=>by
   simp only[List.mem_cons,List.not_mem_nil,or_false] at z
   rcases z with z|z
   ·obtain⟨ps,q⟩:=cS (bT jZ S3)
    rw[z,q] at e
    exact n1 ps (aF e).symm
   ·obtain⟨ps,q⟩:=cS (bT jz S3)
    rw[z,q] at e
    exact n1 ps (aF e).symm
  have Ad:=F4 _ _ (off _ _ (S3 _ _ hb) (fun _ z=>by cases z)) (S3 _ _ hb)
  have T2:=F4 _ _ (off _ _ PD (fun _ z=>by cases z)) PD
  have hK4:=T1.mono (fun a xs e=>F4 _ _ (off _ _ e (fun _ z=>by cases z)) e)
  have F4':Frame [tB,tC,pb] H H4:=dC ((S3.frame (fp:=[tB,tC])).tr F4) (by simp)
  refine⟨_,rfl,pb,_,db,_,rfl,Ad,G.eK,G.gy,(by show 2 < 1000; decide),?_⟩
  rw[OR]
  have e5:upd H4 pb (.ins A.book db (eL pk rh)) pb=some (.ins A.book db (eL pk rh)):=ag
  have SE:=yl A.book db pk pw
  have W5:=vM (u:= .ins A.book db (eL pk rh)) W4 Ad SE
  have YN:p2≠pb:=(aJ hb n2).symm
  have PR:upd H4 pb (.ins A.book db (eL pk rh)) p2=some (.dK (kW a9 (Sum.inl m:Key))):=by rw[aA YN]; exact T2
  have YO:=hK4.mono (z9 (u:= .ins A.book db (eL pk rh)) Ad SE)
  have SG: ∀a∈[pb],∀φ,H4 a≠some (.ext φ):=fun a ha φ e=>by
   rw[ak.mp ha,Ad] at e
   cases e
  have nB:tB∉[pb]:=fun z=>by
   obtain⟨ps,q⟩:=cS tP
   rw[ak.mp z,Ad] at q
   cases q
  have nC:tC∉[pb]:=fun z=>by
   obtain⟨ps,q⟩:=cS tQ
   rw[ak.mp z,Ad] at q
   cases q
  have Jw:lY (upd H4 pb (.ins A.book db (eL pk rh))) tB:=fO tP (Frame.upd (fp:=[pb]) (by simp)) nB SG
  have Jx:mj (upd H4 pb (.ins A.book db (eL pk rh))) tC:=fO tQ (Frame.upd (fp:=[pb]) (by simp)) nC SG
  have F5:Frame [tB,tC,pb] H (upd H4 pb (.ins A.book db (eL pk rh))):=F4'.tr (Frame.upd (by simp))
  generalize upd H4 pb (.ins A.book db (eL pk rh))=H5 at e5 W5 PR YO Jw Jx F5
  refine⟨_,rfl,_,rfl,pb,_,db,_,rfl,e5,G.eK,G.gx,(by show 2 < 1000; decide),?_⟩
  rw[OS]
  have MF:=yl A.book db pk rh
  have SH: ∀a∈[pb],∀φ,H5 a≠some (.ext φ):=fun a ha φ e=>by
   rw[ak.mp ha,e5] at e
   cases e
  refine k1 z' S hS p2 rh f' _ (F5.tr (Frame.upd (by simp))) (fO Jw (Frame.upd (fp:=[pb]) (by simp)) nB SH) (fO Jx (Frame.upd (fp:=[pb]) (by simp)) nC SH) ⟨⟨db,ag⟩,⟨_,by rw[aA YN]; exact PR,YO.mono (z9 e5 MF)⟩,vM W5 e5 MF⟩ n2 (fun b hb=>S3.free (nf4 b hb))
def Dt.v:Dt->V
 | .int i=> .int i
 | .str s=> .str s
 | .bl b=> .bl b
 |_=> .d8
def Dt.flat:Dt->Bool
 | .int _=>true
 | .str _=>true
 | .bl _=>true
 |_=>false
theorem vQ {H:Hp}: ∀{ds:List Dt} {xs:List V},ds.all Dt.flat=true->gQ H ds xs->xs=ds.map Dt.v
 |[],_,_,h=>c9.mp h
 |d :: ds,_,hf,h=>by
  obtain⟨v,r,rfl,h1,h2⟩:=bL.mp h
  rw[List.all_cons,Hn] at hf
  rw[vQ hf.2 h2]
  cases d with
  |int i=>rw[dz.mp h1]; rfl
  |str s=>rw[gF.mp h1]; rfl
  |bl b=>rw[qq.mp h1]; rfl
  |d8=>cases hf.1
  |lst _=>cases hf.1
  |tup _=>cases hf.1
def sh (H:Hp)(pd:Addr):bu->Prop
 | .iC w dy l=> ∃pl,H pd=some (.tup [.str "ages",.str w,.int dy,.ref pl])/\H pl=some (.tup (l.map V.int))
 |d=>H pd=some (.tup (bu.vs d))
theorem EY {H:Hp}{d:bu}{v:V}(h:Rp H d.dt v): ∃pd,v= .ref pd/\sh H pd d:=by
 cases d with
 |iC w dy l=>
  obtain⟨a,xs,rfl,h1,h2⟩:=jF.mp h
  obtain⟨v1,r1,rfl,e1,h2⟩:=bL.mp h2
  obtain⟨v2,r2,rfl,e2,h2⟩:=bL.mp h2
  obtain⟨v3,r3,rfl,e3,h2⟩:=bL.mp h2
  obtain⟨v4,r4,rfl,e4,h2⟩:=bL.mp h2
  obtain rfl:=c9.mp h2
  obtain rfl:=gF.mp e1
  obtain rfl:=gF.mp e2
  obtain rfl:=dz.mp e3
  obtain⟨pl,ys,rfl,h4,h5⟩:=jF.mp e4
  have e5:=vQ (by rw[List.all_map]; exact List.all_eq_true.mpr fun _ _=>rfl) h5
  rw[e5,eO] at h4
  exact⟨a,rfl,pl,h1,h4⟩
 |_=>
  obtain⟨a,xs,rfl,h1,h2⟩:=jF.mp h
  have e5:=vQ (by rfl) h2
  rw[e5] at h1
  exact⟨a,rfl,h1⟩
theorem sh.mono {H H':Hp}{pd:Addr}{d:bu}(h:sh H pd d)(k:cF H H'):sh H' pd d:=by
 cases d with
 |iC w dy l=>
  obtain⟨pl,h1,h2⟩:=h
  exact⟨pl,k _ _ h1,k _ _ h2⟩
 |_=>exact k _ _ h
theorem ly {A:dQ}{H H':Hp}{pb pk pw:Addr}{T:ja}{f:eB}(h:fC A H pb pk pw T f)(k: ∀a o,H a=some o->(∀ps,o≠ .nJ ps)->H' a=some o):fC A H' pb pk pw T f:=by
 obtain⟨db,hb⟩:=h.obj
 obtain⟨a9,k1,k2⟩:=h.kept
 have kt:cF H H':=fun a xs e=>k _ _ e (fun _ z=>by cases z)
 exact⟨⟨db,k _ _ hb (fun _ z=>by cases z)⟩,⟨a9,k _ _ k1 (fun _ z=>by cases z),k2.mono kt⟩,EW h.wk (fun a xs e=>k _ _ e (fun _ z=>by cases z)) (fun a C dx fs _ e=>k _ _ e (fun _ z=>by cases z)) kt⟩
theorem sW {H H':Hp}{fp:List Addr}{a:Addr}{o:HO}(F:Frame fp H H')(ht: ∀t∈fp,∃ps,H t=some (.nJ ps))(e:H a=some o)(n: ∀ps,o≠ .nJ ps):H' a=some o:=F _ _ (fun z=>by
 obtain⟨ps,q⟩:=ht a z
 rw[q] at e
 exact n ps (aF e).symm) e
theorem LW {d:bu}(h:d.tells=true):bu.word d≠"owed"/\bu.word d≠"free"/\bu.word d≠"ages"/\bu.word d≠"undo":=by
 cases d with
 |dJ _ _ _ _=>show("bill":Str)≠"owed"/\("bill":Str)≠"free"/\("bill":Str)≠"ages"/\("bill":Str)≠"undo"; decide +kernel
 |qv _ _ _=>show("pay":Str)≠"owed"/\("pay":Str)≠"free"/\("pay":Str)≠"ages"/\("pay":Str)≠"undo"; decide +kernel
 |note _ _ _=>show("note":Str)≠"owed"/\("note":Str)≠"free"/\("note":Str)≠"ages"/\("note":Str)≠"undo"; decide +kernel
 |set _ _ _=>show("set":Str)≠"owed"/\("set":Str)≠"free"/\("set":Str)≠"ages"/\("set":Str)≠"undo"; decide +kernel
 |fu _=>show("sweep":Str)≠"owed"/\("sweep":Str)≠"free"/\("sweep":Str)≠"ages"/\("sweep":Str)≠"undo"; decide +kernel
 |iQ _=>cases h
 |ask _ _ _=>cases h
 |iC _ _ _=>cases h
inductive vR (A:dQ)(tB tC:Addr)(vs:List V)(H:Hp)(Q:VK)(E':XK):Prop
 |mk (pb pd pk pw:Addr)(T:ja)(f:eB)(n:Nat)(d:bu)(h1:vs=[.ref pb,.int n,.ref pd])(h2:fC A H pb pk pw T f)(h3:Good T n)(h4:n<=59)(h5:lY H tB)(h6:mj H tC)(h7:sh H pd d)(h8:d.ok)(h9: ∀v vP rh f' H',Frame (tB :: tC :: pb :: pk :: f.fp) H H'->lY H' tB->mj H' tC->fC A H' pb vP rh (dM T n d).2 f'->(∀x∈vP :: f'.fp,x∈pk :: f.fp∨H x=none)->pJ H' (fun D=>H D=none/\D∉vP :: f'.fp) (dM T n d).1 v->Q v H'):vR A tB tC vs H Q E'
theorem q0:aS ["book","number","deed","kind","refusal"] ["book","number","deed"] (ax (top 35)):={}
theorem Cj (T:Txt K mg){A:dQ}{tB tC:Addr}(G:jn K mg A)(DB:pU K mg "bills_in_order" (top 17) tB)(DC:pU K mg "credits_in_order" (top 18) tC)(iZ:tB≠tC)(hnd:A.iS≠A.tooMuch)(KB:K.In base)(BM:BMain mg base):eF P w K mg base "answer_of" 10 ["book","number","deed"] (vR A tB tC):=by
 have OU:gO (mi P w mg) P w K mg base A.book "undo" 9 ["self","number"] (DN A K tB tC):=OT T G DB DC iZ hnd KB BM
 have WE:gO (mi P w mg) P w K mg base A.book "do" 8 ["self","number","deed"] (OP A K tB tC):=WA T G DB DC iZ KB BM
 have rZ:eF P w K mg base "owed_at" 5 ["work","who","day"] (zS A tB):=yj T G DB KB BM
 have GW:eF P w K mg base "free_at" 5 ["work","who","day"] (Dv A tC):=GJ T G DC KB BM
 have GX:eF P w K mg base "ages_at" 6 ["work","who","day","limits"] (Dz A tB):=GK T G DB KB BM
 refine T.Bd.fj (k:=9) q0 (fun f cK A' outer s H vs Q E hr h=>?_)
 ·obtain⟨pb,pd,pk,pw,TT,g,n,d,rfl,hB,hG,hn,jZ,jz,hd,cw,k⟩:=h
  have nd:=q0.nd
  refine⟨_,(ai (sv 3 nd (xt (pv 2) ah))
(ai (bM (aW cG (pv 3) aR (aZ _))
(ao (a6 (fc rZ hr (aa (bV (pv 0) rfl) (aa (xt (pv 2) ah) (aa (xt (pv 2) ah) av))))))
bb)
(ai (bM (aW cG (pv 3) aR (aZ _))
(ao (a6 (fc GW hr (aa (bV (pv 0) rfl) (aa (xt (pv 2) ah) (aa (xt (pv 2) ah) av))))))
bb)
(ai (bM (aW cG (pv 3) aR (aZ _))
(ao (a6 (fc GX hr (aa (bV (pv 0) rfl) (aa (xt (pv 2) ah) (aa (xt (pv 2) ah) (aa (xt (pv 2) ah) av)))))))
bb)
(ao (FX (i:=4) rfl rfl rfl nd rfl rfl rfl G.fJ G.De (fun xe pn E hx=>(ai (bM (aW cG (pv 3) aR (aZ _))
(ao (a6 (mU OU (hr.mono (by decide)) hx (pv 0) (aa (jg (nM (K:=K) rfl) (pv 2) ah (fun _ _=>rfl)) av))))
bb)
(ao (a6 (mU WE (hr.mono (by decide)) hx (pv 0) (aa (pv 1) (aa (pv 2) av))))))))))))),?_⟩
  obtain⟨db,hb⟩:=hB.obj
  have hW:=hB.wk
  have Kf: ∀t∈[tB,tC],∃ps,H t=some (.nJ ps):=fun t z=>by
   simp only[List.mem_cons,List.not_mem_nil,or_false] at z
   rcases z with rfl|rfl
   ·exact cS jZ
   ·exact cS jz
  have big: ∀x∈[tB,tC],x∈tB :: tC :: pb :: pk :: g.fp:=fun x z=>by
   simp only[List.mem_cons,List.not_mem_nil,or_false] at z
   rcases z with rfl|rfl <;> simp
  have SI: ∀a∈[tB],∀φ,H a≠some (.ext φ):=fun a ha φ e=>by
   obtain⟨ps,q⟩:=cS jZ
   rw[ak.mp ha,q] at e
   cases e
  have WG: ∀a∈[tC],∀φ,H a≠some (.ext φ):=fun a ha φ e=>by
   obtain⟨ps,q⟩:=cS jz
   rw[ak.mp ha,q] at e
   cases e
  obtain⟨a9,hk,hK⟩:=hB.kept
  have Mr: ∀D,H D=none->D∉pk :: g.fp:=fun D e z=>by
   rcases aw.mp z with z|z
   ·rw[z,hk] at e
    cases e
   ·exact hW.new e z
  have wf:=hG.wf (by lia:n<=60)
  by_cases ht:d.tells=true
  ·have G6:H pd=some (.tup (bu.vs d)):=by cases d <;> first|exact hd|cases ht
   obtain⟨r,er⟩:=ue (.inl ht)
   have TH:H pd=some (.tup (.str (bu.word d) :: r)):=by rw[← er]; exact G6
   obtain⟨w1,w2,w3,w4⟩:=LW ht
   rw[pG ht] at k
   refine⟨_,rfl,pd,_,_,.str (bu.word d),rfl,rfl,cm.of TH,JC _ _,?_⟩
   refine⟨_,rfl,rfl,false,je w1,bR ?_⟩
   refine⟨_,rfl,rfl,false,je w2,bR ?_⟩
   refine⟨_,rfl,rfl,false,je w3,bR ?_⟩
   refine⟨_,rfl,rfl,false,je w4,bR ⟨_,rfl,pb,db,_,rfl,hb,Sx _ _,_,rfl,_,rfl,pb,pd,pk,pw,TT,g,n,d,rfl,hB,hG,hn,jZ,jz,G6,ht,fun om v f1 H1 e1 F1 jf jU Mw hA=>?_,fun om=>?_⟩⟩
   ·rw[a7 om] at k
    refine k v pk pw f1 H1 (dC F1 fun x z=>?_) jf jU Mw (by rw[e1]; exact fun x hx=> .inl hx) (hA.keep (fun D xs o e=>⟨⟨o,by rw[e1]; exact Mr D o⟩,e⟩) fun _ _ e=>e)
    rcases aw.mp z with z|z
    ·simp[z]
    ·rcases aw.mp z with z|z
     ·simp[z]
     ·rcases aw.mp z with z|z
      ·simp[z]
      ·simp[z]
   ·rw[aQ om] at k
    intro C hC _ dx H1 s1 IU Cu
    exact⟨C,dx,_,rfl,rfl,hC,Cu,k _ pk pw g H1 s1.frame (bT jZ s1) (bT jz s1) (hB.same s1) (fun x hx=> .inl hx) rfl⟩
  cases d with
  |dJ _ _ _ _=>exact absurd rfl ht
  |qv _ _ _=>exact absurd rfl ht
  |note _ _ _=>exact absurd rfl ht
  |set _ _ _=>exact absurd rfl ht
  |fu _=>exact absurd rfl ht
  |ask o wh dy=>
   have hd:H pd=some (.tup (bu.vs (.ask o wh dy))):=hd
   cases o with
   |true=>
    refine⟨_,rfl,pd,_,_,.str "owed",rfl,rfl,cm.of hd,rfl,?_⟩
    refine⟨_,rfl,rfl,true,ye _,fv ⟨_,rfl,pb,_,db,_,_,rfl,hb,G.eK,G.gy,uj _ _,_,rfl,pd,_,_,.str wh,rfl,rfl,cm.of hd,rfl,_,rfl,pd,_,_,.int dy,rfl,rfl,cm.of hd,rfl,pw,TT.bk,g,n,wh,dy,rfl,hW,wf,(by lia),jZ,fun D ms H1 F1 jf nD hD hP=>?_⟩⟩
    have F2:Frame [tB,tC] H H1:=dC F1 (by simp)
    exact k _ pk pw g H1 (dC F2 big) jf (fO jz F1 (by simpa using iZ.symm) SI) (ly hB fun a o e z=>sW F2 Kf e z) (fun x hx=> .inl hx) ⟨D,ms,rfl,⟨nD,Mr D nD⟩,hD,hP⟩
   |false=>
    refine⟨_,rfl,pd,_,_,.str "free",rfl,rfl,cm.of hd,rfl,?_⟩
    refine⟨_,rfl,rfl,false,je (show("free":Str)≠"owed" by decide +kernel),bR ?_⟩
    refine⟨_,rfl,rfl,true,ye _,fv ⟨_,rfl,pb,_,db,_,_,rfl,hb,G.eK,G.gy,uj _ _,_,rfl,pd,_,_,.str wh,rfl,rfl,cm.of hd,rfl,_,rfl,pd,_,_,.int dy,rfl,rfl,cm.of hd,rfl,pw,TT.bk,g,n,wh,dy,rfl,hW,wf,(by lia),jz,fun D ms H1 F1 jU nD hD hP=>?_⟩⟩
    have F2:Frame [tB,tC] H H1:=dC F1 (by simp)
    exact k _ pk pw g H1 (dC F2 big) (fO jZ F1 (by simpa using iZ) WG) jU (ly hB fun a o e z=>sW F2 Kf e z) (fun x hx=> .inl hx) ⟨D,ms,rfl,⟨nD,Mr D nD⟩,hD,hP⟩
  |iC wh dy bO=>
   obtain⟨pl,hd,hV⟩:=hd
   refine⟨_,rfl,pd,_,_,.str "ages",rfl,rfl,cm.of hd,rfl,?_⟩
   refine⟨_,rfl,rfl,false,je (show("ages":Str)≠"owed" by decide +kernel),bR ?_⟩
   refine⟨_,rfl,rfl,false,je (show("ages":Str)≠"free" by decide +kernel),bR ?_⟩
   refine⟨_,rfl,rfl,true,ye _,fv ⟨_,rfl,pb,_,db,_,_,rfl,hb,G.eK,G.gy,uj _ _,_,rfl,pd,_,_,.str wh,rfl,rfl,cm.of hd,rfl,_,rfl,pd,_,_,.int dy,rfl,rfl,cm.of hd,rfl,_,rfl,pd,_,_,.ref pl,rfl,rfl,cm.of hd,rfl,pw,pl,TT.bk,g,n,wh,dy,bO,rfl,hW,wf,(by lia),jZ,hV,cw.1,fun D H1 F1 jf nD hD=>?_⟩⟩
   have F2:Frame [tB,tC] H H1:=dC F1 (by simp)
   exact k _ pk pw g H1 (dC F2 big) jf (fO jz F1 (by simpa using iZ.symm) SI) (ly hB fun a o e z=>sW F2 Kf e z) (fun x hx=> .inl hx) ⟨D,rfl,⟨nD,Mr D nD⟩,hD⟩
  |iQ m=>
   have hd:H pd=some (.tup (bu.vs (.iQ m))):=hd
   refine⟨_,rfl,pd,_,_,.str "undo",rfl,rfl,cm.of hd,rfl,?_⟩
   refine⟨_,rfl,rfl,false,je (show("undo":Str)≠"owed" by decide +kernel),bR ?_⟩
   refine⟨_,rfl,rfl,false,je (show("undo":Str)≠"free" by decide +kernel),bR ?_⟩
   refine⟨_,rfl,rfl,false,je (show("undo":Str)≠"ages" by decide +kernel),bR ?_⟩
   have WH:dM TT n (.iQ m)=if(TT.steps.filter (bW m)).length=TT.steps.length then(Ax.txt "no setting",TT) else
     match cE (TT.steps.filter (bW m)) Bk.new with
     |none=>(.txt "needed",TT)
     |some S=>(.txt "undone",⟨TT.steps.filter (bW m),S⟩):=rfl
   refine⟨_,rfl,rfl,true,ye _,fv ⟨_,rfl,pb,db,_,rfl,hb,LV _ _,_,rfl,pd,_,_,.int m,rfl,rfl,cm.of hd,rfl,pb,pk,pw,TT,g,n,m,rfl,hB,hG,hn,jZ,jz,fun hF S hS vP rh f' H1 F1 jf jU Mw nk nf=>?_,fun hF hS=>?_,fun hF=>?_⟩⟩
   ·have TB: ¬ (TT.steps.filter (bW m)).length=TT.steps.length:=fun z=>by
     rw[(pN _ _).mp z] at hF
     cases hF
    rw[WH,aQ TB,hS] at k
    refine k _ vP rh f' H1 (dC F1 (fun x z=>?_)) jf jU Mw (fun x hx=> .inr ?_) rfl
    ·simp only[List.mem_cons,List.not_mem_nil,or_false] at z
     rcases z with rfl|rfl|rfl <;> simp
    ·rcases aw.mp hx with hx|hx
     ·rw[hx]; exact nk
     ·exact nf x hx
   ·have TB: ¬ (TT.steps.filter (bW m)).length=TT.steps.length:=fun z=>by
     rw[(pN _ _).mp z] at hF
     cases hF
    rw[WH,aQ TB,hS] at k
    intro C dx H1 hC F1 jf jU IU Cu
    exact⟨C,dx,_,rfl,rfl,hC,Cu,k _ pk pw g H1 (dC F1 big) jf jU (ly hB fun a o e z=>sW F1 Kf e z) (fun x hx=> .inl hx) rfl⟩
   ·rw[WH,a7 ((pN _ _).mpr hF)] at k
    intro C dx H1 hC F1 jf jU IU Cu
    exact⟨C,dx,_,rfl,rfl,hC,Cu,k _ pk pw g H1 (dC F1 big) jf jU (ly hB fun a o e z=>sW F1 Kf e z) (fun x hx=> .inl hx) rfl⟩
theorem yo (d:bu): ∀(l:List bu) (T:ja) (n:Nat),gU (l ++ [d]) T n=((gU l T n).1 ++ [(dM (gU l T n).2 ((n + l.length:Nat):Int) d).1],(dM (gU l T n).2 ((n + l.length:Nat):Int) d).2)
 |[],T,n=>rfl
 |e :: l,T,n=>by
  show((dM T n e).1 :: (gU (l ++ [d]) (dM T n e).2 (n + 1)).1,(gU (l ++ [d]) (dM T n e).2 (n + 1)).2)=_
  rw[yo d l,show n + 1 + l.length=n + (e :: l).length by rw[bZ]; lia]
  rfl
theorem yp {ds:List bu}{i:Nat}(hi:i < ds.length):gU (ds.take (i + 1)) ja.new 0=((gU (ds.take i) ja.new 0).1 ++ [(dM (gU (ds.take i) ja.new 0).2 (i:Int) ds[i]).1],(dM (gU (ds.take i) ja.new 0).2 (i:Int) ds[i]).2):=by
 rw[ow hi,yo,bh,Nat.zero_add,Nat.min_eq_left (dG hi)]
theorem GY {A:dQ}{H:Hp}{pb pk pw pt:Addr}{T:ja}{f:eB}{ws:List V}{o:HO}(h:fC A H pb pk pw T f)(e:H pt=some (.lst ws))(n:pt∉f.fp):fC A (upd H pt o) pb pk pw T f:=by
 obtain⟨db,hb⟩:=h.obj
 obtain⟨a9,k1,k2⟩:=h.kept
 have kt:cF H (upd H pt o):=fI e
 have ki: ∀{a C dx:Addr} {gs:List (Str×V)},H a=some (.ins C dx gs)->upd H pt o a=some (.ins C dx gs):=fun{a C dx gs} z=>by rw[aA (mw z e (by intro q; cases q))]; exact z
 have kl: ∀p∈f.fp,∀xs,H p=some (.lst xs)->upd H pt o p=some (.lst xs):=fun p hp xs z=>by rw[aA (fun(q:p=pt)=>n (q▸hp))]; exact z
 obtain⟨dw,hw⟩:=h.wk.obj
 obtain⟨ms,m1,m2⟩:=h.wk.hm
 have hW:=h.wk
 exact⟨⟨db,ki hb⟩,⟨a9,by rw[aA (mw k1 e (by intro q; cases q))]; exact k1,k2.mono kt⟩,
  ⟨⟨dw,ki hw⟩,kl _ (by simp[eB.fp]) _ hW.hb,kl _ (by simp[eB.fp]) _ hW.hc,kl _ (by simp[eB.fp]) _ hW.hl,kl _ (by simp[eB.fp]) _ hW.hf,⟨ms,kl _ (by simp[eB.fp]) _ m1,m2.mono kt⟩,hW.rb.keep fun _ _ _ z=>ki z,hW.rc.keep fun _ _ _ z=>ki z,hW.nd⟩⟩
theorem EZ {A:dQ}{H:Hp}{pb pk pw tB tC a:Addr}{T:ja}{f:eB}(h:fC A H pb pk pw T f)(jZ:lY H tB)(jz:mj H tC)(z:a∈tB :: tC :: pb :: pk :: f.fp):(∃ps,H a=some (.nJ ps))∨(∃C dx fs,H a=some (.ins C dx fs))∨(∃a9,H a=some (.dK a9))∨(∃xs,H a=some (.lst xs))/\a∈f.fp:=by
 rcases aw.mp z with rfl|z
 ·exact .inl (cS jZ)
 rcases aw.mp z with rfl|z
 ·exact .inl (cS jz)
 rcases aw.mp z with rfl|z
 ·obtain⟨db,hb⟩:=h.obj
  exact .inr (.inl ⟨_,_,_,hb⟩)
 rcases aw.mp z with rfl|z
 ·obtain⟨a9,k1,_⟩:=h.kept
  exact .inr (.inr (.inl ⟨_,k1⟩))
 ·exact .inr (.inr (.inr ⟨h.wk.lists a z,z⟩))
theorem JI {A:dQ}{H H':Hp}{pb pk pw tB tC:Addr}{T:ja}{f:eB}(h:fC A H pb pk pw T f)(jZ:lY H tB)(jz:mj H tC)(F:Frame (tB :: tC :: pb :: pk :: f.fp) H H'):cF H H':=fun a xs e=>F _ _ (fun z=>by
 rcases EZ h jZ jz z with⟨_,q⟩|⟨_,_,_,q⟩|⟨_,q⟩|⟨⟨_,q⟩,_⟩ <;> (rw[e] at q; cases q)) e
theorem DP {A:dQ}{H H':Hp}{pb pk pw tB tC a:Addr}{T:ja}{f:eB}{xs:List V}(h:fC A H pb pk pw T f)(jZ:lY H tB)(jz:mj H tC)(F:Frame (tB :: tC :: pb :: pk :: f.fp) H H')(e:H a=some (.lst xs))(n:a∉pk :: f.fp):H' a=some (.lst xs):=F _ _ (fun z=>by
 rcases EZ h jZ jz z with⟨_,q⟩|⟨_,_,_,q⟩|⟨_,q⟩|⟨_,q⟩
 ·rw[e] at q; cases q
 ·rw[e] at q; cases q
 ·rw[e] at q; cases q
 ·exact n (bc _ q)) e
inductive Ae (A:dQ)(tB tC:Addr)(vs:List V)(H:Hp)(Q:VK)(E':XK):Prop
 |mk (pb pk pw ps:Addr)(f:eB)(ds:List bu)(ms:List V)(h1:vs=[.ref pb,.ref ps])(h2:fC A H pb pk pw ja.new f)(h3:H ps=some (.lst ms))(h4:ps∉f.fp)(h5:g6 H ds ms)(h6:ds.length<=60)(h7:(∀d∈ds,d.ok))(h8:lY H tB)(h9:mj H tC)(JZ: ∀pt ws vP rh f' H',Frame (tB :: tC :: pb :: pk :: f.fp) H H'->lY H' tB->mj H' tC->H pt=none->H' pt=some (.lst ws)->Paired (pJ H' (fun D=>D≠pt/\(D∈pk :: f.fp∨H D=none))) (gU ds ja.new 0).1 ws->fC A H' pb vP rh (gU ds ja.new 0).2 f'->Q (.ref pt) H'):Ae A tB tC vs H Q E'
theorem oN:aS ["book","deeds","told","number","deed"] ["book","deeds"] (ax (top 34)):={}
theorem g6.get {H:Hp}{i:Nat}: ∀{ds:List bu} {ms:List V},g6 H ds ms-> ∀{d:bu},ds[i]? =some d-> ∃v,ms[i]? =some v/\Rp H d.dt v:=fun{ds ms} h {d} e=>gQ.get h (by rw[aB,e]; rfl)
theorem Af (T:Txt K mg){A:dQ}{tB tC:Addr}(G:jn K mg A)(DB:pU K mg "bills_in_order" (top 17) tB)(DC:pU K mg "credits_in_order" (top 18) tC)(iZ:tB≠tC)(hnd:A.iS≠A.tooMuch)(KB:K.In base)(BM:BMain mg base):eF P w K mg base "answers_in" 11 ["book","deeds"] (Ae A tB tC):=by
 have Ck:eF P w K mg base "answer_of" 10 ["book","number","deed"] (vR A tB tC):=Cj T G DB DC iZ hnd KB BM
 refine T.yW.fj (k:=10) oN (fun f cK A' outer s H vs Q E hr h=>?_)
 ·obtain⟨pb,pk,pw,ps,g,ds,ms,rfl,hB,l6,GD,MG,hl,cw,jZ,jz,k⟩:=h
  have nd:=oN.nd
  refine⟨_,(ai (sv 2 nd (bQ av))
(ai (eQ bH rfl (qo rfl T.i6 (aa (pv 1) av)) (iM rfl (bX (gn 3 nd) (bX (gn 4 nd) gu)))
(ao (bJ (qA (pv 2) (fc Ck hr (aa (pv 0) (aa (pv 3) (aa (pv 4) av))))))))
(ao (a6 (pv 2))))),?_⟩
  refine⟨bp _,fun pt nt=>?_⟩
  have s1:=aD.new (o:= .lst []) nt
  have hlen:=g6.length MG
  obtain⟨a9,hk,_⟩:=hB.kept
  have YQ:ps∉pk :: g.fp:=fun z=>by
   rcases aw.mp z with z|z
   ·rw[z,hk] at l6
    cases l6
   ·exact GD z
  have ntk:pt∉pk :: g.fp:=fun z=>by
   rcases aw.mp z with z|z
   ·rw[z,hk] at nt
    cases nt
   ·exact hB.wk.new nt z
  refine⟨_,rfl,ps,rfl,⟨_,bE.of (s1 _ _ l6)⟩,?_⟩
  refine mH (K:=K) (a:=ps) (xs:=ms) (fun i σ H2=> ∃(x3 x4:Option V) (vP rh:Addr) (f':eB) (ws:List V),σ=[some (.ref pb),some (.ref ps),some (.ref pt),x3,x4]/\Frame (tB :: tC :: pb :: pk :: g.fp) H H2/\H2 pt=some (.lst ws)/\fC A H2 pb vP rh (gU (ds.take i) ja.new 0).2 f'/\Good (gU (ds.take i) ja.new 0).2 i/\(∀x∈vP :: f'.fp,(x∈pk :: g.fp∨H x=none)/\x≠pt)/\lY H2 tB/\mj H2 tC/\Paired (pJ H2 (fun D=>D≠pt/\D∉vP :: f'.fp/\(D∈pk :: g.fp∨H D=none))) (gU (ds.take i) ja.new 0).1 ws)
   ⟨none,none,pk,pw,g,[],rfl,s1.frame,ag,hB.same s1,Good.new,fun x hx=>⟨.inl hx,fun z=>ntk (z▸hx)⟩,bT jZ s1,bT jz s1,.nil⟩ (fun i σ H2 _ ⟨_,_,_,_,_,_,_,f2,_⟩=>bE.of (DP hB jZ jz f2 l6 YQ)) ?_ ?_
  ·rintro i x p σ H2 hx hp ⟨x3,x4,vP,rh,f',ws,rfl,F2,yd,Ke,LP,T3,ke,mm,LM⟩
   have hi:i < ds.length:=by have:=(au.mp hx).1; lia
   have oo:=af hi
   obtain⟨v',hv,VA⟩:=g6.get MG oo
   rw[hx] at hv
   obtain rfl:x=v':=aF hv
   obtain⟨pd,rfl,hd⟩:=EY VA
   have hd2:=hd.mono (JI hB jZ jz F2)
   have GZ:=cw _ (bF hi)
   have T4:=yp hi
   have oF:Good (dM (gU (ds.take i) ja.new 0).2 (i:Int) ds[i]).2 (i + 1):=LP.step ds[i]
   rw[T4]
   generalize ds[i]=d at hd2 GZ oF
   have A4:(gU (ds.take i) ja.new 0).1.length<=100:=by rw[mM,bh]; lia
   generalize gU (ds.take i) ja.new 0=R at Ke LP LM oF A4
   have s3:=aD.new (o:= .tup [.int i,.ref pd]) hp
   refine⟨p,_,rfl,cm.of ag,rfl,_,_,rfl,_,_,rfl,rfl,?_⟩
   have F3:=F2.dh s3
   have JJ:=s3 _ _ yd
   have Hj:=Ke.same s3
   have oq:lY _ tB:=bT ke s3
   have ou:mj _ tC:=bT mm s3
   have Hf:=hd2.mono s3.tk
   have WI:Paired (pJ (upd H2 p (.tup [.int i,.ref pd])) (fun D=>D≠pt/\D∉vP :: f'.fp/\(D∈pk :: g.fp∨H D=none))) R.1 ws:=Paired.gR LM fun _ _ z=>z.keep (fun D xs o e=>⟨o,s3 _ _ e⟩) s3.tk
   generalize upd H2 p (.tup [.int i,.ref pd])=H3 at F3 JJ Hj oq ou Hf WI
   have G7:=aL WI
   refine⟨_,rfl,.inl ⟨rfl,_,bE.of JJ⟩,_,rfl,_,rfl,_,rfl,pb,pd,vP,rh,R.2,f',i,d,rfl,Hj,LP,(by lia),oq,ou,Hf,GZ,fun v YR pw2 f2 H4 F4 tP tQ hB4 jL hA4=>?_⟩
   have WJ:pt∉vP :: f'.fp:=fun z=>(T3 pt z).2 rfl
   have vJ:=DP Hj oq ou F4 JJ WJ
   have kt4:=JI Hj oq ou F4
   refine⟨pt,ws,v,rfl,rfl,vJ,bg (by lia),?_⟩
   have frees: ∀x,H3 x=none->x∈pk :: g.fp∨H x=none:=fun x h1=>by
    by_cases q:x∈pk :: g.fp
    ·exact .inl q
    ·right
     cases e:H x with
     |none=>rfl
     |some o=>
      exfalso
      by_cases q2:x∈tB :: tC :: pb :: pk :: g.fp
      ·rcases aw.mp q2 with q2|q2
       ·obtain⟨_,z⟩:=cS oq
        rw[← q2,h1] at z
        cases z
       rcases aw.mp q2 with q2|q2
       ·obtain⟨_,z⟩:=cS ou
        rw[← q2,h1] at z
        cases z
       rcases aw.mp q2 with q2|q2
       ·obtain⟨_,z⟩:=Hj.obj
        rw[← q2,h1] at z
        cases z
       exact q q2
      ·have z:=F3 _ _ q2 e
       rw[h1] at z
       cases z
   have SJ: ∀x∈YR :: f2.fp,(x∈pk :: g.fp∨H x=none)/\x≠pt:=fun x hx=>by
    rcases jL x hx with h1|h1
    ·exact T3 x h1
    ·exact⟨frees x h1,fun z=>by rw[z,JJ] at h1; cases h1⟩
   have WK:pt∉f2.fp:=fun z=>(SJ pt (bc _ z)).2 rfl
   have SK: ∀a∈[pt],∀φ,H4 a≠some (.ext φ):=fun a ha φ e=>by
    rw[ak.mp ha,vJ] at e
    cases e
   have nB:tB∉[pt]:=fun z=>by
    obtain⟨_,q⟩:=cS tP
    rw[ak.mp z,vJ] at q
    cases q
   have nC:tC∉[pt]:=fun z=>by
    obtain⟨_,q⟩:=cS tQ
    rw[ak.mp z,vJ] at q
    cases q
   have F34:Frame (tB :: tC :: pb :: pk :: g.fp) H (upd H4 pt (.lst (ws ++ [v]))):=(F3.trans F4 fun x hx=>by
    rcases aw.mp hx with hx|hx
    ·exact .inl (by simp[hx])
    rcases aw.mp hx with hx|hx
    ·exact .inl (by simp[hx])
    rcases aw.mp hx with hx|hx
    ·exact .inl (by simp[hx])
    rcases(T3 x hx).1 with h1|h1
    ·exact .inl (by simp[List.mem_cons.mp h1])
    ·exact .inr h1).trans (Frame.upd (fp:=[pt]) (by simp)) (fun x hx=> .inr (by rw[List.mem_singleton.mp hx]; exact nt))
   refine⟨_,_,YR,pw2,f2,ws ++ [v],rfl,F34,ag,GY hB4 vJ WK,oF,SJ,fO tP (Frame.upd (fp:=[pt]) (by simp)) nB SK,fO tQ (Frame.upd (fp:=[pt]) (by simp)) nC SK,?_⟩
   have YS:=fI (o:= .lst (ws ++ [v])) vJ
   refine cA (Paired.gR WI fun _ _ z=>z.keep (fun D xs o e=>?_) (kt4.trans YS)) (hA4.keep (fun D xs o e=>?_) YS)
   ·have e4:=DP Hj oq ou F4 e o.2.1
    refine⟨⟨o.1,fun q=>?_,o.2.2⟩,by rw[aA o.1]; exact e4⟩
    rcases jL D q with h1|h1
    ·exact o.2.1 h1
    ·rw[e] at h1
     cases h1
   ·have nD:D≠pt:=fun z=>by
     have:=o.1
     rw[z,JJ] at this
     cases this
    exact⟨⟨nD,o.2,frees D o.1⟩,by rw[aA nD]; exact e⟩
  ·rintro σ H2 ⟨x3,x4,vP,rh,f',ws,rfl,F2,yd,Ke,LP,T3,ke,mm,LM⟩
   rw[← hlen,a8] at LM Ke
   refine⟨_,rfl,k pt ws vP rh f' H2 F2 ke mm nt yd (Paired.gR LM fun _ _ z=>z.keep (fun D xs o e=>⟨⟨o.1,o.2.2⟩,e⟩) fun _ _ e=>e) Ke⟩
inductive sj (A:dQ)(tB tC:Addr)(vs:List V)(H:Hp)(Q:VK)(E':XK):Prop
 |mk (ps:Addr)(ds:List bu)(ms:List V)(h1:vs=[.ref ps])(h2:H ps=some (.lst ms))(h3:g6 H ds ms)(h4:ds.length<=60)(h5:(∀d∈ds,d.ok))(h6:lY H tB)(h7:mj H tC)(h8: ∀pt ws H',Frame [tB,tC] H H'->lY H' tB->mj H' tC->H pt=none->H' pt=some (.lst ws)->Paired (pJ H' (fun D=>D≠pt/\H D=none)) (gU ds ja.new 0).1 ws->Q (.ref pt) H'):sj A tB tC vs H Q E'
theorem vS:aS ["deeds","book"] ["deeds"] (ax (top 33)):={}
theorem G0 (T:Txt K mg){A:dQ}{tB tC:Addr}(G:jn K mg A)(DB:pU K mg "bills_in_order" (top 17) tB)(DC:pU K mg "credits_in_order" (top 18) tC)(iZ:tB≠tC)(hnd:A.iS≠A.tooMuch)(KB:K.In base)(BM:BMain mg base):eF P w K mg base "answers" 12 ["deeds"] (sj A tB tC):=by
 have Ag:eF P w K mg base "answers_in" 11 ["book","deeds"] (Ae A tB tC):=Af T G DB DC iZ hnd KB BM
 have OV:tI P w K mg base "Book" A.book 3 ["self"] (zV A):=Oy G
 refine T.Ga.fj (k:=11) vS (fun f cK A' outer s H vs Q E hr h=>?_)
 ·obtain⟨ps,ds,ms,rfl,l6,MG,hl,cw,jZ,jz,k⟩:=h
  have nd:=vS.nd
  refine⟨_,(ai (sv 1 nd (IT OV (hr.mono (by decide)) rfl))
(ao (a6 (fc Ag hr (aa (pv 1) (aa (pv 0) av)))))),?_⟩
  intro xb YT WL WM ne
  have s1:=lp (C:=A.book) (fs:=[]) WL WM ne
  refine⟨xb,YT,rfl,ag,fun pk pw g H1 F1 hx hk hW nk npw nf YQ=>⟨rfl,?_⟩⟩
  have S1:aD H H1:=fun b o e=>F1 b o (by simpa using aJ e WL) (s1 b o e)
  have fr: ∀b∈g.fp,H b=none:=fun b hb=>s1.free (nf b hb)
  have VZ:H pk=none:=s1.free nk
  refine⟨_,rfl,_,rfl,xb,pk,pw,ps,g,ds,ms,rfl,⟨⟨YT,hx⟩,⟨[],hk,.nil⟩,hW⟩,S1 _ _ l6,(fun z=>by
   have:=fr _ z
   rw[l6] at this
   cases this),MG.mono S1.tk,hl,cw,bT jZ S1,bT jz S1,fun pt ws _ _ _ H2 F2 ke mm nt yd hA _=>?_⟩
  refine k pt ws H2 ((S1.frame (fp:=[tB,tC])).trans F2 fun x hx=>?_) ke mm (S1.free nt) yd (Paired.gR hA fun _ _ z=>z.keep (fun D xs o e=>⟨⟨o.1,o.2.elim (fun q=>(aw.mp q).elim (fun q=>by rw[q]; exact VZ) (fr D)) S1.free⟩,e⟩) fun _ _ e=>e)
  rcases aw.mp hx with hx|hx
  ·exact .inl (by simp[hx])
  rcases aw.mp hx with hx|hx
  ·exact .inl (by simp[hx])
  rcases aw.mp hx with hx|hx
  ·exact .inr (by rw[hx]; exact WL)
  rcases aw.mp hx with hx|hx
  ·exact .inr (by rw[hx]; exact VZ)
  ·exact .inr (fr x hx)
inductive JK (K:PySem.W.Frag)(vs:List V)(H:Hp)(Q:VK)(E':XK):Prop
 |mk (a:Addr)(xs:List V)(m b:Int)(h1:vs=[.ref a,.int m,.int b])(h2:bE K H a xs)(h3:xs.length<=63)(h4:Q (.int m) H):JK K vs H Q E'
inductive Ah (vs:List V)(H:Hp)(Q:VK)(E':XK):Prop
 |mk (d v:_)(h1:vs=[v])(h2:Rp H d v)(h3:Q (.bl (ZE d)) H):Ah vs H Q E'
theorem Ai:aS ["_law_script","_law_most","_law_bound"] ["_law_script","_law_most","_law_bound"] (ax (top 43)):={}
theorem Cm (T:Txt K mg):eF P w K mg base "_law_room" 1 ["_law_script","_law_most","_law_bound"] (JK K):=by
 refine T.Bf.fj (k:=0) Ai (fun f cK A outer s H vs Q E hr h=>?_)
 ·obtain⟨a,xs,m,b,rfl,hS,hz,k⟩:=h
  refine⟨_,(ai (bM (aW iG (mO T.dR (pv 0)) ah (aZ _))
   (ao (a6 (pv 2)))
   bb)
   (ao (a6 (pv 1)))),?_⟩
  refine⟨_,rfl,a,xs,rfl,.inl hS,_,_,rfl,rfl,_,rfl,?_⟩
  refine cy (fun c=>?_) (fun c=>?_)
  ·have c':(63:Int) < (xs.length:Int):=aN c
   lia
  ·exact⟨_,rfl,k⟩
theorem xk:aS ["_law_found"] ["_law_found"] (ax (top 45)):={}
theorem Aj (T:Txt K mg):eF P w K mg base "_law_whole" 1 ["_law_found"] Ah:=by
 refine T.yX.fj (k:=0) xk (fun f cK A outer s H vs Q E hr h=>?_)
 ·obtain⟨d,v,rfl,r,k⟩:=h
  refine⟨_,(ao (a6 (rD (cI eG (by rfl) T.de dZ (aa (pv 0) (aa (gr (v:= .ty "int") (by rfl) T.vg boot_int rfl) av))) (oX (M0 (cI eG (by rfl) T.de dZ (aa (pv 0) (aa (gr (v:= .ty "bool") (by rfl) T.N0 boot_bool rfl) av)))))))),?_⟩
  refine⟨_,rfl,v,_,_,XG d,rfl,r.ty,QQ d,_,rfl,?_⟩
  cases d with
  |int i=>exact fv ⟨_,rfl,v,_,_,false,rfl,r.ty,Ml (.int i),_,rfl,k⟩
  |bl i=>exact fv ⟨_,rfl,v,_,_,true,rfl,r.ty,Ml (.bl i),_,rfl,k⟩
  |d8=>exact bR k
  |str x=>exact bR k
  |tup ds=>exact bR k
  |lst ds=>exact bR k
inductive E1 (vs:List V)(H:Hp)(Q:VK)(E':XK):Prop
 |mk (d v1 v2:_)(h1:vs=[v1,v2])(h2:Rp H d v1)(h3:Rp H d v2)(h4:d.size<=100000)(h5:d.plain=true)(h6: ∀H',aD H H'->Q (.bl true) H'):E1 vs H Q E'
theorem oO:aS ["_law_found","_law_due","_law_todo","_law_pair","_law_k"] ["_law_found","_law_due"] (ax (top 46)):={}
theorem Ak (T:Txt K mg):eF P w K mg base "_law_alike" 2 ["_law_found","_law_due"] E1:=by
 have Al:eF P w K mg base "_law_whole" 1 ["_law_found"] Ah:=Aj T
 refine T.yY.fj (k:=1) oO (fun f cK A outer s H vs Q E hr h=>?_)
 ·obtain⟨d,v1,v2,rfl,r1,r2,hsz,hV,k⟩:=h
  have hu:=jE hr
  have nd:=oO.nd
  refine⟨_,(ai (sv 2 nd (bQ (aa (dg (aa (pv 0) (aa (pv 1) av))) av)))
(ai (Ht bH (aW (Ia hu) (pv 2) (bQ av) (aZ _))
(ai (sv 3 nd (Nh PySem.F.plainAttrs_list PySem.F.slot_list_pop PySem.F.type_list_pop Nk (pv 2)))
(ao (bM (fT (cI CZ (by rfl) T.de dZ (aa (xt (pv 3) ah) (aa (dg (aa (gr (v:= .ty "list") (by rfl) T.rT boot_list rfl) (aa (gr (v:= .ty "tuple") (by rfl) T.tY boot_tuple rfl) av))) av))))
(ai (bM (aW qa (cI eG (by rfl) T.de dZ (aa (xt (pv 3) ah) (aa (gr (v:= .ty "list") (by rfl) T.rT boot_list rfl) av))) (cI eG (by rfl) T.de dZ (aa (xt (pv 3) ah) (aa (gr (v:= .ty "list") (by rfl) T.rT boot_list rfl) av))) (aZ _))
(ao (a6 kP))
bb)
(ai (bM (aW qa (cI eG (by rfl) T.de dZ (aa (xt (pv 3) ah) (aa (gr (v:= .ty "tuple") (by rfl) T.tY boot_tuple rfl) av))) (cI eG (by rfl) T.de dZ (aa (xt (pv 3) ah) (aa (gr (v:= .ty "tuple") (by rfl) T.tY boot_tuple rfl) av))) (aZ _))
(ao (a6 kP))
bb)
(ai (bM (aW qa (mO T.dR (xt (pv 3) ah)) (mO T.dR (xt (pv 3) ah)) (aZ _))
(ao (a6 kP))
bb)
(ao (eQ bH rfl (iN rfl T.lT (aa (mO T.dR (xt (pv 3) ah)) av)) (gn 4 nd)
(ao (bJ (qA (pv 2) (dg (aa (jg Mj (xt (pv 3) ah) (pv 4) (fun _ _=>rfl)) (aa (jg Mj (xt (pv 3) ah) (pv 4) (fun _ _=>rfl)) av)))))))))))
(ao (bM (fT (cI eG (by rfl) T.de dZ (aa (xt (pv 3) ah) (aa (gr (v:= .ty "str") (by rfl) T.EA boot_str rfl) av))))
(ao (bM (PW.pt (pw_or (jB (fT (cI eG (by rfl) T.de dZ (aa (xt (pv 3) ah) (aa (gr (v:= .ty "str") (by rfl) T.EA boot_str rfl) av))))) (pw_or1 (aW qa (xt (pv 3) ah) (xt (pv 3) ah) (aZ _)))))
(ao (a6 kP))
bb))
(ao (bM (PW.pt (pw_or (jB (fT (fc Al hr (aa (xt (pv 3) ah) av)))) (pw_or1 (aW qa (xt (pv 3) ah) (xt (pv 3) ah) (aZ _)))))
(ao (a6 kP))
bb))))))))
(ao (a6 kP)))),?_⟩
  refine⟨_,rfl,_,rfl,(by show 2<=sizeLine; decide),fun t0 nt0=>⟨(by show 1<=sizeLine; decide),fun l nl=>?_⟩⟩
  have sA:aD H (upd H t0 (.tup [v1,v2])):=aD.new nt0
  have YU:H l=none:=sA.free nl
  refine⟨fun m σ H2=> ∃td ds x3 x4,σ=[some v1,some v2,some (.ref l),x3,x4]/\aD H H2/\H2 l=some (.lst td)/\Paired (lK H H2) ds td/\Dt.eP ds=m/\m<=100000/\ ∀d∈ds,d.plain=true,
   ⟨d.size,[.ref t0],[d],none,none,rfl,sA.trans (aD.new nl),ag,.cons ⟨t0,v1,v2,rfl,Ic nl _ _ ag,r1,r2⟩ .nil,by simp[Dt.eP],hsz,by simpa using hV⟩,?_⟩
  rintro m σ H2 ⟨td,ds,x3,x4,rfl,s1,hl,hp,hm,VQ,SM⟩
  refine⟨_,rfl,bp _,fun p3 n3=>?_⟩
  have s2:aD H2 (upd H2 p3 (.lst [])):=aD.new n3
  refine⟨l,p3,td,rfl,rfl,bE.of (s2 _ _ hl),bE.of ag,_,rfl,?_⟩
  generalize Lz:upd H2 p3 (.lst [])=H3 at s2 ⊢
  have Jk:=s2 _ _ hl
  cases htd:td with
  |nil=>exact bR (k _ (s1.trans s2))
  |cons z zs=>
  refine fv ⟨fun σ' H'=> ∃m',m' < m/\ ∃td ds x3 x4,σ'=[some v1,some v2,some (.ref l),x3,x4]/\aD H H'/\H' l=some (.lst td)/\Paired (lK H H') ds td/\Dt.eP ds=m'/\m'<=100000/\ ∀d∈ds,d.plain=true,fun _ _ h=>h,?_⟩
  have iZ:td.length - 1 < td.length:=by rw[htd]; simp
  obtain⟨y,hy⟩: ∃y,td[td.length - 1]? =some y:=⟨_,af iZ⟩
  obtain⟨LX,c,WN,⟨t,u1,u2,ey,ht,q1,q2⟩,RE⟩:=sy hp hy
  subst ey
  have Ro:c.plain=true:=SM c (by rw[WN]; simp)
  have Tq: ∀d∈LX,d.plain=true:=fun d hd=>SM d (by rw[WN]; simp[hd])
  have hmm:Dt.eP LX + c.size=m:=by
   have:=hm
   rw[WN,Dt.il] at this
   simpa[Dt.eP] using this
  refine⟨_,rfl,.inl ⟨rfl,_,bE.of Jk⟩,l,td,.ref t,rfl,rfl,Jk,hy,?_⟩
  have YV:=s2 _ _ ht
  have s4:aD H (upd H3 l (.lst td.dropLast)):=(s1.trans s2).cX YU
  have WO:upd H3 l (.lst td.dropLast) t=some (.tup [u1,u2]):=dA Jk _ _ YV
  have T2:Paired (lK H (upd H3 l (.lst td.dropLast))) LX td.dropLast:=Paired.gR RE fun d v h=>h.mono fun b xs e=>dA Jk _ _ (s2 _ _ e)
  have YW:upd H3 l (.lst td.dropLast) l=some (.lst td.dropLast):=ag
  generalize upd H3 l (.lst td.dropLast)=H4 at s4 WO T2 YW ⊢
  clear Lz Jk YV s2 n3 hp hl ht
  refine⟨_,rfl,t,_,_,u2,rfl,rfl,cm.of WO,rfl,(by show 2<=sizeLine; decide),fun p5 n5=>?_⟩
  have s5:aD H4 (upd H4 p5 (.tup [.ty "list",.ty "tuple"])):=aD.new n5
  have q25:=Rp.mono (s4.trans s5) c q2
  have q15:=Rp.mono (s4.trans s5) c q1
  refine⟨u2,p5,["list","tuple"],_,isLT c,rfl,ag,q25.ty,Nz c,_,rfl,?_⟩
  have Cw:=s5 _ _ WO
  have WQ:=s5 _ _ YW
  have PR:Paired (lK H (upd H4 p5 (.tup [.ty "list",.ty "tuple"]))) LX td.dropLast:=Paired.gR T2 fun d v h=>h.mono fun b xs e=>s5 _ _ e
  have s6:=s4.trans s5
  generalize upd H4 p5 (.tup [.ty "list",.ty "tuple"])=H5 at s5 q25 q15 Cw WQ PR s6 ⊢
  clear s5 n5
  refine cy (fun SN=>?_) (fun SN=>?_)
  ·
   obtain⟨a1,WR,e1,S1,R1⟩:=Eh q1 SN
   obtain⟨a2,OW,e2,S2,R2⟩:=Eh q2 SN
   refine⟨_,rfl,t,_,_,u1,rfl,rfl,cm.of Cw,rfl,u1,_,_,U1 c,rfl,q15.ty,Eg c,_,rfl,t,_,_,u2,rfl,rfl,cm.of Cw,rfl,u2,_,_,U1 c,rfl,q25.ty,Eg c,rfl,_,rfl,A1 rfl ?_⟩
   refine⟨_,rfl,t,_,_,u1,rfl,rfl,cm.of Cw,rfl,u1,_,_,U2 c,rfl,q15.ty,Ib c,_,rfl,t,_,_,u2,rfl,rfl,cm.of Cw,rfl,u2,_,_,U2 c,rfl,q25.ty,Ib c,rfl,_,rfl,A1 rfl ?_⟩
   have hlen:WR.length=OW.length:=by rw[← R1.length,← R2.length]
   refine⟨_,rfl,t,_,_,u1,rfl,rfl,cm.of Cw,rfl,a1,WR,by rw[e1],S1 K H5 s6,_,rfl,t,_,_,u2,rfl,rfl,cm.of Cw,rfl,a2,OW,by rw[e2],S2 K H5 s6,rfl,_,rfl,A1 (by rw[hlen]) ?_⟩
   have Mh:OW.length=(kids c).length:=R2.length.symm
   have TC:=FJ SN
   have EH:=Dt.qp (kids c)
   refine⟨_,rfl,t,_,_,u2,rfl,rfl,cm.of Cw,rfl,a2,OW,by rw[e2],S2 K H5 s6,(OW.length:Int),rfl,by lia,by lia,?_⟩
   rw[dI]
   refine jr (lo:=0) (n:=OW.length) (fun i σ H6=> ∃MH x4,σ=[some v1,some v2,some (.ref l),some (.ref t),x4]/\aD H H6/\H6 l=some (.lst MH)/\H6 t=some (.tup [u1,u2])/\Paired (lK H H6) (LX ++ (kids c).take i) MH)
    ⟨td.dropLast,x4,rfl,s6,WQ,Cw,by simpa using PR⟩ ?_ ?_
   ·rintro i σ H6 hi ⟨MH,x4',rfl,s7,gj,T5,MA⟩
    have U4:i < (kids c).length:=by lia
    have g0:(kids c)[i]? =some (kids c)[i]:=af U4
    obtain⟨w1,g1,z1⟩:=R1.get g0
    obtain⟨w2,g2,z2⟩:=R2.get g0
    have PH:MH.length < sizeLine:=by
     have h1:=MA.length
     have h2:=Dt.qp (LX ++ (kids c).take i)
     have h3:=wm (kids c) i
     rw[Dt.il] at h2
     exact iU (by lia)
    refine⟨_,rfl,.inl ⟨rfl,_,bE.of gj⟩,?_⟩
    refine⟨_,rfl,t,_,_,u1,rfl,rfl,cm.of T5,rfl,_,rfl,a1,WR,_,w1,e1,rfl,S1 K H6 s7,by rw[jq]; exact cz g1,_,rfl,t,_,_,u2,rfl,rfl,cm.of T5,rfl,_,rfl,a2,OW,_,w2,e2,rfl,S2 K H6 s7,by rw[jq]; exact cz g2,(by show 2<=sizeLine; decide),fun p7 n7=>?_⟩
    have s8:aD H6 (upd H6 p7 (.tup [w1,w2])):=aD.new n7
    have PM:=s8 _ _ gj
    refine⟨l,MH,.ref p7,rfl,rfl,PM,PH,?_⟩
    refine⟨MH ++ [.ref p7],_,rfl,(s7.trans s8).cX YU,ag,dA PM _ _ (s8 _ _ T5),?_⟩
    rw[tw g0,← gq]
    exact cA (Paired.gR MA fun d v h=>h.mono fun b xs e=>dA PM _ _ (s8 _ _ e)) ⟨p7,w1,w2,rfl,dA PM _ _ ag,z1,z2⟩
   ·rintro σ H6 ⟨MH,x4',rfl,s7,gj,T5,MA⟩
    rw[Mh,a8] at MA
    refine⟨Dt.eP (LX ++ kids c),?_,MH,_,_,_,rfl,s7,gj,MA,rfl,?_,?_⟩
    ·rw[Dt.il]; lia
    ·rw[Dt.il]; lia
    ·intro d hd
     rcases bA.mp hd with hd|hd
     ·exact Tq d hd
     ·exact C0 Ro d hd
  ·
   have fin:(fun σ' H'=> ∃m',m' < m/\ ∃td ds x3 x4,σ'=[some v1,some v2,some (.ref l),x3,x4]/\aD H H'/\H' l=some (.lst td)/\Paired (lK H H') ds td/\Dt.eP ds=m'/\m'<=100000/\ ∀d∈ds,d.plain=true) [some v1,some v2,some (.ref l),some (.ref t),x4] H5:=by
    have:=c.size_pos
    exact⟨Dt.eP LX,by lia,_,LX,_,_,rfl,s6,WQ,PR,rfl,by lia,Tq⟩
   refine⟨_,rfl,t,_,_,u2,rfl,rfl,cm.of Cw,rfl,u2,_,_,Te c,rfl,q25.ty,xO c,_,rfl,?_⟩
   refine cy (fun hS=>?_) (fun hS=>?_)
   ·have ec: ∃x,c= .str x:=by cases c <;> first|exact⟨_,rfl⟩|cases hS
    obtain⟨x,rfl⟩:=ec
    obtain rfl:=gF.mp q1
    obtain rfl:=gF.mp q2
    refine⟨_,rfl,t,_,_,_,rfl,rfl,cm.of Cw,rfl,_,_,_,true,rfl,mz.str x,xO (.str x),_,rfl,bR ?_⟩
    refine⟨_,rfl,t,_,_,_,rfl,rfl,cm.of Cw,rfl,_,rfl,t,_,_,_,rfl,rfl,cm.of Cw,rfl,rfl,_,rfl,A1 rfl ?_⟩
    exact fin
   ·have ec: ∃x,c= .int x:=by cases c <;> first|exact⟨_,rfl⟩|exact absurd rfl hS|exact absurd rfl SN|cases Ro
    obtain⟨x,rfl⟩:=ec
    obtain rfl:=dz.mp q1
    obtain rfl:=dz.mp q2
    refine⟨_,rfl,t,_,_,_,rfl,rfl,cm.of Cw,rfl,.int x,_,rfl,dz.mpr rfl,_,rfl,bR ?_⟩
    refine⟨_,rfl,t,_,_,_,rfl,rfl,cm.of Cw,rfl,_,rfl,t,_,_,_,rfl,rfl,cm.of Cw,rfl,rfl,_,rfl,A1 rfl ?_⟩
    exact fin
inductive vT (K:PySem.W.Frag)(vs:List V)(H:Hp)(Q:VK)(E':XK):Prop
 |mk (po:Addr)(os:List Str)(aI:Str)(cell i:Int)(h1:vs=[.ref po,.str aI,.int cell,.int i])(h2:bE K H po (os.map V.str))(h3:os.length<=1000)(h4: ∀(n:Int) (H':Hp),aD H H'->Q (.int n) H'):vT K vs H Q E'
theorem nA:aS ["_law_owners","_law_who","_law_cell","_law_k","_law_rest","_law_number","_law_spot","_law_one"] ["_law_owners","_law_who","_law_cell","_law_k"] (ax (top 49)):={}
theorem xm (T:Txt K mg):eF P w K mg base "_law_chosen" 1 ["_law_owners","_law_who","_law_cell","_law_k"] (vT K):=by
 refine T.wF.fj (k:=0) nA (fun f cK A outer s H vs Q E hr h=>?_)
 ·obtain⟨po,os,aI,cell,i,rfl,hS,ho,k⟩:=h
  have nd:=nA.nd
  refine⟨_,(ai (sv 4 nd (aU jl (pv 2) ah))
(ai (sv 5 nd (aU cg (aU cW (aU jl (pv 4) ah) (pv 3)) (aU cW (mO T.dR (pv 0)) ah)))
(ai (eQ bH rfl (iN rfl T.lT (aa (mO T.dR (pv 0)) av)) (gn 6 nd)
(ai (sv 7 nd (aU cg (aU cW (pv 5) (pv 6)) (mO T.dR (pv 0))))
(ao (bM (PW.pt (pw_and (aW cG (xl (pv 0) (pv 7)) (pv 1) (aZ _)) (pw_and1 (aW iG (aU cg (pv 2) ah) ah (aZ _)))))
(ao (a6 (pv 7)))
bb))))
(ai (bM (aW cG (aU cg (pv 2) ah) ah (aZ _))
(ao (sv 5 nd (xl (bQ (aa (oy kC ah) (aa (aU jc ah ah) (aa (aU eR (oy kC ah) (aU cg (pv 4) (aU jc ah ah))) av)))) (aU cg (pv 4) ah))))
bb)
(ao (a6 (pv 5))))))),?_⟩
  refine⟨_,rfl,_,_,rfl,rfl,⟨by decide,by decide⟩,?_⟩
  refine⟨_,rfl,_,_,rfl,rfl,⟨by decide,by decide⟩,_,rfl,_,_,rfl,rfl,_,rfl,po,_,rfl,.inl hS,_,_,rfl,rfl,_,_,rfl,rfl,(by show(0:Int) < ((os.map V.str).length:Int) + 1; lia),?_⟩
  generalize WS:(cell / 16 / 2 + i) % (((os.map V.str).length:Int) + 1)=num
  show _
  refine⟨_,rfl,po,_,rfl,.inl hS,((os.map V.str).length:Int),rfl,by lia,by rw[ae]; lia,?_⟩
  rw[dI]
  refine jr (lo:=0) (n:=(os.map V.str).length) (fun j σ H2=> ∃x6 x7,σ=[some (.ref po),some (.str aI),some (.int cell),some (.int i),some (.int (cell / 16)),some (.int num),x6,x7]/\H2=H)
   ⟨none,none,by rw[← WS]; rfl,rfl⟩ ?_ ?_
  ·rintro j σ H2 hj ⟨x6,x7,rfl,rfl⟩
   have hm:0 < ((os.map V.str).length:Int):=by lia
   obtain⟨y,_,hy⟩:=kq (g:=V.str) (xs:=os) (m:=((os.map V.str).length:Int)) (x:=num + (0 + (j:Int))) (by rw[ae]) hm
   refine⟨_,rfl,_,rfl,_,_,rfl,rfl,_,rfl,po,_,rfl,.inl hS,_,_,rfl,rfl,hm,?_⟩
   refine⟨_,rfl,_,rfl,po,_,_,.str y,rfl,rfl,hS,hy,_,rfl,rfl,_,rfl,cy (fun c=>?_) (fun c=>bR ⟨_,_,rfl,rfl⟩)⟩
   refine⟨_,rfl,_,_,rfl,rfl,(by show(0:Int) < 5; decide),_,_,rfl,rfl,_,rfl,cy (fun c=>?_) (fun c=>⟨_,_,rfl,rfl⟩)⟩
   exact⟨_,rfl,k _ _ (aD.refl _)⟩
  ·rintro σ H2 ⟨x6,x7,rfl,rfl⟩
   refine⟨_,rfl,_,_,rfl,rfl,(by show(0:Int) < 47; decide),rfl,_,rfl,cy (fun c=>?_) (fun c=>⟨_,rfl,k _ _ (aD.refl _)⟩)⟩
   refine⟨_,rfl,_,_,rfl,rfl,⟨by decide,by decide,by decide⟩,_,rfl,_,rfl,_,_,rfl,rfl,⟨by decide,by decide,by decide⟩,_,_,rfl,rfl,(by show(0:Int) < _; decide +kernel),_,_,rfl,rfl,(by show 3<=sizeLine; decide),fun p4 n4=>?_⟩
   obtain⟨y,_,hy⟩:=Yf (-1) (10 ^ (9:Int).toNat) (-2 - cell / 16 % 10 ^ (60:Int).toNat) (cell / 16)
   refine⟨_,rfl,_,_,rfl,rfl,(by show(0:Int) < 3; decide),p4,_,_,.int y,rfl,rfl,bE.of ag,hy,?_⟩
   exact⟨_,rfl,k _ _ (aD.new n4)⟩
inductive Am (vs:List V)(H:Hp)(Q:VK)(E':XK):Prop
 |mk (c:Int)(h1:vs=[.int c])(h2: ∀r:Int,(r=0∨r=1)->Q (.int r) H):Am vs H Q E'
theorem xn:aS ["_law_cell"] ["_law_cell"] (ax (top 50)):={}
theorem An (T:Txt K mg):eF P w K mg base "_law_hasty" 1 ["_law_cell"] Am:=by
 refine T.yZ.fj (k:=0) xn (fun f cK A outer s H vs Q E hr h=>?_)
 ·obtain⟨c,rfl,k⟩:=h
  refine⟨_,(ao (a6 (fQ js (by rfl) T.vg boot_int (aa (Qc (fb cG (aU cg (pv 0) ah) ah (aZ _)) (oX (rD (fb cG (aU cg (pv 0) ah) ah (aZ _)) (oX (fb cG (aU cg (aU jl (pv 0) ah) ah) ah (aZ _)))))) av)))),?_⟩
  have fin: ∀b:Bool,Q (.int (if b then 1 else 0)) H:=fun b=>k _ (by cases b <;> simp)
  refine⟨_,rfl,_,_,rfl,rfl,(by show(0:Int) < 29; decide),rfl,_,rfl,cy (fun c=> .inr ⟨_,rfl,fin _⟩) (fun c=>?_)⟩
  refine⟨_,rfl,_,_,rfl,rfl,(by show(0:Int) < 41; decide),rfl,_,rfl,cy (fun c=>?_) (fun c=> .inr ⟨_,rfl,fin _⟩)⟩
  exact⟨_,rfl,_,_,rfl,rfl,⟨by decide,by decide⟩,_,_,rfl,rfl,(by show(0:Int) < 2; decide),rfl,.inr ⟨_,rfl,fin _⟩⟩
inductive Ao (K:PySem.W.Frag)(vs:List V)(H:Hp)(Q:VK)(E':XK):Prop
 |mk (a:Addr)(cs:List Int)(i:Nat)(h1:vs=[.ref a,.int i])(h2:bE K H a (cs.map V.int))(h3:i < cs.length)(h4: ∀n:Int,Q (.int n) H):Ao K vs H Q E'
theorem nE:aS ["_law_cells","_law_k","_law_days"] ["_law_cells","_law_k"] (ax (top 51)):={}
theorem xp (T:Txt K mg):eF P w K mg base "_law_due_in" 2 ["_law_cells","_law_k"] (Ao K):=by
 have Ap:eF P w K mg base "_law_hasty" 1 ["_law_cell"] Am:=An T
 refine T.wG.fj (k:=1) nE (fun f cK A outer s H vs Q E hr h=>?_)
 ·obtain⟨a,cs,i,rfl,hS,hi,k⟩:=h
  have nd:=nE.nd
  refine⟨_,(ai (sv 2 nd (aU cg (aU cW (xl (pv 0) (aU cg (aU cW (pv 1) ah) (mO T.dR (pv 0)))) (pv 1)) ah))
(ij (bM (aW cG (aU cg (xl (pv 0) (pv 1)) ah) ah (aZ _))
(ao (sv 2 nd (aU cg (xl (pv 0) (aU cg (aU cW (pv 1) ah) (mO T.dR (pv 0)))) (aU jc ah ah))))
bb)
(ao (a6 (aU eR (pv 2) (aU lH (aU cW (pv 2) ah) (fc Ap hr (aa (xl (pv 0) (pv 1)) av)))))))),?_⟩
  have hm:0 < ((cs.map V.int).length:Int):=by rw[ae]; lia
  obtain⟨y,_,hy⟩:=kq (g:=V.int) (xs:=cs) (m:=((cs.map V.int).length:Int)) (x:=(i:Int) + 1) (by rw[ae]) hm
  refine⟨_,rfl,_,rfl,_,_,rfl,rfl,_,rfl,a,_,rfl,.inl hS,_,_,rfl,rfl,hm,a,_,_,.int y,rfl,rfl,hS,hy,_,rfl,_,_,rfl,rfl,_,_,rfl,rfl,(by show(0:Int) < 9; decide),?_⟩
  refine⟨fun σ' H'=>H'=H/\ ∃d:Int,σ'=[some (.ref a),some (.int i),some (.int d)],?_,?_⟩
  ·refine⟨_,rfl,_,rfl,a,_,_,_,rfl,rfl,hS,pC hi,_,_,rfl,rfl,(by show(0:Int) < 13; decide),rfl,_,rfl,cy (fun c=>?_) (fun c=>⟨rfl,_,rfl⟩)⟩
   refine⟨_,rfl,_,rfl,_,_,rfl,rfl,_,rfl,a,_,rfl,.inl hS,_,_,rfl,rfl,hm,a,_,_,.int y,rfl,rfl,hS,hy,_,_,rfl,rfl,⟨by decide,by decide,by decide⟩,_,_,rfl,rfl,(by show(0:Int) < _; decide +kernel),?_⟩
   exact⟨rfl,_,rfl⟩
  rintro σ' H' ⟨rfl,d,rfl⟩
  refine⟨_,rfl,_,rfl,_,_,rfl,rfl,_,rfl,_,rfl,a,_,_,_,rfl,rfl,hS,pC hi,_,rfl,fun r WT=>?_⟩
  exact⟨_,_,rfl,rfl,.inr (by rcases WT with rfl|rfl <;> exact⟨by decide,by decide⟩),_,_,rfl,rfl,k _⟩
def tS (H:Hp)(a pm lz:Addr)(i:Nat)(σ:L2.St)(H2:Hp):Prop:=
 ∃(pb ph:Addr) (bs hs:List Str) (sp:List Int) (ds:List bu) (ms:List V) (x5 x6 x7 x8 x9 GO GQ JL LY Kg JM JN:Option V),σ=[some (.ref a),some (.ref pm),some (.ref pb),some (.ref ph),some (.ref lz),x5,x6,x7,x8,x9,GO,GQ,JL,LY,Kg,JM,JN]/\aD H H2/\
  H2 pm=some (.lst ms)/\g6 H2 ds ms/\ds.length=i/\(∀d∈ds,d.ok)/\H2 pb=some (.lst (bs.map V.str))/\bs.length<=i/\H2 ph=some (.lst (hs.map V.str))/\hs.length<=i/\H2 lz=some (.lst (sp.map V.int))/\sp.length<=i/\pb≠pm/\pb≠lz/\ph≠pm/\ph≠lz
theorem tS.mk' {H:Hp}{a pm lz pb ph:Addr}{i:Nat}{H4 H6:Hp}{bs hs:List Str}{sp:List Int}{ds:List bu}{d:bu}{ms:List V}{p8:Addr}{x5 x6 x7 x8 x9 GO GQ JL LY Kg JM JN:Option V}
  (hR:g6 H4 ds ms) (hl:ds.length=i) (cw: ∀d∈ds,d.ok) (kp:cF H4 H6) (s6:aD H H6) (hM:H6 pm=some (.lst (ms ++ [.ref p8]))) (hd:Rp H6 d.dt (.ref p8)) (hdo:d.ok)
  (hb:H6 pb=some (.lst (bs.map V.str))) (LA:bs.length<=i + 1) (hh:H6 ph=some (.lst (hs.map V.str))) (YX:hs.length<=i + 1) (KQ:H6 lz=some (.lst (sp.map V.int))) (PH:sp.length<=i + 1)
  (n1:pb≠pm) (n2:pb≠lz) (n3:ph≠pm) (n4:ph≠lz):
  tS H a pm lz (i + 1) [some (.ref a),some (.ref pm),some (.ref pb),some (.ref ph),some (.ref lz),x5,x6,x7,x8,x9,GO,GQ,JL,LY,Kg,JM,JN] H6:=by
 refine⟨pb,ph,bs,hs,sp,ds ++ [d],ms ++ [.ref p8],x5,x6,x7,x8,x9,GO,GQ,JL,LY,Kg,JM,JN,rfl,s6,hM,(hR.mono kp).snoc hd,by rw[aH,hl]; rfl,fun d' G6=>?_,hb,LA,hh,YX,KQ,PH,n1,n2,n3,n4⟩
 rcases bA.mp G6 with h|h
 ·exact cw d' h
 ·rw[ak.mp h]; exact hdo
def bO (r:Int)(j:Nat):List Int:=(List.range j).map fun(t:Nat)=>1 + r % 9 + (0 + (t:Int)) * (2 + r % 30)
theorem Cn (r:Int)(j:Nat):(bO r j).length=j:=by unfold bO; rw[List.length_map,List.length_range]
theorem LZ {w:Str}{d:Int}(r:Int)(j:Nat)(hj:j<=11):(bu.iC w d (bO r j)).ok:=by
 have h9:=j8 r (show(9:Int)≠0 by decide)
 have YY:=j8 r (show(30:Int)≠0 by decide)
 refine⟨by rw[Cn]; exact hj,?_,fun x hx=>?_⟩
 ·unfold bO
  rw[rq]
  refine List.pairwise_lt_range.imp fun{a b} G9=>?_
  have:(0 + (a:Int)) * (2 + r % 30) < (0 + (b:Int)) * (2 + r % 30):=Int.mul_lt_mul_of_pos_right (by lia) (by lia)
  lia
 ·unfold bO at hx
  obtain⟨t,_,rfl⟩:=bC.mp hx
  have:0<=(0 + (t:Int)) * (2 + r % 30):=Int.mul_nonneg (by lia) (by lia)
  lia
theorem SO (x y:Int)(b:Bool):True/\rH [V.int x,V.int y] (if b=true then 1 else 0)=some (V.int (if b=true then y else x)):=⟨trivial,by cases b <;> rfl⟩
theorem MI {H H4:Hp}{pm p8 lz pb ph:Addr}{ms xs b' h' s':List V}(nm:H pm=none)(s4:aD H H4)(qX:H4 pm=some (.lst ms))(n8:H4 p8=none)(n1:pb≠pm)(n3:ph≠pm)(E2:lz≠pm)
  (Ad:H4 pb=some (.lst b')) (Hl:H4 ph=some (.lst h')) (nF:H4 lz=some (.lst s')):
  cF H4 (upd (upd H4 p8 (.tup xs)) pm (.lst (ms ++ [.ref p8])))/\aD H (upd (upd H4 p8 (.tup xs)) pm (.lst (ms ++ [.ref p8])))/\upd (upd H4 p8 (.tup xs)) pm (.lst (ms ++ [.ref p8])) pm=some (.lst (ms ++ [.ref p8]))/\
  upd (upd H4 p8 (.tup xs)) pm (.lst (ms ++ [.ref p8])) p8=some (.tup xs)/\upd (upd H4 p8 (.tup xs)) pm (.lst (ms ++ [.ref p8])) pb=some (.lst b')/\upd (upd H4 p8 (.tup xs)) pm (.lst (ms ++ [.ref p8])) ph=some (.lst h')/\
  upd (upd H4 p8 (.tup xs)) pm (.lst (ms ++ [.ref p8])) lz=some (.lst s'):=by
 have s8:=aD.new (o:= .tup xs) n8
 refine⟨s8.tk.trans (fI (s8 _ _ qX)),(s4.trans s8).cX nm,ag,dA (s8 _ _ qX) _ _ ag,?_,?_,?_⟩
 ·rw[aA n1]; exact s8 _ _ Ad
 ·rw[aA n3]; exact s8 _ _ Hl
 ·rw[aA E2]; exact s8 _ _ nF
theorem SQ {H H4:Hp}{pm lz pb ph:Addr}{ms b' h':List V}{sp:List Int}{x:Int}(T6:H lz=none)(s4:aD H H4)(qX:H4 pm=some (.lst ms))(n2:pb≠lz)(n4:ph≠lz)(E2:lz≠pm)
  (Ad:H4 pb=some (.lst b')) (Hl:H4 ph=some (.lst h')) (nF:H4 lz=some (.lst (sp.map V.int))):
  cF H4 (upd H4 lz (.lst (sp.map V.int ++ [.int x])))/\aD H (upd H4 lz (.lst (sp.map V.int ++ [.int x])))/\upd H4 lz (.lst (sp.map V.int ++ [.int x])) pm=some (.lst ms)/\upd H4 lz (.lst (sp.map V.int ++ [.int x])) pb=some (.lst b')/\
  upd H4 lz (.lst (sp.map V.int ++ [.int x])) ph=some (.lst h')/\upd H4 lz (.lst (sp.map V.int ++ [.int x])) lz=some (.lst ((sp ++ [x]).map V.int)):=by
 refine⟨fI nF,s4.cX T6,?_,?_,?_,?_⟩
 ·rw[aA E2.symm]; exact qX
 ·rw[aA n2]; exact Ad
 ·rw[aA n4]; exact Hl
 ·rw[ag,aM]; rfl
theorem gP {H:Hp}{d:Dt}{v:V}{ds:List Dt}{vs:List V}(h:Rp H d v)(r:gQ H ds vs):gQ H (d :: ds) (v :: vs):=bL.mpr ⟨_,_,rfl,h,r⟩
theorem rI {H:Hp}(i:Int):Rp H (.int i) (.int i):=dz.mpr rfl
theorem rS {H:Hp}(x:Str):Rp H (.str x) (.str x):=gF.mpr rfl
theorem r0 {H:Hp}:gQ H [] []:=c9.mpr rfl
theorem E3 {H9:Hp}{p9 pb:Addr}{bs:List Str}{aI:Str}{b:Bool}{Q:VK}(h9:H9 p9=some (.lst [V.str aI]))(hb:H9 pb=some (.lst (bs.map V.str)))(hl:bs.length<=100)
  (q: ∀(JO:Addr) (SR:Hp) (n:Nat),n<=1->aD H9 SR->H9 JO=none->SR JO=some (.lst ((bs ++ List.replicate n aI).map V.str))->Q (.ref JO) SR):
  Qx (.ref p9) (.int (if b=true then 1 else 0)) H9 (fun v H=>Qw (.ref pb) v H Q):=by
 have hk:(if b=true then(1:Int) else 0).toNat<=1:=by split <;> decide
 refine⟨p9,_,_,rfl,rfl,h9,(by split <;> decide),(by split <;> decide),(by show 1 * _<=sizeLine; split <;> decide),fun PU WU=>?_⟩
 generalize (if b=true then(1:Int) else 0).toNat=n at hk ⊢
 rw[K0]
 have zJ:=aD.new (o:= .lst ((List.replicate n aI).map V.str)) WU
 refine⟨pb,PU,_,_,rfl,rfl,zJ _ _ hb,ag,?_,fun JO Hm=>?_⟩
 ·refine dG (bg ?_)
  rw[ae,ae,eN]
  lia
 ·rw[← aM]
  exact q JO _ n hk (zJ.trans (aD.new Hm)) (zJ.free Hm) ag
inductive E4 (K:PySem.W.Frag)(vs:List V)(H:Hp)(Q:VK)(E':XK):Prop
 |mk (a:Addr)(cs:List Int)(h1:vs=[.ref a])(h2:bE K H a (cs.map V.int))(h3:cs.length<=100)(h4: ∀(pd:Addr) (ds:List bu) (ms:List V) (H':Hp),aD H H'->H' pd=some (.lst ms)->g6 H' ds ms->ds.length=cs.length->(∀d∈ds,d.ok)->Q (.ref pd) H'):E4 K vs H Q E'
theorem oP:aS ["_law_cells","_law_made","_law_bills","_law_held","_law_spots","_law_k","_law_rest","_law_pick","_law_who","_law_day","_law_amount","_law_bill","_law_due","_law_part","_law_credit","_law_menu","_law_limits"] ["_law_cells"] (ax (top 52)):={}
theorem Aq (T:Txt K mg):eF P w K mg base "_law_deeds" 3 ["_law_cells"] (E4 K):=by
 have xq:eF P w K mg base "_law_penned" 2 ["_law_cells","_law_k"] (vm K):=wN T
 have oQ:eF P w K mg base "_law_chosen" 1 ["_law_owners","_law_who","_law_cell","_law_k"] (vT K):=xm T
 have xr:eF P w K mg base "_law_due_in" 2 ["_law_cells","_law_k"] (Ao K):=xp T
 refine T.y0.fj (k:=2) oP (fun f cK A outer s H vs Q E hr h=>?_)
 ·obtain⟨a,cs,rfl,hS,hc,k⟩:=h
  have nd:=oP.nd
  refine⟨_,(ai (sv 1 nd (bQ av))
(ai (sv 2 nd (bQ av))
(ai (sv 3 nd (bQ av))
(ai (sv 4 nd (bQ av))
(ai (eQ bH rfl (iN rfl T.lT (aa (mO T.dR (pv 0)) av)) (gn 5 nd)
(ai (sv 6 nd (aU cg (aU jl (xl (pv 0) (pv 5)) ah) (aU jc ah ah)))
(ai (sv 7 nd (aU cg (aU cW (xl (pv 0) (pv 5)) (aU lH ah (pv 5))) ah))
(ai (lG (fc xq hr (aa (pv 0) (aa (pv 5) av))) (iM rfl (bX (gn 8 nd) (bX (gn 9 nd) (bX (gn 10 nd) gu)))))
(ai (sv 11 nd (fc oQ hr (aa (pv 2) (aa (pv 8) (aa (xl (pv 0) (pv 5)) (aa (pv 5) av))))))
(ao (bM (aW jD (pv 7) ah (aZ _))
(ai (sv 12 nd (aU cW (pv 9) (fc xr hr (aa (pv 0) (aa (pv 5) av)))))
(ai (bJ (qA (pv 1) (dg (aa aR (aa (pv 8) (aa (pv 9) (aa (pv 12) (aa (pv 10) av))))))))
(ao (sv 2 nd (aU o4 (pv 2) (aU yG (bQ (aa (pv 8) av)) (fQ js (by rfl) T.vg boot_int (aa (rD (fb iG (pv 10) ah (aZ _)) (oX (fb Hx (pv 12) (pv 9) (aZ _)))) av))))))))
(ao (bM (aW jD (pv 7) ah (aZ _))
(ai (bJ (qA (pv 1) (dg (aa aR (aa (pv 8) (aa (pv 9) (aa (pv 10) av)))))))
(ao (sv 3 nd (aU o4 (pv 3) (aU yG (bQ (aa (pv 8) av)) (fQ js (by rfl) T.vg boot_int (aa (fb iG (pv 10) ah (aZ _)) av)))))))
(ao (bM (aW cG (pv 7) ah (aZ _))
(ai (bJ (qA (pv 1) (dg (aa aR (aa (pv 11) (aa (pv 9) (aa (pv 10) av)))))))
(ao (bM (PW.pt (pw_and (aW sm ah (pv 11) (aZ _)) (pw_and (aW jD (pv 11) (mO T.dR (pv 2)) (aZ _)) (pw_and1 (aW iG (pv 10) ah (aZ _))))))
(ao (sv 3 nd (aU o4 (pv 3) (bQ (aa (xl (pv 2) (pv 11)) av)))))
bb)))
(ao (bM (aW jD (pv 7) ah (aZ _))
(ai (bJ (qA (pv 4) (pv 5)))
(ij (sv 13 nd (xl (bQ (aa (pv 10) (aa (aU cW ah (aU cg (pv 6) ah)) av))) (fQ js (by rfl) T.vg boot_int (aa (rD (fb iG (pv 10) ah (aZ _)) (oX (fb iG (aU cg (pv 6) ah) ah (aZ _)))) av))))
(ai (sv 14 nd (fc oQ hr (aa (pv 3) (aa (pv 8) (aa (xl (pv 0) (pv 5)) (aa (aU cW (pv 5) ah) av))))))
(ij (bM (aW cG (aU cg (xl (pv 0) (pv 5)) ah) ah (aZ _))
(ao (sv 14 nd (aU cg (aU jl (pv 6) ah) (aU cW (mO T.dR (pv 3)) ah))))
bb)
(ao (bJ (qA (pv 1) (dg (aa aR (aa (pv 14) (aa (pv 11) (aa (pv 13) av))))))))))))
(ao (bM (aW jD (pv 7) ah (aZ _))
(ai (bJ (qA (pv 4) (pv 5)))
(ao (bJ (qA (pv 1) (dg (aa aR (aa (pv 8) av)))))))
(ao (bM (aW cG (pv 7) ah (aZ _))
(ai (sv 15 nd (aU o4 (pv 4) (bQ (aa (pv 5) (aa (oy kC ah) (aa (aU jc ah ah) (aa ah (aa (aU eR (pv 5) ah) (aa (aU cg (aU jl (pv 6) ah) (aU cW (pv 5) ah)) (aa (aU eR (oy kC ah) (pv 6)) av))))))))))
(ao (bJ (qA (pv 1) (dg (aa aR (aa (xl (pv 15) (aU cg (pv 6) (mO T.dR (pv 15)))) av)))))))
(ao (bM (aW cG (pv 7) ah (aZ _))
(ao (bJ (qA (pv 1) (dg (aa (xl (bQ (aa aR (aa aR av))) (aU cg (pv 6) ah)) (aa (pv 8) (aa (pv 9) av)))))))
(ai (kY (i:=16) nd rfl (Or.inl rfl) (tn:=["_law_j"]) (cn:=["_law_rest"]) (cj:=[6]) rfl (ig (yI:=[(".0",.local),("_law_j",.local),("_law_rest",.cell)])) (iN rfl T.lT (aa (aU cg (pv 6) ah) av)) (fun _ _ _ _=>(eu (i:=0) (show(["_law_j","_law_rest"]:List Str).Nodup by decide +kernel) rfl (Or.inl rfl))) (fun _ _ _ _=>mF) (fun _ _ _ _=>(aU cW (aU cW ah (aU cg (pv 1) ah)) (aU lH (pv 0) (aU cW ah (aU cg (pv 1) ah))))))
(ao (bJ (qA (pv 1) (dg (aa aR (aa (pv 8) (aa (pv 9) (aa (fQ wj (by rfl) T.tY boot_tuple (aa (pv 16) av)) av))))))))))))))))))))))))))))
(ao (a6 (pv 1)))))))),?_⟩
  refine⟨bp _,fun pm nm=>⟨bp _,fun pb nb=>⟨bp _,fun ph nh=>⟨bp _,fun lz PV=>?_⟩⟩⟩⟩
  have s1:aD H (upd H pm (.lst [])):=aD.new nm
  have t2:=aD.new (o:= .lst []) nb
  have t3:=aD.new (o:= .lst []) nh
  have t4:=aD.new (o:= .lst []) PV
  have s4:=((s1.trans t2).trans t3).trans t4
  have T6:H lz=none:=((s1.trans t2).trans t3).free PV
  have g1:=((t2.trans t3).trans t4) _ _ (ag (H:=H) (a:=pm) (o:= .lst []))
  have g2:=(t3.trans t4) _ _ (ag (H:=upd H pm (.lst [])) (a:=pb) (o:= .lst []))
  have g3:=t4 _ _ (ag (H:=upd (upd H pm (.lst [])) pb (.lst [])) (a:=ph) (o:= .lst []))
  have g4:=ag (H:=upd (upd (upd H pm (.lst [])) pb (.lst [])) ph (.lst [])) (a:=lz) (o:= .lst [])
  have YZ:pb≠pm:=(aJ ag nb).symm
  have Y0:ph≠pm:=(aJ (t2 _ _ ag) nh).symm
  have E2:lz≠pm:=(aJ ((t2.trans t3) _ _ ag) PV).symm
  have Y1:pb≠lz:=aJ (t3 _ _ ag) PV
  have Y2:ph≠lz:=aJ ag PV
  generalize upd (upd (upd (upd H pm (.lst [])) pb (.lst [])) ph (.lst [])) lz (.lst [])=H4 at s4 g1 g2 g3 g4 ⊢
  refine⟨_,rfl,a,_,rfl,.inl (s4.seq hS),((cs.map V.int).length:Int),rfl,by lia,by rw[ae]; lia,?_⟩
  rw[dI]
  refine jr (lo:=0) (n:=(cs.map V.int).length) (tS H a pm lz)
   ⟨pb,ph,[],[],[],[],[],none,none,none,none,none,none,none,none,none,none,none,none,rfl,s4,g1,r0,rfl,(fun _ h=>by cases h),g2,aC _,g3,aC _,g4,aC _,YZ,Y1,Y0,Y2⟩ ?_ ?_
  ·clear t2 t3 t4 s1 g1 g2 g3 g4 s4 H4 YZ Y1 Y0 Y2 nb nh PV pb ph
   rintro i σ H2 hi ⟨pb,ph,bs,hs,sp,ds,ms,x5,x6,x7,x8,x9,GO,GQ,JL,LY,Kg,JM,JN,rfl,s2,hM,hR,G1,cw,hb,LA,hh,YX,yy,abF,n1,n2,n3,n4⟩
   have WV:i < cs.length:=by rwa [ae] at hi
   have PX:rH (cs.map V.int) (0 + (i:Int))=some (.int (cs.getD i 0)):=by rw[jq]; exact pC WV
   have NW:=s2.seq hS
   generalize l5:cs.getD i 0=cell at PX
   refine⟨_,rfl,_,rfl,a,_,_,.int cell,rfl,rfl,NW,PX,_,_,rfl,rfl,⟨by decide,by decide⟩,_,_,rfl,rfl,⟨by decide,by decide,by decide⟩,_,_,rfl,rfl,(by show(0:Int) < _; decide +kernel),?_⟩
   refine⟨_,rfl,_,rfl,a,_,_,.int cell,rfl,rfl,NW,PX,_,rfl,_,_,rfl,rfl,.inl ⟨by decide,by decide⟩,_,_,rfl,rfl,_,_,rfl,rfl,(by show(0:Int) < 16; decide),?_⟩
   refine⟨_,rfl,_,rfl,a,cs,i,(by rw[jq]; rfl),NW,WV,fun p aI day dE H3 s3 hp oj=>?_⟩
   refine⟨p,_,rfl,cm.of hp,rfl,_,_,rfl,_,_,rfl,_,_,rfl,rfl,?_⟩
   refine⟨_,rfl,_,rfl,_,rfl,_,rfl,a,_,_,.int cell,rfl,rfl,s3.seq NW,PX,_,rfl,pb,bs,aI,cell,_,rfl,bE.of (s3 _ _ hb),by lia,fun bl H4 Y3=>?_⟩
   have JH:=s3.trans Y3
   have s4:=s2.trans JH
   have qX:=JH _ _ hM
   have L0:=hR.mono JH.tk
   have Ad:=JH _ _ hb
   have Hl:=JH _ _ hh
   have nF:=JH _ _ yy
   have hS4:=s4.seq hS
   have WW:=hS
   have Hd:ms.length<=100:=by have:=hR.length; lia
   clear JH s3 Y3 hp hM hR hb hh yy s2 NW H2 H3
   refine⟨_,rfl,_,_,rfl,rfl,_,rfl,cy (fun c1=>?_) (fun c1=>?_)⟩
   ·
    refine⟨_,rfl,_,rfl,_,rfl,a,cs,i,(by rw[jq]; rfl),hS4,WV,fun n=>⟨_,_,rfl,rfl,?_⟩⟩
    refine⟨_,rfl,.inl ⟨rfl,_,bE.of qX⟩,_,rfl,_,rfl,_,rfl,_,rfl,(by show 5<=sizeLine; decide),fun p8 n8=>?_⟩
    refine⟨pm,ms,_,rfl,rfl,aD.new n8 _ _ qX,bg (by lia),?_⟩
    obtain⟨k5,s5,vH,h8,Az,Cy,lZ⟩:=MI (xs:=[V.str "bill",.str aI,.int day,.int (day + n),.int dE]) nm s4 qX n8 n1 n3 E2 Ad Hl nF
    refine⟨_,rfl,_,rfl,(by show 1<=sizeLine; decide),fun p9 n9=>?_⟩
    have t9:=aD.new (o:= .lst [V.str aI]) n9
    refine⟨_,rfl,_,_,rfl,rfl,_,rfl,cy (fun c=>⟨_,rfl,_,rfl,_,_,rfl,rfl,.inr ⟨_,rfl,?_⟩⟩) (fun c=> .inr ⟨_,rfl,?_⟩)⟩
    all_goals
     refine E3 ag (t9 _ _ Az) (by lia) fun JO SR n hn WX Hm WY=>?_
     have sR:=t9.trans WX
     exact tS.mk' (d:= .dJ aI day _ dE) (pb:=JO) L0 G1 cw (k5.trans sR.tk) (s5.trans sR) (sR _ _ vH) (fA (sR _ _ h8) (gP (rS _) (gP (rS _) (gP (rI _) (gP (rI _) (gP (rI _) r0)))))) oj WY (by rw[aH,eN]; lia) (sR _ _ Cy) (by lia) (sR _ _ lZ) (by lia) (aJ (t9 _ _ vH) Hm).symm (aJ (t9 _ _ lZ) Hm).symm n3 n4
   refine⟨_,rfl,_,_,rfl,rfl,_,rfl,cy (fun c2=>?_) (fun c2=>?_)⟩
   ·
    refine⟨_,rfl,.inl ⟨rfl,_,bE.of qX⟩,_,rfl,_,rfl,_,rfl,(by show 4<=sizeLine; decide),fun p8 n8=>?_⟩
    refine⟨pm,ms,_,rfl,rfl,aD.new n8 _ _ qX,bg (by lia),?_⟩
    obtain⟨k5,s5,vH,h8,Az,Cy,lZ⟩:=MI (xs:=[V.str "pay",.str aI,.int day,.int dE]) nm s4 qX n8 n1 n3 E2 Ad Hl nF
    refine⟨_,rfl,_,rfl,(by show 1<=sizeLine; decide),fun p9 n9=>?_⟩
    have t9:=aD.new (o:= .lst [V.str aI]) n9
    refine⟨_,rfl,_,_,rfl,rfl,.inr ⟨_,rfl,?_⟩⟩
    refine E3 ag (t9 _ _ Cy) (by lia) fun JO SR n hn WX Hm WY=>?_
    have sR:=t9.trans WX
    exact tS.mk' (d:= .qv aI day dE) (ph:=JO) L0 G1 cw (k5.trans sR.tk) (s5.trans sR) (sR _ _ vH) (fA (sR _ _ h8) (gP (rS _) (gP (rS _) (gP (rI _) (gP (rI _) r0))))) oj (sR _ _ Az) (by lia) WY (by rw[aH,eN]; lia) (sR _ _ lZ) (by lia) n1 n2 (aJ (t9 _ _ vH) Hm).symm (aJ (t9 _ _ lZ) Hm).symm
   refine⟨_,rfl,rfl,_,rfl,cy (fun c3=>?_) (fun c3=>?_)⟩
   ·
    refine⟨_,rfl,.inl ⟨rfl,_,bE.of qX⟩,_,rfl,_,rfl,_,rfl,(by show 4<=sizeLine; decide),fun p8 n8=>?_⟩
    refine⟨pm,ms,_,rfl,rfl,aD.new n8 _ _ qX,bg (by lia),?_⟩
    obtain⟨k5,s5,vH,h8,Az,Cy,lZ⟩:=MI (xs:=[V.str "note",.int bl,.int day,.int dE]) nm s4 qX n8 n1 n3 E2 Ad Hl nF
    have no:=fun(JL LY Kg JM JN x5 x6 x7 x8 x9 GO GQ:Option V)=>tS.mk' (a:=a) (x5:=x5) (x6:=x6) (x7:=x7) (x8:=x8) (x9:=x9) (GO:=GO) (GQ:=GQ) (JL:=JL) (LY:=LY) (Kg:=Kg) (JM:=JM) (JN:=JN) (d:= .note bl day dE) L0 G1 cw k5 s5 vH (fA h8 (gP (rS _) (gP (rI _) (gP (rI _) (gP (rI _) r0))))) oj Az (by lia) Cy (by lia) lZ (by lia) n1 n2 n3 n4
    refine⟨_,rfl,_,_,rfl,rfl,_,rfl,cy (fun d1=>?_) (fun d1=>bR (no ..))⟩
    refine⟨_,rfl,_,rfl,pb,_,rfl,.inl (bE.of Az),_,_,rfl,rfl,_,rfl,cy (fun d2=>?_) (fun d2=>bR (no ..))⟩
    refine⟨_,rfl,_,_,rfl,rfl,_,rfl,cy (fun d3=>?_) (fun d3=>no ..)⟩
    have RG:0<=bl:=aN d1
    have VS:bl < ((bs.map V.str).length:Int):=aN d2
    obtain⟨bn,rfl⟩:=cv RG
    have hbn:bn < bs.length:=by rw[ae] at VS; lia
    refine⟨_,rfl,_,rfl,_,rfl,pb,_,_,.str bs[bn],rfl,rfl,bE.of Az,cz (by rw[aB,af hbn]; rfl),(by show 1<=sizeLine; decide),fun p9 n9=>?_⟩
    have t9:=aD.new (o:= .lst [V.str bs[bn]]) n9
    refine⟨ph,p9,_,_,rfl,rfl,t9 _ _ Cy,ag,dG (bg (by rw[ae]; show hs.length + 1<=1000; lia)),fun JO Hm=>?_⟩
    have sR:=t9.trans (aD.new (o:= .lst (hs.map V.str ++ [V.str bs[bn]])) Hm)
    exact tS.mk' (d:= .note (bn:Int) day dE) (ph:=JO) (hs:=hs ++ [bs[bn]]) L0 G1 cw (k5.trans sR.tk) (s5.trans sR) (sR _ _ vH) (fA (sR _ _ h8) (gP (rS _) (gP (rI _) (gP (rI _) (gP (rI _) r0))))) oj (sR _ _ Az) (by lia) (by rw[aM]; exact ag) (by rw[aH]; show hs.length + 1<=_; lia) (sR _ _ lZ) (by lia) n1 n2 (aJ (t9 _ _ vH) Hm).symm (aJ (t9 _ _ lZ) Hm).symm
   refine⟨_,rfl,_,_,rfl,rfl,_,rfl,cy (fun c4=>?_) (fun c4=>?_)⟩
   ·
    refine⟨_,rfl,.inl ⟨rfl,_,bE.of nF⟩,_,rfl,lz,_,_,rfl,rfl,nF,bg (by rw[ae]; lia),?_⟩
    obtain⟨k0,s0,PY,T7,PZ,L1⟩:=SQ (x:=0 + (i:Int)) T6 s4 qX n2 n4 E2 Ad Hl nF
    have Y4:=L0.mono k0
    have WZ:=s0.seq WW
    generalize upd H4 lz (.lst (sp.map V.int ++ [.int (0 + (i:Int))]))=H5 at s0 PY T7 PZ L1 Y4 WZ ⊢
    refine⟨fun σ' H'=>aD H5 H'/\ ∃part:Int,σ'=[some (.ref a),some (.ref pm),some (.ref pb),some (.ref ph),some (.ref lz),some (.int (0 + (i:Int))),some (.int (cell / 16 % 10 ^ (60:Int).toNat)),some (.int ((cell + 5 * (0 + (i:Int))) % 16)),some (.str aI),some (.int day),some (.int dE),some (.int bl),JL,some (.int part),Kg,JM,JN],?_,?_⟩
    ·refine⟨_,rfl,_,rfl,_,_,rfl,rfl,(by show(0:Int) < 3; decide),_,_,rfl,rfl,(by show 2<=sizeLine; decide),fun p9 n9=>?_⟩
     refine⟨_,rfl,_,_,rfl,rfl,_,rfl,cy (fun d=>⟨_,rfl,_,_,rfl,rfl,(by show(0:Int) < 4; decide),_,_,rfl,rfl,.inr ⟨_,rfl,p9,_,_,_,rfl,rfl,bE.of ag,(SO _ _ _).2,?_⟩⟩) (fun d=> .inr ⟨_,rfl,p9,_,_,_,rfl,rfl,bE.of ag,(SO _ _ _).2,?_⟩)⟩
     ·exact⟨aD.new n9,_,rfl⟩
     ·exact⟨aD.new n9,_,rfl⟩
    rintro σ' H6 ⟨W0,part,rfl⟩
    refine⟨_,rfl,_,rfl,_,rfl,_,rfl,a,_,_,.int cell,rfl,rfl,W0.seq WZ,PX,_,rfl,_,_,rfl,rfl,ph,hs,aI,cell,_,rfl,bE.of (W0 _ _ PZ),by lia,fun cr0 H7 s67=>?_⟩
    have xi:=W0.trans s67
    refine⟨fun σ' H'=>H'=H7/\ ∃cr:Int,σ'=[some (.ref a),some (.ref pm),some (.ref pb),some (.ref ph),some (.ref lz),some (.int (0 + (i:Int))),some (.int (cell / 16 % 10 ^ (60:Int).toNat)),some (.int ((cell + 5 * (0 + (i:Int))) % 16)),some (.str aI),some (.int day),some (.int dE),some (.int bl),JL,some (.int part),some (.int cr),JM,JN],?_,?_⟩
    ·refine⟨_,rfl,_,rfl,a,_,_,.int cell,rfl,rfl,xi.seq WZ,PX,_,_,rfl,rfl,(by show(0:Int) < 41; decide),rfl,_,rfl,cy (fun d=>?_) (fun d=>⟨rfl,_,rfl⟩)⟩
     refine⟨_,rfl,_,_,rfl,rfl,⟨by decide,by decide⟩,_,rfl,ph,_,rfl,.inl (bE.of (xi _ _ PZ)),_,_,rfl,rfl,_,_,rfl,rfl,(by show(0:Int) < ((hs.map V.str).length:Int) + 1; lia),?_⟩
     exact⟨rfl,_,rfl⟩
    rintro σ' H' ⟨rfl,cr,rfl⟩
    have GL:=xi _ _ PY
    refine⟨_,rfl,.inl ⟨rfl,_,bE.of GL⟩,_,rfl,_,rfl,_,rfl,(by show 4<=sizeLine; decide),fun p8 n8=>?_⟩
    refine⟨pm,ms,_,rfl,rfl,aD.new n8 _ _ GL,bg (by lia),?_⟩
    obtain⟨k5,s5,vH,h8,Az,Cy,lZ⟩:=MI (xs:=[V.str "set",.int cr,.int bl,.int part]) nm (s0.trans xi) GL n8 n1 n3 E2 (xi _ _ T7) (xi _ _ PZ) (xi _ _ L1)
    exact tS.mk' (d:= .set cr bl part) (Y4.mono xi.tk) G1 cw k5 s5 vH (fA h8 (gP (rS _) (gP (rI _) (gP (rI _) (gP (rI _) r0))))) trivial Az (by lia) Cy (by lia) lZ (by rw[aH]; show sp.length + 1<=_; lia) n1 n2 n3 n4
   refine⟨_,rfl,_,_,rfl,rfl,_,rfl,cy (fun c5=>?_) (fun c5=>?_)⟩
   ·
    refine⟨_,rfl,.inl ⟨rfl,_,bE.of nF⟩,_,rfl,lz,_,_,rfl,rfl,nF,bg (by rw[ae]; lia),?_⟩
    obtain⟨k0,s0,PY,T7,PZ,L1⟩:=SQ (x:=0 + (i:Int)) T6 s4 qX n2 n4 E2 Ad Hl nF
    refine⟨_,rfl,.inl ⟨rfl,_,bE.of PY⟩,_,rfl,(by show 2<=sizeLine; decide),fun p8 n8=>?_⟩
    refine⟨pm,ms,_,rfl,rfl,aD.new n8 _ _ PY,bg (by lia),?_⟩
    obtain⟨k5,s5,vH,h8,Az,Cy,lZ⟩:=MI (xs:=[V.str "sweep",.str aI]) nm s0 PY n8 n1 n3 E2 T7 PZ L1
    exact tS.mk' (d:= .fu aI) (L0.mono k0) G1 cw k5 s5 vH (fA h8 (gP (rS _) (gP (rS _) r0))) trivial Az (by lia) Cy (by lia) lZ (by rw[aH]; show sp.length + 1<=_; lia) n1 n2 n3 n4
   refine⟨_,rfl,rfl,_,rfl,cy (fun c6=>?_) (fun c6=>?_)⟩
   ·
    refine⟨_,rfl,_,rfl,_,rfl,_,_,rfl,rfl,⟨by decide,by decide,by decide⟩,_,rfl,_,_,rfl,rfl,_,rfl,_,_,rfl,rfl,⟨by decide,by decide⟩,_,rfl,_,_,rfl,rfl,_,_,rfl,rfl,(by show(0:Int) < 0 + (i:Int) + 1; lia),_,rfl,_,rfl,_,_,rfl,rfl,(by show 7<=sizeLine; decide),fun p9 n9=>?_⟩
    refine⟨lz,p9,_,_,rfl,rfl,aD.new n9 _ _ nF,ag,dG (bg (by rw[ae]; show sp.length + 7<=1000; lia)),fun PU WU=>?_⟩
    have zJ:=(aD.new (o:= .lst [V.int (0 + (i:Int)),.int (-1),.int (10 ^ (9:Int).toNat),.int 0,.int (0 + (i:Int) - 1),.int ((cell / 16 % 10 ^ (60:Int).toNat) / 3 % (0 + (i:Int) + 1)),.int (-2 - (cell / 16 % 10 ^ (60:Int).toNat))]) n9).trans (aD.new (o:= .lst (sp.map V.int ++ [V.int (0 + (i:Int)),.int (-1),.int (10 ^ (9:Int).toNat),.int 0,.int (0 + (i:Int) - 1),.int ((cell / 16 % 10 ^ (60:Int).toNat) / 3 % (0 + (i:Int) + 1)),.int (-2 - (cell / 16 % 10 ^ (60:Int).toNat))])) WU)
    have SS:=ag (H:=upd H4 p9 (.lst [V.int (0 + (i:Int)),.int (-1),.int (10 ^ (9:Int).toNat),.int 0,.int (0 + (i:Int) - 1),.int ((cell / 16 % 10 ^ (60:Int).toNat) / 3 % (0 + (i:Int) + 1)),.int (-2 - (cell / 16 % 10 ^ (60:Int).toNat))])) (a:=PU) (o:= .lst (sp.map V.int ++ [V.int (0 + (i:Int)),.int (-1),.int (10 ^ (9:Int).toNat),.int 0,.int (0 + (i:Int) - 1),.int ((cell / 16 % 10 ^ (60:Int).toNat) / 3 % (0 + (i:Int) + 1)),.int (-2 - (cell / 16 % 10 ^ (60:Int).toNat))]))
    generalize upd (upd H4 p9 (.lst [V.int (0 + (i:Int)),.int (-1),.int (10 ^ (9:Int).toNat),.int 0,.int (0 + (i:Int) - 1),.int ((cell / 16 % 10 ^ (60:Int).toNat) / 3 % (0 + (i:Int) + 1)),.int (-2 - (cell / 16 % 10 ^ (60:Int).toNat))])) PU (.lst (sp.map V.int ++ [V.int (0 + (i:Int)),.int (-1),.int (10 ^ (9:Int).toNat),.int 0,.int (0 + (i:Int) - 1),.int ((cell / 16 % 10 ^ (60:Int).toNat) / 3 % (0 + (i:Int) + 1)),.int (-2 - (cell / 16 % 10 ^ (60:Int).toNat))]))=H5 at zJ SS ⊢
    have SU:sp.map V.int ++ [V.int (0 + (i:Int)),.int (-1),.int (10 ^ (9:Int).toNat),.int 0,.int (0 + (i:Int) - 1),.int ((cell / 16 % 10 ^ (60:Int).toNat) / 3 % (0 + (i:Int) + 1)),.int (-2 - (cell / 16 % 10 ^ (60:Int).toNat))]=(sp ++ [0 + (i:Int),-1,10 ^ (9:Int).toNat,0,0 + (i:Int) - 1,(cell / 16 % 10 ^ (60:Int).toNat) / 3 % (0 + (i:Int) + 1),-2 - (cell / 16 % 10 ^ (60:Int).toNat)]).map V.int:=by rw[aM]; rfl
    rw[SU] at SS
    generalize QS:sp ++ [0 + (i:Int),-1,10 ^ (9:Int).toNat,0,0 + (i:Int) - 1,(cell / 16 % 10 ^ (60:Int).toNat) / 3 % (0 + (i:Int) + 1),-2 - (cell / 16 % 10 ^ (60:Int).toNat)]=mn at SS
    have abJ:0 < mn.length:=by rw[← QS,aH]; show 0 < sp.length + 7; lia
    have Y5:0 < ((mn.map V.int).length:Int):=by rw[ae]; lia
    obtain⟨y,_,hy⟩:=kq (g:=V.int) (xs:=mn) (m:=((mn.map V.int).length:Int)) (x:=(cell / 16 % 10 ^ (60:Int).toNat)) (by rw[ae]) Y5
    have OX:=zJ _ _ qX
    refine⟨_,rfl,.inl ⟨rfl,_,bE.of OX⟩,_,rfl,_,rfl,_,rfl,PU,_,rfl,.inl (bE.of SS),_,_,rfl,rfl,Y5,PU,_,_,.int y,rfl,rfl,bE.of SS,hy,(by show 2<=sizeLine; decide),fun p8 n8=>?_⟩
    refine⟨pm,ms,_,rfl,rfl,aD.new n8 _ _ OX,bg (by lia),?_⟩
    obtain⟨k5,s5,vH,h8,Az,Cy,lZ⟩:=MI (xs:=[V.str "undo",.int y]) nm (s4.trans zJ) OX n8 n1 n3 E2 (zJ _ _ Ad) (zJ _ _ Hl) (zJ _ _ nF)
    exact tS.mk' (d:= .iQ y) (L0.mono zJ.tk) G1 cw k5 s5 vH (fA h8 (gP (rS _) (gP (rI _) r0))) trivial Az (by lia) Cy (by lia) lZ (by lia) n1 n2 n3 n4
   refine⟨_,rfl,rfl,_,rfl,cy (fun c7=>?_) (fun c7=>?_)⟩
   ·
    refine⟨_,rfl,.inl ⟨rfl,_,bE.of qX⟩,(by show 2<=sizeLine; decide),fun p9 n9=>?_⟩
    have t9:=aD.new (o:= .lst [V.str "owed",.str "free"]) n9
    obtain⟨y,VP,hy⟩:=kq (g:=fun o:Bool=>V.str (if o then "owed" else "free")) (xs:=[true,false]) (m:=2) (x:=(cell / 16 % 10 ^ (60:Int).toNat)) rfl (by decide)
    refine⟨_,rfl,_,_,rfl,rfl,(by show(0:Int) < 2; decide),p9,_,_,_,rfl,rfl,bE.of ag,hy,_,rfl,_,rfl,(by show 3<=sizeLine; decide),fun p8 n8=>?_⟩
    have Y6:=t9 _ _ qX
    refine⟨pm,ms,_,rfl,rfl,aD.new n8 _ _ Y6,bg (by lia),?_⟩
    obtain⟨k5,s5,vH,h8,Az,Cy,lZ⟩:=MI (xs:=[V.str (if y then "owed" else "free"),.str aI,.int day]) nm (s4.trans t9) Y6 n8 n1 n3 E2 (t9 _ _ Ad) (t9 _ _ Hl) (t9 _ _ nF)
    exact tS.mk' (d:= .ask y aI day) (L0.mono t9.tk) G1 cw k5 s5 vH (fA h8 (gP (rS _) (gP (rS _) (gP (rI _) r0)))) trivial Az (by lia) Cy (by lia) lZ (by lia) n1 n2 n3 n4
   ·
    obtain⟨P0,W6,abK⟩:=zt (cell / 16 % 10 ^ (60:Int).toNat) 12 (by decide)
    refine⟨_,rfl,_,_,rfl,rfl,(by show(0:Int) < 12; decide),_,rfl,lE (by decide) (j8 _ (by decide)),Int.lt_trans (pS _ (by decide)) (by decide),?_⟩
    show xM (Mc 0 ((cell / 16 % 10 ^ (60:Int).toNat) % 12).toNat) _ _ _ _ _ _
    rw[W6,dI]
    refine CV (lo:=0) (n:=P0) (fun D j σ H6=>H4 D=none/\ ∃v,σ=[v,some (.int (cell / 16 % 10 ^ (60:Int).toNat))]/\aD H4 H6/\H6 D=some (.lst ((bO (cell / 16 % 10 ^ (60:Int).toNat) j).map V.int))) (fun D hD=>⟨hD,none,rfl,aD.new hD,ag⟩) ?_ ?_
    ·rintro D j σ H6 hj ⟨hD,v,rfl,t3,hl⟩
     refine⟨_,rfl,_,_,rfl,rfl,(by show(0:Int) < 9; decide),_,_,rfl,rfl,_,rfl,_,rfl,_,_,rfl,rfl,(by show(0:Int) < 30; decide),_,_,rfl,rfl,_,_,rfl,rfl,.inl ⟨by lia,by lia⟩,_,_,rfl,rfl,?_⟩
     refine⟨_,hl,bg (by rw[ae,Cn]; lia),hD,_,rfl,t3.cX hD,?_⟩
     rw[ag]
     unfold bO
     rw[nX,aM,aM]; rfl
    ·rintro D σ H6 _ ⟨hD,v,rfl,t3,hl⟩
     have Jq:=t3 _ _ qX
     refine⟨_,rfl,.inl ⟨rfl,_,bE.of Jq⟩,_,rfl,_,rfl,_,rfl,D,_,rfl,.inl ⟨bE.of hl,fun pt YA=>?_⟩⟩
     have t7:=t3.trans (aD.new (o:= .tup ((bO (cell / 16 % 10 ^ (60:Int).toNat) P0).map V.int)) YA)
     have g7:=ag (H:=H6) (a:=pt) (o:= .tup ((bO (cell / 16 % 10 ^ (60:Int).toNat) P0).map V.int))
     generalize upd H6 pt (.tup ((bO (cell / 16 % 10 ^ (60:Int).toNat) P0).map V.int))=H7 at t7 g7 ⊢
     refine⟨(by show 4<=sizeLine; decide),fun p8 n8=>?_⟩
     have GL:=t7 _ _ qX
     refine⟨pm,ms,_,rfl,rfl,aD.new n8 _ _ GL,bg (by lia),?_⟩
     obtain⟨k5,s5,vH,h8,Az,Cy,lZ⟩:=MI (xs:=[V.str "ages",.str aI,.int day,.ref pt]) nm (s4.trans t7) GL n8 n1 n3 E2 (t7 _ _ Ad) (t7 _ _ Hl) (t7 _ _ nF)
     exact tS.mk' (d:= .iC aI day (bO (cell / 16 % 10 ^ (60:Int).toNat) P0)) (L0.mono t7.tk) G1 cw k5 s5 vH (fA h8 (gP (rS _) (gP (rS _) (gP (rI _) (gP (fA (k5 _ _ g7) (gQ.ints _)) r0))))) (LZ (cell / 16 % 10 ^ (60:Int).toNat) P0 (by lia)) Az (by lia) Cy (by lia) lZ (by lia) n1 n2 n3 n4
  ·rintro σ H2 ⟨pb,ph,bs,hs,sp,ds,ms,x5,x6,x7,x8,x9,GO,GQ,JL,LY,Kg,JM,JN,rfl,s2,hM,hR,G1,cw,_⟩
   rw[ae] at G1
   refine⟨_,rfl,?_⟩
   exact k pm ds ms H2 s2 hM hR G1 cw
theorem Co: ∀(l:List bu) (T:ja) (n i:Nat) (h:i < l.length),(gU l T n).1[i]? =some (dM (gU (l.take i) T n).2 ((n + i:Nat):Int) l[i]).1
 |[],_,_,_,h=>absurd h (iB _)
 |d :: l,T,n,0,h=>rfl
 |d :: l,T,n,i + 1,h=>by
  have ih:=Co l (dM T n d).2 (n + 1) i (Nat.lt_of_succ_lt_succ h)
  show(gU l (dM T n d).2 (n + 1)).1[i]? =_
  rw[ih,show n + 1 + i=n + (i + 1) by lia]
  rfl
theorem pJ.rp {H:Hp}{ok:Addr->Prop}{a:Ax}{v:V}(h:pJ H ok a v):Rp H a.dt v:=by
 cases a with
 |int i=>exact dz.mpr h
 |txt s=>exact gF.mpr h
 |sets l=>
  obtain⟨D,ms,rfl,_,z,t⟩:=h
  exact jm z (g8.Pu t)
 |pairs l=>
  obtain⟨D,ms,rfl,_,z,t⟩:=h
  exact jm z (iH.Pu t)
 |«ints» l=>
  obtain⟨D,rfl,_,z⟩:=h
  exact jm z (BX l)
theorem jA {α:Type}(f:α->Dt)(n:Nat): ∀l:List α,(∀x∈l,(f x).size<=n)->Dt.eP (l.map f)<=l.length * n
 |[],_=>bp _
 |x :: l,h=>by
  have h1:=jA f n l fun y hy=>h y (bc _ hy)
  have h2:=h x bI
  rw[cU,bZ,vZ]
  show(f x).size + Dt.eP (l.map f)<=_
  lia
theorem jV {α:Type}(f:α->Dt)(l:List α)(h: ∀x∈l,(f x).plain=true):Dt.lL (l.map f)=true:=by
 rw[Dt.o7]
 intro d hd
 obtain⟨x,hx,rfl⟩:=bC.mp hd
 exact h x hx
theorem yq {d:bu}(h:d.ok):d.dt.size<=100/\d.dt.plain=true:=by
 cases d with
 |iC w dy l=>
  have h1:l.length<=11:=h.1
  have h2:=jA Dt.int 1 l (fun x _=>aC _)
  refine⟨?_,?_⟩
  ·show(Dt.tup [.str "ages",.str w,.int dy,.tup (l.map Dt.int)]).size<=100
   simp only[Dt.size,Dt.eP]
   lia
  ·show(Dt.tup [.str "ages",.str w,.int dy,.tup (l.map Dt.int)]).plain=true
   simp[Dt.plain,Dt.lL,jV Dt.int l (fun x _=>rfl)]
 |_=>exact⟨by simp[bu.dt,Dt.size,Dt.eP],by simp[bu.dt,Dt.plain,Dt.lL]⟩
theorem DQ {ds:List bu}(h: ∀d∈ds,d.ok)(hl:ds.length<=60):(Dt.lst (ds.map bu.dt)).size<=100000/\(Dt.lst (ds.map bu.dt)).plain=true:=by
 have h1:=jA bu.dt 100 ds fun d hd=>(yq (h d hd)).1
 refine⟨?_,jV bu.dt ds fun d hd=>(yq (h d hd)).2⟩
 show 1 + Dt.eP (ds.map bu.dt)<=100000
 lia
theorem JP (S:Bk)(aI:Str)(day:Int)(bO:List Int):(S.wq aI day bO).length=bO.length + 2:=by
 unfold Bk.wq
 have: ∀(ts:List (Nat×Int)) (l:List Int),(ts.foldl (fun l t=>kj l (L2.placeOf (day - (S.bl t.1).b) bO) t.2) l).length=l.length:=fun ts=>by
  induction ts with
  |nil=>intro l; rfl
  |cons t ts ih=>intro l; rw[fF,ih]; exact dX
 rw[this,eN]
theorem JQ {S:Bk}{n:Nat}(wf:WF S n)(hn:n<=60)(d:bu):(S.Hb d).dt.size<=100000/\(S.Hb d).dt.plain=true:=by
 cases d with
 |fu w=>
  obtain⟨_,l,e,_,hl⟩:=mK S w
  have h0:S.Hb (.fu w)= .sets l:=by
   show Ax.sets _ =_
   rw[e,List.drop_left]
  have h1:=jA (fun t:Nat×Nat×Int=>Dt.tup [.int t.1,.int t.2.1,.int t.2.2]) 4 l (fun x _=>aC _)
  have hcb:S.credits.length * S.aG.length<=60 * 60:=lC (by have:=wf.lc; lia) (by have:=wf.lb; lia)
  rw[h0]
  refine⟨?_,jV _ l fun x _=>rfl⟩
  show 1 + Dt.eP (l.map fun t=>Dt.tup [.int t.1,.int t.2.1,.int t.2.2])<=100000
  have:=wf.lc
  lia
 |_=>exact⟨by show 1<=100000; decide,rfl⟩
theorem step_size {T:ja}{n:Nat}{d:bu}(hG:Good T n)(hn:n<=60)(cw:d.ok):(dM T n d).1.dt.size<=100000/\(dM T n d).1.dt.plain=true:=by
 have wf:=hG.wf hn
 have txt: ∀s:Str,(Ax.txt s).dt.size<=100000/\(Ax.txt s).dt.plain=true:=fun s=>⟨by show 1<=100000; decide,rfl⟩
 by_cases ht:d.tells=true
 ·rw[pG ht]
  split
  ·exact JQ wf hn d
  ·exact txt _
 cases d with
 |iQ m=>
  show(if(T.steps.filter (bW m)).length=T.steps.length then(Ax.txt "no setting",T) else
   match cE (T.steps.filter (bW m)) Bk.new with
   |none=>(.txt "needed",T)
   |some S=>(.txt "undone",⟨T.steps.filter (bW m),S⟩)).1.dt.size<=100000/\(if(T.steps.filter (bW m)).length=T.steps.length then(Ax.txt "no setting",T) else
   match cE (T.steps.filter (bW m)) Bk.new with
   |none=>(.txt "needed",T)
   |some S=>(.txt "undone",⟨T.steps.filter (bW m),S⟩)).1.dt.plain=true
  split
  ·exact txt _
  ·split
   ·exact txt _
   ·exact txt _
 |ask o w day=>
  have h1:=jA (fun t:Nat×Int=>Dt.tup [.int t.1,.int t.2]) 3 (T.bk.gK o w day) (fun x _=>aC _)
  have h2:(T.bk.gK o w day).length<=(T.bk.rows o).length:=GC
  have h3:(T.bk.rows o).length<=60:=by
   have:=wf.lb
   have:=wf.lc
   cases o
   ·show T.bk.credits.length<=60; lia
   ·show T.bk.aG.length<=60; lia
  refine⟨?_,jV _ _ fun x _=>rfl⟩
  show 1 + Dt.eP ((T.bk.gK o w day).map fun t=>Dt.tup [.int t.1,.int t.2])<=100000
  lia
 |iC w day l=>
  have h1:=jA Dt.int 1 (T.bk.wq w day l) (fun x _=>aC _)
  have h2:=JP T.bk w day l
  have h3:l.length<=11:=cw.1
  refine⟨?_,jV _ _ fun x _=>rfl⟩
  show 1 + Dt.eP ((T.bk.wq w day l).map Dt.int)<=100000
  lia
 |dJ _ _ _ _=>exact absurd rfl ht
 |qv _ _ _=>exact absurd rfl ht
 |note _ _ _=>exact absurd rfl ht
 |set _ _ _=>exact absurd rfl ht
 |fu _=>exact absurd rfl ht
theorem G2 {H:Hp}{pd:Addr}{d:bu}(h:sh H pd d): ∃r,H pd=some (.tup (.str (bu.word d) :: r)):=by
 cases d with
 |iC w dy l=>
  obtain⟨pl,h1,_⟩:=h
  exact⟨_,h1⟩
 |_=>exact⟨_,h⟩
theorem yr (d:bu):wg (.str (bu.word d)) [.str "bill",.str "pay",.str "note",.str "set",.str "sweep"]=d.tells:=by
 cases d with
 |dJ _ _ _ _=>show wg (.str "bill") _ =true; decide +kernel
 |qv _ _ _=>show wg (.str "pay") _ =true; decide +kernel
 |note _ _ _=>show wg (.str "note") _ =true; decide +kernel
 |set _ _ _=>show wg (.str "set") _ =true; decide +kernel
 |fu _=>show wg (.str "sweep") _ =true; decide +kernel
 |iQ _=>show wg (.str "undo") _ =false; decide +kernel
 |ask o _ _=>
  cases o
  ·show wg (.str "free") _ =false; decide +kernel
  ·show wg (.str "owed") _ =false; decide +kernel
 |iC _ _ _=>show wg (.str "ages") _ =false; decide +kernel
theorem L3 (xs:List V)(a b:Nat)(h:a<=b):(qj xs (some (a:Int)) (some (b:Int))).length<=b - a:=by
 unfold qj
 rw[HT.yz,HT.yz,bh]
 lia
theorem L4 (ns:List Int)(lo hi:Option Int): ∃cs:List Int,qj (ns.map V.int) lo hi=cs.map V.int:=by
 unfold qj
 rw[← List.map_drop,← List.map_take]
 exact⟨_,rfl⟩
theorem SV {H:Hp}{ok:Addr->Prop}: ∀{as:List Ax} {ws:List V},Paired (pJ H ok) as ws->gQ H (as.map Ax.dt) ws
 |_,_,.nil=>c9.mpr rfl
 |_,_,.cons h t=>bL.mpr ⟨_,_,rfl,h.rp,SV t⟩
theorem JR {H:Hp}{tb:Addr}{pos:Pos}{qual:Str}(h:H tb=some (.nJ #[])):Tb H tb pos qual:=⟨#[],h,True.intro,.inl rfl⟩
def JS (K:PySem.W.Frag)(cps:List (Addr×Addr)):Sp:=fun vs H Q _=> ∃(a:Addr) (ns:List Int),vs=[.ref a]/\bE K H a (ns.map V.int)/\ns.length<=63/\(∀cp∈cps,H cp.2=some (.nJ #[]))/\ ∀H',Q (.bl true) H'
theorem JT:aS ["_law_script","_law_cells","_law_asked","_law_handed","_law_found","_law_steps","_law_state","_law_number","_law_deed","_law_due"] ["_law_script"] (ax (top 66)):={}
theorem OY {cps:List (Addr×Addr)}{f:Addr}{fd:FuncData}(F:fY K "law" "law" (top 66) f fd)(T:Txt K mg){A:dQ}{tB tC:Addr}(G:jn K mg A)(DB:pU K mg "bills_in_order" (top 17) tB)(DC:pU K mg "credits_in_order" (top 18) tC)(iZ:tB≠tC)(hnd:A.iS≠A.tooMuch)(KB:K.In base)(BM:BMain mg base)(Vo: ∃c,(c,tB)∈cps)(hcC: ∃c,(c,tC)∈cps):lI P w K mg base rJ 13 f fd ["_law_script"] (JS K cps):=by
 have G3:eF P w K mg base "answers" 12 ["deeds"] (sj A tB tC):=G0 T G DB DC iZ hnd KB BM
 have Cp:=Cm (P:=P) (w:=w) (base:=base) T
 have Ar:=Aq (P:=P) (w:=w) (base:=base) T
 have ra:=Ak (P:=P) (w:=w) (base:=base) T
 have lW:=qN (P:=P) (w:=w) (base:=base) T
 have As:=zL (P:=P) (w:=w) (base:=base) T
 have Cq:=BR (P:=P) (w:=w) (base:=base) T
 have tT:=tN (P:=P) (w:=w) (base:=base) T
 refine F.ok (k:=12) JT (fun vs H Q E h=>?_) (fun cK A' outer s H vs Q E hr h=>?_)
 ·obtain⟨a,ns,rfl,_⟩:=h
  rfl
 ·obtain⟨a,ns,rfl,hS,hz,hO,k⟩:=h
  have jZ:lY H tB:=let⟨c,hc⟩:=Vo; JR (hO _ hc)
  have jz:mj H tC:=let⟨c,hc⟩:=hcC; JR (hO _ hc)
  have nd:=JT.nd
  refine⟨_,(ai (sv 1 nd (qh tW (pv 0) (qg ah) (qg (aU cW ah (fc Cp hr (aa (pv 0) (aa ah (aa ah av))))))))
(ai (sv 2 nd (fc Ar hr (aa (pv 1) av)))
(ai (sv 3 nd (fQ ql (by rfl) T.rT boot_list (aa (pv 2) av)))
(ai (sv 4 nd (fc G3 hr (aa (pv 3) av)))
(ai (bM (jB (fT (fc ra hr (aa (pv 3) (aa (pv 2) av)))))
(ao (a6 kP))
bb)
(ai (bM (PW.pt (pw_or (jB (fT (cI eG (by rfl) T.de dZ (aa (pv 4) (aa (gr (v:= .ty "list") (by rfl) T.rT boot_list rfl) av))))) (pw_or1 (aW qa (mO T.dR (pv 4)) (mO T.dR (pv 2)) (aZ _)))))
(ao (a6 kP))
bb)
(ai (sv 5 nd (bQ av))
(ai (sv 6 nd (HZ lW (hr.mono (by decide)) rfl))
(ai (eQ bH rfl (iN rfl T.lT (aa (mO T.dR (pv 2)) av)) (gn 7 nd)
(ai (sv 8 nd (xl (pv 2) (pv 7)))
(ij (bM (PW.pt (pw_or (fT (fc As hr (aa (pv 8) av))) (pw_or1 (aW cG (xt (pv 8) ah) aR (aZ _)))))
(ao (lG (fc Cq hr (aa (pv 5) (aa (pv 6) (aa (pv 7) (aa (pv 8) av))))) (iM rfl (bX (gn 9 nd) (bX (gn 5 nd) (bX (gn 6 nd) gu))))))
(ao (sv 9 nd (fc tT hr (aa (pv 6) (aa (pv 8) av))))))
(ao (bM (jB (fT (fc ra hr (aa (xl (pv 4) (pv 7)) (aa (pv 9) av)))))
(ao (a6 kP))
bb)))))
(ao (a6 kP))))))))))),?_⟩
  refine⟨_,rfl,_,rfl,_,rfl,a,_,40,140,rfl,hS,(by rw[ae]; exact hz),_,_,rfl,rfl,_,rfl,a,_,rfl,hS,fun pc nc=>?_⟩
  obtain⟨cs,Y7⟩:=L4 ns (some 1) (some (1 + 40))
  have qz:cs.length<=40:=by
   have h:=L3 (ns.map V.int) 1 41 (by decide)
   have e:qj (ns.map V.int) (some ((1:Nat):Int)) (some ((41:Nat):Int))=cs.map V.int:=Y7
   rw[e,ae] at h
   exact h
  rw[Y7]
  have s1:=aD.new (o:= .lst (cs.map V.int)) nc
  have Y8:upd H pc (.lst (cs.map V.int)) pc=some (.lst (cs.map V.int)):=ag
  generalize upd H pc (.lst (cs.map V.int))=H1 at s1 Y8
  refine⟨_,rfl,pc,cs,rfl,bE.of Y8,(by omega),fun pa ds ms H2 s2 PN MG G1 cw=>?_⟩
  refine⟨_,rfl,pa,ms,rfl,.inl (bE.of PN),fun ph nh=>?_⟩
  have s3:=aD.new (o:= .lst ms) nh
  have S3:=(s1.trans s2).trans s3
  have oq:lY _ tB:=bT jZ S3
  have ou:mj _ tC:=bT jz S3
  have OZ:=s3 _ _ PN
  have L5:=MG.mono s3.tk
  have L6:upd H2 ph (.lst ms) ph=some (.lst ms):=ag
  generalize upd H2 ph (.lst ms)=H3 at S3 oq ou OZ L5 L6
  clear s3
  refine⟨_,rfl,ph,ds,ms,rfl,L6,L5,(by omega),cw,oq,ou,fun pt ws H4 F4 tP tQ nt yd hA=>?_⟩
  have Kf: ∀t∈[tB,tC],∃ps,H3 t=some (.nJ ps):=fun t z=>by
   simp only[List.mem_cons,List.not_mem_nil,or_false] at z
   rcases z with rfl|rfl
   ·exact cS oq
   ·exact cS ou
  have O0:=sW F4 Kf OZ (fun _ z=>by cases z)
  have SW:=sW F4 Kf L6 (fun _ z=>by cases z)
  have L8:=L5.mono (fun b xs e=>sW F4 Kf e (fun _ z=>by cases z))
  have W7:=SV hA
  obtain⟨sz,pl⟩:=DQ cw (by omega)
  refine⟨_,rfl,_,rfl,_,_,_,rfl,jm SW L8,jm O0 L8,sz,pl,fun H5 s5=>⟨_,rfl,bR ?_⟩⟩
  have O1:=s5 _ _ O0
  have DI:=s5 _ _ yd
  have W8:=L8.mono s5.tk
  have SX:=gQ.mono s5 _ W7
  have G7:=gQ.length W7
  rw[ae,mM] at G7
  have Hd:=g6.length MG
  clear hA yd O0 SW L8 W7 F4 tP tQ OZ L6 L5 s1 s2 S3 oq ou Kf PN MG s5 jZ jz
  refine⟨_,rfl,_,_,_,true,rfl,(jm DI SX).ty,Eg (.lst _),_,rfl,bR ?_⟩
  refine⟨_,rfl,pt,_,rfl,.inl (bE.of DI),_,rfl,pa,_,rfl,.inl (bE.of O1),rfl,_,rfl,cy (fun z=>?_) (fun _=>?_)⟩
  ·exfalso
   have e:ws.length=ms.length:=by omega
   rw[e] at z
   simp at z
  refine⟨bp _,fun ps GD=>?_⟩
  have s6:=aD.new (o:= .lst []) GD
  have O2:upd H5 ps (.lst []) ps=some (.lst []):=ag
  generalize upd H5 ps (.lst [])=H6 at s6 O2
  refine⟨rfl,fun sd g H7 s7 hBk Li nf=>?_⟩
  have W9:=s7 _ _ O2
  have xi:=s6.trans s7
  have Xa:ps∉g.fp:=fun z=>by
   have:=nf _ z
   rw[O2] at this
   cases this
  have nf5: ∀b∈g.fp,H5 b=none:=fun b hb=>s6.free (nf b hb)
  refine⟨_,rfl,pa,_,rfl,.inl (bE.of (xi _ _ O1)),(ms.length:Int),rfl,by omega,by omega,?_⟩
  rw[dI]
  refine jr (lo:=0) (n:=ms.length) (fun i σ H2=> ∃(ps sd:Addr) (us:List V) (f:fB) (x7 x8 x9:Option V),σ=[some (.ref a),some (.ref pc),some (.ref pa),some (.ref ph),some (.ref pt),some (.ref ps),some (.ref sd),x7,x8,x9]/\aD H5 H2/\H2 ps=some (.lst us)/\gA H2 (gU (ds.take i) ja.new 0).2.steps us/\dm H2 sd (gU (ds.take i) ja.new 0).2.bk f/\(∀x∈f.fp,H5 x=none)/\ps∉f.fp/\Good (gU (ds.take i) ja.new 0).2 i)
   ⟨ps,sd,[],g,none,none,none,rfl,xi,W9,.nil,hBk,nf5,Xa,Good.new⟩ ?_ ?_
  ·rintro i σ H2 hi ⟨ps,sd,us,f,x7,x8,x9,rfl,s2,l6,Y9,hB,Xb,GD,hG⟩
   rw[jq]
   have vV:i < ds.length:=by omega
   have oo:=af vV
   obtain⟨v0,Vi,Sb⟩:=g6.get W8 oo
   obtain⟨pd,rfl,Za⟩:=EY Sb
   have hd:=Za.mono s2.tk
   have GZ:=cw _ (bF vV)
   have tO:=Co ds ja.new 0 i vV
   rw[Nat.zero_add] at tO
   have T4:=yp vV
   have oF:Good (dM (gU (ds.take i) ja.new 0).2 (i:Int) ds[i]).2 (i + 1):=hG.step ds[i]
   rw[T4]
   have hsz:=step_size hG (by omega) GZ
   obtain⟨w0,hw0,Xc⟩:=gQ.get SX (i:=i) (by rw[aB,tO]; rfl)
   generalize ds[i]=d at hd GZ oF hsz Xc tO
   generalize (gU (ds.take i) ja.new 0).2=TT at Y9 hB hG oF hsz Xc tO
   clear T4 Sb Za oo
   refine⟨_,rfl,_,rfl,pa,_,_,.ref pd,rfl,rfl,bE.of (s2 _ _ O1),cz Vi,?_⟩
   refine⟨fun σ' H'=> ∃(v:V) (tL zM:Addr) (zN:List V) (f':fB),σ'=[some (.ref a),some (.ref pc),some (.ref pa),some (.ref ph),some (.ref pt),some (.ref tL),some (.ref zM),some (.int (i:Int)),some (.ref pd),some v]/\aD H5 H'/\H' tL=some (.lst zN)/\gA H' (dM TT i d).2.steps zN/\dm H' zM (dM TT i d).2.bk f'/\(∀x∈f'.fp,H5 x=none)/\tL∉f'.fp/\Rp H' (dM TT i d).1.dt v,?_,?_⟩
   ·obtain⟨r,Zb⟩:=G2 hd
    refine⟨_,rfl,pd,bu.word d,r,rfl,Zb,fun H3 s3=>⟨_,rfl,?_⟩⟩
    have Hf:=hd.mono s3.tk
    have Xd:=s3 _ _ Zb
    have Ji:=s3 _ _ l6
    have O3:gA H3 TT.steps us:=Paired.gR Y9 fun _ _ ⟨p,q,e1,e2,e3,e4⟩=>⟨p,q,e1,s3 _ _ e2,s3 _ _ e3,e4⟩
    have Hj:=hB.same s3
    have Xe:=s2.trans s3
    have MJ: ∀(R:VK),(∀t v tL zM zN f' H',H' t=some (.tup [v,.ref tL,.ref zM])->aD H5 H'->H' tL=some (.lst zN)->gA H' (dM TT i d).2.steps zN->dm H' zM (dM TT i d).2.bk f'->(∀x∈f'.fp,H5 x=none)->tL∉f'.fp->Rp H' (dM TT i d).1.dt v->R (.ref t) H')->My R H3 ps f (dM TT i d):=fun R h t v tL zM f' zN H' ht hv hp hS hb fr fi np _=>
     h t v tL zM zN f' H' ht (fr.same Xe Xb) hp hS hb (fun x hx=>(fi x hx).elim (Xb x) fun z=>Xe.free z) np hv
    by_cases ht:d.tells=true
    ·rw[yr,ht]
     have G6:H3 pd=some (.tup (bu.vs d)):=by cases d <;> first|exact Hf|cases ht
     refine fv (fv ⟨_,rfl,_,rfl,_,rfl,_,rfl,ps,sd,pd,i,TT,us,f,d,rfl,Ji,O3,Hj,GD,G6,.inl ht,hG,(by omega),MJ _ fun t v tL zM zN f' H' ht KQ hp hS hb hn Xf hv=>?_⟩)
     refine⟨t,_,rfl,cm.of ht,rfl,_,_,rfl,_,_,rfl,_,_,rfl,rfl,?_⟩
     exact⟨v,tL,zM,zN,f',rfl,KQ,hp,hS,hb,hn,Xf,hv⟩
    ·rw[yr,Bool.eq_false_iff.mpr ht]
     refine bR ⟨_,rfl,pd,_,_,.str (bu.word d),rfl,rfl,cm.of Xd,JC _ _,rfl,?_⟩
     have rep: ∀{v:V} {H':Hp},(dM TT i d).2=TT->aD H3 H'->Rp H' (dM TT i d).1.dt v-> ∃(v':V) (tL zM:Addr) (zN:List V) (f':fB),[some (V.ref a),some (.ref pc),some (.ref pa),some (.ref ph),some (.ref pt),some (.ref ps),some (.ref sd),some (.int (i:Int)),some (.ref pd),some v]=[some (.ref a),some (.ref pc),some (.ref pa),some (.ref ph),some (.ref pt),some (.ref tL),some (.ref zM),some (.int (i:Int)),some (.ref pd),some v']/\aD H5 H'/\H' tL=some (.lst zN)/\gA H' (dM TT i d).2.steps zN/\dm H' zM (dM TT i d).2.bk f'/\(∀x∈f'.fp,H5 x=none)/\tL∉f'.fp/\Rp H' (dM TT i d).1.dt v':=fun{v H'} e s4 hv=>
      ⟨v,ps,sd,us,f,rfl,Xe.trans s4,s4 _ _ Ji,by rw[e]; exact Paired.gR O3 fun _ _ ⟨p,q,e1,e2,e3,e4⟩=>⟨p,q,e1,s4 _ _ e2,s4 _ _ e3,e4⟩,by rw[e]; exact Hj.same s4,Xb,GD,hv⟩
     have wf:=hG.wf (by omega:i<=60)
     cases d with
     |dJ _ _ _ _=>exact absurd rfl ht
     |qv _ _ _=>exact absurd rfl ht
     |note _ _ _=>exact absurd rfl ht
     |set _ _ _=>exact absurd rfl ht
     |fu _=>exact absurd rfl ht
     |iQ m=>
      refine⟨true,ye _,fv ⟨_,rfl,_,rfl,_,rfl,_,rfl,ps,sd,pd,i,TT,us,f,.iQ m,rfl,Ji,O3,Hj,GD,Hf,.inr ⟨m,rfl⟩,hG,(by omega),MJ _ fun t v tL zM zN f' H' ht KQ hp hS hb hn Xf hv=>?_⟩⟩
      refine⟨t,_,rfl,cm.of ht,rfl,_,_,rfl,_,_,rfl,_,_,rfl,rfl,?_⟩
      exact⟨v,tL,zM,zN,f',rfl,KQ,hp,hS,hb,hn,Xf,hv⟩
     |ask o wh dy=>
      refine⟨false,je (by cases o; exact(show("free":Str)≠"undo" by decide +kernel); exact(show("owed":Str)≠"undo" by decide +kernel)),bR ⟨_,rfl,_,rfl,sd,pd,TT.bk,f,i,rfl,Hj,wf,(by omega),.inl ⟨o,wh,dy,Hf,fun v H' s4 hv=>rep rfl s4 hv.rp⟩⟩⟩
     |iC wh dy bO=>
      obtain⟨pl',Hf,Xg⟩:=Hf
      refine⟨false,je (show("ages":Str)≠"undo" by decide +kernel),bR ⟨_,rfl,_,rfl,sd,pd,TT.bk,f,i,rfl,Hj,wf,(by omega),.inr ⟨wh,dy,bO,pl',Hf,Xg,GZ.1,fun v H' s4 hv=>rep rfl s4 hv.rp⟩⟩⟩
   ·rintro σ' H' ⟨v,tL,zM,zN,f',rfl,s',RE,WW,hB',Xh,Xi,hv⟩
    refine⟨_,rfl,_,rfl,pt,_,_,w0,rfl,rfl,bE.of (s' _ _ DI),cz hw0,_,rfl,_,w0,v,rfl,Rp.mono s' _ Xc,hv,hsz.1,hsz.2,fun H3 s3=>⟨_,rfl,bR ?_⟩⟩
    exact⟨tL,zM,zN,f',_,_,_,rfl,s'.trans s3,s3 _ _ RE,Paired.gR WW fun _ _ ⟨p,q,e1,e2,e3,e4⟩=>⟨p,q,e1,s3 _ _ e2,s3 _ _ e3,e4⟩,hB'.same s3,Xh,Xi,oF⟩
  ·rintro σ H2 ⟨ps,sd,us,f,x7,x8,x9,rfl,_⟩
   exact k H2
section
variable {h:Heap}{x q:Str}{st:Stmt}{f C R:Addr}{oc kV dc pm cd ct:Value}{od an:Option Addr}{sl:Array (Option Value)}
abbrev MK (K:PySem.W.Frag)(f:Addr)(x q:Str)(st:Stmt)(oc:Value)(od an:Option Addr)(kV dc pm cd ct:Value)(sl:Array (Option Value)):Prop:=K.lookup f=some ⟨oc,od,.func (PySem.W.fnOf x q (gw st) (dv st) (ax st) .none kV dc pm an cd ct),sl⟩
theorem cM (X:K.In h)(G:h.Ns mainGlobals mg)(a:PySem.W.nsIn K mainGlobals x=some (some (.ref f)))(l:MK K f x x st oc od an kV dc pm cd ct sl)(c:PySem.W.codeIn K cd x=true)(k:PySem.W.keepIn K (.ref f)=true):Df K mg x st:=⟨_,_,o6 l c k,cV X G a⟩
theorem lA (a:PySem.W.findIn K (.ref C) x=some (some (.ref f)))(i:PySem.W.isFn K (.ref f)=true)(l:MK K f x q st oc od an kV dc pm cd ct sl)(c:PySem.W.codeIn K cd q=true)(k:PySem.W.keepIn K (.ref f)=true): ∃f fd,fY K x q st f fd/\Meth K C x f:=⟨_,_,o6 l c k,a,i,k⟩
theorem E5 (a:PySem.W.findIn K (.ref C) "__init__"=some (some (.ref f)))(i:PySem.W.isFn K (.ref f)=true)(l:MK K f "__init__" q st oc od an kV dc pm cd ct sl)(c:PySem.W.codeIn K cd q=true)(k:PySem.W.keepIn K (.ref f)=true)(m:PySem.W.makesIn K C=true)(kc:PySem.W.keepIn K (.ref C)=true): ∃f fd,fY K "__init__" q st f fd/\Mk K C f:=⟨_,_,o6 l c k,m,a,i,kc⟩
theorem sX (a:PySem.W.findIn K (.ref C) "__init__"=some (some (.ref f)))(t:PySem.W.typeIn K (.ref f)=some (.type "function"))(l:MK K f "__init__" q st oc od an kV dc pm cd ct sl)(c:PySem.W.codeIn K cd q=true)(k:PySem.W.keepIn K (.ref f)=true): ∃f fd,fY K "__init__" q st f fd/\PySem.W.findIn K (.ref C) "__init__"=some (some (.ref f))/\PySem.W.typeIn K (.ref f)=some (.type "function"):=⟨_,_,o6 l c k,a,t⟩
theorem O4 (r:PySem.W.readsIn K C (.type "type")=true)(s:PySem.W.specialIn K (.ref C) "__getattribute__"=some (some (.builtin "type.__getattribute__")))(a:PySem.W.findCls K (.ref C) (.type "type") "__init__"=some (.val (.ref f)))(l:MK K f "__init__" q st oc od an kV dc pm cd ct sl)(c:PySem.W.codeIn K cd q=true)(k:PySem.W.keepIn K (.ref f)=true): ∃f fd,fY K "__init__" q st f fd/\Eu K C f:=⟨_,_,o6 l c k,r,s,a,k⟩
theorem sY {nm:Str}{N:Addr}{bs:List Value}{sn:List Str}{sub:List Value}{ab:Bool}{col:Option Bool}{dd:Option Addr}{k0 k1 k2 k3 k5:Option Value}(o:K.lookup C=some (excClassObj nm q C N bs [.ref R,.type "Exception",.type "BaseException",.type "object"] true sn sub ab col dd k0 k1 k2 k3 k5 "Exception.__new__"))
  (a:PySem.W.findIn K (.ref C) "__setattr__"=some (some (.builtin "object.__setattr__"))) (b:PySem.W.findIn K (.ref C) "__getattribute__"=some (some (.builtin "BaseException.__getattribute__"))) (c:PySem.W.findIn K (.ref C) "__getattr__"=some none) (d:PySem.W.findIn K (.ref C) "text"=some none):gN K C R:=⟨⟨_,_,_,_,_,_,_,_,_,_,_,_,_,_,_,o,.inr rfl⟩,a,b,c,d⟩
theorem O5 {nm:Str}{N:Addr}{bs:List Value}{sn:List Str}{sub:List Value}{ab:Bool}{col:Option Bool}{dd:Option Addr}{k0 k1 k2 k3 k5:Option Value}(o:K.lookup C=some (excClassObj nm q C N bs [.type "Exception",.type "BaseException",.type "object"] true sn sub ab col dd k0 k1 k2 k3 k5 "Exception.__new__"))
  (a:PySem.W.findIn K (.ref C) "__setattr__"=some (some (.builtin "object.__setattr__"))) (b:PySem.W.findIn K (.ref C) "__getattribute__"=some (some (.builtin "BaseException.__getattribute__"))) (c:PySem.W.findIn K (.ref C) "__getattr__"=some none) (d:PySem.W.findIn K (.ref C) "text"=some none):gN K C C:=⟨⟨_,_,_,_,_,_,_,_,_,_,_,_,_,_,_,o,.inl ⟨rfl,rfl⟩⟩,a,b,c,d⟩
theorem ML {c tb:Addr}(X:K.In h)(G:h.Ns mainGlobals mg)(a:PySem.W.nsIn K mainGlobals x=some (some (.ref f)))(l:MK K f x x st oc od an kV dc pm (.ref c) ct sl)(cd:PySem.W.codeIn K (.ref c) x=true)(k:PySem.W.keepIn K (.ref f)=true)(hd:PySem.W.codeHdIn K c tb=true)(n:K.lookup tb=none):pU K mg x st tb/\ ∃c,PySem.W.codeHdIn K c tb=true/\K.lookup tb=none:=⟨⟨f,c,oc,od,kV,dc,pm,an,ct,sl,l,cd,k,cV X G a,hd⟩,c,hd,n⟩
end
end
theorem O6 {K:PySem.W.Frag}{mg:Str->Option Value}{l0 iz fL l4 eh jW nG i8 jX jY lB i9 nH:Addr}(h1:mg "Refusal"=some (.ref eh))(h2:gN K eh eh)(h3:PySem.W.keepIn K (.ref eh)=true)(h4: ∃f fd,fY K "__init__" "Refusal.__init__" (mem 3 0) f fd/\Eu K eh f)(h5:mg "NoCredit"=some (.ref jW))(h6:gN K jW eh)(h7:PySem.W.keepIn K (.ref jW)=true)(h8: ∃f fd,fY K "__init__" "NoCredit.__init__" (mem 4 0) f fd/\PySem.W.findIn K (.ref jW) "__init__"=some (some (.ref f))/\PySem.W.typeIn K (.ref f)=some (.type "function"))(h9:mg "NoBill"=some (.ref nG))(JZ:gN K nG eh)(Vb:PySem.W.keepIn K (.ref nG)=true)(Pj: ∃f fd,fY K "__init__" "NoBill.__init__" (mem 5 0) f fd/\PySem.W.findIn K (.ref nG) "__init__"=some (some (.ref f))/\PySem.W.typeIn K (.ref f)=some (.type "function"))(h13:mg "NotTheirs"=some (.ref i8))(h14:gN K i8 eh)(US:PySem.W.keepIn K (.ref i8)=true)(h16: ∃f fd,fY K "__init__" "NotTheirs.__init__" (mem 6 0) f fd/\PySem.W.findIn K (.ref i8) "__init__"=some (some (.ref f))/\PySem.W.typeIn K (.ref f)=some (.type "function"))(h17:mg "NoAmount"=some (.ref jX))(h18:gN K jX eh)(h19:PySem.W.keepIn K (.ref jX)=true)(h20: ∃f fd,fY K "__init__" "NoAmount.__init__" (mem 7 0) f fd/\PySem.W.findIn K (.ref jX) "__init__"=some (some (.ref f))/\PySem.W.typeIn K (.ref f)=some (.type "function"))(h21:mg "TooEarly"=some (.ref jY))(h22:gN K jY eh)(h23:PySem.W.keepIn K (.ref jY)=true)(VI: ∃f fd,fY K "__init__" "TooEarly.__init__" (mem 8 0) f fd/\PySem.W.findIn K (.ref jY) "__init__"=some (some (.ref f))/\PySem.W.typeIn K (.ref f)=some (.type "function"))(h25:mg "TooMuch"=some (.ref lB))(h26:gN K lB eh)(h27:PySem.W.keepIn K (.ref lB)=true)(h28: ∃f fd,fY K "__init__" "TooMuch.__init__" (mem 9 0) f fd/\PySem.W.findIn K (.ref lB) "__init__"=some (some (.ref f))/\PySem.W.typeIn K (.ref f)=some (.type "function"))(h29:mg "NoSetting"=some (.ref i9))(YY:gN K i9 eh)(h31:PySem.W.keepIn K (.ref i9)=true)(h32: ∃f fd,fY K "__init__" "NoSetting.__init__" (mem 10 0) f fd/\PySem.W.findIn K (.ref i9) "__init__"=some (some (.ref f))/\PySem.W.typeIn K (.ref f)=some (.type "function"))(h33:mg "Needed"=some (.ref nH))(VJ:gN K nH eh)(h35:PySem.W.keepIn K (.ref nH)=true)(h36: ∃f fd,fY K "__init__" "Needed.__init__" (mem 11 0) f fd/\PySem.W.findIn K (.ref nH) "__init__"=some (some (.ref f))/\PySem.W.typeIn K (.ref f)=some (.type "function"))(h37:mg "Bill"=some (.ref l0))(h38:wc K l0)(h39:b0 K l0 "number")(h40:b0 K l0 "who")(h41:b0 K l0 "day")(h42:b0 K l0 "due")(h43:b0 K l0 "amount")(h44: ∃f fd,fY K "__init__" "Bill.__init__" (mem 13 0) f fd/\Mk K l0 f)(h45:mg "Credit"=some (.ref iz))(h46:wc K iz)(h47:b0 K iz "number")(h48:b0 K iz "who")(h49:b0 K iz "day")(h50:b0 K iz "amount")(h51:b0 K iz "only")(h52: ∃f fd,fY K "__init__" "Credit.__init__" (mem 14 0) f fd/\Mk K iz f)(h53:mg "Work"=some (.ref fL))(VL:wc K fL)(h55:b0 K fL "bills")(h56:b0 K fL "all_credits")(h57:b0 K fL "lefts")(h58:b0 K fL "frees")(h59:b0 K fL "made")(h60: ∃f fd,fY K "__init__" "Work.__init__" (mem 25 0) f fd/\Mk K fL f)(h61: ∃f fd,fY K "tell_bill" "Work.tell_bill" (mem 25 1) f fd/\Meth K fL "tell_bill" f)(h62: ∃f fd,fY K "tell_payment" "Work.tell_payment" (mem 25 2) f fd/\Meth K fL "tell_payment" f)(h63: ∃f fd,fY K "tell_note" "Work.tell_note" (mem 25 3) f fd/\Meth K fL "tell_note" f)(Cs: ∃f fd,fY K "tell_credit" "Work.tell_credit" (mem 25 4) f fd/\Meth K fL "tell_credit" f)(h65: ∃f fd,fY K "set_by_hand" "Work.set_by_hand" (mem 25 5) f fd/\Meth K fL "set_by_hand" f)(h66: ∃f fd,fY K "sweep" "Work.sweep" (mem 25 6) f fd/\Meth K fL "sweep" f)(h67: ∃f fd,fY K "one_round" "Work.one_round" (mem 25 7) f fd/\Meth K fL "one_round" f)(h68: ∃f fd,fY K "put" "Work.put" (mem 25 8) f fd/\Meth K fL "put" f)(h69: ∃f fd,fY K "credit_at" "Work.credit_at" (mem 25 9) f fd/\Meth K fL "credit_at" f)(h70: ∃f fd,fY K "bill_at" "Work.bill_at" (mem 25 10) f fd/\Meth K fL "bill_at" f)(h71:mg "Book"=some (.ref l4))(h72:wc K l4)(h73:b0 K l4 "kept")(h74:b0 K l4 "work")(h75: ∃f fd,fY K "__init__" "Book.__init__" (mem 29 0) f fd/\Mk K l4 f)(h76: ∃f fd,fY K "do" "Book.do" (mem 29 1) f fd/\Meth K l4 "do" f)(h77: ∃f fd,fY K "undo" "Book.undo" (mem 29 2) f fd/\Meth K l4 "undo" f)(h78: ∃f fd,fY K "in_force" "Book.in_force" (mem 29 3) f fd/\Meth K l4 "in_force" f):jn K mg ⟨l0,iz,fL,l4,eh,jW,nG,i8,jX,jY,lB,i9,nH⟩:=⟨h1,h2,h3,h4,h5,h6,h7,h8,h9,JZ,Vb,Pj,h13,h14,US,h16,h17,h18,h19,h20,h21,h22,h23,VI,h25,h26,h27,h28,h29,YY,h31,h32,h33,VJ,h35,h36,h37,h38,h39,h40,h41,h42,h43,h44,h45,h46,h47,h48,h49,h50,h51,h52,h53,VL,h55,h56,h57,h58,h59,h60,h61,h62,h63,Cs,h65,h66,h67,h68,h69,h70,h71,h72,h73,h74,h75,h76,h77,h78⟩
theorem all_mk {l:PySem.W.OpenLaw}{w:World}{K:PySem.W.Frag}{h:Heap}{mg:Str->Option Value}{f fa:Addr}{oc kV dc pm cd ct:Value}{od an:Option Addr}{sl:Array (Option Value)}(X:K.In h)(G:h.Ns mainGlobals mg)(hfa:mg "law"=some (.ref fa)){A:dQ}(GP:jn K mg A)(hnd:A.iS≠A.tooMuch)(T:Txt K mg)(DB:pU K mg "bills_in_order" (top 17) 249/\ ∃c,PySem.W.codeHdIn K c 249=true/\K.lookup 249=none)(DC:pU K mg "credits_in_order" (top 18) 254/\ ∃c,PySem.W.codeHdIn K c 254=true/\K.lookup 254=none)(a:PySem.W.nsIn K mainGlobals "law"=some (some (.ref f)))(lk:MK K f "law" "law" (top 66) oc od an kV dc pm cd ct sl)(c:PySem.W.codeIn K cd "law"=true)(k:PySem.W.keepIn K (.ref f)=true):
  ∃(fd:FuncData) (cps:List (Addr×Addr)),(∀cp∈cps,cp.2∈[254,249])/\(∀cp∈cps,PySem.W.codeHdIn K cp.1 cp.2=true/\K.lookup cp.2=none)/\(∀(s:Shared) (u:Value),BindsTo s fd ⟨[u],[]⟩ [("_law_script",u)])/\
   ∀base:Heap,K.In base->base.Ns mainGlobals mg->BMain mg base->lI l.prog w K mg base rJ 13 fa fd ["_law_script"] (JS K cps):=by
 have e:=hfa.symm.trans (cV X G a)
 cases e
 obtain⟨DB,cb,b1,b2⟩:=DB
 obtain⟨DC,cc,c1,c2⟩:=DC
 refine⟨_,[(cb,249),(cc,254)],fun cp hc=>?_,fun cp hc=>?_,fun s v=> .of_eq rfl,fun base KB _ BM=>OY (o6 (st:=top 66) lk c k) T GP DB DC (by decide) hnd KB BM ⟨cb,by simp⟩ ⟨cc,by simp⟩⟩
 ·simp only[List.mem_cons,List.not_mem_nil,or_false] at hc
  rcases hc with rfl|rfl <;> simp
 ·simp only[List.mem_cons,List.not_mem_nil,or_false] at hc
  rcases hc with rfl|rfl
  ·exact⟨b1,b2⟩
  ·exact⟨c1,c2⟩
end eE
open PySem PySem.W PyProof.Rows L2
set_option maxRecDepth 100000 in
set_option maxHeartbeats 0 in
theorem PySem.Challenge.cw_spikebook_k04_answers_holds : PySem.Challenge.rw_spikebook_k04_answers.Holds := by
 w_on; o_law; k_head; (case hw=>w_witness2)
 k_fill
 refine L2.IH (n:=63) (k:=13) (ts:=[254,249]) (x:="_law_script") (sp:=fun K cps=>eE.JS K cps) rfl (by decide) rfl ⟨rfl,by decide,by decide⟩ (fun w h Y=>⟨PySem.W.km_in_of Y,PySem.W.km_tabs_of Y⟩) ?F (fun _ cps _ a ns hl hO hS=>⟨a,ns,rfl,hS,hl,hO,fun _=>rfl⟩)
 case F=>
  intro w mg fa h KX G QG
  refine' eE.all_mk KX G QG (eE.O6 (cV KX G ?q1) (eE.O5 ?q2 ?q3 ?q4 ?q5 ?q6) ?q7 (eE.O4 ?q8 ?q9 ?q10 ?q11 ?q12 ?q13) (cV KX G ?q14) (eE.sY ?q15 ?q16 ?q17 ?q18 ?q19) ?q20 (eE.sX ?q21 ?q22 ?q23 ?q24 ?q25) (cV KX G ?q26) (eE.sY ?q27 ?q28 ?q29 ?q30 ?q31) ?q32 (eE.sX ?q33 ?q34 ?q35 ?q36 ?q37) (cV KX G ?q38) (eE.sY ?q39 ?q40 ?q41 ?q42 ?q43) ?q44 (eE.sX ?q45 ?q46 ?q47 ?q48 ?q49) (cV KX G ?q50) (eE.sY ?q51 ?q52 ?q53 ?q54 ?q55) ?q56 (eE.sX ?q57 ?q58 ?q59 ?q60 ?q61) (cV KX G ?q62) (eE.sY ?q63 ?q64 ?q65 ?q66 ?q67) ?q68 (eE.sX ?q69 ?q70 ?q71 ?q72 ?q73) (cV KX G ?q74) (eE.sY ?q75 ?q76 ?q77 ?q78 ?q79) ?q80 (eE.sX ?q81 ?q82 ?q83 ?q84 ?q85) (cV KX G ?q86) (eE.sY ?q87 ?q88 ?q89 ?q90 ?q91) ?q92 (eE.sX ?q93 ?q94 ?q95 ?q96 ?q97) (cV KX G ?q98) (eE.sY ?q99 ?q100 ?q101 ?q102 ?q103) ?q104 (eE.sX ?q105 ?q106 ?q107 ?q108 ?q109) (cV KX G ?q110) ⟨?q111,?q112,?q113,?q114⟩ ?q115 ?q116 ?q117 ?q118 ?q119 (eE.E5 ?q120 ?q121 ?q122 ?q123 ?q124 ?q125 ?q126) (cV KX G ?q127) ⟨?q128,?q129,?q130,?q131⟩ ?q132 ?q133 ?q134 ?q135 ?q136 (eE.E5 ?q137 ?q138 ?q139 ?q140 ?q141 ?q142 ?q143) (cV KX G ?q144) ⟨?q145,?q146,?q147,?q148⟩ ?q149 ?q150 ?q151 ?q152 ?q153 (eE.E5 ?q154 ?q155 ?q156 ?q157 ?q158 ?q159 ?q160) (eE.lA ?q161 ?q162 ?q163 ?q164 ?q165) (eE.lA ?q166 ?q167 ?q168 ?q169 ?q170) (eE.lA ?q171 ?q172 ?q173 ?q174 ?q175) (eE.lA ?q176 ?q177 ?q178 ?q179 ?q180) (eE.lA ?q181 ?q182 ?q183 ?q184 ?q185) (eE.lA ?q186 ?q187 ?q188 ?q189 ?q190) (eE.lA ?q191 ?q192 ?q193 ?q194 ?q195) (eE.lA ?q196 ?q197 ?q198 ?q199 ?q200) (eE.lA ?q201 ?q202 ?q203 ?q204 ?q205) (eE.lA ?q206 ?q207 ?q208 ?q209 ?q210) (cV KX G ?q211) ⟨?q212,?q213,?q214,?q215⟩ ?q216 ?q217 (eE.E5 ?q218 ?q219 ?q220 ?q221 ?q222 ?q223 ?q224) (eE.lA ?q225 ?q226 ?q227 ?q228 ?q229) (eE.lA ?q230 ?q231 ?q232 ?q233 ?q234) (eE.lA ?q235 ?q236 ?q237 ?q238 ?q239)) ?hnd ⟨eE.cM KX G ?q240 ?q241 ?q242 ?q243,eE.cM KX G ?q244 ?q245 ?q246 ?q247,eE.cM KX G ?q248 ?q249 ?q250 ?q251,eE.cM KX G ?q252 ?q253 ?q254 ?q255,eE.cM KX G ?q256 ?q257 ?q258 ?q259,eE.cM KX G ?q260 ?q261 ?q262 ?q263,eE.cM KX G ?q264 ?q265 ?q266 ?q267,eE.cM KX G ?q268 ?q269 ?q270 ?q271,eE.cM KX G ?q272 ?q273 ?q274 ?q275,eE.cM KX G ?q276 ?q277 ?q278 ?q279,eE.cM KX G ?q280 ?q281 ?q282 ?q283,eE.cM KX G ?q284 ?q285 ?q286 ?q287,eE.cM KX G ?q288 ?q289 ?q290 ?q291,eE.cM KX G ?q292 ?q293 ?q294 ?q295,eE.cM KX G ?q296 ?q297 ?q298 ?q299,eE.cM KX G ?q300 ?q301 ?q302 ?q303,eE.cM KX G ?q304 ?q305 ?q306 ?q307,eE.cM KX G ?q308 ?q309 ?q310 ?q311,eE.cM KX G ?q312 ?q313 ?q314 ?q315,eE.cM KX G ?q316 ?q317 ?q318 ?q319,eE.cM KX G ?q320 ?q321 ?q322 ?q323,eE.cM KX G ?q324 ?q325 ?q326 ?q327,eE.cM KX G ?q328 ?q329 ?q330 ?q331,eE.cM KX G ?q332 ?q333 ?q334 ?q335,eE.cM KX G ?q336 ?q337 ?q338 ?q339,eE.cM KX G ?q340 ?q341 ?q342 ?q343,eE.cM KX G ?q344 ?q345 ?q346 ?q347,eE.cM KX G ?q348 ?q349 ?q350 ?q351,eE.cM KX G ?q352 ?q353 ?q354 ?q355,eE.cM KX G ?q356 ?q357 ?q358 ?q359,eE.cM KX G ?q360 ?q361 ?q362 ?q363,eE.cM KX G ?q364 ?q365 ?q366 ?q367,eE.cM KX G ?q368 ?q369 ?q370 ?q371,eE.cM KX G ?q372 ?q373 ?q374 ?q375,eE.cM KX G ?q376 ?q377 ?q378 ?q379,eE.cM KX G ?q380 ?q381 ?q382 ?q383,eE.cM KX G ?q384 ?q385 ?q386 ?q387,eE.cM KX G ?q388 ?q389 ?q390 ?q391,eE.cM KX G ?q392 ?q393 ?q394 ?q395,eE.cM KX G ?q396 ?q397 ?q398 ?q399,eE.cM KX G ?q400 ?q401 ?q402 ?q403,eE.cM KX G ?q404 ?q405 ?q406 ?q407,eE.cM KX G ?q408 ?q409 ?q410 ?q411,eE.cM KX G ?q412 ?q413 ?q414 ?q415,eE.cM KX G ?q416 ?q417 ?q418 ?q419,eE.cM KX G ?q420 ?q421 ?q422 ?q423,bU KX G ?q424,bU KX G ?q425,bU KX G ?q426,bU KX G ?q427,bU KX G ?q428,bU KX G ?q429,bU KX G ?q430,bU KX G ?q431,bU KX G ?q432,bU KX G ?q433,bU KX G ?q434,bU KX G ?q435,bU KX G ?q436,bU KX G ?q437,bU KX G ?q438⟩ (eE.ML KX G ?q439 ?q440 ?q441 ?q442 ?u1 ?u2) (eE.ML KX G ?q443 ?q444 ?q445 ?q446 ?u3 ?u4) ?q447 ?q448 ?q449 ?q450
  case q1|q2|q3|q4|q5|q6|q7|q8|q9|q10|q11|q12|q13|q14|q15|q16|q17|q18|q19|q20|q21|q22|q23|q24|q25|q26|q27|q28|q29|q30|q31|q32|q33|q34|q35|q36|q37|q38|q39|q40|q41|q42|q43|q44|q45|q46|q47|q48|q49|q50|q51|q52|q53|q54|q55|q56|q57|q58|q59|q60|q61|q62|q63|q64|q65|q66|q67|q68|q69|q70|q71|q72|q73|q74|q75|q76|q77|q78|q79|q80|q81|q82|q83|q84|q85|q86|q87|q88|q89|q90|q91|q92|q93|q94|q95|q96|q97|q98|q99|q100|q101|q102|q103|q104|q105|q106|q107|q108|q109|q110|q111|q112|q113|q114|q115|q116|q117|q118|q119|q120|q121|q122|q123|q124|q125|q126|q127|q128|q129|q130|q131|q132|q133|q134|q135|q136|q137|q138|q139|q140|q141|q142|q143|q144|q145|q146|q147|q148|q149|q150|q151|q152|q153|q154|q155|q156|q157|q158|q159|q160|q161|q162|q163|q164|q165|q166|q167|q168|q169|q170|q171|q172|q173|q174|q175|q176|q177|q178|q179|q180|q181|q182|q183|q184|q185|q186|q187|q188|q189|q190|q191|q192|q193|q194|q195|q196|q197|q198|q199|q200|q201|q202|q203|q204|q205|q206|q207|q208|q209|q210|q211|q212|q213|q214|q215|q216|q217|q218|q219|q220|q221|q222|q223|q224|q225|q226|q227|q228|q229|q230|q231|q232|q233|q234|q235|q236|q237|q238|q239|q240|q241|q242|q243|q244|q245|q246|q247|q248|q249|q250|q251|q252|q253|q254|q255|q256|q257|q258|q259|q260|q261|q262|q263|q264|q265|q266|q267|q268|q269|q270|q271|q272|q273|q274|q275|q276|q277|q278|q279|q280|q281|q282|q283|q284|q285|q286|q287|q288|q289|q290|q291|q292|q293|q294|q295|q296|q297|q298|q299|q300|q301|q302|q303|q304|q305|q306|q307|q308|q309|q310|q311|q312|q313|q314|q315|q316|q317|q318|q319|q320|q321|q322|q323|q324|q325|q326|q327|q328|q329|q330|q331|q332|q333|q334|q335|q336|q337|q338|q339|q340|q341|q342|q343|q344|q345|q346|q347|q348|q349|q350|q351|q352|q353|q354|q355|q356|q357|q358|q359|q360|q361|q362|q363|q364|q365|q366|q367|q368|q369|q370|q371|q372|q373|q374|q375|q376|q377|q378|q379|q380|q381|q382|q383|q384|q385|q386|q387|q388|q389|q390|q391|q392|q393|q394|q395|q396|q397|q398|q399|q400|q401|q402|q403|q404|q405|q406|q407|q408|q409|q410|q411|q412|q413|q414|q415|q416|q417|q418|q419|q420|q421|q422|q423|q424|q425|q426|q427|q428|q429|q430|q431|q432|q433|q434|q435|q436|q437|q438|q439|q440|q441|q442|q443|q444|q445|q446|q447|q448|q449|q450=>((try unfold eE.MK); (try unfold L2.b0); k_is)
  (case hnd=>decide)
  (case u1=>kernel_rfl)
  (case u2=>kernel_rfl)
  (case u3=>kernel_rfl)
  (case u4=>kernel_rfl)
