import PyProof.Rows.All
import Wide.All
import OpenK.AllK
import Wide.FinOn
import Lean
import PyProof.EqAt
import PyProof.EqKinds
import PyProof.TupleCall
import PySem.Str
import PyProof.StationsW
import PyProof.PassesOwn
import PyProof.RulesAs
import PyProof.ExcClass2
import PyProof.InstStore
import PyProof.ExcArgs
import PyProof.ExcClass
import PyProof.InstStoreFacts
import PyProof.ExcBaseAll.Exception
import PyProof.ExcAttrAll.Exception
import PyProof.DictValues
import PyProof.DictWalks
import PySem.Challenge.RW_spikebook_k08_whole_sweeps_leave_nothing
set_option Elab.async false
set_option linter.all false
set_option maxRecDepth 100000
set_option maxHeartbeats 4000000
def ae:=@List.length_map
def af:=@List.getElem?_eq_getElem
def ah:=@List.getElem?_eq_some_iff
def ak:=@List.getD_eq_getElem?_getD
def ao:=@List.mem_singleton
def au:=@List.mem_cons
def ax:=@List.length_append
def ay:=@PySem.Heap.get?_push_of_some
def aB:=@PySem.wpAny_bind
def aC:=@List.getElem?_map
def aD:=@Nat.le_refl
def aG:=@Option.some.inj
def aI:=@List.mem_cons_of_mem
def aK:=@decide_eq_true
def aL:=@List.map_append
def aM:=@PySem.Heap.lt_size
def aN:=@if_neg
def aO:=@PySem.Paired.length
def aS:=@List.mem_cons_self
def aV:=@Nat.le_trans
def aW:=@List.length_filter_le
def aX:=@Bool.false_ne_true
def aY:=@if_pos
def aZ:=@List.take_length
def a6:=@of_decide_eq_true
def a7:=@Nat.ne_of_lt
def a8:=@Option.map_eq_some_iff
def ba:=@List.length_take
def bc:=@List.mem_append
def bo:=@Nat.lt_of_lt_of_le
def bq:=@Nat.zero_le
def bw:=@List.mem_append_right
def bz:=@PySem.wpAny_loadPart_at
def bA:=@List.size_toArray
def bB:=@PySem.PassesOwn.never
def bF:=@PySem.wpAny_pure
def bH:=@List.getElem_mem
def bJ:=@List.mem_map
def bL:=@decide_eq_false
def bO:=@List.length_cons
def bR:=@PySem.Heap.get?_push_size
def bY:=@PySem.W.mg_none_of
def b0:=@List.append_assoc
def cg:=@List.append_nil
def ck:=@PySem.mem_of_lookup
def cm:=@PySem.wpAny_mono
def cw:=@PySem.Paired.snoc
def cB:=@List.foldl_cons
def cD:=@Int.eq_ofNat_of_zero_le
def cL:=@Nat.le_of_lt
def cO:=@List.map_cons
def cQ:=@List.filter_cons_of_pos
def cV:=@congrArg
def cW:=@Int.toNat_natCast
def cX:=@PySem.wpAny_isSubtype_exc
def cZ:=@List.mem_append_left
def c8:=@Nat.le_succ
def de:=@PySem.W.mg_of
def dB:=@List.replicate_succ
def dF:=@List.length_range
def dN:=@List.nodup_cons
def dO:=@List.mem_range
def dW:=@PySem.wpAny_passesOwn
def en:=@List.mem_filter
def eu:=@PySem.W.kia_one
def ez:=@PySem.W.kia_tup
def eA:=@Nat.not_lt_zero
def eD:=@List.mem_of_getElem?
def eE:=@PyProof.Rows.boot_isinstance
def eU:=@PySem.sizeLine_eq
def eV:=@PySem.wpAny_Call_Name_kw
def fm:=@List.length_set
def fq:=@List.map_map
def fB:=@List.pairwise_cons
def fX:=@Int.le_refl
def fY:=@List.map_congr_left
def gi:=@PySem.wpAny_truthy_bool
def gj:=@List.getElem?_append_right
def gr:=@Nat.lt_succ_self
def gw:=@List.filter_append
def gZ:=@PyProof.Rows.take_snoc
def hJ:=@beq_eq_false_iff_ne
def ig:=@List.length_drop
def iF:=@PySem.wpAny_holding
def iG:=@PySem.wpAny_standAt
def iV:=@Nat.le_of_eq
def iW:=@List.length_replicate
def i0:=@Nat.lt_irrefl
def i6:=@PySem.Calls.callWith_builtin
def i7:=@List.flatten_cons
def i8:=@Nat.lt_succ_of_lt
def i9:=@List.filter_congr
def jl:=@List.getElem?_of_mem
def jz:=@PySem.wpAny_execs_nil
def jA:=@List.getElem?_append_left
def jB:=@List.drop_eq_getElem_cons
def jT:=@Int.zero_add
def kG:=@PySem.W.callWith_K
def kH:=@List.filter_cons_of_neg
def kI:=@Int.emod_nonneg
def lE:=@List.getElem?_set_self
def lF:=@PySem.W.cellsFrom_some
def lG:=@List.foldl_append
def ma:=@List.getElem?_eq_none
def md:=@Int.le_trans
def mV:=@decide_eq_decide
def m8:=@List.getElem?_set_ne
def m9:=@PySem.Heap.get?_update_other
def nj:=@PySem.Heap.get?_push_ne
def oH:=@PySem.Heap.size_push
def oV:=@PyProof.Rows.callWith_type1
def oW:=@Bool.eq_iff_iff
def oX:=@List.of_mem_zip
def oY:=@Option.map_some
def oZ:=@Array.length_toList
def o4:=@Nat.min_eq_left
def pY:=@PySem.Heap.size_update
def qG:=@Nat.ne_of_gt
def qH:=@List.map_nil
def qI:=@Nat.lt_of_le_of_lt
def qJ:=@List.filter_filter
def qK:=@Int.emod_lt_of_pos
def qO:=@List.getElem?_eq_none_iff
def qP:=@Nat.mul_le_mul
def sj:=@List.any_eq_false
def sk:=@PySem.W.kitx_list
def sm:=@PySem.W.kitx_dict
def sq:=@List.pairwise_map
def su:=@Nat.le_succ_of_le
def sx:=@PySem.Heap.SameBut.update
def sy:=@Array.size_setIfInBounds
def uf:=@PySem.wpAny_newFunctionEnv_cells
def ug:=@List.any_cons
def uw:=@PySem.tupleKind_room_in1
def ux:=@List.nodup_range
def wN:=@PyProof.Rows.listUpdate_at
def wQ:=@Ne.symm
def wR:=@PySem.W.methodCall_KW
def wU:=@Nat.succ_mul
def wV:=@List.length_nil
def wW:=@List.range_succ
def yc:=@Nat.not_lt
def A5:=@List.take_succ
def Bb:=@PySem.W.plainGet_of
def Bc:=@PySem.W.callWith_K0
def Bd:=@List.toList_toArray
def Dw:=@PySem.codeAny_mono
def Dx:=@PySem.Heap.get?_update_self
def Dy:=@Bool.true_and
def EL:=@PySem.wpAny_call
def Gb:=@beq_iff_eq
def Gd:=@PySem.Calls.evalArgs_plain
def Ge:=@Option.isSome_map
def Gf:=@List.take_add_one
def Gg:=@Classical.not_not
def Gh:=@PySem.codeAny_call_builtin
def IC:=@Bool.and_eq_true
def ID:=@PySem.Heap.get?_update_ne
def IE:=@PySem.wpAny_field
def IF:=@List.drop_append_of_le_length
def Lu:=@List.nil_append
def Lv:=@Array.getD_eq_getD_getElem?
def Lw:=@Array.Perm.refl
def Lx:=@PySem.wpAny_newList
def Ly:=@List.sum_append
def Lz:=@List.filter_map
def LA:=@List.map_id
def Nx:=@PyProof.Rows.get?_update_seq
def Oi:=@Bool.false_and
def Oj:=@PySem.plainObj_wpAny_Assign_Attribute
def Ol:=@List.Perm.refl
def Om:=@List.mem_of_find?_eq_some
def Oo:=@PySem.F.excBase_Exception
def Oq:=@List.drop_zero
def Q4:=@Option.isSome_iff_exists
def Q5:=@PySem.F.slot_dict_values
open PySem.W (Frag findIn keepIn typeIn fnOf nsIn codeIn codeHdIn mg_of mg_none_of specialIn readsIn findCls makesIn hasDictIn plainGet plainOver)
namespace PySem.W.Fast
def tw9567987829301854895:=0
def tw8230581006843457012:=0
def tw18227799062356370304:=0
def tw14858374632897321975:=0
def tw5490013497287404710:=0
def tw363479250043176761:=0
def tw15756870923459971580:=0
def tw14577110460226252826:=0
def tw4804065119053609745:=0
def tw14642464251809910141:=0
def tw4233866474574556013:=0
def tw9032878829397794003:=0
def tw1159980363716687033:=0
def tw639200928272554444:=0
def tw8572220479460860544:=0
def tw6856505536952537455:=0
def tw2066416011148031945:=0
def tw16832860283370918622:=0
def tw14886203047869760025:=0
def tw10931122604184762955:=0
def tw1236917435635472706:=0
def tw11676170516686157739:=0
def tw16616209447720207014:=0
def tw10569749670898003886:=0
def tw18138841941826146423:=0
def tw8261617326843596411:=0
def tw3941415787221405750:=0
def tw15909880296236735846:=0
def tw10947718832315525348:=0
def tw13633357532258997585:=0
def tw7733591473445688055:=0
def tw3915582705684622950:=0
def tw661284459045563286:=0
def tw2947443691388051396:=0
def tw11144357159307230741:=0
def tw10486940804836628333:=0
def tw17011017117878534287:=0
def tw14694097360771020802:=0
def tw14095013535499798434:=0
def tw7440749085262000113:=0
def tw3302588003080052228:=0
def tw17208679405346425233:=0
def tw15622540550076855561:=0
def tw448536923130276685:=0
def tw3976919220042638307:=0
def tw4825168219599175142:=0
def tw430441341167916773:=0
def tw5227981881199589252:=0
def tw15973968283339267333:=0
def tw9905505434210236223:=0
def tw13272122697593582658:=0
def tw2506242935943604641:=0
def tw1071365266602649851:=0
def tw3069966827149628610:=0
def tw7656254056497612230:=0
def tw1286273230872942431:=0
def tw4754184807659042892:=0
def tw13806656801319554894:=0
def tw248882797572917771:=0
def tw1343577154067944705:=0
def tw2299481084955609416:=0
def tw6594875160832135131:=0
def tw5636023165328450006:=0
def tw15898717312713485142:=0
def tw14285779311214747043:=0
def tw13629872599553807962:=0
def tw4359042010226420624:=0
def tw5501100153117501038:=0
def tw3036580293756805045:=0
def tw14067189716887265268:=0
def tw7200981023327892561:=0
def tw8327486544569140510:=0
def tw6885755510229499345:=0
def tw4814844371221198986:=0
def tw15265864487963115074:=0
def tw9005308118096817639:=0
def tw14226519319453462178:=0
def tw10763129886347267922:=0
def tw9068343791683737706:=0
def tw16721589416764506486:=0
def tw11682640529011131584:=0
def tw12831295314214413680:=0
def tw5848334394533845045:=0
def tw2215109715699980656:=0
def tw10419206261129696117:=0
def tw7274497343539537667:=0
def tw16054945394841856489:=0
def tw8664501872635970799:=0
def tw10601508754395995598:=0
def tw12783478243308330420:=0
def tw2141552182926063645:=0
def tw4236152476831941402:=0
def tw18393409192985145217:=0
def tw17509068983583903590:=0
def tw9141215641139890467:=0
def tw16501207166983517860:=0
def tw5340301114665281664:=0
def tw11350450796548657288:=0
def tw14463431821193851693:=0
def tw7976465651156537049:=0
def tw7542795821791661801:=0
def tw9326006661488456796:=0
def tw699280942646307702:=0
def tw13696878871308963892:=0
def tw720657138602257906:=0
def tw2507335168698417223:=0
def tw864007222917459018:=0
def tw17059929180813353439:=0
def tw10438076805612629220:=0
def tw3990545823143913806:=0
def tw15401361141673831149:=0
def tw10698692475314867950:=0
def tw17345870631291419630:=0
def tw13941699731319743917:=0
def tw1909514251893697338:=0
def tw14985662884764316685:=0
def tw7699156410551638477:=0
def tw11143651240622519931:=0
def tw4522550766548622064:=0
def tw4226331109076463732:=0
def tw1883744913451992337:=0
def tw217461992360934649:=0
def tw4535085029979334795:=0
def tw17081560022122663579:=0
def tw8868999574640064787:=0
def tw2793328905559790985:=0
def tw7766632076707281370:=0
def tw3896622048514318116:=0
def tw8420117093827671828:=0
def tw7738260953333392577:=0
def tw3160430149557653562:=0
def tw10813452049339555762:=0
def tw3771446734224193333:=0
def tw15169010290640253720:=0
def tw5428988335747446288:=0
def tw8534175989323714995:=0
def tw7709019066165065327:=0
def tw1147832546591045606:=0
def tw5360750790946392810:=0
def tw11193002099442115479:=0
def tw13891326698128560840:=0
def tw14256376147967595896:=0
def tw12074432224820699721:=0
def tw5444759767430757638:=0
def tw2698804092487890650:=0
def tw5343980359102840785:=0
end PySem.W.Fast
namespace L2
open PySem PySem.Spec PyProof.Rows
abbrev Key:=Sum Int Str
def yd:Key->Value->Bool
 | .inl k,v=>Value.isInt k v
 | .inr x,v=>Value.isStrOf x v
def WL (w:World):Key->Int
 | .inl k=>hashInt k
 | .inr x=>hashStr w x
theorem fF: ∀{k:Key} {v:Value},yd k v=true->(∃i t,k=Sum.inl i/\v=Value.int i t)∨(∃x t,k=Sum.inr x/\v=Value.str x t)
 | .inl i,v,h=>by
  obtain⟨t,e⟩:=Value.isInt_shape (k:=i) (v:=v) h
  exact .inl ⟨i,t,rfl,e⟩
 | .inr x,v,h=>by
  obtain⟨t,e⟩:=Value.isStrOf_shape (x:=x) (v:=v) h
  exact .inr ⟨x,t,rfl,e⟩
theorem Gi (i:Int)(t:Tok):yd (.inl i) (.int i t)=true:=by simp[yd,Value.isInt]
theorem Gj (x:Str)(t:Tok):yd (.inr x) (.str x t)=true:=by simp[yd,Value.isStrOf]
theorem Ot (a b:Int):decide ((Sum.inl a:Key)=Sum.inl b)=(a == b):=by
 by_cases e:a=b
 ·subst e; simp
 ·have h: ¬ (Sum.inl a:Key)=Sum.inl b:=fun q=>e (Sum.inl.inj q)
  rw[bL h]
  exact(hJ.mpr e).symm
theorem Ou (a b:Str):decide ((Sum.inr a:Key)=Sum.inr b)=decide (a=b):=by
 by_cases e:a=b
 ·subst e; simp
 ·have h: ¬ (Sum.inr a:Key)=Sum.inr b:=fun q=>e (Sum.inr.inj q)
  rw[bL h,bL e]
theorem Ov (a:Int)(b:Str):decide ((Sum.inl a:Key)=Sum.inr b)=false:=bL (fun q=>nomatch q)
theorem Ow (a:Str)(b:Int):decide ((Sum.inr a:Key)=Sum.inl b)=false:=bL (fun q=>nomatch q)
def dZ (prog:Program)(w:World):PySem.KeyKind prog w Key where
 is:=yd
 hash:=WL w
 inj:=fun v a b ha hb=>by
  rcases fF ha with⟨i,t,rfl,rfl⟩|⟨x,t,rfl,rfl⟩
  ·rcases fF hb with⟨j,u,rfl,e⟩|⟨y,u,rfl,e⟩
   ·injection e with e1 _; rw[e1]
   ·exact nomatch e
  ·rcases fF hb with⟨j,u,rfl,e⟩|⟨y,u,rfl,e⟩
   ·exact nomatch e
   ·injection e with e1 _; rw[e1]
 byValue:=fun k v h=>by
  rcases fF h with⟨i,t,rfl,rfl⟩|⟨x,t,rfl,rfl⟩ <;> rfl
 pyHash:=fun hv h=>by
  rcases fF hv with⟨i,t,rfl,rfl⟩|⟨x,t,rfl,rfl⟩
  ·exact wpAny_pyHash_int h
  ·exact wpAny_pyHash_str h
 eqBool:=fun hu hv h=>by
  rcases fF hu with⟨i,t,rfl,rfl⟩|⟨x,t,rfl,rfl⟩
  ·rcases fF hv with⟨j,u,rfl,rfl⟩|⟨y,u,rfl,rfl⟩
   ·rw[Ot] at h; exact wpAny_eqBool_int h
   ·rw[Ov] at h; exact SeqAt.EqAt.int_str i t y u _ _ _ _ h
  ·rcases fF hv with⟨j,u,rfl,rfl⟩|⟨y,u,rfl,rfl⟩
   ·rw[Ow] at h; exact SeqAt.EqAt.str_int x t j u _ _ _ _ h
   ·rw[Ou] at h; exact wpAny_eqBool_str h
 «strs»:=fun k x t v h=>by
  rcases fF h with⟨i,u,rfl,e⟩|⟨y,u,rfl,e⟩
  ·exact nomatch e
  ·injection e with e1 _
   subst e1
   cases v <;> rfl
theorem Be (prog:Program)(w:World)(i:Int)(t:Tok):(dZ prog w).is (.inl i) (.int i t)=true:=Gi i t
theorem Bf (prog:Program)(w:World)(x:Str)(t:Tok):(dZ prog w).is (.inr x) (.str x t)=true:=Gj x t
inductive V where
 |eF|bl (b:Bool)|int (i:Int)|str (x:Str)|Gk (b:Array UInt8)|LB (b:UInt64)|ref (a:Addr)|ty (n:String)
 deriving DecidableEq
def RelV:V->Value->Prop
 | .eF,u=>u=Value.none
 | .bl b,u=>u=Value.bool b
 | .int i,u=> ∃t,u=Value.int i t
 | .str x,u=> ∃t,u=Value.str x t
 | .Gk b,u=> ∃t,u=Value.bytes b t
 | .LB b,u=> ∃t,u=Value.float b t
 | .ref a,u=>u=Value.ref a
 | .ty n,u=>u=Value.type n
abbrev Vals:List V->List Value->Prop:=Paired RelV
theorem Vals.length {xs:List V}{us:List Value}(r:Vals xs us):xs.length=us.length:=aO r
theorem Vals.get: ∀{xs:List V} {us:List Value} {i:Nat} {x:V},Vals xs us->xs[i]? =some x-> ∃u,us[i]? =some u/\RelV x u
 |_,_,_,_,.nil,e=>by simp at e
 |_,_,0,_,.cons r _,e=>by simp at e; subst e; exact⟨_,rfl,r⟩
 |_,_,i + 1,x,.cons _ t,e=>by
  obtain⟨u,h1,h2⟩:=Vals.get (i:=i) (x:=x) t (by simpa using e)
  exact⟨u,by simpa using h1,h2⟩
theorem Vals.set {x:V}{u:Value}(r:RelV x u): ∀{xs:List V} {us:List Value} (i:Nat),Vals xs us->Vals (xs.set i x) (us.set i u)
 |_,_,_,.nil=> .nil
 |_,_,0,.cons _ t=> .cons r t
 |_,_,i + 1,.cons q t=> .cons q (Vals.set r i t)
theorem Vals.append: ∀{xs ys:List V} {us ws:List Value},Vals xs us->Vals ys ws->Vals (xs ++ ys) (us ++ ws)
 |_,_,_,_,.nil,s=>s
 |_,_,_,_,.cons r t,s=> .cons r (Vals.append t s)
theorem Vals.take: ∀{xs:List V} {us:List Value} (n:Nat),Vals xs us->Vals (xs.take n) (us.take n)
 |_,_,0,_=> .nil
 |_,_,_ + 1,.nil=> .nil
 |_,_,n + 1,.cons r t=> .cons r (Vals.take n t)
theorem Vals.drop: ∀{xs:List V} {us:List Value} (n:Nat),Vals xs us->Vals (xs.drop n) (us.drop n)
 |_,_,0,r=>r
 |_,_,_ + 1,.nil=> .nil
 |_,_,n + 1,.cons _ t=>Vals.drop n t
theorem Vals.none_of: ∀{xs:List V} {us:List Value} {i:Nat},Vals xs us->xs[i]? =none->us[i]? =none:=fun{xs us i} r e=>by
 have h1:=r.length
 have h2:xs.length<=i:=qO.mp e
 exact qO.mpr (by lia)
def lH:Option V->Option Value->Prop
 |some v,some u=>RelV v u
 |none,none=>True
 |_,_=>False
def KV {κ:Type}:List (κ×V)->List (κ×Value)->Prop:=Paired fun(p:κ×V) (q:κ×Value)=>p.1=q.1/\RelV p.2 q.2
def kV:Key->V
 | .inl i=> .int i
 | .inr x=> .str x
inductive HO where
 |lst (xs:List V)
 |tup (xs:List V)
 |dK (bh:List (Key×V))|dT (bh:List (List Key×V))
 |set (S:Int->Bool) (n:Nat)
 |ins (C dx:Addr) (fs:List (Str×V))
 |own (x:Addr)
 |xd (fs:List (Str×V))
 |met (f x:Addr)
 |WM (lo hi:Int)
 |Dj (o:Obj) (u:HO)
 |ng (ps:Array Value)
 |ext (φ:Heap->Prop)
abbrev Hp:=Addr->Option HO
def upd (H:Hp)(a:Addr)(o:HO):Hp:=fun b=>if b=a then some o else H b
theorem ag {H:Hp}{a:Addr}{o:HO}:upd H a o a=some o:=by unfold upd; rw[if_pos rfl]
theorem az {H:Hp}{a b:Addr}{o:HO}(h:b≠a):upd H a o b=H b:=by unfold upd; rw[if_neg h]
theorem mM {H:Hp}{a b:Addr}{o u:HO}(h:H a=some o)(h':H b=some u)(d:o≠u):a≠b:=by
 intro e; subst e; rw[h] at h'; exact d (aG h')
theorem aJ {H:Hp}{a b:Addr}{o:HO}(h:H a=some o)(h':H b=none):a≠b:=by
 intro e; subst e; rw[h] at h'; cases h'
section
variable (P:Program)(w:World)
def dH (H:Hp)(h:Heap)(a:Addr):HO->Prop
 | .lst xs=>xs.length<=sizeLine/\ ∃(b9:List Value) (n:Nat),Vals xs b9/\h.get? a=some {cls:= .type "list",data:= .seq b9.toArray n}
 | .tup xs=>xs.length<=sizeLine/\ ∃b9:List Value,Vals xs b9/\IsTup h a b9.toArray
 | .dK bh=>bh.length<=sizeLine/\(a == sysModules)=false/\ ∃vs,KV bh vs/\h.DictOf (dZ P w) a vs
 | .dT bh=>bh.length<=sizeLine/\(a == sysModules)=false/\ ∃xs:List (List Key×Addr×Value),
   Paired (fun(p:List Key×V) (q:List Key×Addr×Value)=>p.1=q.1/\H q.2.1=some (.tup (p.1.map kV))/\RelV p.2 q.2.2) bh xs/\
   ∃o es ep,h.get? a=some o/\o.ExactDict/\o.data= .dict es ep/\es.toList=xs.map (entryOfKey (tupleKind (dZ P w)))/\(xs.map (·.1)).Nodup
 | .set S n=>h.SetOf (intKind P w) a S n
 | .ins C dx fs=>H dx=some (.own a)/\fs.length<=1000/\dx≠a/\h.get? a=some (PySem.W.instObj C dx)/\
   ∃mA,h.Ns1 dx mA/\(∀f,lH (fs.lookup f) (mA f))/\PySem.Within mA (fs.map (·.1))
 | .own _=> ∃o,h.get? a=some o
 | .xd fs=> ∃mA,h.Ns1 a mA/\ ∀f,lH (fs.lookup f) (mA f)
 | .WM lo hi=> ∃t u v,h.get? a=some {cls:= .type "range",data:= .fields #[.int lo t,.int hi u,.int 1 v]}
 | .Dj o u=>h.get? a=some o/\dH H h a u
 | .ng ps=>h.get? a=some {cls:= .none,data:= .fields ps}
 | .met f x=>h.get? a=some (PySem.W.methodObj (.ref f) (.ref x))
 | .ext φ=>φ h/\(∃o,h.get? a=some o)/\ ∀h1 h2:Heap,φ h1->(∀o,h1.get? a=some o->h2.get? a=some o)->φ h2
def o5 (H:Hp)(h:Heap):Prop:= ∀a o,H a=some o->dH P w H h a o
end
section
variable {P:Program}{w:World}{H H':Hp}{h h':Heap}{a:Addr}{o:HO}
theorem dH.lt (x:dH P w H h a o):a < h.objs.size:=by
 cases o with
 |lst xs=>obtain⟨_,_,_,_,e⟩:=x; exact aM e
 |tup xs=>obtain⟨_,_,_,p⟩:=x; exact p.lt
 |dK bh=>obtain⟨_,_,_,_,o,_,_,e,_⟩:=x; exact aM e
 |dT bh=>obtain⟨_,_,_,_,o,_,_,e,_⟩:=x; exact aM e
 |set S n=>obtain⟨o,_,_,_,e,_⟩:=x; exact aM e
 |ins C dx fs=>obtain⟨_,_,_,e,_⟩:=x; exact aM e
 |own y=>obtain⟨_,e⟩:=x; exact aM e
 |xd fs=>obtain⟨_,⟨_,_,_,e,_⟩,_⟩:=x; exact aM e
 |WM lo hi=>obtain⟨_,_,_,e⟩:=x; exact aM e
 |Dj ob u=>obtain⟨e,_⟩:=x; exact aM e
 |ng ps=>exact aM (show h.get? a=some _ from x)
 |met f y=>exact aM (show h.get? a=some _ from x)
 |ext φ=>obtain⟨_,⟨_,e⟩,_⟩:=x; exact aM e
theorem Paired.g8 {α β:Type}{F G:α->β->Prop}: ∀{l₁:List α} {l₂:List β},Paired F l₁ l₂->(∀a b,F a b->G a b)->Paired G l₁ l₂
 |_,_,.nil,_=> .nil
 |_,_,.cons r t,f=> .cons (f _ _ r) (Paired.g8 t f)
theorem dH.uh (x:dH P w H h a o)(k: ∀b u,(b=a∨H b=some (.own a))->h.get? b=some u->h'.get? b=some u)
  (ho: ∀b,H b=some (.own a)->H' b=some (.own a)) (ht: ∀b xs,H b=some (.tup xs)->H' b=some (.tup xs)):dH P w H' h' a o:=by
 induction o with
 |lst xs=>obtain⟨z,b9,n,r,e⟩:=x; exact⟨z,b9,n,r,k _ _ (.inl rfl) e⟩
 |tup xs=>obtain⟨z,b9,r,ob,e,c⟩:=x; exact⟨z,b9,r,ob,k _ _ (.inl rfl) e,c⟩
 |dK bh=>obtain⟨z,y,vs,r,ob,es,ep,e,c⟩:=x; exact⟨z,y,vs,r,ob,es,ep,k _ _ (.inl rfl) e,c⟩
 |dT bh=>
  obtain⟨z,y,xs,r,ob,es,ep,e,c⟩:=x
  exact⟨z,y,xs,Paired.g8 r fun p q z=>⟨z.1,ht _ _ z.2.1,z.2.2⟩,ob,es,ep,k _ _ (.inl rfl) e,c⟩
 |set S n=>obtain⟨ob,es,ep,t,e,c⟩:=x; exact⟨ob,es,ep,t,k _ _ (.inl rfl) e,c⟩
 |ins C dx fs=>
  obtain⟨d,z,ne,e,mA,⟨od,es,ep,e2,c⟩,r⟩:=x
  exact⟨ho _ d,z,ne,k _ _ (.inl rfl) e,mA,⟨od,es,ep,k _ _ (.inr d) e2,c⟩,r⟩
 |own y=>obtain⟨ob,e⟩:=x; exact⟨ob,k _ _ (.inl rfl) e⟩
 |xd fs=>obtain⟨mA,⟨od,es,ep,e,c⟩,r⟩:=x; exact⟨mA,⟨od,es,ep,k _ _ (.inl rfl) e,c⟩,r⟩
 |WM lo hi=>obtain⟨t,u,v,e⟩:=x; exact⟨t,u,v,k _ _ (.inl rfl) e⟩
 |Dj ob u ih=>obtain⟨e,q⟩:=x; exact⟨k _ _ (.inl rfl) e,ih q⟩
 |ng ps=>
  have e:h.get? a=some {cls:= .none,data:= .fields ps}:=x
  show h'.get? a=some {cls:= .none,data:= .fields ps}
  exact k a _ (.inl rfl) e
 |met f y=>
  have e:h.get? a=some (PySem.W.methodObj (.ref f) (.ref y)):=x
  show h'.get? a=some (PySem.W.methodObj (.ref f) (.ref y))
  exact k a _ (.inl rfl) e
 |ext φ=>obtain⟨p,⟨o,e⟩,st⟩:=x; exact⟨st _ _ p fun o q=>k _ _ (.inl rfl) q,⟨o,k _ _ (.inl rfl) e⟩,st⟩
theorem o5.lt (x:o5 P w H h)(e:H a=some o):a < h.objs.size:=(x a o e).lt
theorem o5.fresh (x:o5 P w H h)(e:h.objs.size<=a):H a=none:=by
 cases q:H a with
 |none=>rfl
 |some u=>exact absurd (bo (x.lt q) e) (i0 _)
theorem o5.kept (x:o5 P w H h)(k: ∀b u,h.get? b=some u->h'.get? b=some u):o5 P w H h':=fun a o e=>
 (x a o e).uh (fun b u _ q=>k b u q) (fun _ q=>q) fun _ _ q=>q
theorem o5.laid (x:o5 P w H h)(k: ∀b u,h.get? b=some u->h'.get? b=some u)(hp:h.objs.size<=a)(new:dH P w (upd H a o) h' a o):o5 P w (upd H a o) h':=fun b u e=>by
 have hn:=x.fresh hp
 by_cases hb:b=a
 ·subst hb; rw[ag] at e; cases e; exact new
 ·rw[az hb] at e
  exact(x b u e).uh (fun c v _ q=>k c v q) (fun c q=>by rw[az (aJ q hn)]; exact q) fun c xs q=>by rw[az (aJ q hn)]; exact q
end
def Rd (H:Hp)(a:Addr)(u:HO):Prop:=H a=some u∨ ∃o,H a=some (.Dj o u)
theorem Rd.ok {P:Program}{w:World}{H:Hp}{h:Heap}{a:Addr}{u:HO}(r:Rd H a u)(x:o5 P w H h):dH P w H h a u:=by
 rcases r with r|⟨o,r⟩
 ·exact x a u r
 ·obtain⟨_,q⟩:=x a _ r
  exact q
def RU:Option HO->Prop
 |some (.lst _)=>True
 |some (.dK _)=>True
 |some (.dT _)=>True
 |some (.set _ _)=>True
 |some (.ins _ _ _)=>True
 |some (.ext _)=>True
 |_=>False
section
variable {P:Program}{w:World}{H:Hp}{h h':Heap}{x e:Addr}{o':HO}
theorem o5.write (ok:o5 P w H h)(mu:RU (H x))(he:e=x∨H e=some (.own x))(k: ∀b u,b≠e->h.get? b=some u->h'.get? b=some u)(Q7: ∃u,h'.get? e=some u)
  (new:dH P w (upd H x o') h' x o'):o5 P w (upd H x o') h':=fun b u q=>by
 have RV: ∀c y,H c=some (.own y)->c≠x:=fun c y r z=>by subst z; rw[r] at mu; exact mu
 have WN: ∀c xs,H c=some (.tup xs)->c≠x:=fun c xs r z=>by subst z; rw[r] at mu; exact mu
 by_cases hb:b=x
 ·subst hb; rw[ag] at q; cases q; exact new
 ·rw[az hb] at q
  by_cases Ox:b=e
  ·have q':H b=some (.own x):=by
    rcases he with z|z
    ·exact absurd (Ox.trans z) hb
    ·rw[Ox]; exact z
   rw[q] at q'; cases q'
   obtain⟨v,hv⟩:=Q7
   exact⟨v,by rw[Ox]; exact hv⟩
  ·refine(ok b u q).uh (fun c v hc r=>k c v ?_ r) (fun c r=>by rw[az (RV c b r)]; exact r) fun c xs r=>by rw[az (WN c xs r)]; exact r
   rcases hc with rfl|hc
   ·exact Ox
   ·rintro rfl
    rcases he with z|z
    ·exact RV c b hc z
    ·rw[hc] at z; cases z; exact hb rfl
end
structure Un (fs ex:List Addr)(H H':Hp)(h h':Heap):Prop where
 keep: ∀b o,h.get? b=some o->H b=none->b∉fs->b∉ex->h'.get? b=some o
 slot: ∀b o,h.get? b=some o->H b=none->b∈fs->b∉ex-> ∃sl,h'.get? b=some {o with slots:=sl}
 free: ∀b o,h.get? b=some o->H b=none->b∉ex->H' b=none
 there: ∀b o,h.get? b=some o->b∉ex-> ∃o',h'.get? b=some o'
 qQ: ∀b xs,H b=some (.tup xs)->H' b=some (.tup xs)
 pZ: ∀b o u,H b=some (.Dj o u)->H' b=some (.Dj o u)
 qa: ∀b ps,H b=some (.ng ps)-> ∃more,H' b=some (.ng (ps ++ more))
section
variable {fs fs' ex ex':List Addr}{H H1 H2:Hp}{h h1 h2 h':Heap}{a x e:Addr}{o:HO}
theorem Un.any (u:Un fs ex H H1 h h1){b:Addr}{ob:Obj}(q:h.get? b=some ob)(n:H b=none)(hx:b∉ex): ∃sl,h1.get? b=some {ob with slots:=sl}:=by
 by_cases hb:b∈fs
 ·exact u.slot b ob q n hb hx
 ·exact⟨ob.slots,u.keep b ob q n hb hx⟩
theorem Un.kept (k: ∀b u,h.get? b=some u->h'.get? b=some u):Un fs ex H H h h':=
 ⟨fun b ob q _ _ _=>k b ob q,fun b ob q _ _ _=>⟨ob.slots,k b ob q⟩,fun _ _ _ n _=>n,fun b ob q _=>⟨ob,k b ob q⟩,fun _ _ q=>q,fun _ _ _ q=>q,fun _ ps q=>⟨#[],by rw[q]; simp⟩⟩
theorem Un.refl:Un fs ex H H h h:=Un.kept fun _ _ q=>q
theorem Un.laid (k: ∀b u,h.get? b=some u->h'.get? b=some u)(hp:h.objs.size<=a)(hn:H a=none):Un fs ex H (upd H a o) h h' where
 keep:=fun b u q _ _ _=>k b u q
 slot:=fun b u q _ _ _=>⟨u.slots,k b u q⟩
 free:=fun b u q n _=>by rw[az (a7 (bo (aM q) hp))]; exact n
 there:=fun b u q _=>⟨u,k b u q⟩
 qQ:=fun b xs q=>by rw[az (aJ q hn)]; exact q
 pZ:=fun b u xs q=>by rw[az (aJ q hn)]; exact q
 qa:=fun b ps q=>⟨#[],by rw[az (aJ q hn),q]; simp⟩
theorem Un.write (mu:RU (H x))(he:e=x∨H e=some (.own x))(k: ∀b u,b≠e->h.get? b=some u->h'.get? b=some u)(Q7: ∃u,h'.get? e=some u):Un fs ex H (upd H x o) h h':=by
 have hx: ∀b,H b=none->b≠x:=fun b n z=>by subst z; rw[n] at mu; exact mu
 have hb: ∀b,H b=none->b≠e:=fun b n z=>by
  subst z
  rcases he with r|r
  ·exact hx b n r
  ·rw[n] at r; cases r
 have hm: ∀b u,H b=some u-> ¬ RU (some u)->b≠x:=fun b u q nm z=>by subst z; rw[q] at mu; exact nm mu
 refine⟨fun b u q n _ _=>k b u (hb b n) q,fun b u q n _ _=>⟨u.slots,k b u (hb b n) q⟩,fun b u q n _=>by rw[az (hx b n)]; exact n,fun b u q _=>?_,
  fun b xs q=>by rw[az (hm b _ q fun z=>z)]; exact q,fun b u xs q=>by rw[az (hm b _ q fun z=>z)]; exact q,fun b ps q=>⟨#[],by rw[az (hm b _ q fun z=>z),q]; simp⟩⟩
 by_cases Ox:b=e
 ·subst Ox; exact Q7
 ·exact⟨u,k b u Ox q⟩
end
def VH (h:Heap)(H:Hp):List Addr:=(List.range h.objs.size).filter fun a=>(H a).isSome
def wX (h:Heap)(H:Hp):Heap:=PySem.W.hideAll h (VH h H)
theorem Gm (h:Heap)(H:Hp):(wX h H).objs.size=h.objs.size:=PySem.W.hideAll_size _ _
theorem IG {h:Heap}{H:Hp}{b:Addr}{o:Obj}(e:h.get? b=some o)(n:H b=none):(wX h H).get? b=some o:=
 PySem.W.hideAll_get _ e fun hm=>by
  have q:(H b).isSome=true:=(en.mp hm).2
  rw[n] at q; simp at q
theorem LC {h:Heap}{H:Hp}{b:Addr}{o:Obj}(e:(wX h H).get? b=some o):h.get? b=some o/\H b=none:=by
 have e':h.get? b=some o:=PySem.W.of_hideAll (VH h H) e
 refine⟨e',?_⟩
 cases q:H b with
 |none=>rfl
 |some x=>
  have hm:b∈VH h H:=List.mem_filter.mpr ⟨List.mem_range.mpr (Heap.lt_size e'),by simp[q]⟩
  have z:(wX h H).get? b=none:=PySem.W.hideAll_none (VH h H) hm
  rw[z] at e; cases e
structure Mod (K:Frag)(mg:Str->Option Value)(base:Heap):Prop where
 LD:K.In base
 glob:base.Ns mainGlobals mg
 blt: ∃mb,base.Ns builtinsNs mb/\ ∀x:Str,x≠"__name__"->mb x=bootBuiltins x
 nolimit:base.NoLimit
structure Cx where
 prog:Program
 w:World
 K:Frag
 mg:Str->Option Value
 base:Heap
 A:Around
 N:List Str
 s₀:Shared
 H₀:Hp
 env:Env
 outer:List Env
 stack:List Env
 ex:List Addr
 fn:Str->Bool
 calm:Bool
 pn:List (Addr×Obj)
 xe:Value->Shared->Prop
def Dz (l:List Env):List Addr:=l.filterMap (·.frame)
abbrev Cx.fs (X:Cx):List Addr:=Dz X.outer
def RW (sc:Scope)(x:Str):Prop:=sc.names.lookup x=some .local∨sc.names.lookup x=some .cell∨sc.names.lookup x=some .free
def Loc (sc:Scope)(x:Str):Prop:=sc.names.lookup x=some .local∨sc.names.lookup x=some .cell
def Look (env:Env)(h:Heap)(m:Str->Option Value)(x:Str)(u:Value):Prop:=
 (env.kindOf x=some .local/\m x=some u)∨((env.kindOf x=some .cell∨env.kindOf x=some .free)/\ ∃c,env.cells.lookup x=some c/\h.IsCell c (some u))
structure Cx.Ok (X:Cx):Prop where
 mod:Mod X.K X.mg X.base
 kind:X.env.scope.kind= .function
 glob:X.env.globals=mainGlobals
 blt:X.env.builtins=builtinsNs
 above:X.s₀.heap.objs.size<=X.env.locals
 inj: ∀x y c,X.env.cells.lookup x=some c->X.env.cells.lookup y=some c->x=y
 has: ∀x,(X.env.kindOf x=some .cell∨X.env.kindOf x=some .free)-> ∃c,X.env.cells.lookup x=some c
 La: ∀x c,X.fn x=true->X.env.cells.lookup x=some c->X.s₀.heap.objs.size<=c
 hd:X.calm=true->X.A.handled=none
 frames:X.A.frames=some X.stack
 Iu:X.stack=X.outer∨(X.stack=X.env :: X.outer/\X.env.frame=some X.env.locals)
 LF: ∀b∈X.ex,b≠X.env.locals/\ ∀x c,X.env.cells.lookup x=some c->c≠b
 bs: ∀b o,X.base.get? b=some o->X.s₀.heap.get? b=some o/\X.H₀ b=none
 Bg:X.base.objs.size<=X.s₀.heap.objs.size
 wY: ∀b o,X.base.get? b=some o->b∉X.ex
 wZ: ∀b∈X.ex,b∉X.fs
 me:X.s₀.heap.FunFrames X.base X.outer
 EM: ∀b∈X.fs,X.H₀ b=none
structure Inv (X:Cx)(pins:List (Addr×Obj))(σ:List (Option V))(H:Hp)(s:Shared):Prop where
 ok:X.Ok
 os:s.os=X.s₀.os
 bare:AllBare s.gens
 base:Un X.fs X.ex X.H₀ H X.s₀.heap s.heap
 loc: ∃m,s.heap.Ns X.env.locals m/\ ∀(i:Nat) (x:Str) (v:V),X.N[i]? =some x->σ[i]? =some (some v)->RW X.env.scope x-> ∃u,RelV v u/\Look X.env s.heap m x u
 cell: ∀x c,X.env.cells.lookup x=some c-> ∃v,s.heap.IsCell c v
 free:H X.env.locals=none
 iY: ∀x c,X.env.cells.lookup x=some c->H c=none
 pin: ∀p∈X.pn ++ pins,s.heap.get? p.1=some p.2/\H p.1=none/\p.1≠X.env.locals/\p.1∉X.fs/\ ∀v,p.2.data≠ .cell v
 cE:o5 X.prog X.w H s.heap
 len:σ.length=X.N.length
section
variable {X:Cx}{pins:List (Addr×Obj)}{σ:List (Option V)}{H H':Hp}{s:Shared}{h':Heap}
theorem Cx.Ok.WO (ok:X.Ok){b:Addr}{o:Obj}(e:X.base.get? b=some o):b∉X.fs:=fun hb=>by
 have:=(ok.me.mem hb).1
 rw[e] at this; cases this
theorem Inv.bs (I:Inv X pins σ H s): ∀b o,X.base.get? b=some o->s.heap.get? b=some o/\H b=none:=fun b o e=>
 ⟨I.base.keep b o (I.ok.bs b o e).1 (I.ok.bs b o e).2 (I.ok.WO e) (I.ok.wY b o e),I.base.free b o (I.ok.bs b o e).1 (I.ok.bs b o e).2 (I.ok.wY b o e)⟩
theorem Inv.bk (I:Inv X pins σ H s): ∀b o,X.base.get? b=some o->s.heap.get? b=some o:=fun b o e=>(I.bs b o e).1
theorem Inv.mod (I:Inv X pins σ H s):Mod X.K X.mg X.base:=I.ok.mod
theorem Inv.g6 (I:Inv X pins σ H s):X.K.In s.heap:=I.ok.mod.LD.keeps I.bk
theorem Inv.nolimit (I:Inv X pins σ H s):s.heap.NoLimit:=I.ok.mod.nolimit.keeps I.bk
theorem Inv.fr (I:Inv X pins σ H s): ∃m,Fr X.base X.env.locals s.heap m:=
 let⟨m,hn,_⟩:=I.loc
 ⟨m,hn,I.bk,aV I.ok.Bg I.ok.above⟩
theorem Inv.lt (I:Inv X pins σ H s):X.env.locals < s.heap.objs.size:=let⟨_,hn,_⟩:=I.loc; hn.lt
theorem Inv.sz (I:Inv X pins σ H s):X.s₀.heap.objs.size<=s.heap.objs.size:=aV I.ok.above (cL I.lt)
theorem Inv.Gn (I:Inv X pins σ H s){a:Addr}(h:s.heap.objs.size<=a):a∉X.fs:=fun hb=>by
 obtain⟨_,o,ho,_⟩:=I.ok.me.mem hb
 exact absurd (bo (aM ho) (aV I.sz h)) (i0 _)
theorem Inv.Ny (I:Inv X pins σ H s): ∀x c,X.env.cells.lookup x=some c->c≠X.env.locals:=fun x c e z=>by
 obtain⟨v,o,ho,hd⟩:=I.cell x c e
 obtain⟨m,⟨o',es,ep,LG,Gp,_⟩,_⟩:=I.loc
 rw[z,LG] at ho; cases ho; rw[Gp] at hd; cases hd
theorem Inv.me (I:Inv X pins σ H s):s.heap.FunFrames X.base X.outer:=by
 have all: ∀(l:List Env),(∀b∈Dz l,b∈X.fs)->X.s₀.heap.FunFrames X.base l->s.heap.FunFrames X.base l:=by
  intro l
  induction l with
  |nil=>intro _ _; trivial
  |cons env r ih=>
   intro hs hl
   obtain⟨hk,⟨L,o,hf,hn,ho,hd⟩,hr⟩:=hl
   have hL:L∈X.fs:=hs L (by unfold Dz; rw[List.filterMap_cons,hf]; exact List.mem_cons_self)
   obtain⟨sl,e⟩:=I.base.slot L o ho (I.ok.EM L hL) hL fun z=>I.ok.wZ L z hL
   exact⟨hk,⟨L,_,hf,hn,e,hd⟩,ih (fun b hb=>hs b (by unfold Dz; rw[List.filterMap_cons,hf]; exact List.mem_cons_of_mem _ hb)) hr⟩
 exact all X.outer (fun _ hb=>hb) I.ok.me
theorem Inv.stack (I:Inv X pins σ H s):s.heap.FunFrames X.base X.stack:=by
 rcases I.ok.Iu with e|⟨e,hf⟩
 ·rw[e]; exact I.me
 ·rw[e]
  obtain⟨m,hn,_⟩:=I.loc
  refine .cons (by rw[I.ok.kind]; decide) hf hn ?_ I.me
  exact Heap.get?_none_of_le (aV I.ok.Bg I.ok.above)
theorem Inv.uQ (I:Inv X pins σ H s): ∀b∈Dz X.stack,b∈X.env.locals :: X.fs:=fun b hb=>by
 rcases I.ok.Iu with e|⟨e,hf⟩
 ·rw[e] at hb; exact aI _ hb
 ·rw[e] at hb
  unfold Dz at hb
  rw[List.filterMap_cons,hf] at hb
  exact hb
theorem Inv.qR (I:Inv X pins σ H s): ∀b∈Dz X.stack,H b=none:=fun b hb=>by
 rcases au.mp (I.uQ b hb) with e|hb
 ·rw[e]; exact I.free
 ·obtain⟨_,o,ho,_⟩:=I.ok.me.mem hb
  exact I.base.free b o ho (I.ok.EM b hb) fun z=>I.ok.wZ b z hb
theorem Inv.step {g':Array GenState}{t':Nat}{d':Drawn}{ch:List Addr}(I:Inv X pins σ H s)
  (Bh: ∀b∈ch,(b∈X.ex∨X.s₀.heap.objs.size<=b)/\b≠X.env.locals/\(∀x c,X.env.cells.lookup x=some c->c≠b)/\ ∀p∈X.pn ++ pins,p.1≠b)
  (keep: ∀b o,b≠X.env.locals->b∉X.fs->b∉ch->s.heap.get? b=some o->H b=none->h'.get? b=some o)
  (slot: ∀b o,b≠X.env.locals->b∈X.fs->b∉ch->s.heap.get? b=some o->H b=none-> ∃sl,h'.get? b=some {o with slots:=sl}) (free: ∀b o,b∉ch->s.heap.get? b=some o->H b=none->H' b=none)
  (there: ∀b o,b∉ch->s.heap.get? b=some o-> ∃o',h'.get? b=some o')
  (qQ: ∀b xs,H b=some (.tup xs)->H' b=some (.tup xs)) (pZ: ∀b o u,H b=some (.Dj o u)->H' b=some (.Dj o u)) (qa: ∀b ps,H b=some (.ng ps)-> ∃more,H' b=some (.ng (ps ++ more)))
  (ns: ∀m,s.heap.Ns X.env.locals m->h'.Ns X.env.locals m) (cE:o5 X.prog X.w H' h') (hg:AllBare g'):
  Inv X pins σ H' {s with heap:=h',gens:=g',drawn:=d',toks:=t'}:=by
 have Z8: ∀b o,X.s₀.heap.get? b=some o->b≠X.env.locals:=fun b o e=>a7 (bo (aM e) I.ok.above)
 have VI: ∀b o,X.s₀.heap.get? b=some o->b∉X.ex->b∉ch:=fun b o e hx hb=>by
  rcases(Bh b hb).1 with z|z
  ·exact hx z
  ·exact absurd (bo (aM e) z) (i0 _)
 have cellK: ∀x c,X.env.cells.lookup x=some c-> ∀v,s.heap.IsCell c v->h'.IsCell c v:=fun x c e v ⟨o,ho,hd⟩=>by
  have RX:c∉ch:=fun z=>(Bh c z).2.2.1 x c e rfl
  by_cases hc:c∈X.fs
  ·obtain⟨sl,q⟩:=slot c o (I.Ny x c e) hc RX ho (I.iY x c e)
   exact⟨_,q,hd⟩
  ·exact⟨o,keep c o (I.Ny x c e) hc RX ho (I.iY x c e),hd⟩
 refine⟨I.ok,I.os,hg,⟨fun b o e n hb hx=>?_,fun b o e n hb hx=>?_,fun b o e n hx=>?_,fun b o e hx=>?_,fun b xs e=>qQ b xs (I.base.qQ b xs e),fun b o xs e=>pZ b o xs (I.base.pZ b o xs e),fun b ps e=>?_⟩,?_,fun x c e=>?_,?_,fun x c e=>?_,fun p hp=>?_,cE,I.len⟩
 ·exact keep b o (Z8 b o e) hb (VI b o e hx) (I.base.keep b o e n hb hx) (I.base.free b o e n hx)
 ·obtain⟨sl,e1⟩:=I.base.slot b o e n hb hx
  obtain⟨sl',e2⟩:=slot b _ (Z8 b o e) hb (VI b o e hx) e1 (I.base.free b o e n hx)
  exact⟨sl',e2⟩
 ·obtain⟨o',e1⟩:=I.base.there b o e hx
  exact free b o' (VI b o e hx) e1 (I.base.free b o e n hx)
 ·obtain⟨o',e1⟩:=I.base.there b o e hx
  exact there b o' (VI b o e hx) e1
 ·obtain⟨m1,e1⟩:=I.base.qa b ps e
  obtain⟨m2,e2⟩:=qa b _ e1
  exact⟨m1 ++ m2,by rw[e2,Array.append_assoc]⟩
 ·obtain⟨m,hn,hl⟩:=I.loc
  refine⟨m,ns m hn,fun i x v e1 e2 e3=>?_⟩
  obtain⟨u,r,l⟩:=hl i x v e1 e2 e3
  refine⟨u,r,?_⟩
  rcases l with l|⟨k,c,e,z⟩
  ·exact .inl l
  ·exact .inr ⟨k,c,e,cellK x c e _ z⟩
 ·obtain⟨v,z⟩:=I.cell x c e
  exact⟨v,cellK x c e v z⟩
 ·obtain⟨m,⟨o,_,_,ho,_⟩,_⟩:=I.loc
  exact free _ o (fun z=>(Bh _ z).2.1 rfl) ho I.free
 ·obtain⟨v,o,ho,hd⟩:=I.cell x c e
  exact free c o (fun z=>(Bh c z).2.2.1 x c e rfl) ho (I.iY x c e)
 ·obtain⟨e,n,ne,nf,d⟩:=I.pin p hp
  have RX:p.1∉ch:=fun z=>(Bh p.1 z).2.2.2 p hp rfl
  exact⟨keep p.1 p.2 ne nf RX e n,free p.1 p.2 RX e n,ne,nf,d⟩
theorem Inv.un {t':Nat}(I:Inv X pins σ H s)(u:Un X.fs [] H H' s.heap h')(cE:o5 X.prog X.w H' h'):Inv X pins σ H' {s with heap:=h',toks:=t'}:=by
 obtain⟨m,⟨o,es,ep,ho,r⟩,_⟩:=id I.loc
 obtain⟨sl,hL⟩:=u.any ho I.free (by simp)
 exact I.step (g':=s.gens) (d':=s.drawn) (ch:=[]) (fun _ z=>nomatch z) (fun b o _ hb _ e n=>u.keep b o e n hb (by simp)) (fun b o _ hb _ e n=>u.slot b o e n hb (by simp)) (fun b o _ e n=>u.free b o e n (by simp)) (fun b o _ e=>u.there b o e (by simp)) u.qQ u.pZ u.qa (fun m' hm=>by
  obtain⟨o',WQ,WR,LG,r'⟩:=hm
  rw[ho] at LG; cases LG
  exact⟨_,WQ,WR,hL,r'⟩) cE I.bare
theorem Inv.call {g':Array GenState}{t':Nat}{d':Drawn}{ch:List Addr}(I:Inv X pins σ H s)(u:Un (Dz X.stack) ch H H' s.heap h')(cE:o5 X.prog X.w H' h')(hg:AllBare g')
  (Bh: ∀b∈ch,(b∈X.ex∨X.s₀.heap.objs.size<=b)/\b≠X.env.locals/\(∀x c,X.env.cells.lookup x=some c->c≠b)/\ ∀p∈X.pn ++ pins,p.1≠b):
  Inv X pins σ H' {s with heap:=h',gens:=g',drawn:=d',toks:=t'}:=by
 obtain⟨m,⟨o,es,ep,ho,r⟩,_⟩:=id I.loc
 obtain⟨sl,hL⟩:=u.any ho I.free fun z=>(Bh _ z).2.1 rfl
 exact I.step (ch:=ch) Bh (fun b o hL hb hc e n=>u.keep b o e n (fun z=>(au.mp (I.uQ b z)).elim hL hb) hc) (fun b o _ _ hc e n=>u.any e n hc) (fun b o hc e n=>u.free b o e n hc) (fun b o hc e=>u.there b o e hc) u.qQ u.pZ u.qa (fun m' hm=>by
  obtain⟨o',WQ,WR,LG,r'⟩:=hm
  rw[ho] at LG; cases LG
  exact⟨_,WQ,WR,hL,r'⟩) cE hg
theorem Inv.turned {t':Nat}{it:Addr}(I:Inv X pins σ H s)(k: ∀b o,b≠it->s.heap.get? b=some o->h'.get? b=some o)(hn:H it=none)(hL:it≠X.env.locals)
  (h1:it∈X.ex∨X.s₀.heap.objs.size<=it) (h2: ∀x c,X.env.cells.lookup x=some c->c≠it) (h3: ∀p∈X.pn ++ pins,p.1≠it):Inv X pins σ H {s with heap:=h',toks:=t'}:=by
 have RY: ∀b u,H b=some u->b≠it:=fun b u e z=>by rw[z,hn] at e; cases e
 refine I.step (g':=s.gens) (d':=s.drawn) (ch:=[it]) (fun b hb=>?_) (fun b o _ _ hc e _=>k b o (fun z=>hc (by simp[z])) e) (fun b o _ _ hc e _=>⟨o.slots,k b o (fun z=>hc (by simp[z])) e⟩) (fun _ _ _ _ n=>n)
  (fun b o hc e=>⟨o,k b o (fun z=>hc (by simp[z])) e⟩) (fun _ _ e=>e) (fun _ _ _ e=>e) (fun b ps e=>⟨#[],by rw[e]; simp⟩) (fun m hm=>?_) (fun b u e=>?_) I.bare
 ·have e:b=it:=by simpa using hb
  subst e
  exact⟨h1,hL,h2,h3⟩
 ·obtain⟨o,es,ep,ho,r⟩:=hm
  exact⟨o,es,ep,k _ o (wQ hL) ho,r⟩
 ·refine(I.cE b u e).uh (fun c v hc q=>k c v ?_ q) (fun _ q=>q) fun _ _ q=>q
  rcases hc with z|z
  ·rw[z]; exact RY b u e
  ·exact RY c _ z
theorem Inv.tok (I:Inv X pins σ H s)(t:Nat):Inv X pins σ H {s with toks:=t}:=I.un (h':=s.heap) (t':=t) Un.refl I.cE
theorem Inv.kept {t':Nat}(I:Inv X pins σ H s)(k: ∀b u,s.heap.get? b=some u->h'.get? b=some u):Inv X pins σ H {s with heap:=h',toks:=t'}:=I.un (Un.kept k) (I.cE.kept k)
theorem Inv.laid {a:Addr}{o:HO}{t':Nat}(I:Inv X pins σ H s)(k: ∀b u,s.heap.get? b=some u->h'.get? b=some u)(hp:s.heap.objs.size<=a)(new:dH X.prog X.w (upd H a o) h' a o):
  Inv X pins σ (upd H a o) {s with heap:=h',toks:=t'}:=I.un (Un.laid k hp (I.cE.fresh hp)) (I.cE.laid k hp new)
theorem Inv.write {x e:Addr}{o:HO}{t':Nat}(I:Inv X pins σ H s)(mu:RU (H x))(he:e=x∨H e=some (.own x))(k: ∀b u,b≠e->s.heap.get? b=some u->h'.get? b=some u)(Q7: ∃u,h'.get? e=some u)
  (new:dH X.prog X.w (upd H x o) h' x o):Inv X pins σ (upd H x o) {s with heap:=h',toks:=t'}:=I.un (Un.write mu he k Q7) (I.cE.write mu he k Q7 new)
theorem Inv.uy {Bi:List (Addr×Obj)}(I:Inv X pins σ H s)(h: ∀p∈Bi,s.heap.get? p.1=some p.2/\H p.1=none/\p.1≠X.env.locals/\p.1∉X.fs/\ ∀v,p.2.data≠ .cell v):Inv X Bi σ H s:=
 ⟨I.ok,I.os,I.bare,I.base,I.loc,I.cell,I.free,I.iY,fun p hp=>(bc.mp hp).elim (fun z=>I.pin p (cZ _ z)) (h p),I.cE,I.len⟩
theorem Bj {N:List Str}(hN:N.Nodup){i j:Nat}{x:Str}(a:N[i]? =some x)(b:N[j]? =some x):i=j:=by
 obtain⟨h1,e1⟩:=ah.mp a
 obtain⟨h2,e2⟩:=ah.mp b
 exact(List.getElem_inj hN).mp (e1.trans e2.symm)
theorem ye {M:Model}{A:Around}{E:Value->Shared->Prop}{i:Nat}{x:Str}{v:V}{u:Value}{Q:Unit->Shared->Prop}(I:Inv X pins σ H s)(hN:X.N.Nodup)(hi:X.N[i]? =some x)(hx:Loc X.env.scope x)(r:RelV v u)
  (h: ∀s',Inv X pins (σ.set i (some v)) H s'->(∃a,Heap.SameBut a s.heap s'.heap/\(a=X.env.locals∨X.env.cells.lookup x=some a))->Q () s') (hf:X.fn x=true∨X.env.scope.names.lookup x=some .local:=by first|exact .inl rfl|exact .inr rfl|assumption):wpAny M A (storeName X.env x u) Q E s:=by
 obtain⟨m,hn,hl⟩:=id I.loc
 have Oy:(X.env.scope.kind == .class || (X.env.scope.kind == .module && X.env.locals != X.env.globals))=false:=by rw[I.ok.kind]; rfl
 have Z9:i < σ.length:=by rw[I.len]; exact(ah.mp hi).1
 have Ny:=I.Ny
 have tracked: ∀{a:Addr} {h':Heap},(∃o,s.heap.get? a=some o/\H a=none)->Heap.SameBut a s.heap h'->o5 X.prog X.w H h':=fun{a h'} ha hs b ob e=>by
  obtain⟨_,_,yf⟩:=ha
  refine(I.cE b ob e).uh (fun c w' hc q=>(hs.2 c ?_).trans q) (fun _ q=>q) fun _ _ q=>q
  rintro rfl
  rcases hc with rfl|hc
  ·rw[yf] at e; cases e
  ·rw[yf] at hc; cases hc
 rcases hx with hk|hk
 ·refine wpAny_storeName_local hk hn (fun h' WS hs=>?_) Oy
  obtain⟨oL,_,_,Oz,_⟩:=id hn
  refine h _ ⟨I.ok,I.os,I.bare,⟨fun b o e n hb hx=>?_,fun b o e n hb hx=>?_,I.base.free,fun b o e hx=>?_,I.base.qQ,I.base.pZ,I.base.qa⟩,⟨_,WS,fun j y v' e1 e2 e3=>?_⟩,fun y c e=>?_,I.free,I.iY,fun p hp=>?_,tracked ⟨oL,Oz,I.free⟩ hs,by simpa using I.len⟩ ⟨_,hs,.inl rfl⟩
  ·exact(hs.2 b (a7 (bo (aM e) I.ok.above))).trans (I.base.keep b o e n hb hx)
  ·obtain⟨sl,e1⟩:=I.base.slot b o e n hb hx
   exact⟨sl,(hs.2 b (a7 (bo (aM e) I.ok.above))).trans e1⟩
  ·obtain⟨o',e1⟩:=I.base.there b o e hx
   exact⟨o',(hs.2 b (a7 (bo (aM e) I.ok.above))).trans e1⟩
  ·by_cases hj:j=i
   ·subst hj
    rw[hi] at e1; cases e1
    rw[lE Z9] at e2
    cases e2
    exact⟨u,r,.inl ⟨hk,by simp⟩⟩
   ·rw[m8 (wQ hj)] at e2
    obtain⟨u',r',q⟩:=hl j y v' e1 e2 e3
    refine⟨u',r',?_⟩
    rcases q with⟨k,e⟩|⟨k,c,e,z⟩
    ·refine .inl ⟨k,?_⟩
     have:y≠x:=fun e=>hj (Bj hN e1 (e▸hi))
     simp[this,e]
    ·exact .inr ⟨k,c,e,z.sameBut hs (Ny y c e)⟩
  ·obtain⟨w',z⟩:=I.cell y c e
   exact⟨w',z.sameBut hs (Ny y c e)⟩
  ·obtain⟨e,n,ne,nf,d⟩:=I.pin p hp
   exact⟨(hs.2 p.1 ne).trans e,n,ne,nf,d⟩
 ·have LH:X.fn x=true:=by
   rcases hf with z|z
   ·exact z
   ·rw[z] at hk; cases hk
  obtain⟨c,hc⟩:=I.ok.has x (.inl hk)
  obtain⟨w',z⟩:=I.cell x c hc
  refine wpAny_storeName_cell I.ok.kind hk hc z (fun h' Bl hs=>?_)
  obtain⟨oc,Q8,WT⟩:=id z
  refine h {s with heap:=h'} ⟨I.ok,I.os,I.bare,⟨fun b o e n hb hx=>?_,fun b o e n hb hx=>?_,I.base.free,fun b o e hx=>?_,I.base.qQ,I.base.pZ,I.base.qa⟩,⟨m,hn.sameBut hs (Ne.symm (Ny x c hc)),fun j y v' e1 e2 e3=>?_⟩,fun y c' e=>?_,I.free,I.iY,fun p hp=>?_,tracked ⟨oc,Q8,I.iY x c hc⟩ hs,by simpa using I.len⟩ ⟨c,hs,.inr hc⟩
  ·exact(hs.2 b (a7 (bo (aM e) (I.ok.La x c LH hc)))).trans (I.base.keep b o e n hb hx)
  ·obtain⟨sl,e1⟩:=I.base.slot b o e n hb hx
   exact⟨sl,(hs.2 b (a7 (bo (aM e) (I.ok.La x c LH hc)))).trans e1⟩
  ·obtain⟨o',e1⟩:=I.base.there b o e hx
   exact⟨o',(hs.2 b (a7 (bo (aM e) (I.ok.La x c LH hc)))).trans e1⟩
  ·by_cases hj:j=i
   ·subst hj
    rw[hi] at e1; cases e1
    rw[lE Z9] at e2
    cases e2
    exact⟨u,r,.inr ⟨.inl hk,c,hc,Bl⟩⟩
   ·rw[m8 (wQ hj)] at e2
    obtain⟨u',r',q⟩:=hl j y v' e1 e2 e3
    refine⟨u',r',?_⟩
    rcases q with q|⟨k,c',e,z'⟩
    ·exact .inl q
    ·refine .inr ⟨k,c',e,z'.sameBut hs ?_⟩
     rintro rfl
     exact hj (Bj hN e1 (I.ok.inj _ _ _ e hc▸hi))
  ·by_cases VJ:c'=c
   ·subst VJ; exact⟨_,Bl⟩
   ·obtain⟨w2,z2⟩:=I.cell y c' e
    exact⟨w2,z2.sameBut hs VJ⟩
  ·obtain⟨e,n,ne,nf,d⟩:=I.pin p hp
   refine⟨(hs.2 p.1 ?_).trans e,n,ne,nf,d⟩
   intro q
   rw[q,Q8] at e
   have q':oc=p.2:=aG e
   exact d w' (by rw[← q']; exact WT)
theorem uR {M:Model}{A:Around}{E:Value->Shared->Prop}{i:Nat}{x:Str}{v:V}{u:Value}{Q:Unit->Shared->Prop}(I:Inv X pins σ H s)(hN:X.N.Nodup)(hi:X.N[i]? =some x)(hx:Loc X.env.scope x)(r:RelV v u)
  (h: ∀s',Inv X pins (σ.set i (some v)) H s'->Q () s') (hf:X.fn x=true∨X.env.scope.names.lookup x=some .local:=by first|exact .inl rfl|exact .inr rfl|assumption):wpAny M A (storeName X.env x u) Q E s:=
 ye I hN hi hx r (fun s' I' _=>h s' I') hf
theorem Inv.EN {s':Shared}{ch:List Addr}(I:Inv X pins σ H s)(ho:s'.os=s.os)(u:Un (Dz X.stack) ch H H' s.heap s'.heap)(cE:o5 X.prog X.w H' s'.heap)(hg:AllBare s'.gens)
  (Bh: ∀b∈ch,(b∈X.ex∨X.s₀.heap.objs.size<=b)/\b≠X.env.locals/\(∀x c,X.env.cells.lookup x=some c->c≠b)/\ ∀p∈X.pn ++ pins,p.1≠b):Inv X pins σ H' s':=by
 obtain⟨h',g',d',t',o'⟩:=s'
 have e:o'=s.os:=ho
 subst e
 exact I.call (g':=g') (t':=t') (d':=d') u cE hg Bh
end
abbrev XK:=Value->Option Addr->Hp->Prop
abbrev St:=List (Option V)
abbrev VK:=V->Hp->Prop
abbrev TE:=St->Hp->VK->Prop
abbrev TT:=St->Hp->(Bool->Hp->Prop)->Prop
abbrev TA:=St->Hp->(List V->Hp->Prop)->Prop
structure Ends where
 nx:St->Hp->Prop
 rt:VK
 bk:St->Hp->Prop:=fun _ _=>False
 ct:St->Hp->Prop:=fun _ _=>False
abbrev TS:=Ends->St->Hp->Prop
def EP (X:Cx)(pins:List (Addr×Obj))(σ:St)(Q:VK)(u:Value)(s':Shared):Prop:= ∃v H',Inv X pins σ H' s'/\RelV v u/\Q v H'
def TP (X:Cx)(pins:List (Addr×Obj))(σ:St)(Q:Bool->Hp->Prop)(b:Bool)(s':Shared):Prop:= ∃H',Inv X pins σ H' s'/\Q b H'
def AP (X:Cx)(pins:List (Addr×Obj))(σ:St)(Q:List V->Hp->Prop)(us:List Value)(s':Shared):Prop:= ∃vs H',Inv X pins σ H' s'/\Vals vs us/\Q vs H'
def SP (X:Cx)(pins:List (Addr×Obj))(D:Ends)(f:Flow)(s':Shared):Prop:=
 match f with
 | .next=> ∃σ' H',Inv X pins σ' H' s'/\D.nx σ' H'
 | .brk=> ∃σ' H',Inv X pins σ' H' s'/\D.bk σ' H'
 | .cont=> ∃σ' H',Inv X pins σ' H' s'/\D.ct σ' H'
 | .ret u=> ∃v σ' H',Inv X pins σ' H' s'/\RelV v u/\D.rt v H'
def PE (X:Cx)(e:Expr)(t:TE):Prop:=
 ∀(pins:List (Addr×Obj)) (s:Shared) (σ:St) (H:Hp) (Q:VK),Inv X pins σ H s->t σ H Q->wpAny (model X.prog X.w) X.A (eval e X.env) (EP X pins σ Q) X.xe s
def PT (X:Cx)(e:Expr)(t:TT):Prop:=
 ∀(pins:List (Addr×Obj)) (s:Shared) (σ:St) (H:Hp) (Q:Bool->Hp->Prop),Inv X pins σ H s->t σ H Q->wpAny (model X.prog X.w) X.A (isTrue e X.env (eval e X.env)) (TP X pins σ Q) X.xe s
def PW (X:Cx)(e:Expr)(t:TT):Prop:=
 ∀(whole:Sem Value) (pins:List (Addr×Obj)) (s:Shared) (σ:St) (H:Hp) (Q:Bool->Hp->Prop),Inv X pins σ H s->t σ H Q->wpAny (model X.prog X.w) X.A (isTrue e X.env whole) (TP X pins σ Q) X.xe s
theorem PW.pt {X:Cx}{e:Expr}{t:TT}(h:PW X e t):PT X e t:=h _
def PA (X:Cx)(es:List Expr)(t:TA):Prop:=
 ∀(pos:Pos) (pins:List (Addr×Obj)) (s:Shared) (σ:St) (H:Hp) (Q:List V->Hp->Prop),Inv X pins σ H s->t σ H Q->wpAny (model X.prog X.w) X.A (spliced (backTo pos (starEach es X.env))) (AP X pins σ Q) X.xe s
def PS (X:Cx)(st:Stmt)(t:TS):Prop:=
 ∀(pins:List (Addr×Obj)) (s:Shared) (σ:St) (H:Hp) (D:Ends),Inv X pins σ H s->t D σ H->wpAny (model X.prog X.w) X.A (exec st X.env) (SP X pins D) X.xe s
def pB (X:Cx)(st:List Stmt)(t:TS):Prop:=
 ∀(pins:List (Addr×Obj)) (s:Shared) (σ:St) (H:Hp) (D:Ends),Inv X pins σ H s->t D σ H->wpAny (model X.prog X.w) X.A (execs st X.env) (SP X pins D) X.xe s
theorem d9 {α:Type}{t:Sem α}{Q Q':α->Shared->Prop}{M:Model}{A:Around}{E:Value->Shared->Prop}{s:Shared}(h:wpAny M A t Q E s)(hQ: ∀a s,Q a s->Q' a s):wpAny M A t Q' E s:=cm h hQ fun _ _ x=>x
section
variable {X:Cx}
inductive EvV (o:Option (Option V))(k:V->Prop):Prop
 |mk (v:V)(h:o=some (some v))(q:k v):EvV o k
def RZ (i:Nat):TE:=fun σ H Q=>EvV σ[i]? fun v=>Q v H
def tC (v:V):TE:=fun _ H Q=>Q v H
theorem DA {i:Nat}{x:Str}{pos:Pos}(hN:X.N[i]? =some x)(hv:RW X.env.scope x)(hd:(x == ("__debug__":Str))=false:=by decide)(sf:(x == ("__classdict__":Str))=false:=by decide):PE X (.Name x pos) (RZ i):=by
 intro pins s σ H Q I h
 obtain⟨v,e,h⟩:=h
 obtain⟨m,hn,hl⟩:=I.loc
 obtain⟨u,r,l⟩:=hl i x v hN e hv
 have fin:EP X pins σ Q u s:=⟨v,H,I,r,h⟩
 rcases l with⟨hk,hm⟩|⟨hk,c,hc,mN⟩
 ·exact wpAny_Name (wpAny_loadName_local I.ok.kind hk hn hm fin) hd
 ·rcases hk with hk|hk
  ·exact wpAny_Name (wpAny_loadName_cell I.ok.kind hk hc mN fin) hd
  ·exact wpAny_Name (wpAny_loadName_free I.ok.kind hk hc mN fin sf) hd
theorem aj {i j pos}:PE X (.Constant (.int i) j pos) (tC (.int i)):=fun _ _ _ H _ I h=>wpAny_Constant_int ⟨.int i,H,I.tok _,⟨_,rfl⟩,h⟩
theorem kM {b j pos}:PE X (.Constant (.bool b) j pos) (tC (.bl b)):=fun _ _ _ H _ I h=>Constant_bool ⟨.bl b,H,I,rfl,h⟩
theorem DD {j pos}:PE X (.Constant .none j pos) (tC .eF):=fun _ _ _ H _ I h=>Constant_none ⟨.eF,H,I,rfl,h⟩
theorem aR {x j pos}:PE X (.Constant (.str x) j pos) (tC (.str x)):=fun _ _ _ H _ I h=>Calls.Constant_str ⟨.str x,H,I.tok _,⟨_,rfl⟩,h⟩
def Gl (X:Cx)(x:Str):Prop:=X.env.kindOf x=some .globalImplicit
theorem jL {E:Value->Shared->Prop}{pins:List (Addr×Obj)}{s:Shared}{σ:St}{H:Hp}{x:Str}{u:Value}{pos:Pos}{Q:Value->Shared->Prop}(I:Inv X pins σ H s)(hg:Gl X x)(hm:X.mg x=some u)(h:Q u s)
  (hd:(x == ("__debug__":Str))=false:=by decide):wpAny (model X.prog X.w) X.A (eval (.Name x pos) X.env) Q E s:=
 Calls.Name_function_global I.ok.kind hg (Calls.loadGlobal_global (by rw[I.ok.glob]; exact I.mod.glob.keeps I.bk) hm h) hd
theorem qb {E:Value->Shared->Prop}{pins:List (Addr×Obj)}{s:Shared}{σ:St}{H:Hp}{x:Str}{u:Value}{pos:Pos}{Q:Value->Shared->Prop}(I:Inv X pins σ H s)(hg:Gl X x)(hm:X.mg x=none)(hv:bootBuiltins x=some u)(h:Q u s)
  (hn:x≠"__name__":=by decide) (hd:(x == ("__debug__":Str))=false:=by decide):wpAny (model X.prog X.w) X.A (eval (.Name x pos) X.env) Q E s:=by
 obtain⟨mb,h1,h2⟩:=I.mod.blt
 exact Calls.Name_function_global I.ok.kind hg (Calls.loadGlobal_builtin (by rw[I.ok.glob]; exact I.mod.glob.keeps I.bk) hm (by rw[I.ok.blt]; exact h1.keeps I.bk) ((h2 x hn).trans hv) h) hd
theorem EO {x:Str}{v:V}{u:Value}{pos:Pos}(hg:Gl X x)(hm:X.mg x=some u)(r:RelV v u)(hd:(x == ("__debug__":Str))=false:=by decide):PE X (.Name x pos) (tC v):=
 fun _ _ _ H _ I h=>jL I hg hm ⟨v,H,I,r,h⟩ hd
theorem gP {x:Str}{v:V}{u:Value}{pos:Pos}(hg:Gl X x)(hm:X.mg x=none)(hv:bootBuiltins x=some u)(r:RelV v u)(hn:x≠"__name__":=by decide)(hd:(x == ("__debug__":Str))=false:=by decide):PE X (.Name x pos) (tC v):=
 fun _ _ _ H _ I h=>qb I hg hm hv ⟨v,H,I,r,h⟩ hn hd
variable {a b:Expr}{ta tb:TE}{pos:Pos}
def PC (X:Cx)(op:CmpOp)(a b:Expr)(t:TE):Prop:=
 ∀(pins:List (Addr×Obj)) (s:Shared) (σ:St) (H:Hp) (Q:VK),Inv X pins σ H s->t σ H Q->
  wpAny (model X.prog X.w) X.A (eval a X.env) (fun v s₁=>wpAny (model X.prog X.w) X.A (eval b X.env) (fun u s₂=>wpAny (model X.prog X.w) X.A (compareOp op v u) (EP X pins σ Q) X.xe s₂) X.xe s₁) X.xe s
theorem Bm (b:Expr){op:CmpOp}(h:op≠ .In)(h2:op≠ .NotIn):behindInMarks op b=false:=by
 have e1:(op == CmpOp.In)=false:=by cases op <;> first|rfl|exact absurd rfl h
 have e2:(op == CmpOp.NotIn)=false:=by cases op <;> first|rfl|exact absurd rfl h2
 cases b <;> simp[behindInMarks,e1,e2]
def WU (ta:TE):TE:=fun σ H Q=>ta σ H fun x H1=>Q (.bl (decide (x= .eF))) H1
def R0 (ta:TE):TE:=fun σ H Q=>ta σ H fun x H1=>Q (.bl (!decide (x= .eF))) H1
theorem RelV.Bn {x:V}{v:Value}(r:RelV x v):(v == Value.none)=decide (x= .eF):=by
 cases x with
 |eF=>cases r; rfl
 |bl _=>cases r; rfl
 |int _=>obtain⟨t,rfl⟩:=r; rfl
 |str _=>obtain⟨t,rfl⟩:=r; rfl
 |Gk _=>obtain⟨t,rfl⟩:=r; rfl
 |LB _=>obtain⟨t,rfl⟩:=r; rfl
 |ref _=>cases r; rfl
 |ty _=>cases r; rfl
theorem IH {j pos'}(ha:PE X a ta):PC X .Is a (.Constant .none j pos') (WU ta):=by
 intro pins s σ H Q I h
 refine d9 (ha pins s σ H _ I h) fun v s1 ⟨x,H1,I1,r1,q1⟩=>?_
 exact Constant_none (is_none_gen ⟨.bl _,H1,I1,by rw[r1.Bn]; rfl,q1⟩)
theorem LI {j pos'}(ha:PE X a ta):PC X .IsNot a (.Constant .none j pos') (R0 ta):=by
 intro pins s σ H Q I h
 refine d9 (ha pins s σ H _ I h) fun v s1 ⟨x,H1,I1,r1,q1⟩=>?_
 exact Constant_none (isnot_none_gen ⟨.bl _,H1,I1,by rw[r1.Bn]; rfl,q1⟩)
def tB (t:TE):TT:=fun σ H Q=>t σ H fun x H1=> ∃c,x= .bl c/\Q c H1
theorem OA {op:CmpOp}{t:TE}(h:PC X op a b t)(h1:behindInMarks op b=false:=by first|exact Bm _ (by decide) (by decide)|rfl):PE X (.Compare a [op] [b] pos) t:=fun pins s σ H Q I hw=>wpAny_Compare1 (h pins s σ H Q I hw) h1
theorem y2 {op:CmpOp}{t:TE}(h:PC X op a b t)(h1:behindInMarks op b=false:=by first|exact Bm _ (by decide) (by decide)|rfl):PT X (.Compare a [op] [b] pos) (tB t):=by
 intro pins s σ H Q I hw
 refine wpAny_isTrue_Compare1 (d9 (h pins s σ H _ I hw) fun v s1 h1=>d9 h1 fun u s2 h2=>d9 h2 fun c s3 ⟨x,H1,I1,r1,q1⟩=>?_) h1
 obtain⟨d,rfl,q⟩:=q1
 cases r1
 exact gi ⟨H1,I1,q⟩
theorem fR {e:Expr}{t:TE}(h:PE X e t)(he: ∀whole,isTrue e X.env whole=(do let v ← whole; standAt e.pos; holding [v] (truthy v)):=by intro _; rfl):PT X e (tB t):=by
 intro pins s σ H Q I hw
 refine isTrue_plain (d9 (h pins s σ H _ I hw) fun v s1 ⟨x,H1,I1,r1,q1⟩=>?_) (he _)
 obtain⟨d,rfl,q⟩:=q1
 cases r1
 exact gi ⟨H1,I1,q⟩
variable {tA VL:TT}{rest:List Expr}
def WV (t u:TT):TT:=fun σ H Q=>t σ H fun c H1=>if c=true then u σ H1 Q else Q false H1
def tOr (t u:TT):TT:=fun σ H Q=>t σ H fun c H1=>if c=true then Q true H1 else u σ H1 Q
def WW (t:TT):TT:=fun σ H Q=>t σ H fun c H1=>Q (!c) H1
theorem pw_and1 (ha:PT X a tA):PW X (.BoolOp .And [a] pos) tA:=by
 intro wh pins s σ H Q I h
 refine isTrue_and (d9 (ha pins s σ H Q I h) fun c s1 e=>?_)
 cases c with
 |true=>exact isTrue_and_nil e
 |false=>exact e
theorem pw_or1 (ha:PT X a tA):PW X (.BoolOp .Or [a] pos) tA:=by
 intro wh pins s σ H Q I h
 refine isTrue_or (d9 (ha pins s σ H Q I h) fun c s1 e=>?_)
 cases c with
 |false=>exact isTrue_or_nil e
 |true=>exact e
theorem pw_and (ha:PT X a tA)(hb:PW X (.BoolOp .And (b :: rest) pos) VL):PW X (.BoolOp .And (a :: b :: rest) pos) (WV tA VL):=by
 intro wh pins s σ H Q I h
 refine isTrue_and (d9 (ha pins s σ H _ I h) fun c s1 ⟨H1,I1,q1⟩=>?_)
 cases c with
 |true=>exact hb wh pins s1 σ H1 Q I1 q1
 |false=>exact⟨H1,I1,q1⟩
theorem pw_or (ha:PT X a tA)(hb:PW X (.BoolOp .Or (b :: rest) pos) VL):PW X (.BoolOp .Or (a :: b :: rest) pos) (tOr tA VL):=by
 intro wh pins s σ H Q I h
 refine isTrue_or (d9 (ha pins s σ H _ I h) fun c s1 ⟨H1,I1,q1⟩=>?_)
 cases c with
 |true=>exact⟨H1,I1,q1⟩
 |false=>exact hb wh pins s1 σ H1 Q I1 q1
theorem jC (ha:PT X a tA):PT X (.UnaryOp .Not a pos) (WW tA):=by
 intro pins s σ H Q I h
 exact isTrue_not (ha pins s σ H (fun c H1=>Q (!c) H1) I h)
def R3 (ta tb:TE):TE:=fun σ H Q=>ta σ H fun x H1=> ∃c,x= .bl c/\if c=true then tb σ H1 Q else Q (.bl false) H1
def WX (ta tb:TE):TE:=fun σ H Q=>ta σ H fun x H1=> ∃c,x= .bl c/\if c=true then Q (.bl true) H1 else tb σ H1 Q
def R4 (ta:TE):TE:=fun σ H Q=>ta σ H fun x H1=> ∃c,x= .bl c/\Q (.bl (!c)) H1
theorem qc {op}{t:TE}(h:PE X a t):PE X (.BoolOp op [a] pos) t:=fun pins s σ H Q I hw=>BoolOp_one (h pins s σ H Q I hw)
theorem sC (ha:PE X a ta)(hb:PE X (.BoolOp .And (b :: rest) pos) tb):PE X (.BoolOp .And (a :: b :: rest) pos) (R3 ta tb):=by
 intro pins s σ H Q I h
 refine BoolOp_and (d9 (ha pins s σ H _ I h) fun v s1 ⟨x,H1,I1,r1,q1⟩=>?_)
 obtain⟨c,rfl,q1⟩:=q1
 cases r1
 refine gi ?_
 cases c with
 |true=>exact hb pins s1 σ H1 Q I1 q1
 |false=>exact⟨.bl false,H1,I1,rfl,q1⟩
theorem R5 (ha:PE X a ta)(hb:PE X (.BoolOp .Or (b :: rest) pos) tb):PE X (.BoolOp .Or (a :: b :: rest) pos) (WX ta tb):=by
 intro pins s σ H Q I h
 refine BoolOp_or (d9 (ha pins s σ H _ I h) fun v s1 ⟨x,H1,I1,r1,q1⟩=>?_)
 obtain⟨c,rfl,q1⟩:=q1
 cases r1
 refine gi ?_
 cases c with
 |false=>exact hb pins s1 σ H1 Q I1 q1
 |true=>exact⟨.bl true,H1,I1,rfl,q1⟩
theorem OB (ha:PE X a ta):PE X (.UnaryOp .Not a pos) (R4 ta):=by
 intro pins s σ H Q I h
 refine UnaryOp_ (d9 (ha pins s σ H _ I h) fun v s1 ⟨x,H1,I1,r1,q1⟩=>?_)
 obtain⟨c,rfl,q1⟩:=q1
 cases r1
 exact not_of (gi ⟨.bl (!c),H1,I1,rfl,q1⟩)
end
def bG (K:Frag)(H:Hp)(a:Addr)(xs:List V):Prop:=
 Rd H a (.lst xs)∨
  ∃(o:Obj) (b9:Array Value) (n:Nat),K.lookup a=some o/\o.cls= .type "list"/\o.dict=none/\o.data= .seq b9 n/\b9.size<=sizeLine/\Vals xs b9.toList
def cF (K:Frag)(H:Hp)(a:Addr)(xs:List V):Prop:=
 Rd H a (.tup xs)∨
  ∃(o:Obj) (b9:Array Value) (n:Nat),K.lookup a=some o/\o.cls= .type "tuple"/\o.data= .seq b9 n/\b9.size<=sizeLine/\Vals xs b9.toList
def WY:Value->Option V
 | .none=>some .eF
 | .bool b=>some (.bl b)
 | .int i _=>some (.int i)
 | .str x _=>some (.str x)
 | .bytes b _=>some (.Gk b)
 | .float b _=>some (.LB b)
 | .ref a=>some (.ref a)
 | .type n=>some (.ty n)
 |_=>none
theorem RelV.abs {x:V}{u:Value}(r:RelV x u):WY u=some x:=by
 cases x with
 |eF=>cases r; rfl
 |bl _=>cases r; rfl
 |int _=>obtain⟨t,rfl⟩:=r; rfl
 |str _=>obtain⟨t,rfl⟩:=r; rfl
 |Gk _=>obtain⟨t,rfl⟩:=r; rfl
 |LB _=>obtain⟨t,rfl⟩:=r; rfl
 |ref _=>cases r; rfl
 |ty _=>cases r; rfl
theorem RelV.inj {x y:V}{u:Value}(r:RelV x u)(q:RelV y u):x=y:=aG (r.abs.symm.trans q.abs)
theorem Vals.inj: ∀{xs ys:List V} {us:List Value},Vals xs us->Vals ys us->xs=ys
 |_,_,_,.nil,.nil=>rfl
 |_,_,_,.cons r t,.cons r' t'=>by rw[r.inj r',Vals.inj t t']
section
variable {X:Cx}{pins:List (Addr×Obj)}{σ:St}{H:Hp}{s:Shared}{a:Addr}{xs ys:List V}
theorem bG.of {K:Frag}(h:H a=some (.lst xs)):bG K H a xs:= .inl (.inl h)
theorem cF.of {K:Frag}(h:H a=some (.tup xs)):cF K H a xs:= .inl (.inl h)
theorem Inv.list (I:Inv X pins σ H s)(h:bG X.K H a xs): ∃b9:List Value,Vals xs b9/\PlainL s.heap a b9.toArray/\xs.length<=sizeLine:=by
 rcases h with h|⟨o,b9,n,hk,hc,hd,hs,hz,r⟩
 ·obtain⟨z,b9,n,r,e⟩:=h.ok I.cE
  exact⟨b9,r,⟨_,n,e,rfl,rfl,rfl⟩,z⟩
 ·refine⟨b9.toList,r,⟨o,n,I.g6 a o hk,hc,hd,by simpa using hs⟩,?_⟩
  have e:=r.length
  simp only[Array.length_toList] at e
  lia
theorem Inv.tuple (I:Inv X pins σ H s)(h:cF X.K H a xs): ∃b9:List Value,Vals xs b9/\IsTup s.heap a b9.toArray/\xs.length<=sizeLine:=by
 rcases h with h|⟨o,b9,n,hk,hc,hs,hz,r⟩
 ·obtain⟨z,b9,r,p⟩:=h.ok I.cE
  exact⟨b9,r,p,z⟩
 ·refine⟨b9.toList,r,⟨o,I.g6 a o hk,hc,n,by simpa using hs⟩,?_⟩
  have e:=r.length
  simp only[Array.length_toList] at e
  lia
theorem Inv.Bo (I:Inv X pins σ H s)(h:bG X.K H a xs)(h':bG X.K H a ys):xs=ys:=by
 obtain⟨b9,r,⟨o,n,e,_,_,d⟩,_⟩:=I.list h
 obtain⟨qS,r',⟨o',n',e',_,_,d'⟩,_⟩:=I.list h'
 rw[e] at e'; cases e'
 rw[d] at d'
 injection d' with d1 _
 have:b9=qS:=by simpa using congrArg Array.toList d1
 subst this
 exact r.inj r'
theorem Inv.Gq (I:Inv X pins σ H s)(h:cF X.K H a xs)(h':cF X.K H a ys):xs=ys:=by
 obtain⟨b9,r,⟨o,e,_,n,d⟩,_⟩:=I.tuple h
 obtain⟨qS,r',⟨o',e',_,n',d'⟩,_⟩:=I.tuple h'
 rw[e] at e'; cases e'
 rw[d] at d'
 injection d' with d1 _
 have:b9=qS:=by simpa using congrArg Array.toList d1
 subst this
 exact r.inj r'
end
abbrev Cx.uS (X:Cx)(E:Value->Shared->Prop):Cx:={X with xe:=E}
abbrev Cx.ER (X:Cx):Cx:=X.uS fun _ _=>False
theorem Cx.Ok.uS {X:Cx}(ok:X.Ok)(E:Value->Shared->Prop):(X.uS E).Ok:=
 ⟨ok.mod,ok.kind,ok.glob,ok.blt,ok.above,ok.inj,ok.has,ok.La,ok.hd,ok.frames,ok.Iu,ok.LF,ok.bs,ok.Bg,ok.wY,ok.wZ,ok.me,ok.EM⟩
theorem Cx.Ok.nu {X:Cx}{E:Value->Shared->Prop}(ok:(X.uS E).Ok):X.Ok:=
 ⟨ok.mod,ok.kind,ok.glob,ok.blt,ok.above,ok.inj,ok.has,ok.La,ok.hd,ok.frames,ok.Iu,ok.LF,ok.bs,ok.Bg,ok.wY,ok.wZ,ok.me,ok.EM⟩
section
variable {X:Cx}{pins:List (Addr×Obj)}{σ:St}{H:Hp}{s:Shared}{E:Value->Shared->Prop}
theorem Inv.uS (I:Inv X pins σ H s)(E:Value->Shared->Prop):Inv (X.uS E) pins σ H s:=⟨I.ok.uS E,I.os,I.bare,I.base,I.loc,I.cell,I.free,I.iY,I.pin,I.cE,I.len⟩
theorem Inv.nu (I:Inv (X.uS E) pins σ H s):Inv X pins σ H s:=⟨I.ok.nu,I.os,I.bare,I.base,I.loc,I.cell,I.free,I.iY,I.pin,I.cE,I.len⟩
theorem SP.nu {D:Ends}{f:Flow}{s':Shared}(h:SP (X.uS E) pins D f s'):SP X pins D f s':=by
 cases f with
 |next=>obtain⟨σ',H',I,q⟩:=h; exact⟨σ',H',I.nu,q⟩
 |brk=>obtain⟨σ',H',I,q⟩:=h; exact⟨σ',H',I.nu,q⟩
 |cont=>obtain⟨σ',H',I,q⟩:=h; exact⟨σ',H',I.nu,q⟩
 |ret u=>obtain⟨v,σ',H',I,r,q⟩:=h; exact⟨v,σ',H',I.nu,r,q⟩
theorem pB.ER {st:List Stmt}{t:TS}(h:pB X.ER st t):pB X st t:=fun pins s σ H D I hw=>
 cm (h pins s σ H D (I.uS _) hw) (fun _ _ q=>q.nu) fun _ _ z=>False.elim z
end
section
variable {X:Cx}{st:Stmt}{rest:List Stmt}{t u:TS}{e:Expr}{te:TE}{pos:Pos}
def R6:TS:=fun D σ H=>D.nx σ H
def WZ (t u:TS):TS:=fun D σ H=>t {D with nx:=u D} σ H
theorem bp:pB X [] R6:=fun _ _ σ H _ I h=>jz ⟨σ,H,I,h⟩
theorem ai (h1:PS X st t)(h2:pB X rest u):pB X (st :: rest) (WZ t u):=by
 intro pins s σ H D I h
 refine wpAny_execs_cons (d9 (h1 pins s σ H {D with nx:=u D} I h) fun f s1 q=>?_)
 cases f with
 |next=>
  obtain⟨σ',H',I',q⟩:=q
  exact h2 pins s1 σ' H' D I' q
 |ret v=>exact q
 |brk=>exact q
 |cont=>exact q
theorem av (h1:PS X st t):pB X [st] t:=by
 intro pins s σ H D I h
 refine wpAny_execs_cons (d9 (h1 pins s σ H D I h) fun f s1 q=>?_)
 cases f with
 |next=>exact jz q
 |ret v=>exact q
 |brk=>exact q
 |cont=>exact q
theorem Inv.quiet {pins:List (Addr×Obj)}{σ:St}{H:Hp}{s:Shared}(I:Inv X pins σ H s):interactive X.env=false:=by simp[interactive,I.ok.kind]
def R7 (te:TE):TS:=fun D σ H=>te σ H fun _ H1=>D.nx σ H1
theorem bM (he:PE X e te)(hs:swapsWith e none pos.line X.env=pure false:=by rfl):PS X (.Expr e pos) (R7 te):=by
 intro pins s σ H D I h
 exact wpAny_Expr_any (d9 (he pins s σ H _ I h) fun v s1 ⟨x,H1,I1,r1,q1⟩=>⟨σ,H1,I1,q1⟩) I.quiet hs
def W0 (te:TE):TS:=fun D σ H=>te σ H D.rt
theorem a9 (he:PE X e te):PS X (.Return (some e) pos) (W0 te):=by
 intro pins s σ H D I h
 exact wpAny_Return_some (d9 (he pins s σ H _ I h) fun v s1 ⟨x,H1,I1,r1,q1⟩=>⟨x,σ,H1,I1,r1,q1⟩)
def W6 (c:TT)(t u:TS):TS:=fun D σ H=>c σ H fun b H1=>if b=true then t D σ H1 else u D σ H1
theorem bT {c:Expr}{a b:List Stmt}{tc:TT}(hc:PT X c tc)(ha:pB X a t)(hb:pB X b u):PS X (.If c a b pos) (W6 tc t u):=by
 intro pins s σ H D I h
 refine wpAny_If (d9 (hc pins s σ H _ I h) fun d s1 ⟨H1,I1,q1⟩=>?_)
 cases d with
 |true=>exact ha pins s1 σ H1 D I1 q1
 |false=>exact hb pins s1 σ H1 D I1 q1
end
abbrev TG:=V->St->Hp->(St->Hp->Prop)->Prop
abbrev Nz:=List V->St->Hp->(St->Hp->Prop)->Prop
def PG (X:Cx)(target:Expr)(t:TG):Prop:=
 ∀(pins:List (Addr×Obj)) (s:Shared) (σ:St) (H:Hp) (v:V) (u:Value) (Q:St->Hp->Prop),Inv X pins σ H s->RelV v u->t v σ H Q->
  wpAny (model X.prog X.w) X.A (assign target X.env u) (fun _ s'=> ∃σ' H',Inv X pins σ' H' s'/\Q σ' H') X.xe s
def Lb (X:Cx)(ts:List Expr)(t:Nz):Prop:=
 ∀(pins:List (Addr×Obj)) (s:Shared) (σ:St) (H:Hp) (vs:List V) (us:List Value) (Q:St->Hp->Prop),Inv X pins σ H s->Vals vs us->t vs σ H Q->
  wpAny (model X.prog X.w) X.A (assignInOrder ((assignEach ts X.env).map (·.2)) us) (fun _ s'=> ∃σ' H',Inv X pins σ' H' s'/\Q σ' H') X.xe s
abbrev OC:=V->V->V->Hp->(Hp->Prop)->Prop
def R8 (X:Cx)(t:OC):Prop:=
 ∀(pins:List (Addr×Obj)) (s:Shared) (σ:St) (H:Hp) (o i v:V) (ov iv u:Value) (Q:Hp->Prop),Inv X pins σ H s->RelV o ov->RelV i iv->RelV v u->t o i v H Q->
  wpAny (model X.prog X.w) X.A (setItem ov iv u) (fun _ s'=> ∃H',Inv X pins σ H' s'/\Q H') X.xe s
section
variable {X:Cx}{pos:Pos}
def Bp (i:Nat):TG:=fun v σ H Q=>Q (σ.set i (some v)) H
theorem eG {i:Nat}{x:Str}(hN:X.N.Nodup)(hi:X.N[i]? =some x)(hx:Loc X.env.scope x)(hf:X.fn x=true∨X.env.scope.names.lookup x=some .local:=by first|exact .inl rfl|exact .inr rfl|assumption):PG X (.Name x pos) (Bp i):=by
 intro pins s σ H v u Q I r h
 exact wpAny_assign_Name (uR I hN hi hx r (fun s' I'=>⟨_,H,I',h⟩) hf)
def W7:Nz:=fun vs σ H Q=>vs=[]/\Q σ H
inductive EvC (vs:List V)(k:V->List V->Prop):Prop
 |mk (v:V)(r:List V)(h:vs=v :: r)(q:k v r):EvC vs k
def R9 (t:TG)(u:Nz):Nz:=fun vs σ H Q=>EvC vs fun v r=>t v σ H fun σ' H'=>u r σ' H' Q
theorem gy:Lb X [] W7:=by
 intro pins s σ H vs us Q I r h
 obtain⟨e,h⟩:=h
 subst e
 cases r
 exact assignInOrder_nil ⟨σ,H,I,h⟩
theorem bW {e:Expr}{es:List Expr}{t:TG}{u:Nz}(h1:PG X e t)(h2:Lb X es u)
  (hs:(assignEach (e :: es) X.env).map (·.2)=assign e X.env :: (assignEach es X.env).map (·.2):=by rfl):Lb X (e :: es) (R9 t u):=by
 intro pins s σ H vs us Q I r h
 obtain⟨v,vr,e1,h⟩:=h
 subst e1
 cases r with
 |cons r rr=>
  rw[hs]
  refine assignInOrder_cons (d9 (h1 pins s σ H _ _ _ I r h) fun _ s1 ⟨σ1,H1,I1,q1⟩=>?_)
  exact h2 pins s1 σ1 H1 _ _ Q I1 rr q1
inductive EvT (K:Frag)(H:Hp)(n:Nat)(v:V)(k:List V->Prop):Prop
 |mk (a:Addr)(xs:List V)(h1:v= .ref a)(h2:cF K H a xs)(h3:xs.length=n)(q:k xs):EvT K H n v k
def Sa (K:Frag)(n:Nat)(t:Nz):TG:=fun v σ H Q=>EvT K H n v fun xs=>t xs σ H Q
theorem iH {es:List Expr}{k:Nat}{t:Nz}{n:Nat}(hc:X.calm=true)(h:Lb X es t)
  (hn:(assignEach es X.env).length=n:=by rfl) (tG:(assignEach es X.env).findIdx? (·.1)=none:=by rfl):PG X (.Tuple es k pos) (Sa X.K n t):=by
 intro pins s σ H v u Q I r hw
 obtain⟨a,xs,e1,hq,hl,hw⟩:=hw
 subst e1
 cases r
 obtain⟨b9,rv,ht,hz⟩:=I.tuple hq
 refine assign_Tuple_tuple (I.ok.hd hc) ht (by simp[hn,← hl,rv.length]) tG fun h' hx=>?_
 have I1:Inv X pins σ H {s with heap:=h'}:=I.kept (t':=s.toks) fun b o e=>hx b o (a7 (aM e)) e
 exact h pins _ σ H xs _ Q I1 (by simpa using rv) hw
def W8 (to ti:TE)(t:OC):TG:=fun v σ H Q=>to σ H fun o H1=>ti σ H1 fun i H2=>t o i v H2 fun H3=>Q σ H3
theorem sD {o i:Expr}{to ti:TE}{t:OC}(ho:PE X o to)(hi:PE X i ti)(hs:R8 X t)
  (ha: ∀v,assign (.Subscript o i pos) X.env v=(do
   let ov ← holding [v] (eval o X.env)
   let iv ← holding [v,ov] (eval i X.env)
   standAt pos
   holding [v,ov,iv] (setItem ov iv v)
   release [v,ov,iv] []):=by intro _; rfl):PG X (.Subscript o i pos) (W8 to ti t):=by
 intro pins s σ H v u Q I r h
 rw[ha]
 refine aB (iF (d9 (ho pins s σ H _ I h) fun ov s1 ⟨x,H1,I1,r1,q1⟩=>?_))
 refine aB (iF (d9 (hi pins s1 σ H1 _ I1 q1) fun iv s2 ⟨y,H2,I2,r2,q2⟩=>?_))
 refine aB (iG (aB (iF (d9 (hs pins s2 σ H2 x y v ov iv u _ I2 r1 r2 r q2) fun _ s3 ⟨H3,I3,q3⟩=>?_))))
 exact wpAny_release ⟨σ,H3,I3,q3⟩
def LJ (te:TE)(g:TG):TS:=fun D σ H=>te σ H fun x H1=>g x σ H1 D.nx
theorem nv {tg e:Expr}{te:TE}{g:TG}(he:PE X e te)(hg:PG X tg g)(hs:swapsWithSole [tg] e pos.line X.env=pure false:=by rfl)(hw:swappedStores [tg] e X.env=pure none:=by rfl)
  (h1:(assignEach [tg] X.env).map (·.2)=[assign tg X.env]:=by rfl):PS X (.Assign [tg] e pos) (LJ te g):=by
 intro pins s σ H D I h
 refine wpAny_Assign_stores (d9 (he pins s σ H _ I h) fun v s1 ⟨x,H1,I1,r1,q1⟩=>?_) hs hw
 rw[h1]
 exact d9 (hg pins s1 σ H1 x v _ I1 r1 q1) fun _ s2 q=>q
theorem OD {i:Nat}{x:Str}{e:Expr}{te:TE}{pos':Pos}(hN:X.N.Nodup)(hi:X.N[i]? =some x)(hx:Loc X.env.scope x)(he:PE X e te)(hs:swapsWith e (some (.Name x pos')) pos.line X.env=pure false:=by rfl)(hf:X.fn x=true∨X.env.scope.names.lookup x=some .local:=by first|exact .inl rfl|exact .inr rfl|assumption):
  PS X (.Assign [.Name x pos'] e pos) (LJ te (Bp i)):=by
 intro pins s σ H D I h
 refine wpAny_Assign_Name (d9 (he pins s σ H _ I h) fun v s1 ⟨y,H1,I1,r1,q1⟩=>?_) hs
 exact uR I1 hN hi hx r1 (fun s2 I2=>⟨_,H1,I2,q1⟩) hf
def OE (c:TT)(tb:TS):TS:=fun D σ H=> ∃W:Nat->St->Hp->Prop,(∃m,W m σ H)/\ ∀m σ H,W m σ H->
 c σ H fun b H1=>if b=true then ∃N:St->Hp->Prop,(∀σ' H',N σ' H'-> ∃m',m' < m/\W m' σ' H')/\tb {D with nx:=N,ct:=N,bk:=D.nx} σ H1 else D.nx σ H1
theorem II {c:Expr}{body:List Stmt}{tc:TT}{tb:TS}(hp:PassesOwn (model X.prog X.w) X.A X.env X.xe)(hc:PT X c tc)(hb:pB X body tb):PS X (.While c body [] pos) (OE tc tb):=by
 intro pins s σ H D I h
 obtain⟨W,⟨m0,w0⟩,turn⟩:=h
 refine wpAny_While (codeAny_whileLoop (fun n s'=> ∃σ' H',Inv X pins σ' H' s'/\W n σ' H') ?_ m0 ⟨σ,H,I,w0⟩)
 rintro n s1 ⟨σ1,H1,I1,w1⟩
 refine dW hp (d9 (hc pins s1 σ1 H1 _ I1 (turn n σ1 H1 w1)) fun b s2 ⟨H2,I2,q2⟩=>?_)
 cases b with
 |true=>
  obtain⟨N,hN,q2⟩:=q2
  rw[aY rfl]
  refine dW hp (d9 (hb pins s2 σ1 H2 _ I2 q2) fun f s3 q3=>?_)
  cases f with
  |next=>
   obtain⟨σ3,H3,I3,n3⟩:=q3
   obtain⟨m',hm,w3⟩:=hN σ3 H3 n3
   exact⟨m',hm,σ3,H3,I3,w3⟩
  |cont=>
   obtain⟨σ3,H3,I3,n3⟩:=q3
   obtain⟨m',hm,w3⟩:=hN σ3 H3 n3
   exact⟨m',hm,σ3,H3,I3,w3⟩
  |brk=>exact q3
  |ret v=>exact q3
 |false=>
  rw[aN aX]
  exact jz ⟨σ1,H2,I2,q2⟩
end
structure It where
 go:Nat->Hp->Prop
 Q9:Nat->Hp->V->Hp->Prop
 stop:Nat->Hp->Prop
def uT (X:Cx)(pins:List (Addr×Obj))(H:Hp)(b:Addr):Prop:=
 H b=none/\b≠X.env.locals/\b∉X.fs/\(b∈X.ex∨X.s₀.heap.objs.size<=b)/\(∀x c,X.env.cells.lookup x=some c->c≠b)/\ ∀p∈X.pn ++ pins,p.1≠b
theorem Inv.Gr {X:Cx}{pins:List (Addr×Obj)}{σ:St}{H H':Hp}{s:Shared}{b:Addr}(I:Inv X pins σ H s)(hb:s.heap.objs.size<=b)(hn:H' b=none):uT X pins H' b:=by
 refine⟨hn,qG (bo I.lt hb),I.Gn hb,.inr (aV I.sz hb),fun x c e z=>?_,fun p hp z=>?_⟩
 ·obtain⟨v,q⟩:=I.cell x c e
  exact absurd (bo q.lt (by rw[z]; exact hb)) (i0 _)
 ·exact absurd (bo (aM (I.pin p hp).1) (by rw[z]; exact hb)) (i0 _)
structure Turn (P:Program)(w:World)(K:Frag)(tg:Expr)(J:It)(fp:List Addr)(it:Addr)(tn:Nat->Heap->Prop):Prop where
 mem:it∈fp
 obj: ∀i h,tn i h-> ∀b∈fp,∃o,h.get? b=some o/\ ∀v,o.data≠ .cell v
 keep: ∀i h h',tn i h->(∀b∈fp,∀o,h.get? b=some o->h'.get? b=some o)->tn i h'
 item: ∀(X:Cx),X.prog=P->X.w=w->X.K=K->X.calm=true-> ∀(i:Nat) (pins:List (Addr×Obj)) (s:Shared) (σ:St) (H:Hp) (E:Value->Shared->Prop),Inv X pins σ H s->(∀b∈fp,uT X pins H b)->tn i s.heap->J.go i H->
  wpAny (model P w) X.A (pyNext (.ref it)) (fun r s1=> ∃u,r=some u/\
   wpAny (model P w) X.A (letOwnedTupleGo tg (.ref it) u) (fun _ s2=> ∃x H',Inv X pins σ H' s2/\RelV x u/\J.Q9 i H x H'/\tn (i + 1) s2.heap/\ ∀b∈fp,H' b=none) E s1) E s
 done: ∀(X:Cx),X.prog=P->X.w=w->X.K=K->X.calm=true-> ∀(i:Nat) (pins:List (Addr×Obj)) (s:Shared) (σ:St) (H:Hp) (E:Value->Shared->Prop),Inv X pins σ H s->(∀b∈fp,uT X pins H b)->tn i s.heap->J.stop i H->
  wpAny (model P w) X.A (pyNext (.ref it)) (fun r s1=>r=none/\Inv X pins σ H s1) E s
 self: ∀(A:Around) (i:Nat) (s:Shared) (Q:Value->Shared->Prop) (E:Value->Shared->Prop),tn i s.heap->Q (.ref it) s->wpAny (model P w) A (pyIter (.ref it)) Q E s
abbrev TI:=St->Hp->(It->Hp->Prop)->Prop
def PIE (X:Cx)(pins:List (Addr×Obj))(σ:St)(tg:Expr)(R:It->Hp->Prop)(VM:Value)(s2:Shared):Prop:=
 ∃(it:Addr) (fp:List Addr) (tn:Nat->Heap->Prop) (J:It) (H':Hp),VM= .ref it/\Inv X pins σ H' s2/\Turn X.prog X.w X.K tg J fp it tn/\tn 0 s2.heap/\(∀b∈fp,uT X pins H' b)/\R J H'
def PI (X:Cx)(tg iter:Expr)(wi:TI):Prop:=
 ∀(pins:List (Addr×Obj)) (s:Shared) (σ:St) (H:Hp) (R:It->Hp->Prop),Inv X pins σ H s->wi σ H R->
  wpAny (model X.prog X.w) X.A (eval iter X.env) (fun v s1=>wpAny (model X.prog X.w) X.A (pyIter v) (PIE X pins σ tg R) X.xe s1) X.xe s
theorem ES {M:Model}{A:Around}{E:Value->Shared->Prop}{s:Shared}{tg:Expr}{it:Addr}{u:Value}{o:Obj}{n:String}{vs:Array Value}{Q:Unit->Shared->Prop}(ho:s.heap.get? it=some o)(hc:o.cls= .type n)(hd:o.data= .fields vs)
  (hn:["enumerate","zip","dict_itemiterator","dict_reverseitemiterator","odict_iterator","itertools.zip_longest","itertools.pairwise"].contains n=false) (hQ:Q () s):wpAny M A (letOwnedTupleGo tg (.ref it) u) Q E s:=by
 unfold letOwnedTupleGo
 cases tg <;> first
  |exact bF hQ
  |(cases u <;> first
    |exact bF hQ
    |(refine aB (wpAny_load ho ?_)
      rw[hc,hd]
      show wpAny M A (if(["enumerate","zip","dict_itemiterator","dict_reverseitemiterator","odict_iterator","itertools.zip_longest","itertools.pairwise"].contains n && vs[0]? == some (rawInt _))=true then _ else _) Q E s
      rw[aN (by intro h; rw[hn,Oi] at h; cases h)]
      exact bF hQ))
def Ra (K:Frag)(a:Addr):It:=
 ⟨fun i H=> ∃xs x,bG K H a xs/\xs[i]? =some x,fun i H x H'=>H'=H/\ ∀xs,bG K H a xs->xs[i]? =some x,fun i H=> ∃xs,bG K H a xs/\xs.length<=i⟩
def W9 (K:Frag)(a:Addr):It:=
 ⟨fun i H=> ∃xs x,cF K H a xs/\xs[i]? =some x,fun i H x H'=>H'=H/\ ∀xs,cF K H a xs->xs[i]? =some x,fun i H=> ∃xs,cF K H a xs/\xs.length<=i⟩
def NA (lo:Int)(n:Nat):It:=⟨fun i _=>i < n,fun i H x H'=>H'=H/\x= .int (lo + i),fun i _=>n<=i⟩
theorem Gs {P:Program}{w:World}{K:Frag}{tg:Expr}(a it:Addr):Turn P w K tg (Ra K a) [it] it (fun i h=>h.IsListIter it a i) where
 mem:=by simp
 obj:=fun i h st b hb=>by
  have e:b=it:=by simpa using hb
  subst e
  obtain⟨o,e,c,d⟩:=st
  exact⟨o,e,fun v z=>by rw[d] at z; cases z⟩
 keep:=fun i h h' st k=>st.at fun o e=>k it (by simp) o e
 item:=by
  intro X hP hw hK hc i pins s σ H E I hf st hg
  subst hP hw hK
  obtain⟨xs,x,hq,hx⟩:=hg
  obtain⟨b9,rv,p,hz⟩:=I.list hq
  obtain⟨u,hu,ru⟩:=rv.get hx
  obtain⟨f0,f1,f2,f3,f4,f5⟩:=hf it (by simp)
  refine wpAny_pyNext_list_item st p.isList (x:=u) (by simpa using hu) fun h' A6 sb=>?_
  have I1:Inv X pins σ H {s with heap:=h'}:=I.turned (t':=s.toks) (fun b o hb e=>(sb.2 b hb).trans e) f0 f1 f3 f4 f5
  obtain⟨o,e,c,d⟩:=id A6
  exact⟨u,rfl,ES (s:={s with heap:=h'}) e c d (by decide) ⟨x,H,I1,ru,⟨rfl,fun ys hy=>by rw[I.Bo hy hq]; exact hx⟩,A6,fun b hb=>(hf b hb).1⟩⟩
 done:=by
  intro X hP hw hK hc i pins s σ H E I hf st hg
  subst hP hw hK
  obtain⟨xs,hq,hx⟩:=hg
  obtain⟨b9,rv,p,hz⟩:=I.list hq
  obtain⟨f0,f1,f2,f3,f4,f5⟩:=hf it (by simp)
  have hl:=rv.length
  exact wpAny_pyNext_list_end (I.ok.hd hc) st p.isList (by simp; lia) fun h' eb=>⟨rfl,I.turned (t':=s.toks) (fun b o hb e=>eb b o hb e) f0 f1 f3 f4 f5⟩
 self:=fun _ _ _ _ _ st h=>wpAny_pyIter_listiter st h
theorem DE {P:Program}{w:World}{K:Frag}{tg:Expr}(a it:Addr):Turn P w K tg (W9 K a) [it] it (fun i h=>h.IsTupleIter it a i) where
 mem:=by simp
 obj:=fun i h st b hb=>by
  have e:b=it:=by simpa using hb
  subst e
  obtain⟨o,e,c,d⟩:=st
  exact⟨o,e,fun v z=>by rw[d] at z; cases z⟩
 keep:=fun i h h' st k=>st.at fun o e=>k it (by simp) o e
 item:=by
  intro X hP hw hK hc i pins s σ H E I hf st hg
  subst hP hw hK
  obtain⟨xs,x,hq,hx⟩:=hg
  obtain⟨b9,rv,p,hz⟩:=I.tuple hq
  obtain⟨u,hu,ru⟩:=rv.get hx
  obtain⟨f0,f1,f2,f3,f4,f5⟩:=hf it (by simp)
  refine wpAny_pyNext_tuple_item st (show s.heap.IsTuple a b9.toArray from p) (x:=u) (by simpa using hu) fun h' A6 sb=>?_
  have I1:Inv X pins σ H {s with heap:=h'}:=I.turned (t':=s.toks) (fun b o hb e=>(sb.2 b hb).trans e) f0 f1 f3 f4 f5
  obtain⟨o,e,c,d⟩:=id A6
  exact⟨u,rfl,ES (s:={s with heap:=h'}) e c d (by decide) ⟨x,H,I1,ru,⟨rfl,fun ys hy=>by rw[I.Gq hy hq]; exact hx⟩,A6,fun b hb=>(hf b hb).1⟩⟩
 done:=by
  intro X hP hw hK hc i pins s σ H E I hf st hg
  subst hP hw hK
  obtain⟨xs,hq,hx⟩:=hg
  obtain⟨b9,rv,p,hz⟩:=I.tuple hq
  obtain⟨f0,f1,f2,f3,f4,f5⟩:=hf it (by simp)
  have hl:=rv.length
  exact wpAny_pyNext_tuple_end (I.ok.hd hc) st (show s.heap.IsTuple a b9.toArray from p) (by simp; lia) fun h' eb=>⟨rfl,I.turned (t':=s.toks) (fun b o hb e=>eb b o hb e) f0 f1 f3 f4 f5⟩
 self:=fun _ _ _ _ _ st h=>wpAny_pyIter_tupleiter st h
theorem DF {P:Program}{w:World}{K:Frag}{tg:Expr}(it:Addr)(lo:Int)(n:Nat):Turn P w K tg (NA lo n) [it] it (fun i h=>IsRangeIter h it (lo + (i:Nat) * 1) ((n:Int) - (i:Nat)) 1) where
 mem:=by simp
 obj:=fun i h st b hb=>by
  have e:b=it:=by simpa using hb
  subst e
  exact⟨_,st,fun v z=>by
   have z':Data.fields _ =Data.cell v:=z
   cases z'⟩
 keep:=fun i h h' st k=>k it (by simp) _ st
 item:=by
  intro X hP hw hK hc i pins s σ H E I hf st hg
  subst hP hw hK
  obtain⟨f0,f1,f2,f3,f4,f5⟩:=hf it (by simp)
  have W:=Walks.range (prog:=X.prog) (w:=X.w) (I.ok.hd hc) it lo 1 n
  refine W.item i s _ _ hg st fun v h' tk hv A6 kk=>?_
  obtain⟨t,rfl⟩:=hv
  have I1:Inv X pins σ H {s with heap:=h',toks:=tk}:=I.turned (fun b o hb e=>kk b o (by simpa using hb) e) f0 f1 f3 f4 f5
  refine⟨_,rfl,ES (s:={s with heap:=h',toks:=tk}) (n:="range_iterator") A6 rfl rfl (by decide) ⟨.int (lo + i),H,I1,⟨t,?_⟩,⟨rfl,rfl⟩,A6,fun b hb=>(hf b hb).1⟩⟩
  rw[Int.mul_one]
 done:=by
  intro X hP hw hK hc i pins s σ H E I hf st hg
  subst hP hw hK
  obtain⟨f0,f1,f2,f3,f4,f5⟩:=hf it (by simp)
  exact wpAny_pyNext_range_end (I.ok.hd hc) st (by have:n<=i:=hg; lia) fun h' eb=>⟨rfl,I.turned (t':=s.toks) (fun b o hb e=>eb b o hb e) f0 f1 f3 f4 f5⟩
 self:=fun _ _ _ _ _ st h=>wpAny_pyIter_rangeiter st h
section
variable {X:Cx}{tg:Expr}
inductive EvR (x:V)(S k:Addr->Prop):Prop
 |mk (a:Addr)(h:x= .ref a)(s:S a)(q:k a):EvR x S k
def Sb (K:Frag)(tl:TE):TI:=fun σ H R=>tl σ H fun x H1=>EvR x (fun a=> ∃xs,bG K H1 a xs) fun a=>R (Ra K a) H1
def Xa (K:Frag)(tl:TE):TI:=fun σ H R=>tl σ H fun x H1=> ∃a,x= .ref a/\(∃xs,cF K H1 a xs)/\R (W9 K a) H1
theorem cI {l:Expr}{tl:TE}(hl:PE X l tl):PI X tg l (Sb X.K tl):=by
 intro pins s σ H R I h
 refine d9 (hl pins s σ H _ I h) fun v s1 ⟨x,H1,I1,r1,q1⟩=>?_
 obtain⟨a,e,⟨xs,hq⟩,q⟩:=q1
 subst e
 cases r1
 obtain⟨b9,rv,p,hz⟩:=I1.list hq
 refine wpAny_pyIter_list p.isList ?_
 refine⟨s1.heap.objs.size,[s1.heap.objs.size],_,_,H1,rfl,I1.kept (t':=s1.toks) fun b o e=>ay _ e,Gs a _,⟨_,bR _ rfl,rfl,rfl⟩,fun b hb=>?_,q⟩
 have e:b=s1.heap.objs.size:=by simpa using hb
 subst e
 exact I1.Gr (aD _) (I1.cE.fresh (aD _))
theorem OF {l:Expr}{tl:TE}(hl:PE X l tl):PI X tg l (Xa X.K tl):=by
 intro pins s σ H R I h
 refine d9 (hl pins s σ H _ I h) fun v s1 ⟨x,H1,I1,r1,q1⟩=>?_
 obtain⟨a,e,⟨xs,hq⟩,q⟩:=q1
 subst e
 cases r1
 obtain⟨b9,rv,p,hz⟩:=I1.tuple hq
 refine wpAny_pyIter_tuple (show s1.heap.IsTuple a b9.toArray from p) ?_
 refine⟨s1.heap.objs.size,[s1.heap.objs.size],_,_,H1,rfl,I1.kept (t':=s1.toks) fun b o e=>ay _ e,DE a _,⟨_,bR _ rfl,rfl,rfl⟩,fun b hb=>?_,q⟩
 have e:b=s1.heap.objs.size:=by simpa using hb
 subst e
 exact I1.Gr (aD _) (I1.cE.fresh (aD _))
theorem IJ {pins:List (Addr×Obj)}{σ:St}{H:Hp}{s:Shared}{R:It->Hp->Prop}{E:Value->Shared->Prop}{lo hi:Int}{t u v:Tok}{tk:Nat}(I:Inv X pins σ H s)(h1: -(2 ^ 62)<=lo)(h2:lo < 2 ^ 62)(h3: -(2 ^ 62)<=hi)(h4:hi < 2 ^ 62)
  (q:R (NA lo (hi - lo).toNat) H):wpAny (model X.prog X.w) X.A (pyIter (.ref s.heap.objs.size)) (PIE X pins σ tg R) E {s with heap:=s.heap.push {cls:= .type "range",data:= .fields #[.int lo t,.int hi u,.int 1 v]},toks:=tk}:=by
 refine wpAny_pyIter_range (IsRange.new ..) (small_one h1 h2 h3 h4) ?_
 have I1:Inv X pins σ H {s with heap:=s.heap.push {cls:= .type "range",data:= .fields #[.int lo t,.int hi u,.int 1 v]},toks:=tk}:=I.kept fun b o e=>ay _ e
 refine⟨(s.heap.push {cls:= .type "range",data:= .fields #[.int lo t,.int hi u,.int 1 v]}).objs.size,[(s.heap.push {cls:= .type "range",data:= .fields #[.int lo t,.int hi u,.int 1 v]}).objs.size],_,_,H,rfl,
  I1.kept (t':=tk) fun b o e=>ay _ e,DF _ lo (hi - lo).toNat,?_,fun b hb=>?_,q⟩
 ·have e1:lo + ((0:Nat):Int) * 1=lo:=by simp
  have e2:(((hi - lo).toNat:Nat):Int) - ((0:Nat):Int)=Builtin.Range.rangeSize lo hi 1:=by rw[rangeSize_one]; split <;> lia
  show IsRangeIter _ _ (lo + ((0:Nat):Int) * 1) ((((hi - lo).toNat:Nat):Int) - ((0:Nat):Int)) 1
  rw[e1,e2]
  exact bR _ rfl
 ·have e:b=(s.heap.push {cls:= .type "range",data:= .fields #[.int lo t,.int hi u,.int 1 v]}).objs.size:=by simpa using hb
  subst e
  exact I1.Gr (aD _) (I1.cE.fresh (aD _))
def Sd (ta:TA):TI:=fun σ H R=>ta σ H fun vs H1=> ∃j:Int,vs=[.int j]/\ -(2 ^ 62)<=j/\j < 2 ^ 62/\R (NA 0 j.toNat) H1
theorem ja {a:Expr}{ta:TA}{p pos:Pos}(hg:Gl X "range")(hm:X.mg "range"=none)(ha:PA X [a] ta)(hs:starEach [a] X.env=[(false,eval a X.env)]:=by rfl):PI X tg (.Call (.Name "range" p) [a] [] pos) (Sd ta):=by
 intro pins s σ H R I h
 refine Call_ (qb I hg hm boot_range (oV (d9 (ha pos pins s σ H _ I h) fun us s1 ⟨vs,H1,I1,r1,q1⟩=>?_) hs rfl))
 obtain⟨j,e,q1,q2,q⟩:=q1
 subst e
 cases r1 with
 |cons r rr=>
  cases rr
  obtain⟨t,rfl⟩:=r
  exact call_range_1 (IJ I1 (by lia) (by lia) q1 q2 (by simpa using q))
def Xb (wi:TI)(g:TG)(tb:TS):TS:=fun D σ H=>wi σ H fun J H1=> ∃W:Nat->Nat->St->Hp->Prop,(∃m,W 0 m σ H1)/\ ∀i m σ H,W i m σ H->
 (J.stop i H/\D.nx σ H)∨(J.go i H/\ ∃N:St->Hp->Prop,(∀σ' H',N σ' H'-> ∃m',m' < m/\W (i + 1) m' σ' H')/\ ∀x H',J.Q9 i H x H'->g x σ H' fun σ2 H2=>tb {D with nx:=N,ct:=N,bk:=D.nx} σ2 H2)
def qd (fp:List Addr)(h:Heap):List (Addr×Obj):=fp.filterMap fun b=>(h.get? b).map fun o=>(b,o)
theorem j8 {fp:List Addr}{h:Heap}{b:Addr}{o:Obj}(hb:b∈fp)(e:h.get? b=some o):(b,o)∈qd fp h:=List.mem_filterMap.mpr ⟨b,hb,by rw[e]; rfl⟩
theorem Gu {fp:List Addr}{h:Heap}{p:Addr×Obj}(hp:p∈qd fp h):p.1∈fp/\h.get? p.1=some p.2:=by
 obtain⟨b,hb,e⟩:=List.mem_filterMap.mp hp
 cases q:h.get? b with
 |none=>rw[q] at e; cases e
 |some o=>
  rw[q] at e
  have e':(b,o)=p:=aG e
  subst e'
  exact⟨hb,q⟩
theorem Inv.pinned {pins:List (Addr×Obj)}{σ:St}{H:Hp}{s:Shared}{fp:List Addr}(I:Inv X pins σ H s)(hf: ∀b∈fp,uT X pins H b)(ho: ∀b∈fp,∃o,s.heap.get? b=some o/\ ∀v,o.data≠ .cell v):Inv X (pins ++ qd fp s.heap) σ H s:=
 I.uy fun p hp=>(bc.mp hp).elim (fun z=>I.pin p (bw _ z)) fun z=>by
  obtain⟨hb,e⟩:=Gu z
  obtain⟨f0,f1,f2,_⟩:=hf p.1 hb
  obtain⟨o,e',d⟩:=ho p.1 hb
  rw[e] at e'; cases e'
  exact⟨e,f0,f1,f2,d⟩
theorem Inv.jm {pins pl:List (Addr×Obj)}{σ:St}{H:Hp}{s:Shared}(I:Inv X (pins ++ pl) σ H s):Inv X pins σ H s:=I.uy fun p hp=>I.pin p (bw _ (cZ _ hp))
theorem eN {iter:Expr}{body:List Stmt}{wi:TI}{g:TG}{tb:TS}{pos:Pos}(hp:PassesOwn (model X.prog X.w) X.A X.env X.xe)(hc:X.calm=true)(hi:PI X tg iter wi)(hg:PG X tg g)(hb:pB X body tb)
  (hs: ∀x,foldedSetIterable iter X.env x=pure x:=by intro _; rfl):PS X (.For tg iter body [] pos) (Xb wi g tb):=by
 intro pins s σ H D I h
 refine wpAny_For (d9 (hi pins s σ H _ I h) fun v s1 h1=>d9 h1 fun VM s2 h2=>?_) hs
 obtain⟨it,fp,tn,J,H2,e,I2,T,NB,f2,W,⟨m0,w0⟩,turn⟩:=h2
 subst e
 have ny: ∀{H':Hp},(∀b∈fp,H' b=none)-> ∀b∈fp,uT X pins H' b:=fun hn b hb=>⟨hn b hb,(f2 b hb).2⟩
 refine codeAny_forLoop_any (fun n s'=> ∃i σ' H',Inv X pins σ' H' s'/\tn i s'.heap/\(∀b∈fp,H' b=none)/\W i n σ' H') ?_ m0 ⟨0,σ,H2,I2,NB,fun b hb=>(f2 b hb).1,w0⟩
 rintro n s3 ⟨i,σ3,H3,I3,Se,LK,w3⟩
 rcases turn i n σ3 H3 w3 with⟨stop,qn⟩|⟨go,N,hN,step⟩
 ·refine dW hp (d9 (T.done X rfl rfl rfl hc i pins s3 σ3 H3 X.xe I3 (ny LK) Se stop) fun r s4 ⟨hr,I4⟩=>?_)
  subst hr
  exact jz ⟨σ3,H3,I4,qn⟩
 ·refine dW hp (d9 (T.item X rfl rfl rfl hc i pins s3 σ3 H3 X.xe I3 (ny LK) Se go) fun r s4 ⟨u,hr,h4⟩=>?_)
  subst hr
  refine dW hp (d9 h4 fun _ s5 ⟨x,H5,I5,r5,y5,OG,Rb⟩=>?_)
  have I5':=I5.pinned (ny Rb) (T.obj _ _ OG)
  refine dW hp (d9 (hg _ s5 σ3 H5 x u _ I5' r5 (step x H5 y5)) fun _ s6 ⟨σ6,H6,I6,q6⟩=>?_)
  refine dW hp (d9 (hb _ s6 σ6 H6 _ I6 q6) fun f s7 q7=>?_)
  have again: ∀{σ7:St} {H7:Hp},Inv X (pins ++ qd fp s5.heap) σ7 H7 s7->N σ7 H7-> ∃m,m < n/\ ∃i σ' H',Inv X pins σ' H' s7/\tn i s7.heap/\(∀b∈fp,H' b=none)/\W i m σ' H':=fun{σ7 H7} I7 n7=>by
   obtain⟨m',hm,w7⟩:=hN σ7 H7 n7
   refine⟨m',hm,i + 1,σ7,H7,I7.jm,T.keep _ _ _ OG fun b hb o e=>(I7.pin (b,o) (bw _ (bw _ (j8 hb e)))).1,fun b hb=>?_,w7⟩
   obtain⟨o,e,d⟩:=T.obj _ _ OG b hb
   exact(I7.pin (b,o) (bw _ (bw _ (j8 hb e)))).2.1
  cases f with
  |next=>obtain⟨σ7,H7,I7,n7⟩:=q7; exact again I7 n7
  |cont=>obtain⟨σ7,H7,I7,n7⟩:=q7; exact again I7 n7
  |brk=>obtain⟨σ7,H7,I7,q7⟩:=q7; exact⟨σ7,H7,I7.jm,q7⟩
  |ret v=>obtain⟨x7,σ7,H7,I7,r7,q7⟩:=q7; exact⟨x7,σ7,H7,I7.jm,r7,q7⟩
end
theorem fG {K:Frag}{a:Addr}{xs:List V}{g:TG}{tb:TS}{D:Ends}{σ:St}{H:Hp}(Pv:Nat->St->Hp->Prop)(h0:Pv 0 σ H)(hl: ∀i σ H,i<=xs.length->Pv i σ H->bG K H a xs)
  (hs: ∀i x σ H,xs[i]? =some x->Pv i σ H->g x σ H fun σ2 H2=>tb {D with nx:=Pv (i + 1),ct:=Pv (i + 1),bk:=D.nx} σ2 H2) (hd: ∀σ H,Pv xs.length σ H->D.nx σ H):
  ∃W:Nat->Nat->St->Hp->Prop,(∃m,W 0 m σ H)/\ ∀i m σ H,W i m σ H->
   ((Ra K a).stop i H/\D.nx σ H)∨((Ra K a).go i H/\ ∃N:St->Hp->Prop,(∀σ' H',N σ' H'-> ∃m',m' < m/\W (i + 1) m' σ' H')/\ ∀x H',(Ra K a).Q9 i H x H'->g x σ H' fun σ2 H2=>tb {D with nx:=N,ct:=N,bk:=D.nx} σ2 H2):=by
 refine⟨fun i m σ H=>m=xs.length - i/\i<=xs.length/\Pv i σ H,⟨xs.length,by simp,Nat.zero_le _,h0⟩,?_⟩
 rintro i m σ H ⟨rfl,hi,p⟩
 have q:=hl i σ H hi p
 by_cases iI:i < xs.length
 ·refine .inr ⟨⟨xs,xs[i],q,by simp[iI]⟩,Pv (i + 1),fun σ' H' p'=>⟨xs.length - (i + 1),by lia,rfl,iI,p'⟩,fun x H' y=>?_⟩
  obtain⟨e,y⟩:=y
  subst e
  exact hs i x σ _ (y xs q) p
 ·have e:i=xs.length:=by lia
  subst e
  exact .inl ⟨⟨xs,q,aD _⟩,hd σ H p⟩
theorem jU {lo:Int}{n:Nat}{g:TG}{tb:TS}{D:Ends}{σ:St}{H:Hp}(Pv:Nat->St->Hp->Prop)(h0:Pv 0 σ H)
  (hs: ∀i σ H,i < n->Pv i σ H->g (.int (lo + i)) σ H fun σ2 H2=>tb {D with nx:=Pv (i + 1),ct:=Pv (i + 1),bk:=D.nx} σ2 H2) (hd: ∀σ H,Pv n σ H->D.nx σ H):
  ∃W:Nat->Nat->St->Hp->Prop,(∃m,W 0 m σ H)/\ ∀i m σ H,W i m σ H->
   ((NA lo n).stop i H/\D.nx σ H)∨((NA lo n).go i H/\ ∃N:St->Hp->Prop,(∀σ' H',N σ' H'-> ∃m',m' < m/\W (i + 1) m' σ' H')/\ ∀x H',(NA lo n).Q9 i H x H'->g x σ H' fun σ2 H2=>tb {D with nx:=N,ct:=N,bk:=D.nx} σ2 H2):=by
 refine⟨fun i m σ H=>m=n - i/\i<=n/\Pv i σ H,⟨n,by simp,Nat.zero_le _,h0⟩,?_⟩
 rintro i m σ H ⟨rfl,hi,p⟩
 by_cases iI:i < n
 ·refine .inr ⟨iI,Pv (i + 1),fun σ' H' p'=>⟨n - (i + 1),by lia,rfl,iI,p'⟩,fun x H' y=>?_⟩
  obtain⟨e,y⟩:=y
  subst e y
  exact hs i σ _ iI p
 ·have e:i=n:=by lia
  subst e
  exact .inl ⟨aD _,hd σ H p⟩
abbrev R2:=V->V->Hp->VK->Prop
def o6 (X:Cx)(f:Value->Value->Sem Value)(r:R2):Prop:=
 ∀(pins:List (Addr×Obj)) (s:Shared) (σ:St) (H:Hp) (x y:V) (v u:Value) (Q:VK),Inv X pins σ H s->RelV x v->RelV y u->r x y H Q->
  wpAny (model X.prog X.w) X.A (f v u) (EP X pins σ Q) X.xe s
def NC (X:Cx)(f:Value->Sem Value)(r:V->Hp->VK->Prop):Prop:=
 ∀(pins:List (Addr×Obj)) (s:Shared) (σ:St) (H:Hp) (x:V) (v:Value) (Q:VK),Inv X pins σ H s->RelV x v->r x H Q->
  wpAny (model X.prog X.w) X.A (f v) (EP X pins σ Q) X.xe s
def iZ (X:Cx)(f:Value)(r:List V->Hp->VK->Prop):Prop:=
 ∀(pins:List (Addr×Obj)) (s:Shared) (σ:St) (H:Hp) (xs:List V) (us:List Value) (Q:VK),Inv X pins σ H s->Vals xs us->r xs H Q->
  wpAny (model X.prog X.w) X.A (call f us) (EP X pins σ Q) X.xe s
def Rc (r:R2)(ta tb:TE):TE:=fun σ H Q=>ta σ H fun x H1=>tb σ H1 fun y H2=>r x y H2 Q
def tUn (r:V->Hp->VK->Prop)(ta:TE):TE:=fun σ H Q=>ta σ H fun x H1=>r x H1 Q
inductive EvI (x y:V)(C k:Int->Int->Prop):Prop
 |mk (i j:Int)(h1:x= .int i)(h2:y= .int j)(c:C i j)(q:k i j):EvI x y C k
inductive EvJ (x y:V)(k:Int->Int->Prop):Prop
 |mk (i j:Int)(h1:x= .int i)(h2:y= .int j)(q:k i j):EvJ x y k
def rI (C:Int->Int->Prop)(g:Int->Int->V):R2:=fun x y H Q=>EvI x y C fun i j=>Q (g i j) H
def Lc (g:Int->Int->V):R2:=fun x y H Q=>EvJ x y fun i j=>Q (g i j) H
def rU (g:Int->V):V->Hp->VK->Prop:=fun x H Q=> ∃i,x= .int i/\Q (g i) H
section
variable {X:Cx}{a b c:Expr}{ta tb tc:TE}{pos:Pos}
theorem OH (ha:PE X a ta)(hb:PE X b tb){pins:List (Addr×Obj)}{s:Shared}{σ:St}{H:Hp}{R:V->V->Hp->Prop}(I:Inv X pins σ H s)
  (h:ta σ H fun x H1=>tb σ H1 fun y H2=>R x y H2) {Q:Value->Shared->Prop} {f:Value->Value->Sem Value}
  (hf: ∀v u s2 x y H2,Inv X pins σ H2 s2->RelV x v->RelV y u->R x y H2->wpAny (model X.prog X.w) X.A (f v u) Q X.xe s2):
  wpAny (model X.prog X.w) X.A (eval a X.env) (fun v s₁=>wpAny (model X.prog X.w) X.A (eval b X.env) (fun u s₂=>wpAny (model X.prog X.w) X.A (f v u) Q X.xe s₂) X.xe s₁) X.xe s:=by
 refine d9 (ha pins s σ H _ I h) fun v s1 ⟨x,H1,I1,r1,q1⟩=>?_
 refine d9 (hb pins s1 σ H1 _ I1 q1) fun u s2 ⟨y,H2,I2,r2,q2⟩=>?_
 exact hf v u s2 x y H2 I2 r1 r2 q2
theorem aQ {op:Operator}{r:R2}(ho:o6 X (binaryOp op) r)(ha:PE X a ta)(hb:PE X b tb):PE X (.BinOp a op b pos) (Rc r ta tb):=by
 intro pins s σ H Q I h
 exact wpAny_BinOp (OH ha hb I h fun v u s2 x y H2 I2 rx ry q=>ho pins s2 σ H2 x y v u Q I2 rx ry q)
theorem pC {op:UnaryOp}{r:V->Hp->VK->Prop}(ho:NC X (unaryOp op) r)(ha:PE X a ta):PE X (.UnaryOp op a pos) (tUn r ta):=by
 intro pins s σ H Q I h
 exact UnaryOp_ (d9 (ha pins s σ H _ I h) fun v s1 ⟨x,H1,I1,r1,q1⟩=>ho pins s1 σ H1 x v Q I1 r1 q1)
theorem Sf {f:Value->Value->Sem Value}{C:Int->Int->Prop}{g:Int->Int->Int}
  (rule: ∀(i j:Int) (t u:Tok) (s:Shared) (Q:Value->Shared->Prop) (E:Value->Shared->Prop),C i j->Q (.int (g i j) s.toks) {s with toks:=s.toks + 1}->wpAny (model X.prog X.w) X.A (f (.int i t) (.int j u)) Q E s):
  o6 X f (rI C fun i j=> .int (g i j)):=by
 intro pins s σ H x y v u Q I rx ry h
 obtain⟨i,j,rfl,rfl,hc,q⟩:=h
 obtain⟨t,rfl⟩:=rx
 obtain⟨t',rfl⟩:=ry
 exact rule i j t t' s _ _ hc ⟨.int (g i j),H,I.tok _,⟨_,rfl⟩,q⟩
theorem Sg {f:Value->Value->Sem Value}{g:Int->Int->Int}
  (rule: ∀(i j:Int) (t u:Tok) (s:Shared) (Q:Value->Shared->Prop) (E:Value->Shared->Prop),Q (.int (g i j) s.toks) {s with toks:=s.toks + 1}->wpAny (model X.prog X.w) X.A (f (.int i t) (.int j u)) Q E s):
  o6 X f (Lc fun i j=> .int (g i j)):=by
 intro pins s σ H x y v u Q I rx ry h
 obtain⟨i,j,rfl,rfl,q⟩:=h
 obtain⟨t,rfl⟩:=rx
 obtain⟨t',rfl⟩:=ry
 exact rule i j t t' s _ _ ⟨.int (g i j),H,I.tok _,⟨_,rfl⟩,q⟩
theorem LL {f:Value->Value->Sem Value}{g:Int->Int->Bool}
  (rule: ∀(i j:Int) (t u:Tok) (s:Shared) (Q:Value->Shared->Prop) (E:Value->Shared->Prop),Q (.bool (g i j)) s->wpAny (model X.prog X.w) X.A (f (.int i t) (.int j u)) Q E s):
  o6 X f (Lc fun i j=> .bl (g i j)):=by
 intro pins s σ H x y v u Q I rx ry h
 obtain⟨i,j,rfl,rfl,q⟩:=h
 obtain⟨t,rfl⟩:=rx
 obtain⟨t',rfl⟩:=ry
 exact rule i j t t' s _ _ ⟨.bl (g i j),H,I,rfl,q⟩
def Xc (i j:Int):Prop:=0 < j/\j < 1073741824
def Xd (i j:Int):Prop:=0<=j/\j<=1000000/\i.natAbs < 2 ^ 64
def OI (i j:Int):Prop:=(-(2 ^ 64) < i/\i < 2 ^ 64)∨(-(2 ^ 64) < j/\j < 2 ^ 64)
theorem OI.ok {i j:Int}(h:OI i j):IntMulOk i j:=by
 rcases h with⟨h1,h2⟩|⟨h1,h2⟩
 ·exact .of_left (intBits_le_64 h1 h2)
 ·exact .of_right (intBits_le_64 h1 h2)
theorem dk:o6 X (binaryOp .Add) (Lc fun i j=> .int (i + j)):=Sg fun _ _ _ _ _ _ _ q=>add_int q
theorem fS:o6 X (binaryOp .Sub) (Lc fun i j=> .int (i - j)):=Sg fun _ _ _ _ _ _ _ q=>sub_int q
theorem jD:o6 X (binaryOp .Mult) (rI OI fun i j=> .int (i * j)):=Sf fun _ _ _ _ _ _ _ hc q=>mul_int q hc.ok
theorem jM:o6 X (binaryOp .FloorDiv) (rI Xc fun i j=> .int (i / j)):=Sf fun i j _ _ _ _ _ hc q=>by
 have h1:(0:Int) < j:=hc.1
 have h2:j < 1073741824:=hc.2
 exact floordiv_int (by lia) (by rw[Int.fdiv_eq_ediv_of_nonneg i (by lia)]; exact q) (.inl (PyProof.noPylong_small (by lia)))
theorem cq:o6 X (binaryOp .Mod) (rI (fun _ j=>0 < j) fun i j=> .int (i % j)):=Sf fun i j _ _ _ _ _ hc q=>by
 have h1:(0:Int) < j:=hc
 exact mod_int' (by lia) (by rw[Int.fmod_eq_emod_of_nonneg i (by lia)]; exact q)
theorem iJ:o6 X (binaryOp .Pow) (rI Xd fun i j=> .int (i ^ j.toNat)):=Sf fun _ _ _ _ _ _ _ hc q=>pow_int_small hc.1 hc.2.1 hc.2.2 q
theorem unI {f:Value->Sem Value}{g:Int->Int}
  (rule: ∀(i:Int) (t:Tok) (s:Shared) (Q:Value->Shared->Prop) (E:Value->Shared->Prop),Q (.int (g i) s.toks) {s with toks:=s.toks + 1}->wpAny (model X.prog X.w) X.A (f (.int i t)) Q E s):
  NC X f (rU fun i=> .int (g i)):=by
 intro pins s σ H x v Q I rx h
 obtain⟨i,rfl,q⟩:=h
 obtain⟨t,rfl⟩:=rx
 exact rule i t s _ _ ⟨.int (g i),H,I.tok _,⟨_,rfl⟩,q⟩
theorem lj:NC X (unaryOp .USub) (rU fun i=> .int (-i)):=unI fun _ _ _ _ _ q=>neg_int q
end
def Sh:V->V->Bool
 | .eF,.eF=>true| .eF,.int _=>true| .int _,.eF=>true| .eF,.bl _=>true| .bl _,.eF=>true| .eF,.str _=>true| .str _,.eF=>true
 | .int _,.int _=>true| .bl _,.bl _=>true| .str _,.str _=>true| .Gk _,.Gk _=>true
 | .int _,.str _=>true| .str _,.int _=>true| .bl _,.str _=>true| .str _,.bl _=>true
 |_,_=>false
def rEq:R2:=fun x y H Q=>Sh x y=true/\Q (.bl (decide (x=y))) H
def rNe:R2:=fun x y H Q=>Sh x y=true/\Q (.bl (!decide (x=y))) H
theorem ET {i j:Int}:decide (V.int i=V.int j)=(i == j):=by
 rw[oW]
 simp
theorem IK {i j:Bool}:decide (V.bl i=V.bl j)=(i == j):=by
 rw[oW]
 simp
theorem EU {i j:Str}:decide (V.str i=V.str j)=(i == j):=by
 rw[oW]
 simp
theorem EV {i j:Array UInt8}:decide (V.Gk i=V.Gk j)=(i.toList == j.toList):=by
 rw[oW]
 cases i
 cases j
 simp
section
variable {X:Cx}{a b c:Expr}{ta tb tc:TE}{pos:Pos}
theorem dG {pins:List (Addr×Obj)}{σ:St}{H:Hp}{s:Shared}{Q:VK}{k k':Bool}(I:Inv X pins σ H s)(q:Q (.bl k) H)(e:k=k'):EP X pins σ Q (.bool k') s:=by
 subst e
 exact⟨.bl k,H,I,rfl,q⟩
theorem dh:o6 X (compareOp .Eq) rEq:=by
 intro pins s σ H x y v u Q I rx ry h
 obtain⟨hs,q⟩:=h
 cases x with
 |eF=>
  cases rx
  cases y with
  |eF=>cases ry; exact PySem.EqNone.eq_none_none (dG I q (by simp))
  |bl j=>cases ry; exact PySem.EqNone.eq_none_bool (dG I q (by simp))
  |int j=>obtain⟨t',rfl⟩:=ry; exact PySem.EqNone.eq_none_int (dG I q (by simp))
  |str j=>obtain⟨t',rfl⟩:=ry; exact PySem.EqNone.eq_none_str (dG I q (by simp))
  |_=>exact absurd (show false=true from hs) aX
 |bl i=>
  cases rx
  cases y with
  |eF=>cases ry; exact PySem.EqNone.eq_bool_none (dG I q (by simp))
  |bl j=>cases ry; exact eq_bool (dG I q IK)
  |str j=>obtain⟨t',rfl⟩:=ry; exact PySem.EqMixed.eq_bool_str (dG I q (by simp))
  |_=>exact absurd (show false=true from hs) aX
 |int i=>
  obtain⟨t,rfl⟩:=rx
  cases y with
  |eF=>cases ry; exact PySem.EqNone.eq_int_none (dG I q (by simp))
  |int j=>obtain⟨t',rfl⟩:=ry; exact eq_int (dG I q ET)
  |str j=>obtain⟨t',rfl⟩:=ry; exact PySem.EqMixed.eq_int_str (dG I q (by simp))
  |_=>exact absurd (show false=true from hs) aX
 |str i=>
  obtain⟨t,rfl⟩:=rx
  cases y with
  |eF=>cases ry; exact PySem.EqNone.eq_str_none (dG I q (by simp))
  |bl j=>cases ry; exact PySem.EqMixed.eq_str_bool (dG I q (by simp))
  |int j=>obtain⟨t',rfl⟩:=ry; exact PySem.EqMixed.eq_str_int (dG I q (by simp))
  |str j=>obtain⟨t',rfl⟩:=ry; exact eq_str (dG I q EU)
  |_=>exact absurd (show false=true from hs) aX
 |Gk i=>
  obtain⟨t,rfl⟩:=rx
  cases y with
  |Gk j=>obtain⟨t',rfl⟩:=ry; exact PySem.W.eq_bytes (dG I q EV)
  |_=>exact absurd (show false=true from hs) aX
 |_=>cases y <;> exact absurd (show false=true from hs) aX
theorem qT:o6 X (compareOp .NotEq) rNe:=by
 intro pins s σ H x y v u Q I rx ry h
 obtain⟨hs,q⟩:=h
 cases x with
 |eF=>
  cases rx
  cases y with
  |eF=>cases ry; exact PySem.EqNone.ne_none_none (dG I q (by simp))
  |bl j=>cases ry; exact PySem.EqNone.ne_none_bool (dG I q (by simp))
  |int j=>obtain⟨t',rfl⟩:=ry; exact PySem.EqNone.ne_none_int (dG I q (by simp))
  |str j=>obtain⟨t',rfl⟩:=ry; exact PySem.EqNone.ne_none_str (dG I q (by simp))
  |_=>exact absurd (show false=true from hs) aX
 |bl i=>
  cases rx
  cases y with
  |eF=>cases ry; exact PySem.EqNone.ne_bool_none (dG I q (by simp))
  |bl j=>cases ry; exact ne_bool (dG I q (cV not IK))
  |str j=>obtain⟨t',rfl⟩:=ry; exact PySem.EqMixed.ne_bool_str (dG I q (by simp))
  |_=>exact absurd (show false=true from hs) aX
 |int i=>
  obtain⟨t,rfl⟩:=rx
  cases y with
  |eF=>cases ry; exact PySem.EqNone.ne_int_none (dG I q (by simp))
  |int j=>obtain⟨t',rfl⟩:=ry; exact ne_int (dG I q (cV not ET))
  |str j=>obtain⟨t',rfl⟩:=ry; exact PySem.EqMixed.ne_int_str (dG I q (by simp))
  |_=>exact absurd (show false=true from hs) aX
 |str i=>
  obtain⟨t,rfl⟩:=rx
  cases y with
  |eF=>cases ry; exact PySem.EqNone.ne_str_none (dG I q (by simp))
  |bl j=>cases ry; exact PySem.EqMixed.ne_str_bool (dG I q (by simp))
  |int j=>obtain⟨t',rfl⟩:=ry; exact PySem.EqMixed.ne_str_int (dG I q (by simp))
  |str j=>obtain⟨t',rfl⟩:=ry; exact ne_str (dG I q (cV not EU))
  |_=>exact absurd (show false=true from hs) aX
 |Gk i=>
  obtain⟨t,rfl⟩:=rx
  cases y with
  |Gk j=>obtain⟨t',rfl⟩:=ry; exact PySem.W.ne_bytes (dG I q (cV not EV))
  |_=>exact absurd (show false=true from hs) aX
 |_=>cases y <;> exact absurd (show false=true from hs) aX
theorem kN:o6 X (compareOp .Lt) (Lc fun i j=> .bl (decide (i < j))):=LL fun _ _ _ _ _ _ _ q=>lt_int q
theorem yg:o6 X (compareOp .LtE) (Lc fun i j=> .bl (decide (i<=j))):=LL fun _ _ _ _ _ _ _ q=>le_int q
theorem jH:o6 X (compareOp .Gt) (Lc fun i j=> .bl (decide (j < i))):=LL fun _ _ _ _ _ _ _ q=>gt_int q
theorem IL:o6 X (compareOp .GtE) (Lc fun i j=> .bl (decide (j<=i))):=LL fun _ _ _ _ _ _ _ q=>ge_int q
theorem bb (b:Expr){op:CmpOp}(h:op≠ .In:=by decide)(h2:op≠ .NotIn:=by decide):behindInMarks op b=false:=by
 have e1:(op == CmpOp.In)=false:=by cases op <;> first|rfl|exact absurd rfl h
 have e2:(op == CmpOp.NotIn)=false:=by cases op <;> first|rfl|exact absurd rfl h2
 cases b <;> simp[behindInMarks,e1,e2]
theorem fQ {op:CmpOp}{r:R2}(ho:o6 X (compareOp op) r)(ha:PE X a ta)(hb:PE X b tb)(hm:behindInMarks op b=false):PE X (.Compare a [op] [b] pos) (Rc r ta tb):=by
 intro pins s σ H Q I h
 exact wpAny_Compare1 (OH ha hb I h fun v u s2 x y H2 I2 rx ry q=>ho pins s2 σ H2 x y v u Q I2 rx ry q) hm
inductive EvB (x:V)(k:Bool->Prop):Prop
 |mk (b:Bool)(h:x= .bl b)(q:k b):EvB x k
def IM (t:TE):TT:=fun σ H Q=>t σ H fun x H'=>EvB x fun b=>Q b H'
theorem a0 {op:CmpOp}{r:R2}(ho:o6 X (compareOp op) r)(ha:PE X a ta)(hb:PE X b tb)(hm:behindInMarks op b=false):PT X (.Compare a [op] [b] pos) (IM (Rc r ta tb)):=by
 intro pins s σ H Q I h
 refine wpAny_isTrue_Compare1 (d9 (ha pins s σ H _ I h) fun v s1 ⟨x,H1,I1,r1,q1⟩=>d9 (hb pins s1 σ H1 _ I1 q1) fun u s2 ⟨y,H2,I2,r2,q2⟩=>
  d9 (ho pins s2 σ H2 x y v u _ I2 r1 r2 q2) fun c s3 ⟨z,H3,I3,r3,k,e,q3⟩=>?_) hm
 subst e
 cases r3
 exact gi ⟨H3,I3,q3⟩
def IP (r r':R2)(ta tb tc:TE):TE:=fun σ H Q=>ta σ H fun x H1=>tb σ H1 fun y H2=>r x y H2 fun z H3=> ∃k,z= .bl k/\
 (if k=true then tc σ H3 fun w' H4=>r' y w' H4 Q else Q (.bl false) H3)
theorem Bq {op Xe:CmpOp}{r r':R2}(ho:o6 X (compareOp op) r)(LG:o6 X (compareOp Xe) r')(ha:PE X a ta)(hb:PE X b tb)(hc:PE X c tc)
  (hm:lastMarks [op,Xe] [b,c]=false:=by with_unfolding_all rfl):PT X (.Compare a [op,Xe] [b,c] pos) (IM (IP r r' ta tb tc)):=by
 intro pins s σ H Q I h
 refine isTrue_chain (d9 (ha pins s σ H _ I h) fun v s1 ⟨x,H1,I1,r1,q1⟩=>test_link (d9 (hb pins s1 σ H1 _ I1 q1) fun u s2 ⟨y,H2,I2,r2,q2⟩=>
  d9 (ho pins s2 σ H2 x y v u _ I2 r1 r2 q2) fun d s3 ⟨z,H3,I3,r3,k,e,q3⟩=>?_)) hm
 subst e
 cases r3
 refine gi ?_
 cases k with
 |false=>
  obtain⟨k',e',q'⟩:=q3
  cases e'
  exact ite_ff ⟨H3,I3,q'⟩
 |true=>
  refine ite_tt (test_last (d9 (hc pins s3 σ H3 _ I3 q3) fun w' s4 ⟨z',H4,I4,r4,q4⟩=>d9 (LG pins s4 σ H4 y z' u w' _ I4 r2 r4 q4) fun d' s5 ⟨z2,H5,I5,r5,k2,e2,q5⟩=>?_))
  subst e2
  cases r5
  exact gi ⟨H5,I5,q5⟩
theorem y3:(sizeLine:Nat) < 2 ^ 63:=by rw[eU]; decide
theorem uU:o6 X (binaryOp .Add) (fun x y H Q=> ∃i j,x= .str i/\y= .str j/\i.length + j.length<=sizeLine/\Q (.str (i ++ j)) H):=by
 intro pins s σ H x y v u Q I rx ry h
 obtain⟨i,j,rfl,rfl,hz,q⟩:=h
 obtain⟨t,rfl⟩:=rx
 obtain⟨t',rfl⟩:=ry
 exact add_str (fun t' tk=>⟨.str (i ++ j),H,I.tok _,⟨_,rfl⟩,q⟩) hz
theorem vals1 {x:V}{us:List Value}(r:Vals [x] us): ∃u,us=[u]/\RelV x u:=by
 cases r with
 |cons r1 r2=>cases r2; exact⟨_,rfl,r1⟩
theorem vals2 {x y:V}{us:List Value}(r:Vals [x,y] us): ∃u w',us=[u,w']/\RelV x u/\RelV y w':=by
 cases r with
 |cons r1 r2=>
  cases r2 with
  |cons r3 r4=>cases r4; exact⟨_,_,rfl,r1,r3⟩
theorem Gv (hc:X.calm=true):iZ X (.builtin "max") (fun xs H Q=> ∃i j,xs=[.int i,.int j]/\Q (.int (if j > i then j else i)) H):=by
 intro pins s σ H xs us Q I r h
 obtain⟨i,j,rfl,q⟩:=h
 obtain⟨u,w',rfl,⟨t,rfl⟩,⟨t',rfl⟩⟩:=vals2 r
 refine max_two_ints (I.ok.hd hc) fun h' tk k=>⟨_,H,I.kept k,?_,q⟩
 by_cases hj:j > i
 ·rw[aY hj,aY hj]; exact⟨_,rfl⟩
 ·rw[aN hj,aN hj]; exact⟨_,rfl⟩
theorem sE (hc:X.calm=true):iZ X (.builtin "min") (fun xs H Q=> ∃i j,xs=[.int i,.int j]/\Q (.int (if j < i then j else i)) H):=by
 intro pins s σ H xs us Q I r h
 obtain⟨i,j,rfl,q⟩:=h
 obtain⟨u,w',rfl,⟨t,rfl⟩,⟨t',rfl⟩⟩:=vals2 r
 refine min_two_ints (I.ok.hd hc) fun h' tk k=>⟨_,H,I.kept k,?_,q⟩
 by_cases hj:j < i
 ·rw[aY hj,aY hj]; exact⟨_,rfl⟩
 ·rw[aN hj,aN hj]; exact⟨_,rfl⟩
theorem lI:iZ X (.type "int") (fun xs H Q=>(∃i,xs=[.int i]/\Q (.int i) H)∨ ∃k,xs=[.bl k]/\Q (.int (if k then 1 else 0)) H):=by
 intro pins s σ H xs us Q I r h
 rcases h with⟨i,rfl,q⟩|⟨k,rfl,q⟩
 ·obtain⟨u,rfl,t,rfl⟩:=vals1 r
  exact call_int_int ⟨.int i,H,I,⟨_,rfl⟩,q⟩
 ·obtain⟨u,rfl,r1⟩:=vals1 r
  cases r1
  exact call_int_bool ⟨.int (if k then 1 else 0),H,I.tok _,⟨_,rfl⟩,q⟩
end
structure DG (h:Heap)(x dx C:Addr)(mA:Str->Option Value):Prop where
 obj:h.get? x=some (PySem.W.instObj C dx)
 ns:h.Ns1 dx mA
 ne:dx≠x
theorem Gw {h:Heap}{dx:Addr}{mA:Str->Option Value}(n:h.Ns1 dx mA): ∃od,h.get? dx=some od/\ ∀name,PySem.W.lookIn name od=some (mA name):=by
 obtain⟨o,es,ep,ho,hd,hk,_,hm⟩:=n
 refine⟨o,ho,fun name=>?_⟩
 have e:=hm name
 unfold nsFind findBy at e
 rw[← Array.find?_toList] at e
 unfold PySem.W.lookIn
 rw[hd]
 dsimp only
 split
 ·rename_i y q
  rw[q] at e
  exact cV some e
 ·rename_i q
  rw[q] at e
  have a:es.toList.any (·.refKey)=false:=by
   rw[sj]
   intro y hy
   obtain⟨z,t,IQ⟩:=hk y (Array.mem_toList_iff.mp hy)
   simp[DictEntry.refKey,IQ]
  have a': ¬ es.toList.any (·.refKey)=true:=by rw[a]; exact aX
  rw[aN a']
  exact cV some e
theorem DG.look {h:Heap}{x dx C:Addr}{mA:Str->Option Value}(I:DG h x dx C mA): ∃od,PySem.W.InstAt h x (PySem.W.instObj C dx) C (some od)/\ ∀name,PySem.W.lookIn name od=some (mA name):=
 let⟨od,ho,hl⟩:=Gw I.ns
 ⟨od,⟨I.obj,rfl,rfl,ho⟩,hl⟩
section
variable {prog:Program}{w:World}{A:Around}{E:Value->Shared->Prop}{s:Shared}{K:Frag}{x dx C f:Addr}{mA:Str->Option Value}{name:Str}{v:Value}
theorem get_map {expr:Bool}{Q:Value->Shared->Prop}(X:K.In s.heap)(I:DG s.heap x dx C mA)(hg:plainGet K C name=true)(hh:hasDictIn K C=true)
  (ha:findIn K (.ref C) name=some none) (hv:mA name=some v) (VN:PySem.W.handedIn v=true) (h:Q v {s with toks:=s.toks + 1}):
  wpAny (model prog w) A (getAttr (.ref x) name expr) Q E s:=by
 obtain⟨od,J,hl⟩:=I.look
 exact PySem.W.get_value X J (Bb hg).1 (PySem.W.findObj_own hh ha rfl (by rw[hl,hv])) VN h
theorem IS {pl:Sem Bool}{Q:Value×List Value->Shared->Prop}(X:K.In s.heap)(I:DG s.heap x dx C mA)(hg:plainGet K C name=true)
  (hf:findIn K (.ref C) name=some (some (.ref f))) (ht:PySem.W.isFn K (.ref f)=true) (hv:mA name=none) (h:Q (.ref f,[.ref x]) s):
  wpAny (model prog w) A (getMethod (.ref x) name pl) Q E s:=by
 obtain⟨od,J,hl⟩:=I.look
 exact PySem.W.method_fn X J (Bb hg).1 (Bb hg).2 hf (Gb.mp ht) (by show(PySem.W.lookIn name od).map (·.isSome)=some false; rw[hl,hv]; rfl) h
theorem LM {ns:List Str}{Q:Unit->Shared->Prop}(X:K.In s.heap)(I:DG s.heap x dx C mA)
  (hs:findIn K (.ref C) "__setattr__"=some (some (.builtin "object.__setattr__"))) (hp:plainOver K C=true) (ht:PySem.W.takerIn K C name=some none) (hh:hasDictIn K C=true)
  (hw:PySem.Within mA ns) (hsz:ns.length<=sizeLine)
  (h: ∀h',DG h' x dx C (fun y=>if y=name then some v else mA y)->Heap.SameBut dx s.heap h'->Q () {s with heap:=h',toks:=s.toks + 2}):
  wpAny (model prog w) A (setAttr (.ref x) name v) Q E s:=by
 obtain⟨od,J,hl⟩:=I.look
 refine PySem.W.set_plain X J hs (PySem.W.osa_open (s:={s with toks:=s.toks + 1}) (r:=none) X J hp ht fun b=>?_)
 obtain⟨cd,hc,Gp⟩:=PySem.W.any_some hh
 have hx:s.heap.get? x=some ⟨.ref C,some dx,.plain,#[]⟩:=I.obj
 refine aB (bF (aB (aB (wpAny_loadPart hx (aB (PySem.W.Looks.here (s:={s with toks:=s.toks + 1}) (PySem.W.looks_clsIn X hc) ?_))))))
 rw[Gp]
 refine bF (a:=some dx) (aB (bF (aB ?_)))
 refine wpAny_nsSet1 (s:={s with toks:=s.toks + 1}) I.ns fun h' VO Rf=>?_
 obtain⟨oD,esD,epD,Xf,Xg,Xh⟩:=VO.count (PySem.Within.cons name v hw)
 refine aB (wpAny_lookBehind Xf (by rw[Xg]; exact pastItsLine_dict (aV Xh (by rw[bO]; lia))) ?_)
 exact bF (h _ ⟨(Rf.2 _ (wQ I.ne)).trans I.obj,VO,I.ne⟩ Rf)
theorem IT {R:Result->Shared->Prop}{vs:List Value}{kw:List (Str×Value)}(X:K.In s.heap)(hm:makesIn K C=true)
  (hi:findIn K (.ref C) "__init__"=some (some (.ref f))) (hf:typeIn K (.ref f)=some (.type "function"))
  (h:codeAny (model prog w) (A.under (.builtin "type.__call__" ⟨.ref C :: vs,kw⟩)) (.call (.ref f) ⟨.ref (s.heap.objs.size + 1) :: vs,kw⟩) (PySem.W.InitBack (s.heap.objs.size + 1) R)
   {s with heap:=(s.heap.push PySem.W.emptyDict).push (PySem.W.instObj C s.heap.objs.size)}):
  codeAny (model prog w) A (.call (.ref C) ⟨vs,kw⟩) R s:=by
 obtain⟨hh,g,d,t,os⟩:=s
 exact PySem.W.make_core (PySem.W.makes_of X hm) (PySem.W.looks_findIn X hi) (fun self=>PySem.W.bind_fn X self hf) (.inl rfl) h
end
def eO (f:Str)(v:V):List (Str×V)->List (Str×V)
 |[]=>[(f,v)]
 |(g,x) :: r=>if g=f then(g,v) :: r else(g,x) :: eO f v r
theorem tH (f g:Str)(v:V): ∀fs:List (Str×V),(eO f v fs).lookup g=if g=f then some v else fs.lookup g
 |[]=>by
  show List.lookup g [(f,v)]=_
  by_cases h:g=f
  ·have hb:(g == f)=true:=Gb.mpr h
   simp only[List.lookup,hb,if_pos h]
  ·have hb:(g == f)=false:=hJ.mpr h
   simp only[List.lookup,hb,if_neg h]
 |(k,x) :: r=>by
  have ih:=tH f g v r
  rw[show eO f v ((k,x) :: r)=(if k=f then(k,v) :: r else(k,x) :: eO f v r) from rfl]
  by_cases hk:k=f
  ·rw[aY hk]
   by_cases h:g=k
   ·have hb:(g == k)=true:=Gb.mpr h
    simp only[List.lookup,hb,if_pos (h.trans hk)]
   ·have hb:(g == k)=false:=hJ.mpr h
    simp only[List.lookup,hb,if_neg (fun e:g=f=>h (e.trans hk.symm))]
  ·rw[aN hk]
   by_cases h:g=k
   ·have hb:(g == k)=true:=Gb.mpr h
    simp only[List.lookup,hb,if_neg (fun e:g=f=>hk (h.symm.trans e))]
   ·have hb:(g == k)=false:=hJ.mpr h
    simp only[List.lookup,hb]
    exact ih
theorem sF (f:Str)(v:V): ∀fs:List (Str×V),f∈(eO f v fs).map (·.1)/\ ∀g,g∈fs.map (·.1)->g∈(eO f v fs).map (·.1)
 |[]=>⟨by simp[eO],fun g h=>by simp at h⟩
 |(k,x) :: r=>by
  obtain⟨i1,i2⟩:=sF f v r
  rw[show eO f v ((k,x) :: r)=(if k=f then(k,v) :: r else(k,x) :: eO f v r) from rfl]
  by_cases hk:k=f
  ·rw[aY hk]
   subst hk
   exact⟨by simp,fun g h=>by simpa using h⟩
  ·rw[aN hk]
   refine⟨?_,fun g h=>?_⟩
   ·rw[cO]
    exact aI _ i1
   ·rw[cO] at h ⊢
    rcases au.mp h with e|e
    ·exact au.mpr (.inl e)
    ·exact aI _ (i2 g e)
theorem nz (f:Str)(v:V): ∀fs:List (Str×V),(eO f v fs).length<=fs.length + 1
 |[]=>by simp[eO]
 |(k,x) :: r=>by
  have ih:=nz f v r
  rw[show eO f v ((k,x) :: r)=(if k=f then(k,v) :: r else(k,x) :: eO f v r) from rfl]
  by_cases hk:k=f
  ·rw[aY hk,bO,bO]; lia
  ·rw[aN hk,bO,bO]; lia
theorem lH.some_of {v:V}{o:Option Value}(r:lH (some v) o): ∃u,o=some u/\RelV v u:=by
 cases o with
 |none=>exact(show False from r).elim
 |some u=>exact⟨u,rfl,r⟩
theorem lH.none_of {o:Option Value}(r:lH none o):o=none:=by
 cases o with
 |none=>rfl
 |some u=>exact(show False from r).elim
theorem Gx {v:V}{u:Value}(r:RelV v u):PySem.W.handedIn u=true:=by
 cases v with
 |eF=>cases(show u=Value.none from r); rfl
 |bl b=>cases(show u=Value.bool b from r); rfl
 |int i=>obtain⟨t,e⟩:=(show ∃t,u=Value.int i t from r); cases e; rfl
 |str x=>obtain⟨t,e⟩:=(show ∃t,u=Value.str x t from r); cases e; rfl
 |Gk b=>obtain⟨t,e⟩:=(show ∃t,u=Value.bytes b t from r); cases e; rfl
 |LB b=>obtain⟨t,e⟩:=(show ∃t,u=Value.float b t from r); cases e; rfl
 |ref a=>cases(show u=Value.ref a from r); rfl
 |ty n=>cases(show u=Value.type n from r); rfl
section
variable {P:Program}{w:World}{H H':Hp}{h h':Heap}{a C dx:Addr}{fs fs':List (Str×V)}
theorem qU (cE:o5 P w H h)(e:H a=some (.ins C dx fs)): ∃mA,DG h a dx C mA/\(∀f,lH (fs.lookup f) (mA f))/\PySem.Within mA (fs.map (·.1))/\fs.length<=1000/\H dx=some (.own a):=by
 obtain⟨d,z,ne,ob,mA,n,r,q⟩:=(show dH P w H h a (.ins C dx fs) from cE a _ e)
 exact⟨mA,⟨ob,n,ne⟩,r,q,z,d⟩
end
structure w6 (K:Frag)(C:Addr):Prop where
 pg:plainGet K C Str.empty=true
 hd:hasDictIn K C=true
 po:plainOver K C=true
 sa:findIn K (.ref C) "__setattr__"=some (some (.builtin "object.__setattr__"))
theorem w6.get {K:Frag}{C:Addr}(c:w6 K C)(f:Str):plainGet K C f=true:=c.pg
def cf (K:Frag)(C:Addr)(f:Str):Prop:=findIn K (.ref C) f=some none
theorem cf.Sk {K:Frag}{C:Addr}{f:Str}(n:cf K C f):PySem.W.takerIn K C f=some none:=by
 unfold PySem.W.takerIn
 rw[show findIn K (.ref C) f=some none from n]
 rfl
structure Meth (K:Frag)(C:Addr)(m:Str)(f:Addr):Prop where
 at_:findIn K (.ref C) m=some (some (.ref f))
 fn:PySem.W.isFn K (.ref f)=true
 kp:keepIn K (.ref f)=true
section
variable {X:Cx}{pins:List (Addr×Obj)}{σ:St}{H:Hp}{s:Shared}{a C dx:Addr}{fs:List (Str×V)}{f:Str}{v:V}{A:Around}{E:Value->Shared->Prop}
theorem DH {b:Bool}{Q:Value->Shared->Prop}(I:Inv X pins σ H s)(e:H a=some (.ins C dx fs))(c:w6 X.K C)(n:cf X.K C f)(l:fs.lookup f=some v)
  (h: ∀u s',Inv X pins σ H s'->RelV v u->Q u s'):wpAny (model X.prog X.w) A (getAttr (.ref a) f b) Q E s:=by
 obtain⟨mA,O,r,_,_,_⟩:=qU I.cE e
 obtain⟨u,hu,ru⟩:=lH.some_of (v:=v) (o:=mA f) (by rw[← l]; exact r f)
 exact get_map I.g6 O (c.get f) c.hd n hu (Gx ru) (h u _ (I.tok _) ru)
theorem DI {m:Str}{g:Addr}{pl:Sem Bool}{Q:Value×List Value->Shared->Prop}(I:Inv X pins σ H s)(e:H a=some (.ins C dx fs))(c:w6 X.K C)(k:Meth X.K C m g)(l:fs.lookup m=none)
  (h:Q (.ref g,[.ref a]) s):wpAny (model X.prog X.w) A (getMethod (.ref a) m pl) Q E s:=by
 obtain⟨mA,O,r,_,_,_⟩:=qU I.cE e
 have hn:mA m=none:=lH.none_of (by rw[← l]; exact r m)
 exact IS I.g6 O (c.get m) k.at_ k.fn hn h
theorem DJ {y:V}{u:Value}{Q:Unit->Shared->Prop}(I:Inv X pins σ H s)(e:H a=some (.ins C dx fs))(c:w6 X.K C)(n:cf X.K C f)(hl:fs.length < 1000)(ry:RelV y u)
  (h: ∀s',Inv X pins σ (upd H a (.ins C dx (eO f y fs))) s'->Q () s'):wpAny (model X.prog X.w) A (setAttr (.ref a) f u) Q E s:=by
 obtain⟨mA,O,r,wi,_,ho⟩:=qU I.cE e
 have hz:(fs.map (·.1)).length<=sizeLine:=by rw[ae,eU]; lia
 refine LM I.g6 O c.sa c.po n.Sk c.hd wi hz fun h' O' sb=>h _ ?_
 have hd: ∃o,h'.get? dx=some o:=let⟨o,_,_,e',_⟩:=O'.ns; ⟨o,e'⟩
 refine I.write (x:=a) (e:=dx) (by rw[e]; exact True.intro) (.inr ho) (fun b q hb z=>(sb.2 b hb).trans z) hd ?_
 refine⟨by rw[az O.ne]; exact ho,?_,O.ne,O'.obj,_,O'.ns,fun g=>?_,fun g hg=>?_⟩
 ·have:=nz f y fs; lia
 ·show lH ((eO f y fs).lookup g) (if g=f then some u else mA g)
  rw[tH]
  by_cases q:g=f
  ·rw[aY q,aY q]; exact ry
  ·rw[aN q,aN q]; exact r g
 ·by_cases q:g=f
  ·rw[q]; exact(sF f y fs).1
  ·refine(sF f y fs).2 g (wi g fun z=>hg ?_)
   show(if g=f then some u else mA g)=none
   rw[aN q]; exact z
theorem Inv.made (I:Inv X pins σ H s):Inv X pins σ (upd (upd H s.heap.objs.size (.own (s.heap.objs.size + 1))) (s.heap.objs.size + 1) (.ins C s.heap.objs.size []))
  {s with heap:=(s.heap.push PySem.W.emptyDict).push (PySem.W.instObj C s.heap.objs.size)}:=by
 have e1:(s.heap.push PySem.W.emptyDict).get? s.heap.objs.size=some PySem.W.emptyDict:=bR s.heap rfl
 have e2:((s.heap.push PySem.W.emptyDict).push (PySem.W.instObj C s.heap.objs.size)).get? (s.heap.objs.size + 1)=some (PySem.W.instObj C s.heap.objs.size):=by
  have:=bR (s.heap.push PySem.W.emptyDict) (o:=PySem.W.instObj C s.heap.objs.size) rfl
  rwa [oH] at this
 have e3:(s.heap.push PySem.W.emptyDict).Ns s.heap.objs.size (fun _=>none):=⟨PySem.W.emptyDict,#[],_,e1,rfl,(fun e he=>absurd he (by simp)),fun _=>rfl⟩
 have I1:=I.laid (a:=s.heap.objs.size) (o:= .own (s.heap.objs.size + 1)) (h':=s.heap.push PySem.W.emptyDict) (t':=s.toks) (fun b u q=>ay _ q) (aD _) ⟨_,e1⟩
 refine I1.laid (a:=s.heap.objs.size + 1) (o:= .ins C s.heap.objs.size []) (t':=s.toks) (fun b u q=>ay _ q) (iV (oH _ _)) ?_
 have ne:s.heap.objs.size≠s.heap.objs.size + 1:=a7 (gr _)
 refine⟨by rw[az ne,ag],bq _,ne,e2,fun _=>none,(Heap.Ns1.of_empty e3).at fun o q=>ay _ q,fun _=>True.intro,fun y hy=>absurd rfl hy⟩
theorem EW {prog:Program}{w:World}{env:Env}{e:Expr}{f:Str}{pos:Pos}{s:Shared}{Q:Value->Shared->Prop}(hb:attributeBase e f env (eval e env)=eval e env)
  (h:wpAny (model prog w) A (eval e env) (fun o s₁=>wpAny (model prog w) A (getAttr o f true) Q E s₁) E s):wpAny (model prog w) A (eval (.Attribute e f pos) env) Q E s:=
 Attribute_any_ h (by rw[arm_eval_Attribute,hb])
end
def Sl (K:Frag)(ta:TE)(f:Str):TE:=fun σ H Q=>ta σ H fun x H1=> ∃a C dx fs v,x= .ref a/\H1 a=some (.ins C dx fs)/\w6 K C/\cf K C f/\fs.lookup f=some v/\Q v H1
def Xi (K:Frag)(ta tv:TE)(f:Str):TS:=fun D σ H=>tv σ H fun y H1=>ta σ H1 fun x H2=> ∃a C dx fs,x= .ref a/\H2 a=some (.ins C dx fs)/\w6 K C/\cf K C f/\fs.length < 1000/\
 D.nx σ (upd H2 a (.ins C dx (eO f y fs)))
section
variable {X:Cx}{o e value:Expr}{f:Str}{pos pos' OJ:Pos}{ta tv:TE}
theorem bZ (he:PE X e ta)(hb:attributeBase e f X.env (eval e X.env)=eval e X.env):PE X (.Attribute e f pos) (Sl X.K ta f):=by
 intro pins s σ H Q I h
 refine EW hb (d9 (he pins s σ H _ I h) fun u s1 ⟨x,H1,I1,rx,a,C,dx,fs,v,ex,ea,c,n,l,q⟩=>?_)
 subst ex
 obtain rfl:u=Value.ref a:=rx
 exact DH I1 ea c n l fun u' s2 I2 ru=>⟨v,H1,I2,ru,q⟩
theorem fZ (ha:PE X o ta)(hv:PE X value tv)(hs:swapsWith value (some (.Attribute o f pos')) pos.line X.env=pure false):PS X (.Assign [.Attribute o f pos'] value pos) (Xi X.K ta tv f):=by
 intro pins s σ H D I h
 refine Oj (d9 (hv pins s σ H _ I h) fun u s1 ⟨y,H1,I1,ry,q⟩=>d9 (ha pins s1 σ H1 _ I1 q) fun ov s2 ⟨x,H2,I2,rx,a,C,dx,fs,ex,ea,c,n,l,q2⟩=>?_) hs
 subst ex
 obtain rfl:ov=Value.ref a:=rx
 exact DJ I2 ea c n l ry fun s3 I3=>⟨σ,_,I3,q2⟩
end
section
variable {X:Cx}{pins:List (Addr×Obj)}{σ:St}{H:Hp}{s:Shared}{A:Around}{E:Value->Shared->Prop}{Q:Value->Shared->Prop}{c:Value}{b:Bool}
inductive nA (K:Frag)(H:Hp):V->Value->Prop where
 |eF:nA K H .eF (.type "NoneType")
 |bl (x:Bool):nA K H (.bl x) (.type "bool")
 |int (i:Int):nA K H (.int i) (.type "int")
 |str (x:Str):nA K H (.str x) (.type "str")
 |LB (x:UInt64):nA K H (.LB x) (.type "float")
 |lst {a:Addr} {xs:List V} (e:H a=some (.lst xs)):nA K H (.ref a) (.type "list")
 |Dj {a:Addr} {o:Obj} {xs:List V} (e:H a=some (.Dj o (.lst xs))):nA K H (.ref a) (.type "list")
 |tup {a:Addr} {xs:List V} (e:H a=some (.tup xs)):nA K H (.ref a) (.type "tuple")
 |dK {a:Addr} {bh:List (Key×V)} (e:H a=some (.dK bh)):nA K H (.ref a) (.type "dict")
 |dT {a:Addr} {bh:List (List Key×V)} (e:H a=some (.dT bh)):nA K H (.ref a) (.type "dict")
 |ins {a C dx:Addr} {fs:List (Str×V)} (e:H a=some (.ins C dx fs)) (cl:w6 K C) (ha:findIn K (.ref C) "__class__"=some (some (.builtin "object.__class__")))
   (hn:specialIn K (.builtin "object.__class__") "__get__"=some (some (.builtin "getset_descriptor.__get__"))) (qe:PySem.W.takesIn K (.builtin "object.__class__")=some true)
   (hm:PySem.W.mroIn K C (.type "object")=some true):nA K H (.ref a) (.ref C)
theorem Gy {x:V}{u t:Value}(I:Inv X pins σ H s)(rx:RelV x u)(ty:nA X.K H x t)(e:PySem.W.kitOne X.K t c=some b)(h: ∀tk,Q (.bool b) {s with toks:=tk}):
  wpAny (model X.prog X.w) A (call (.builtin "isinstance") [u,c]) Q E s:=by
 cases ty with
 |eF=>cases(show u=Value.none from rx); exact eu PySem.W.kitx_none I.g6 True.intro e (fun z=>nomatch z) h
 |bl y=>cases(show u=Value.bool y from rx); exact eu PySem.W.kitx_bool I.g6 True.intro e (fun z=>nomatch z) h
 |int i=>obtain⟨t,q⟩:=(show ∃t,u=Value.int i t from rx); cases q; exact eu PySem.W.kitx_int I.g6 True.intro e (fun z=>nomatch z) h
 |str y=>obtain⟨t,q⟩:=(show ∃t,u=Value.str y t from rx); cases q; exact eu PySem.W.kitx_str I.g6 True.intro e (fun z=>nomatch z) h
 |LB y=>obtain⟨t,q⟩:=(show ∃t,u=Value.float y t from rx); cases q; exact eu PySem.W.kitx_float I.g6 True.intro e (fun z=>nomatch z) h
 | @lst a xs ea=>
  cases(show u=Value.ref a from rx)
  obtain⟨_,_,n,_,h1⟩:=(show dH X.prog X.w H s.heap a (.lst xs) from I.cE a _ ea)
  exact eu sk I.g6 ⟨_,h1,rfl⟩ e (fun z=>nomatch z) h
 | @Dj a ob xs ea=>
  cases(show u=Value.ref a from rx)
  obtain⟨_,_,_,n,_,h1⟩:=(show dH X.prog X.w H s.heap a (.Dj ob (.lst xs)) from I.cE a _ ea)
  exact eu sk I.g6 ⟨_,h1,rfl⟩ e (fun z=>nomatch z) h
 | @tup a xs ea=>
  cases(show u=Value.ref a from rx)
  obtain⟨_,_,_,p⟩:=(show dH X.prog X.w H s.heap a (.tup xs) from I.cE a _ ea)
  obtain⟨o,h1,h2,_⟩:=p
  exact eu PySem.W.kitx_tuple I.g6 ⟨o,h1,h2⟩ e (fun z=>nomatch z) h
 | @dK a bh ea=>
  cases(show u=Value.ref a from rx)
  obtain⟨_,_,vs,_,p⟩:=(show dH X.prog X.w H s.heap a (.dK bh) from I.cE a _ ea)
  obtain⟨o,es,ep,h1,h2,_⟩:=p
  exact eu sm I.g6 ⟨o,h1,h2.1⟩ e (fun z=>nomatch z) h
 | @dT a bh ea=>
  cases(show u=Value.ref a from rx)
  obtain⟨_,_,xs,_,o,es,ep,h1,h2,_⟩:=(show dH X.prog X.w H s.heap a (.dT bh) from I.cE a _ ea)
  exact eu sm I.g6 ⟨o,h1,h2.1⟩ e (fun z=>nomatch z) h
 | @ins a C dx fs ea cl ha hn qe hm=>
  cases(show u=Value.ref a from rx)
  obtain⟨mA,O,_⟩:=qU I.cE ea
  obtain⟨od,J,_⟩:=O.look
  exact eu (PySem.W.kitx_own (cl.get _) cl.hd ha hn qe hm) I.g6 J e (fun z=>nomatch z) h
end
structure fu (k:Nat)(A:Around):Prop where
 hd:A.handled=none
 dp:A.depth + 3 * k + 5 < recursionLimit
 un:A.units + 16 * k + 200 < cLine
theorem fu.mono {j k:Nat}{A:Around}(r:fu k A)(h:j<=k):fu j A:=⟨r.hd,by have:=r.dp; lia,by have:=r.un; lia⟩
theorem fu.deeper {k:Nat}{A:Around}(r:fu (k + 1) A)(env:Env):fu k (A.deeper env):=
 ⟨r.hd,by have:=r.dp; show A.depth + 1 + 3 * k + 5 < _; lia,by have:=r.un; show A.units + 3 + 16 * k + 200 < _; lia⟩
theorem uV {A:Around}{C:Addr}{us:List Value}{kw:List (Str×Value)}:(A.under (.builtin "type.__call__" ⟨.ref C :: us,kw⟩)).depth=A.depth + 1:=by
 first|rfl|simp[Around.under,Code.weight,Code.isCreation,Code.isGuard,Code.isCaller,Code.frames,Code.isFrame,guardIds]
theorem uW {A:Around}{C:Addr}{us:List Value}{kw:List (Str×Value)}:(A.under (.builtin "type.__call__" ⟨.ref C :: us,kw⟩)).units=A.units + 1:=by
 first|rfl|simp[Around.under,Code.cUnits,Code.frames,Code.isFrame]
theorem fu.make {k:Nat}{A:Around}(r:fu (k + 1) A)(C:Addr)(us:List Value)(kw:List (Str×Value)):fu k (A.under (.builtin "type.__call__" ⟨.ref C :: us,kw⟩)):=
 ⟨r.hd,by have:=r.dp; rw[uV]; lia,by have:=r.un; rw[uW]; lia⟩
theorem fu.depth {k:Nat}{A:Around}(r:fu k A):A.depth < recursionLimit:=by have:=r.dp; lia
theorem fu.units {k:Nat}{A:Around}(r:fu k A):A.units + 64 < cLine:=by have:=r.un; lia
def DK:TA:=fun _ H Q=>Q [] H
def IU (ta:TE)(tr:TA):TA:=fun σ H Q=>ta σ H fun x H1=>tr σ H1 fun xs H2=>Q (x :: xs) H2
section
variable {X:Cx}{e:Expr}{es:List Expr}{te:TE}{t:TA}{pos:Pos}
theorem aw:PA X [] DK:=fun _ _ _ _ H Q I h=>Calls.spliced_nil ⟨[],H,I,.nil,h⟩
theorem aa (ha:PE X e te)(hr:PA X es t)(hs:starEach (e :: es) X.env=(false,eval e X.env) :: starEach es X.env:=by rfl):PA X (e :: es) (IU te t):=by
 intro pos pins s σ H Q I h
 rw[hs]
 show wpAny _ _ (spliced ((false,eval e X.env) :: backTo pos (starEach es X.env))) _ _ s
 refine Calls.spliced_cons (d9 (ha pins s σ H _ I h) fun u s1 ⟨x,H1,I1,r1,q1⟩=>?_)
 exact d9 (hr pos pins s1 σ H1 _ I1 q1) fun us s2 ⟨xs,H2,I2,r2,q2⟩=>⟨x :: xs,H2,I2,.cons r1 r2,q2⟩
def Xj (t:TA):TE:=fun σ H Q=>t σ H fun xs H1=>xs.length<=sizeLine/\ ∀p,H1 p=none->Q (.ref p) (upd H1 p (.tup xs))
def Xk (t:TA):TE:=fun σ H Q=>t σ H fun xs H1=>xs.length<=sizeLine/\ ∀p,H1 p=none->Q (.ref p) (upd H1 p (.lst xs))
theorem cM {x1}(h:PA X es t):PE X (.Tuple es x1 pos) (Xj t):=by
 intro pins s σ H Q I hq
 refine wpAny_Tuple_spliced (d9 (h pos pins s σ H _ I hq) fun us s1 ⟨xs,H1,I1,r,z,q⟩=>⟨by rw[← r.length]; exact z,?_⟩)
 have hf:H1 s1.heap.objs.size=none:=I1.cE.fresh (aD _)
 refine⟨.ref s1.heap.objs.size,upd H1 s1.heap.objs.size (.tup xs),I1.laid (t':=s1.toks) (fun b u e=>ay _ e) (aD _) ?_,rfl,q _ hf⟩
 exact⟨z,us,r,⟨_,bR _ rfl,rfl,_,rfl⟩⟩
theorem bS (h:PA X es t):PE X (.List es pos) (Xk t):=by
 intro pins s σ H Q I hq
 refine wpAny_List_spliced (d9 (h pos pins s σ H _ I hq) fun us s1 ⟨xs,H1,I1,r,z,q⟩=>⟨by rw[← r.length]; exact z,?_⟩)
 have hf:H1 s1.heap.objs.size=none:=I1.cE.fresh (aD _)
 refine⟨.ref s1.heap.objs.size,upd H1 s1.heap.objs.size (.lst xs),I1.laid (t':=s1.toks) (fun b u e=>ay _ e) (aD _) ?_,rfl,q _ hf⟩
 exact⟨z,us,0,r,bR _ rfl⟩
end
abbrev Sp:=List V->Hp->VK->XK->Prop
abbrev Gz:=List Env->Hp->Shared->XK->Value->Shared->Prop
structure qV (P:Program)(w:World)(K:Frag)(mg:Str->Option Value)(base:Heap)(A:Around)(outer:List Env)(s:Shared)(H:Hp):Prop where
 frames:A.frames=some outer
 mod:Mod K mg base
 bs: ∀b o,base.get? b=some o->s.heap.get? b=some o/\H b=none
 Bg:base.objs.size<=s.heap.objs.size
 me:s.heap.FunFrames base outer
 EM: ∀b∈Dz outer,H b=none
 cE:o5 P w H s.heap
 bare:AllBare s.gens
def CE (outer:List Env)(P:Program)(w:World)(H:Hp)(s:Shared)(Q:VK)(u:Value)(s':Shared):Prop:=
 ∃v H',s'.os=s.os/\AllBare s'.gens/\Un (Dz outer) [] H H' s.heap s'.heap/\o5 P w H' s'.heap/\RelV v u/\Q v H'
def CR (CX:Gz)(outer:List Env)(P:Program)(w:World)(H:Hp)(s:Shared)(Q:VK)(E:XK)(r:Result)(s':Shared):Prop:=
 match r with
 | .ok (.ret u)=>CE outer P w H s Q u s'
 | .ok _=>False
 | .error e=>CX outer H s E e s'
structure mf (P:Program)(w:World)(K:Frag)(mg:Str->Option Value)(base:Heap)(CX:Gz)(k:Nat)(f:Addr)(fd:FuncData)(ps:List Str)(sp:Sp):Prop where
 len: ∀vs H Q E,sp vs H Q E->vs.length=ps.length
 run: ∀(A:Around) (outer:List Env) (s:Shared) (H:Hp) (args:Args) (us:List Value) (vs:List V) (Q:VK) (E:XK),fu k A->qV P w K mg base A outer s H->BindsTo s fd args (ps.zip us)->Vals vs us->sp vs H Q E->
  codeAny (model P w) A (.call (.ref f) args) (CR CX outer P w H s Q E) s
theorem qV.make {P:Program}{w:World}{K:Frag}{mg:Str->Option Value}{base:Heap}{A:Around}{outer:List Env}{s:Shared}{H:Hp}(e:qV P w K mg base A outer s H)(C:Addr)(us:List Value)(kw:List (Str×Value)):
  qV P w K mg base (A.under (.builtin "type.__call__" ⟨.ref C :: us,kw⟩)) outer s H:=⟨by first|exact e.frames|(simpa[Around.under,Code.envs,Code.isFrame,pushEnvs] using e.frames),e.mod,e.bs,e.Bg,e.me,e.EM,e.cE,e.bare⟩
theorem qV.in1 {P:Program}{w:World}{K:Frag}{mg:Str->Option Value}{base:Heap}{A:Around}{outer:List Env}{s:Shared}{H:Hp}(e:qV P w K mg base A outer s H):
  qV P w K mg base A.in1 outer s H:=⟨e.frames,e.mod,e.bs,e.Bg,e.me,e.EM,e.cE,e.bare⟩
section
variable {X:Cx}{pins:List (Addr×Obj)}{σ:St}{H:Hp}{s s':Shared}
theorem Inv.IV (I:Inv X pins σ H s):qV X.prog X.w X.K X.mg X.base X.A X.stack s H:=
 ⟨I.ok.frames,I.ok.mod,I.bs,aV I.ok.Bg I.sz,I.stack,I.qR,I.cE,I.bare⟩
theorem Inv.after {Q:VK}{u:Value}(I:Inv X pins σ H s)(h:CE X.stack X.prog X.w H s Q u s'):EP X pins σ Q u s':=by
 obtain⟨v,H',os,bare,un,cE,r,q⟩:=h
 obtain⟨hh,g,d,t,os'⟩:=s'
 obtain rfl:os'=s.os:=os
 exact⟨v,H',I.call (h':=hh) (g':=g) (d':=d) (t':=t) (ch:=[]) un cE bare (fun b z=>absurd z (by simp)),r,q⟩
end
def uX (sp:Sp)(uY:List V)(E:XK)(t:TA):TE:=fun σ H Q=>t σ H fun vs H1=>sp (vs ++ uY) H1 Q E
def ND (C:Addr)(m:Str)(sp:Sp)(uY:List V)(E:XK)(ta:TE)(t:TA):TE:=fun σ H Q=>ta σ H fun x H1=> ∃a dx fs,x= .ref a/\H1 a=some (.ins C dx fs)/\fs.lookup m=none/\
 t σ H1 fun vs H2=>sp (x :: (vs ++ uY)) H2 Q E
def EY (C:Addr)(sp:Sp)(uY:List V)(E:XK)(t:TA):TE:=fun σ H Q=>t σ H fun vs H1=> ∀x dx,H1 x=none->H1 dx=none->dx≠x->
 sp (.ref x :: (vs ++ uY)) (upd (upd H1 dx (.own x)) x (.ins C dx [])) (fun v H2=>v= .eF/\Q (.ref x) H2) E
def Binds (K:Frag)(fd:FuncData)(ps:List Str)(ds:List Value):Prop:=
 ∀(s:Shared) (us:List Value),K.In s.heap->(us ++ ds).length=ps.length->BindsTo s fd ⟨us,[]⟩ (ps.zip (us ++ ds))
theorem Binds.all {K:Frag}{fd:FuncData}{ps:List Str}(h: ∀us:List Value,us.length=ps.length->bindArgs fd ⟨us,[]⟩=pure (ps.zip us)):Binds K fd ps []:=fun s us _ hl=>by
 rw[cg] at hl ⊢
 exact .of_eq (h us hl)
def Passes (CX:Gz)(X:Cx)(E:XK):Prop:= ∀(pins:List (Addr×Obj)) (σ:St) (H:Hp) (s:Shared) (e:Value) (s':Shared),Inv X pins σ H s->CX X.stack H s E e s'->X.xe e s'
section
variable {X:Cx}{CX:Gz}{k:Nat}{f C:Addr}{fd:FuncData}{ps:List Str}{sp:Sp}{uY:List V}{ds:List Value}{E:XK}{x m:Str}{p pos apos:Pos}{e o:Expr}{es:List Expr}{ta:TE}{t:TA}
theorem y4 {pins:List (Addr×Obj)}{σ:St}{H:Hp}{s:Shared}{Q:VK}{us:List Value}{vs:List V}(F:mf X.prog X.w X.K X.mg X.base CX k f fd ps sp)(hr:fu k X.A)(hb:Binds X.K fd ps ds)(hd:Vals uY ds)(hx:Passes CX X E)
  (I:Inv X pins σ H s) (r:Vals vs us) (h:sp (vs ++ uY) H Q E):wpAny (model X.prog X.w) X.A (call (.ref f) us) (EP X pins σ Q) X.xe s:=by
 have r2:Vals (vs ++ uY) (us ++ ds):=r.append hd
 have hl:(us ++ ds).length=ps.length:=by rw[← r2.length]; exact F.len _ _ _ _ h
 refine EL (Dw (F.run X.A X.stack s H ⟨us,[]⟩ (us ++ ds) (vs ++ uY) Q E hr I.IV (hb s us I.g6 hl) r2 h) fun r s' hq=>?_)
 cases r with
 |error e=>exact hx pins σ H s e s' I hq
 |ok fl=>
  cases fl with
  |ret u=>exact I.after hq
  |next=>exact False.elim hq
  |brk=>exact False.elim hq
  |cont=>exact False.elim hq
theorem EZ (F:mf X.prog X.w X.K X.mg X.base CX k f fd ps sp)(hr:fu k X.A)(hg:Gl X x)(hm:X.mg x=some (.ref f))(hk:keepIn X.K (.ref f)=true)(hb:Binds X.K fd ps ds)(hd:Vals uY ds)(hx:Passes CX X E)
  (ha:PA X (e :: es) t) (qW:(x == ("__debug__":Str))=false:=by decide) (he:starEach (e :: es) X.env=(false,eval e X.env) :: starEach es X.env:=by rfl) (jb:(backTo pos (starEach es X.env)).any (·.1)=false:=by rfl):
  PE X (.Call (.Name x p) (e :: es) [] pos) (uX sp uY E t):=by
 intro pins s σ H Q I h
 refine eV (jL I hg hm ?_ qW)
 refine kG (h₀:=X.base) I.ok.mod.LD hk (d9 (ha pos pins s σ H _ I h) fun us s1 ⟨vs,H1,I1,r,q⟩=>⟨I1.g6,?_⟩) he jb
 exact y4 F hr hb hd hx I1 r q
theorem IW (F:mf X.prog X.w X.K X.mg X.base CX k f fd ps sp)(hr:fu k X.A)(hg:Gl X x)(hm:X.mg x=some (.ref f))(hk:keepIn X.K (.ref f)=true)(hb:Binds X.K fd ps ds)(hd:Vals uY ds)(hx:Passes CX X E)
  (qW:(x == ("__debug__":Str))=false:=by decide):PE X (.Call (.Name x p) [] [] pos) (uX sp uY E DK):=by
 intro pins s σ H Q I h
 refine eV (jL I hg hm ?_ qW)
 exact Bc I.g6 hk (y4 (us:=[]) F hr hb hd hx I .nil h)
theorem LN {pl:Sem Bool}(he:PE X o ta)(c:w6 X.K C)(hm:Meth X.K C m f)(F:mf X.prog X.w X.K X.mg X.base CX k f fd ps sp)(hr:fu k X.A)(hb:Binds X.K fd ps ds)(hd:Vals uY ds)(hx:Passes CX X E)(ha:PA X (e :: es) t)
  (tG:starEach (e :: es) X.env=(false,eval e X.env) :: starEach es X.env:=by rfl) (jb:(backTo pos (starEach es X.env)).any (·.1)=false:=by rfl)
  (ht:eval (.Call (.Attribute o m apos) (e :: es) [] pos) X.env=(do
   let ov ← eval o X.env
   standAt apos.atName
   let(f,first) ← holding [ov] (getMethod ov m pl)
   callWith pos f first (backTo pos (starEach (e :: es) X.env)) (backToKw pos (keywordEach [] X.env))):=by rfl):
  PE X (.Call (.Attribute o m apos) (e :: es) [] pos) (ND C m sp uY E ta t):=by
 intro pins s σ H Q I h
 refine wR (pl:=pl) (d9 (he pins s σ H _ I h) fun u s1 ⟨x,H1,I1,rx,a,dx,fs,ex,ea,l,q⟩=>?_) ht
 subst ex
 obtain rfl:u=Value.ref a:=rx
 refine DI I1 ea c hm l ?_
 refine kG (first:=[.ref a]) (h₀:=X.base) I.ok.mod.LD hm.kp (d9 (ha pos pins s1 σ H1 _ I1 q) fun us s2 ⟨vs,H2,I2,r,q2⟩=>⟨I2.g6,?_⟩) tG jb
 exact y4 (us:= .ref a :: us) (vs:= .ref a :: vs) F hr hb hd hx I2 (.cons rfl r) q2
structure Mk (K:Frag)(C f:Addr):Prop where
 makes:makesIn K C=true
 init:findIn K (.ref C) "__init__"=some (some (.ref f))
 fn:PySem.W.isFn K (.ref f)=true
 kp:keepIn K (.ref C)=true
theorem Br {pins:List (Addr×Obj)}{σ:St}{H:Hp}{s:Shared}{Q:VK}{us:List Value}{vs:List V}(M:Mk X.K C f)(F:mf X.prog X.w X.K X.mg X.base CX k f fd ps sp)(hr:fu (k + 1) X.A)(hb:Binds X.K fd ps ds)(hd:Vals uY ds)
  (hx:Passes CX X E) (I:Inv X pins σ H s) (r:Vals vs us)
  (h: ∀x dx,H x=none->H dx=none->dx≠x->sp (.ref x :: (vs ++ uY)) (upd (upd H dx (.own x)) x (.ins C dx [])) (fun v H2=>v= .eF/\Q (.ref x) H2) E):
  wpAny (model X.prog X.w) X.A (call (.ref C) us) (EP X pins σ Q) X.xe s:=by
 have hq:=h (s.heap.objs.size + 1) s.heap.objs.size (I.cE.fresh (c8 _)) (I.cE.fresh (aD _)) (a7 (gr _))
 have I2:=Inv.made (C:=C) I
 have r2:Vals (V.ref (s.heap.objs.size + 1) :: (vs ++ uY)) (Value.ref (s.heap.objs.size + 1) :: (us ++ ds)):= .cons rfl (r.append hd)
 have hl:(Value.ref (s.heap.objs.size + 1) :: us ++ ds).length=ps.length:=by
  have e:=r2.length
  rw[F.len _ _ _ _ hq] at e
  exact e.symm
 refine EL (IT (f:=f) I.g6 M.makes M.init (Gb.mp M.fn) (Dw (F.run _ X.stack _ _ ⟨Value.ref (s.heap.objs.size + 1) :: us,[]⟩ (Value.ref (s.heap.objs.size + 1) :: (us ++ ds)) _ _ E (hr.make C us [])
  (I2.IV.make C us []) (hb _ (Value.ref (s.heap.objs.size + 1) :: us) I2.g6 hl) r2 hq) fun r s' tI=>?_))
 cases r with
 |error e=>exact hx pins σ _ _ e s' I2 tI
 |ok fl=>
  cases fl with
  |ret u=>
   obtain⟨v,H',I3,rv,ev,q3⟩:=I2.after tI
   subst ev
   exact⟨rv,⟨V.ref (s.heap.objs.size + 1),H',I3,rfl,q3⟩⟩
  |next=>exact False.elim tI
  |brk=>exact False.elim tI
  |cont=>exact False.elim tI
theorem LO (M:Mk X.K C f)(F:mf X.prog X.w X.K X.mg X.base CX k f fd ps sp)(hr:fu (k + 1) X.A)(hg:Gl X x)(hm:X.mg x=some (.ref C))(hb:Binds X.K fd ps ds)(hd:Vals uY ds)(hx:Passes CX X E)
  (ha:PA X (e :: es) t) (qW:(x == ("__debug__":Str))=false:=by decide) (he:starEach (e :: es) X.env=(false,eval e X.env) :: starEach es X.env:=by rfl) (jb:(backTo pos (starEach es X.env)).any (·.1)=false:=by rfl):
  PE X (.Call (.Name x p) (e :: es) [] pos) (EY C sp uY E t):=by
 intro pins s σ H Q I h
 refine eV (jL I hg hm ?_ qW)
 refine kG (h₀:=X.base) I.ok.mod.LD M.kp (d9 (ha pos pins s σ H _ I h) fun us s1 ⟨vs,H1,I1,r,q⟩=>⟨I1.g6,?_⟩) he jb
 exact Br M F hr hb hd hx I1 r q
theorem IX (M:Mk X.K C f)(F:mf X.prog X.w X.K X.mg X.base CX k f fd ps sp)(hr:fu (k + 1) X.A)(hg:Gl X x)(hm:X.mg x=some (.ref C))(hb:Binds X.K fd ps ds)(hd:Vals uY ds)(hx:Passes CX X E)
  (qW:(x == ("__debug__":Str))=false:=by decide):PE X (.Call (.Name x p) [] [] pos) (EY C sp uY E DK):=by
 intro pins s σ H Q I h
 refine eV (jL I hg hm ?_ qW)
 exact Bc I.g6 M.kp (Br (us:=[]) M F hr hb hd hx I .nil h)
end
section
variable {X:Cx}{CX:Gz}{k:Nat}{f C:Addr}{fd:FuncData}{ps ks:List Str}{sp:Sp}{E:XK}{x m:Str}{p pos apos Sm:Pos}{e o:Expr}{es:List Expr}{kws:List Keyword}{te ta:TE}{t tk:TA}{nm:Option Str}
variable {g:List Value->List Value->List Value}{gV:List V->List V->List V}
end
structure aU (N P:List Str)(sc:Scope):Prop where
 kind:sc.kind= .function:=by rfl
 co:sc.isCoroutine=false:=by rfl
 gen:sc.isGenerator=false:=by rfl
 nd:N.Nodup:=by decide +kernel
 pre:N.take P.length=P:=by rfl
 par: ∀x∈P,sc.names.lookup x=some .local∨sc.names.lookup x=some .cell:=by decide +kernel
 OK: ∀y∈sc.names,y.2≠ .free:=by decide +kernel
theorem yh {kindOf:Str->Option NameKind}{x:Str}: ∀{binds:List (Str×Value)} {m:Str->Option Value},(∀v,(x,v)∉binds)->bindL kindOf binds m x=m x
 |[],_,_=>rfl
 |(n,v) :: r,m,h=>by
  unfold bindL
  rw[yh fun w hw=>h w (aI _ hw)]
  split
  ·have:x≠n:=by rintro rfl; exact h v aS
   simp[this]
  ·rfl
theorem yi {kindOf:Str->Option NameKind}{x:Str}: ∀{binds:List (Str×Value)} {m:Str->Option Value},(∀v,(x,v)∉binds)->bindC kindOf binds m x=m x
 |[],_,_=>rfl
 |(n,v) :: r,m,h=>by
  unfold bindC
  rw[yi fun w hw=>h w (aI _ hw)]
  split
  ·rfl
  ·have:x≠n:=by rintro rfl; exact h v aS
   simp[this]
theorem yj {kindOf:Str->Option NameKind}{x:Str}{v:Value}: ∀{P:List Str} {vs:List Value} {i:Nat} {m:Str->Option Value},P.Nodup->P[i]? =some x->vs[i]? =some v->kindOf x=some .local->
  bindL kindOf (P.zip vs) m x=some v
 |[],_,_,_,_,h,_,_=>by simp at h
 |_ :: _,[],_,_,_,_,h,_=>by simp at h
 |p :: P,w :: vs,0,m,nd,h1,h2,hk=>by
  simp at h1 h2; subst h1; subst h2
  show bindL kindOf ((p,w) :: P.zip vs) m p=_
  unfold bindL
  rw[yh fun v hv=>(dN.mp nd).1 (oX hv).1,aY hk]
  simp
 |p :: P,w :: vs,i + 1,m,nd,h1,h2,hk=>by
  show bindL kindOf ((p,w) :: P.zip vs) m x=_
  unfold bindL
  exact yj (i:=i) (List.nodup_cons.mp nd).2 (by simpa using h1) (by simpa using h2) hk
theorem yk {kindOf:Str->Option NameKind}{x:Str}{v:Value}: ∀{P:List Str} {vs:List Value} {i:Nat} {m:Str->Option Value},P.Nodup->P[i]? =some x->vs[i]? =some v->kindOf x≠some .local->
  bindC kindOf (P.zip vs) m x=some v
 |[],_,_,_,_,h,_,_=>by simp at h
 |_ :: _,[],_,_,_,_,h,_=>by simp at h
 |p :: P,w :: vs,0,m,nd,h1,h2,hk=>by
  simp at h1 h2; subst h1; subst h2
  show bindC kindOf ((p,w) :: P.zip vs) m p=_
  unfold bindC
  rw[yi fun v hv=>(dN.mp nd).1 (oX hv).1,aN hk]
  simp
 |p :: P,w :: vs,i + 1,m,nd,h1,h2,hk=>by
  show bindC kindOf ((p,w) :: P.zip vs) m x=_
  unfold bindC
  exact yk (i:=i) (List.nodup_cons.mp nd).2 (by simpa using h1) (by simpa using h2) hk
def start (N:List Str)(vs:List V):St:=vs.map some ++ List.replicate (N.length - vs.length) none
def lJ (CX:Gz)(P:Program)(w:World)(K:Frag)(mg:Str->Option Value)(base:Heap)(N:List Str)(qual:Str)(scope:Scope)(f:Addr)(cd:Value)(A:Around)(outer:List Env)(s:Shared)(H:Hp)(E:XK):Cx where
 prog:=P
 w:=w
 K:=K
 mg:=mg
 base:=base
 A:=A.deeper (envOfC qual scope s.heap.objs.size f cd)
 N:=N
 s₀:=s
 H₀:=H
 env:=envOfC qual scope s.heap.objs.size f cd
 outer:=outer
 stack:=envOfC qual scope s.heap.objs.size f cd :: outer
 ex:=[]
 calm:=true
 fn:=fun _=>true
 pn:=[]
 xe:=fun e s'=>wpAny (model P w) (A.deeper (envOfC qual scope s.heap.objs.size f cd)) (leaving (envOfC qual scope s.heap.objs.size f cd) e) (fun _ E1=>CX outer H s E e E1) (fun e' E1=>CX outer H s E e' E1) s'
theorem Bs {sc:Scope}{n:Nat}{x:Str}(h:sc.names.lookup x=some .cell): ∃c,(cellsFrom n sc.names []).lookup x=some c:=by
 have q:=lF sc.names n [] (.inl h)
 exact Q4.mp q
theorem yl {CX:Gz}{P:Program}{w:World}{K:Frag}{mg:Str->Option Value}{base:Heap}{N ps:List Str}{qual:Str}{scope:Scope}{f:Addr}{cd:Value}{A:Around}{outer:List Env}{s s1:Shared}{H:Hp}{E:XK}{us:List Value}{vs:List V}
  (S:aU N ps scope) (hd:A.handled=none) (e0:qV P w K mg base A outer s H) (hl:vs.length=ps.length) (r:Vals vs us)
  (x:InCallC s s.heap.objs.size (bindL (envOfC qual scope s.heap.objs.size f cd).kindOf (ps.zip us) fun _=>none) (cellsFrom (s.heap.objs.size + 1) scope.names []) (bindC (envOfC qual scope s.heap.objs.size f cd).kindOf (ps.zip us) fun _=>none) s1):
  Inv (lJ CX P w K mg base N qual scope f cd A outer s H E) [] (start N vs) H s1:=by
 have jb:ps.length<=N.length:=by have:=cV List.length S.pre; rw[ba] at this; lia
 obtain⟨h1,tk,rfl,hk⟩:=x.done
 have Xl: ∀b:Addr,b∉(lJ CX P w K mg base N qual scope f cd A outer s H E).ex:=fun b z=>absurd (show b∈([]:List Addr) from z) (by simp)
 refine⟨⟨e0.mod,S.kind,rfl,rfl,aD _,fun y z c h1 h2=>?_,fun y hy=>?_,fun y c _ h=>?_,fun _=>hd,Around.frames_deeper e0.frames,.inr ⟨rfl,rfl⟩,fun b z=>absurd z (Xl b),e0.bs,e0.Bg,fun b _ _=>Xl b,fun b z=>absurd z (Xl b),e0.me,e0.EM⟩,
  rfl,e0.bare,Un.kept hk,⟨_,x.toInCall.ns,fun i y v h1 h2 h3=>?_⟩,fun y c h=>⟨_,x.cell y c h⟩,e0.cE.fresh (Nat.le_refl _),fun y c h=>?_,fun p hp=>absurd (show p∈([]:List (Addr×Obj)) from hp) (by simp),e0.cE.kept hk,?_⟩
 ·exact name_of_addr x.apart (ck h1) (ck h2)
 ·have hy:scope.names.lookup y=some .cell∨scope.names.lookup y=some .free:=hy
  rcases hy with hy|hy
  ·exact Bs hy
  ·exact absurd rfl (S.OK _ (ck hy))
 ·exact cL (x.above y c (ck h))
 ·have hi:i < vs.length:=by
   unfold start at h2
   by_cases hi:i < vs.length
   ·exact hi
   ·rw[List.getElem?_append_right (by simpa using hi)] at h2
    rw[List.getElem?_replicate] at h2
    split at h2 <;> cases h2
  have ha:vs[i]? =some v:=by
   unfold start at h2
   rw[List.getElem?_append_left (by simpa using hi),List.getElem?_map] at h2
   cases e:vs[i]? with
   |none=>rw[e] at h2; cases h2
   |some a=>rw[e] at h2; cases h2; rfl
  obtain⟨u,hu,rv⟩:=r.get ha
  have hp:ps[i]? =some y:=by
   rw[← S.pre,List.getElem?_take_of_lt (by lia)]; exact h1
  have ndP:ps.Nodup:=by rw[← S.pre]; exact S.nd.sublist (List.take_sublist _ _)
  refine⟨u,rv,?_⟩
  rcases S.par y (eD hp) with k|k
  ·exact .inl ⟨k,yj ndP hp hu k⟩
  ·obtain⟨c,e⟩:=Bs (n:=s.heap.objs.size + 1) k
   refine .inr ⟨.inl k,c,e,?_⟩
   have q:=x.cell y c e
   rw[yk ndP hp hu (by show scope.names.lookup y≠_; rw[k]; decide)] at q
   exact q
 ·exact e0.cE.fresh (cL (x.above y c (ck h)))
 ·unfold start
  show _ =N.length
  rw[ax,ae,iW]
  lia
theorem IZ {CX:Gz}{P:Program}{w:World}{K:Frag}{mg:Str->Option Value}{base:Heap}{k:Nat}{f:Addr}{name qual:Str}{params:Arguments}{body:List Stmt}{scope:Scope}{dV kV doc pm cY ct oc:Value}{an od:Option Addr}
  {GA:Array (Option Value)} {N ps:List Str} {sp:Sp} (lk:K.lookup f=some ⟨oc,od,.func (fnOf name qual params body scope dV kV doc pm an cY ct),GA⟩) (sf:codeIn K cY qual=true) (S:aU N ps scope)
  (len: ∀vs H Q E,sp vs H Q E->vs.length=ps.length)
  (gp: ∀(A:Around) (outer:List Env) (s:Shared) (H:Hp) (vs:List V) (Q:VK) (E:XK),fu k (A.deeper (envOfC qual scope s.heap.objs.size f cY))->sp vs H Q E->
   ∃t,pB (lJ CX P w K mg base N qual scope f cY A outer s H E) body t/\t {nx:=fun _ H'=>Q .eF H',rt:=Q} (start N vs) H):
  mf P w K mg base CX (k + 1) f (fnOf name qual params body scope dV kV doc pm an cY ct) ps sp:=by
 refine⟨len,fun A outer s H args us vs Q E hr e0 hb r y6=>?_⟩
 have hl:=len _ _ _ _ y6
 have KX:K.In s.heap:=e0.mod.LD.keeps fun b o e=>(e0.bs b o e).1
 have lim:s.heap.NoLimit:=e0.mod.nolimit.keeps fun b o e=>(e0.bs b o e).1
 have nE: ∀y∈ps.zip us,scope.names.lookup y.1=some .local∨(scope.names.lookup y.1=some .cell/\((cellsFrom (s.heap.objs.size + 1) scope.names []).lookup y.1).isSome=true):=fun⟨n,v⟩ hy=>by
  rcases S.par n (oX hy).1 with q|q
  ·exact .inl q
  ·exact .inr ⟨q,lF _ _ _ (.inl q)⟩
 refine codeAny_call_function hr.depth (KX _ _ lk) rfl S.co S.gen rfl (PySem.W.codeRec_of KX sf) (hb _ _ _ _ ?_)
 refine uf S.kind nE fun env he s1 x=>?_
 subst he
 refine⟨lim.keeps x.toInCall.keep,codeAny_func ?_⟩
 obtain⟨t,ht,hq⟩:=gp A outer s H vs Q E (hr.deeper _) y6
 have I:Inv (lJ CX P w K mg base N qual scope f cY A outer s H E) [] (start N vs) H s1:=yl S hr.hd e0 hl r x
 refine cm (ht [] s1 (start N vs) H _ I hq) (fun fl s' hs=>?_) fun e s' hs=>hs
 have fin: ∀{σ':St} {H':Hp} {v:V} {u:Value},Inv (lJ CX P w K mg base N qual scope f cY A outer s H E) [] σ' H' s'->RelV v u->Q v H'->CE outer P w H s Q u s':=
  fun{σ' H' v u} J rv q=>⟨v,H',J.os,J.bare,J.base,J.cE,rv,q⟩
 cases fl with
 |ret u=>
  obtain⟨v,σ',H',J,rv,q⟩:=hs
  exact fin J rv q
 |next=>
  obtain⟨σ',H',J,q⟩:=hs
  exact fin (v:=V.eF) (u:=Value.none) J rfl q
 |brk=>
  obtain⟨_,_,_,q⟩:=hs
  exact False.elim q
 |cont=>
  obtain⟨_,_,_,q⟩:=hs
  exact False.elim q
section
variable {X:Cx}{x:Str}{p pos:Pos}{e:Expr}{es:List Expr}{t:TA}{id T:String}{r:List V->Hp->VK->Prop}
def Xm (r:List V->Hp->VK->Prop)(t:TA):TE:=fun σ H Q=>t σ H fun vs H1=>r vs H1 Q
theorem dm (hc:iZ X (.builtin id) r)(hg:Gl X x)(hm:X.mg x=none)(hv:bootBuiltins x=some (.builtin id))(ha:PA X (e :: es) t)(hn:x≠"__name__":=by decide)(qW:(x == ("__debug__":Str))=false:=by decide)
  (he:starEach (e :: es) X.env=(false,eval e X.env) :: starEach es X.env:=by rfl) (jb:(backTo pos (starEach es X.env)).any (·.1)=false:=by rfl):PE X (.Call (.Name x p) (e :: es) [] pos) (Xm r t):=by
 intro pins s σ H Q I h
 refine eV (qb I hg hm hv ?_ hn qW)
 exact PyProof.Rows.callWith_builtin1 (d9 (ha pos pins s σ H _ I h) fun us s1 ⟨vs,H1,I1,r1,q1⟩=>hc pins s1 σ H1 vs us Q I1 r1 q1) he jb
theorem iw (hc:iZ X (.type T) r)(hg:Gl X x)(hm:X.mg x=none)(hv:bootBuiltins x=some (.type T))(ha:PA X (e :: es) t)(hn:x≠"__name__":=by decide)(qW:(x == ("__debug__":Str))=false:=by decide)
  (he:starEach (e :: es) X.env=(false,eval e X.env) :: starEach es X.env:=by rfl) (jb:(backTo pos (starEach es X.env)).any (·.1)=false:=by rfl):PE X (.Call (.Name x p) (e :: es) [] pos) (Xm r t):=by
 intro pins s σ H Q I h
 refine eV (qb I hg hm hv ?_ hn qW)
 exact oV (d9 (ha pos pins s σ H _ I h) fun us s1 ⟨vs,H1,I1,r1,q1⟩=>hc pins s1 σ H1 vs us Q I1 r1 q1) he jb
end
end L2
namespace HT
open PySem PyProof.Rows
def lexLt:List Int->List Int->Bool
 |[],[]=>false
 |[],_ :: _=>true
 |_ :: _,[]=>false
 |x :: xs,y :: ys=>if x=y then lexLt xs ys else decide (x < y)
theorem qf (x y:Int)(xs ys:List Int):lexLt (x :: xs) (y :: ys)=if x=y then lexLt xs ys else decide (x < y):=rfl
section
open PySem.SeqAt
open PySem.AutoSeq1 (wpAny_loadPart')
open PySem.MeetsSeq PySem.MeetsSeq2 PySem.MeetsSeq3
end
section
variable {prog:Program}{w:World}{A:Around}{E:Value->Shared->Prop}{s:Shared}
def Bt (n d:Nat):Option Int->Nat
 |none=>d
 |some v=>if v < 0 then(v + (n:Int)).toNat else min v.toNat n
theorem Bu (n d:Nat):Bt n d none=d:=rfl
theorem oJ (n d k:Nat):Bt n d (some (k:Int))=min k n:=by
 show(if(k:Int) < 0 then((k:Int) + (n:Int)).toNat else min (k:Int).toNat n)=min k n
 rw[aN (by lia),cW]
end
end HT
namespace L2
open PySem PySem.Spec PyProof.Rows
abbrev TO:=St->Hp->(Option Int->Hp->Prop)->Prop
def PO (X:Cx)(e:Option Expr)(t:TO):Prop:=
 ∀(pins:List (Addr×Obj)) (s:Shared) (σ:St) (H:Hp) (Q:Option Int->Hp->Prop),Inv X pins σ H s->t σ H Q->
  wpAny (model X.prog X.w) X.A (evalPart e X.env) (fun u s'=> ∃o H',Inv X pins σ H' s'/\IsPart u o/\Q o H') X.xe s
def LP:TO:=fun _ H Q=>Q none H
inductive EvP (x:V)(k:Int->Prop):Prop
 |mk (i:Int)(h:x= .int i)(q:k i):EvP x k
def Sn (t:TE):TO:=fun σ H Q=>t σ H fun x H1=>EvP x fun i=>Q (some i) H1
theorem intsAre_of {ns:List Int}: ∀{us:List Value},Vals (ns.map V.int) us->IntsAre us ns:=by
 induction ns with
 |nil=>intro us r; rw[qH] at r; cases r; exact .nil
 |cons n ns ih=>
  intro us r
  rw[cO] at r
  cases r with
  |cons r1 r2=>
   obtain⟨t,e⟩:=r1
   subst e
   exact .cons n t (ih r2)
section
variable {X:Cx}{e:Expr}{te:TE}{lo hi:Option Expr}{tl th:TO}{pos p2:Pos}
theorem oK:PO X none LP:=by
 intro pins s σ H Q I h
 rw[evalPart_none]
 exact bF ⟨none,H,I,.none,h⟩
theorem jh (h:PE X e te):PO X (some e) (Sn te):=by
 intro pins s σ H Q I hw
 rw[evalPart_some]
 refine d9 (h pins s σ H _ I hw) fun u s1 ⟨x,H1,I1,r1,q1⟩=>?_
 obtain⟨i,rfl,q⟩:=q1
 obtain⟨t,rfl⟩:=r1
 exact⟨some i,H1,I1,.int i t,q⟩
def OL (X:Cx)(r:V->Option Int->Option Int->Hp->VK->Prop):Prop:=
 ∀(pins:List (Addr×Obj)) (s:Shared) (σ:St) (H:Hp) (x:V) (v vl vu:Value) (lo hi:Option Int) (sl:Addr) (Q:VK),Inv X pins σ H s->RelV x v->s.heap.IsSliceOf sl vl vu .none->IsPart vl lo->IsPart vu hi->r x lo hi H Q->
  ∃T id,typeLookup (.type T) "__getitem__"=pure (some (.builtin id))/\s.TypeIs v T/\wpAny (model X.prog X.w) X.A (getItem v (.ref sl)) (EP X pins σ Q) X.xe s
def tSl (r:V->Option Int->Option Int->Hp->VK->Prop)(te:TE)(tl th:TO):TE:=fun σ H Q=>te σ H fun x H1=>tl σ H1 fun l H2=>th σ H2 fun u H3=>r x l u H3 Q
theorem jn {r:V->Option Int->Option Int->Hp->VK->Prop}(hr:OL X r)(he:PE X e te)(hl:PO X lo tl)(hu:PO X hi th):PE X (.Subscript e (.Slice lo hi none p2) pos) (tSl r te tl th):=by
 intro pins s σ H Q I h
 refine Subscript_ (d9 (he pins s σ H _ I h) fun v s1 ⟨x,H1,I1,r1,q1⟩=>?_)
 refine wpAny_Slice (d9 (hl pins s1 σ H1 _ I1 q1) fun vl s2 ⟨l,H2,I2,pl,q2⟩=>d9 (hu pins s2 σ H2 _ I2 q2) fun vu s3 ⟨u,H3,I3,pu,q3⟩=>?_)
 rw[evalPart_none]
 refine bF ?_
 have I4:Inv X pins σ H3 {s3 with heap:=s3.heap.push {cls:= .type "slice",data:= .fields #[vl,vu,.none]}}:=I3.kept (t':=s3.toks) fun b ob q=>ay _ q
 obtain⟨T,id,hT,ht,hg⟩:=hr pins {s3 with heap:=s3.heap.push {cls:= .type "slice",data:= .fields #[vl,vu,.none]}} σ H3 x v vl vu l u s3.heap.objs.size Q I4 r1 (Heap.IsSliceOf.new ..) pl pu q3
 show wpAny (model X.prog X.w) X.A (subscriptTail e (.Slice lo hi none p2) v (.ref s3.heap.objs.size)) (EP X pins σ Q) X.xe {s3 with heap:=s3.heap.push {cls:= .type "slice",data:= .fields #[vl,vu,.none]}}
 exact tail_any (ops:=[.ref s3.heap.objs.size,v]) ht hT hg (by with_unfolding_all rfl)
def mW (xs:List V)(lo hi:Option Int):List V:=(xs.drop (HT.Bt xs.length 0 lo)).take (HT.Bt xs.length xs.length hi - HT.Bt xs.length 0 lo)
theorem Bv (xs:List V)(lo hi:Option Int):(mW xs lo hi).length<=xs.length:=by
 unfold mW
 rw[ba,ig]
 lia
end
def LQ (n:Nat)(i:Int):Option Nat:=if 0<=i then(if i < n then some i.toNat else none) else if -(n:Int)<=i then some (i + n).toNat else none
def uz {α:Type}(xs:List α)(i:Int):Option α:=(LQ xs.length i).bind fun j=>xs[j]?
theorem E2 {n:Nat}{i:Int}{j:Nat}(h:LQ n i=some j):seqIndex? i n=some j/\j < n/\ -(n:Int)<=i/\i < n:=by
 unfold LQ at h
 by_cases h0:0<=i
 ·rw[aY h0] at h
  by_cases h1:i < n
  ·rw[aY h1] at h
   have e:i.toNat=j:=aG h
   exact⟨by rw[seqIndex_of h0 h1,e],by lia,by lia,h1⟩
  ·rw[aN h1] at h; cases h
 ·rw[aN h0] at h
  by_cases h1: -(n:Int)<=i
  ·rw[aY h1] at h
   have e:(i + n).toNat=j:=aG h
   exact⟨by rw[seqIndex_neg (by lia) h1,e],by lia,h1,by lia⟩
  ·rw[aN h1] at h; cases h
theorem E3 {α:Type}{xs:List α}{i:Int}{v:α}(h:uz xs i=some v): ∃j,seqIndex? i xs.length=some j/\xs[j]? =some v/\j < xs.length/\ -(xs.length:Int)<=i/\i < xs.length:=by
 unfold uz at h
 cases e:LQ xs.length i with
 |none=>rw[e] at h; cases h
 |some j=>
  rw[e] at h
  obtain⟨h1,h2,h3,h4⟩:=E2 e
  exact⟨j,h1,h,h2,h3,h4⟩
theorem cA {α:Type}{xs:List α}{j:Nat}{v:α}(h:xs[j]? =some v):uz xs (j:Int)=some v:=by
 have hj:j < xs.length:=(ah.mp h).1
 have e:LQ xs.length (j:Int)=some j:=by
  unfold LQ
  rw[if_pos (by lia),if_pos (by lia)]; simp
 unfold uz; rw[e]; exact h
def y7 (b:Expr):Prop:= ∀o i,subscripted b false o i=operate [o,i] (getItem o i)
def I9 (X:Cx)(r:R2):Prop:=
 ∀(value slice:Expr) (pins:List (Addr×Obj)) (s:Shared) (σ:St) (H:Hp) (x y:V) (v u:Value) (Q:VK),Inv X pins σ H s->RelV x v->RelV y u->r x y H Q->
  subscripted slice false v u=operate [v,u] (getItem v u)->wpAny (model X.prog X.w) X.A (subscriptTail value slice v u) (EP X pins σ Q) X.xe s
def MtR (X:Cx)(id:String)(r:V->List V->Hp->VK->Prop):Prop:=
 ∀(pins:List (Addr×Obj)) (s:Shared) (σ:St) (H:Hp) (x:V) (xs:List V) (v:Value) (us:List Value) (Q:VK),Inv X pins σ H s->RelV x v->Vals xs us->r x xs H Q->
  wpAny (model X.prog X.w) X.A (call (.builtin id) (v :: us)) (EP X pins σ Q) X.xe s
section
variable {X:Cx}{a b:Expr}{ta tb:TE}{pos:Pos}
theorem kO {r:R2}(hr:I9 X r)(ha:PE X a ta)(hb:PE X b tb)(hs:y7 b):PE X (.Subscript a b pos) (Rc r ta tb):=by
 intro pins s σ H Q I h
 exact Subscript_ (OH ha hb I h fun v u s2 x y H2 I2 rx ry q=>hr a b pins s2 σ H2 x y v u Q I2 rx ry q (hs _ _))
inductive Xn (x y:V)(S:Addr->List V->Prop)(k:V->Prop):Prop
 |mk (p:Addr)(xs:List V)(i:Int)(v:V)(h1:x= .ref p)(h2:y= .int i)(s:S p xs)(a:uz xs i=some v)(q:k v):Xn x y S k
def OM (K:Frag):R2:=fun x y H Q=>Xn x y (bG K H) fun v=>Q v H
def ON (K:Frag):R2:=fun x y H Q=>Xn x y (cF K H) fun v=>Q v H
theorem zd:I9 X (OM X.K):=by
 intro value slice pins s σ H x y v u Q I rx ry h hs
 obtain⟨p,xs,i,z,rfl,rfl,hq,he,q⟩:=h
 cases rx
 obtain⟨t,rfl⟩:=ry
 obtain⟨b9,r,pl,hz⟩:=I.list hq
 obtain⟨j,h1,h2,h3,h4,h5⟩:=E3 he
 obtain⟨w,ew,GB⟩:=r.get h2
 have hl:=r.length
 have hn:=y3
 have fin:EP X pins σ Q w s:=⟨z,H,I,GB,q⟩
 by_cases h0:0<=i
 ·have hj:i.toNat=j:=by
   rw[seqIndex_of h0 h5] at h1
   exact aG h1
  exact item_listR pl.isList h0 (by lia) (by rw[hj]; simpa using ew) fin hs
 ·have hj:(i + (b9.toArray.size:Int)).toNat=j:=by
   rw[seqIndex_neg (by lia) h4] at h1
   rw[bA,← hl]
   exact aG h1
  exact subscriptTail_builtinR (x:=w) pl.isList.typeIs slot_list_getitem.lookup
   (wpAny_getItem_list_neg (Q:=fun r s'=>r=w/\EP X pins σ Q r s') pl.isList (by lia) (by rw[List.size_toArray] <;> lia) (by lia) (by rw[hj]; simpa using ew) ⟨rfl,fin⟩) hs
theorem DM:I9 X (ON X.K):=by
 intro value slice pins s σ H x y v u Q I rx ry h hs
 obtain⟨p,xs,i,z,rfl,rfl,hq,he,q⟩:=h
 cases rx
 obtain⟨t,rfl⟩:=ry
 obtain⟨b9,r,pl,hz⟩:=I.tuple hq
 obtain⟨j,h1,h2,h3,h4,h5⟩:=E3 he
 obtain⟨w,ew,GB⟩:=r.get h2
 have hl:=r.length
 have hn:=y3
 have fin:EP X pins σ Q w s:=⟨z,H,I,GB,q⟩
 exact subscriptTail_builtinR (x:=w) pl.typeIs slot_tuple_getitem.lookup
  (getItem_tuple (j:=j) (Q:=fun r s'=>r=w/\EP X pins σ Q r s') pl (by lia) (by lia) (by rw[List.size_toArray,← hl]; exact h1) (by simpa using ew) ⟨rfl,fin⟩) hs
theorem DN (b9:List Value)(n j:Nat)(u:Value):Obj.mapSeq (·.setIfInBounds j u) {cls:= .type "list",data:= .seq b9.toArray n}={cls:= .type "list",data:= .seq (b9.set j u).toArray n}:=by
 simp[Obj.mapSeq]
theorem Inv.lst {pins:List (Addr×Obj)}{σ:St}{H:Hp}{s:Shared}{p:Addr}{xs:List V}(I:Inv X pins σ H s)(h:H p=some (.lst xs)):
  ∃(b9:List Value) (n:Nat),Vals xs b9/\s.heap.get? p=some {cls:= .type "list",data:= .seq b9.toArray n}/\xs.length<=sizeLine:=by
 obtain⟨z,b9,n,r,e⟩:=I.cE p _ h
 exact⟨b9,n,r,e,z⟩
theorem Inv.OO {pins:List (Addr×Obj)}{σ:St}{H:Hp}{s:Shared}{p:Addr}{xs ys:List V}{b9 qS:List Value}{n n':Nat}{f:Obj->Obj}(I:Inv X pins σ H s)(h:H p=some (.lst xs))
  (ho:s.heap.get? p=some {cls:= .type "list",data:= .seq b9.toArray n}) (hf:f {cls:= .type "list",data:= .seq b9.toArray n}={cls:= .type "list",data:= .seq qS.toArray n'}) (r:Vals ys qS) (hz:ys.length<=sizeLine) (t:Nat):
  Inv X pins σ (upd H p (.lst ys)) {s with heap:=s.heap.update p f,toks:=t}:=by
 have e:(s.heap.update p f).get? p=some {cls:= .type "list",data:= .seq qS.toArray n'}:=by
  rw[Dx f ho (by rw[hf] <;> rfl),hf]
 refine I.write (x:=p) (e:=p) (by rw[h]; trivial) (.inl rfl) (fun b u hb q=>(m9 _ _ (wQ hb)).trans q) ⟨_,e⟩ ?_
 exact⟨hz,qS,n',r,e⟩
def So:V->V->V->Hp->(Hp->Prop)->Prop:=fun o i v H Q=> ∃p xs k j,o= .ref p/\i= .int k/\H p=some (.lst xs)/\LQ xs.length k=some j/\Q (upd H p (.lst (xs.set j v)))
theorem set_list:R8 X So:=by
 intro pins s σ H o i v ov iv u Q I ro ri rv h
 obtain⟨p,xs,k,j,rfl,rfl,hp,hj,q⟩:=h
 cases ro
 obtain⟨t,rfl⟩:=ri
 obtain⟨b9,n,r,ho,hz⟩:=I.lst hp
 obtain⟨h1,h2,h3,h4⟩:=E2 hj
 have hl:=r.length
 have hn:=y3
 have I':Inv X pins σ (upd H p (.lst (xs.set j v))) {s with heap:=s.heap.update p (Obj.mapSeq (·.setIfInBounds j u))}:=
  I.OO hp ho (DN b9 n j u) (r.set rv j) (by rw[fm]; exact hz) s.toks
 by_cases h0:0<=k
 ·have hk:k.toNat=j:=by
   rw[seqIndex_of h0 h4] at h1
   exact aG h1
  exact PySem.W.ki_setAt ho h0 (by lia) (by rw[bA,← hl]; exact h4) (by rw[hk]; exact⟨_,I',q⟩)
 ·have hk:(k + (b9.toArray.size:Int)).toNat=j:=by
   rw[seqIndex_neg (by lia) h3] at h1
   rw[bA,← hl]
   exact aG h1
  exact PySem.W.ki_setBack ho (by lia) (by rw[bA,← hl]; exact h3) (by lia) (by rw[hk]; exact⟨_,I',q⟩)
theorem ze (lo hi:Option Int)(n:Nat):(sliceBounds lo hi none n).1=((HT.Bt n 0 lo:Nat):Int)/\(sliceBounds lo hi none n).2.1=((HT.Bt n n hi:Nat):Int)/\(sliceBounds lo hi none n).2.2=1:=by
 refine⟨?_,?_,rfl⟩
 ·cases lo with
  |none=>simp[sliceBounds,HT.Bt]
  |some i=>
   simp only[sliceBounds,HT.Bt,Option.getD_none,show(1:Int) > 0 by decide,if_true]
   by_cases h:i < 0
   ·simp only[h,if_true] <;> lia
   ·simp only[h,if_false] <;> lia
 ·cases hi with
  |none=>simp[sliceBounds,HT.Bt]
  |some i=>
   simp only[sliceBounds,HT.Bt,Option.getD_none,show(1:Int) > 0 by decide,if_true]
   by_cases h:i < 0
   ·simp only[h,if_true] <;> lia
   ·simp only[h,if_false] <;> lia
theorem w9 (b9:List Value)(lo hi:Option Int):slicePick b9.toArray lo hi none=((b9.drop (HT.Bt b9.length 0 lo)).take (HT.Bt b9.length b9.length hi - HT.Bt b9.length 0 lo)).toArray:=by
 obtain⟨h1,h2,h3⟩:=ze lo hi b9.toArray.size
 unfold slicePick
 rw[h1,h2,h3]
 simp only[sliceRange_one,pick_run,List.size_toArray] <;> rfl
def Xo (K:Frag):V->Option Int->Option Int->Hp->VK->Prop:=fun x lo hi H Q=> ∃a xs,x= .ref a/\bG K H a xs/\ ∀p,H p=none->Q (.ref p) (upd H p (.lst (mW xs lo hi)))
theorem kP:OL X (Xo X.K):=by
 intro pins s σ H x v vl vu lo hi sl Q I rx hs pl pu h
 obtain⟨a,xs,rfl,hx,q⟩:=h
 cases rx
 obtain⟨b9,r,ht,hz⟩:=I.list hx
 have hlen:=r.length
 refine⟨"list",_,slot_list_getitem.lookup,ht.isList.typeIs,?_⟩
 refine wpAny_getItem_list_slice ht.isList hs pl pu .none (by simp) ?_ (by rw[List.size_toArray] <;> lia)
 rw[w9,← hlen]
 refine⟨.ref s.heap.objs.size,_,I.laid (t':=s.toks) (o:= .lst (mW xs lo hi)) (fun b ob q=>ay _ q) (aD _) ?_,rfl,q _ (I.cE.fresh (aD _))⟩
 exact⟨aV (Bv xs lo hi) hz,_,0,(r.drop (HT.Bt xs.length 0 lo)).take (HT.Bt xs.length xs.length hi - HT.Bt xs.length 0 lo),bR _ rfl⟩
def tJ:V->Bool
 | .eF=>true
 | .bl _=>true
 | .int _=>true
 | .str _=>true
 |_=>false
def LR:V->V->Bool
 | .eF,.eF=>true
 | .bl a,.bl b=>a == b
 | .bl a,.int b=>(if a then 1 else 0) == b
 | .int a,.bl b=>a == (if b then 1 else 0)
 | .int a,.int b=>a == b
 | .str a,.str b=>a == b
 |_,_=>false
theorem OP {A:Around}{s:Shared}{y x:V}{u v:Value}(ry:RelV y u)(rx:RelV x v)(fy:tJ y=true)(fx:tJ x=true):SeqAt.EqAt A s u v (LR y x):=by
 cases y with
 |eF=>
  cases ry
  cases x with
  |eF=>cases rx; exact SeqAt.EqAt.same _
  |bl b=>cases rx; exact SeqAt.EqAt.none_bool b
  |int b=>obtain⟨t,rfl⟩:=rx; exact SeqAt.EqAt.none_int b t
  |str b=>obtain⟨t,rfl⟩:=rx; exact SeqAt.EqAt.none_str b t
  |_=>exact absurd (show false=true from fx) aX
 |bl a=>
  cases ry
  cases x with
  |eF=>cases rx; exact SeqAt.EqAt.bool_none a
  |bl b=>cases rx; exact SeqAt.EqAt.bool_bool a b
  |int b=>obtain⟨t,rfl⟩:=rx; exact SeqAt.EqAt.bool_int a b t
  |str b=>obtain⟨t,rfl⟩:=rx; exact SeqAt.EqAt.bool_str a b t
  |_=>exact absurd (show false=true from fx) aX
 |int a=>
  obtain⟨t',rfl⟩:=ry
  cases x with
  |eF=>cases rx; exact SeqAt.EqAt.int_none a t'
  |bl b=>cases rx; exact SeqAt.EqAt.int_bool a t' b
  |int b=>obtain⟨t,rfl⟩:=rx; exact SeqAt.EqAt.int_int a t' b t
  |str b=>obtain⟨t,rfl⟩:=rx; exact SeqAt.EqAt.int_str a t' b t
  |_=>exact absurd (show false=true from fx) aX
 |str a=>
  obtain⟨t',rfl⟩:=ry
  cases x with
  |eF=>cases rx; exact SeqAt.EqAt.str_none a t'
  |bl b=>cases rx; exact SeqAt.EqAt.str_bool a t' b
  |int b=>obtain⟨t,rfl⟩:=rx; exact SeqAt.EqAt.str_int a t' b t
  |str b=>obtain⟨t,rfl⟩:=rx; exact SeqAt.EqAt.str_str a t' b t
  |_=>exact absurd (show false=true from fx) aX
 |_=>exact absurd (show false=true from fy) aX
def DO (x:V)(u:Value):Bool:=match u with
 | .none=>LR .eF x
 | .bool b=>LR (.bl b) x
 | .int i _=>LR (.int i) x
 | .str z _=>LR (.str z) x
 |_=>false
theorem Ja {x y:V}{u:Value}(r:RelV y u)(f:tJ y=true):DO x u=LR y x:=by
 cases y with
 |eF=>cases r; rfl
 |bl b=>cases r; rfl
 |int i=>obtain⟨t,rfl⟩:=r; rfl
 |str z=>obtain⟨t,rfl⟩:=r; rfl
 |_=>exact absurd (show false=true from f) aX
theorem qX {x:V}: ∀{xs:List V} {us:List Value},Vals xs us->xs.all tJ=true->us.any (DO x)=xs.any fun y=>LR y x
 |_,_,.nil,_=>rfl
 |y :: xs,u :: us,.cons r t,f=>by
  rw[List.all_cons,IC] at f
  rw[ug,ug,Ja r f.1,qX t f.2]
theorem nF {A:Around}{s:Shared}{x:V}{v:Value}(rx:RelV x v)(fx:tJ x=true): ∀{xs:List V} {us:List Value},Vals xs us->xs.all tJ=true-> ∀u∈us,SeqAt.EqAt A s u v (DO x u)
 |_,_,.nil,_=>fun u hu=>by cases hu
 |y :: xs,u :: us,.cons r t,f=>fun u' hu=>by
  rw[List.all_cons,IC] at f
  rcases au.mp hu with rfl|hu
  ·rw[Ja r f.1]; exact OP r rx f.1 fx
  ·exact nF rx fx t f.2 u' hu
def xa (x:V)(xs:List V):Bool:=xs.any fun y=>LR y x
def rIn (K:Frag)(neg:Bool):R2:=fun x y H Q=> ∃p xs,y= .ref p/\(bG K H p xs∨cF K H p xs)/\tJ x=true/\xs.all tJ=true/\Q (.bl (if neg then !xa x xs else xa x xs)) H
theorem oM:o6 X (compareOp .In) (rIn X.K false):=by
 intro pins s σ H x y v u Q I rx ry h
 obtain⟨p,xs,rfl,hq,fx,fs,q⟩:=h
 cases ry
 rcases hq with hq|hq
 ·obtain⟨b9,r,pl,hz⟩:=I.list hq
  refine SeqAt.in_listAt (DO x) pl.isList (fun w hw=>nF rx fx r fs w (by simpa using hw)) ⟨.bl _,H,I,rfl,?_⟩
  rw[show b9.toArray.any (DO x)=b9.any (DO x) by simp,qX r fs]
  exact q
 ·obtain⟨b9,r,pl,hz⟩:=I.tuple hq
  refine SeqAt.in_tupleAt (DO x) pl (fun w hw=>nF rx fx r fs w (by simpa using hw)) ⟨.bl _,H,I,rfl,?_⟩
  rw[show b9.toArray.any (DO x)=b9.any (DO x) by simp,qX r fs]
  exact q
theorem zf:o6 X (compareOp .NotIn) (rIn X.K true):=by
 intro pins s σ H x y v u Q I rx ry h
 obtain⟨p,xs,rfl,hq,fx,fs,q⟩:=h
 cases ry
 rcases hq with hq|hq
 ·obtain⟨b9,r,pl,hz⟩:=I.list hq
  refine SeqAt.notIn_listAt (DO x) pl.isList (fun w hw=>nF rx fx r fs w (by simpa using hw)) ⟨.bl _,H,I,rfl,?_⟩
  rw[show b9.toArray.any (DO x)=b9.any (DO x) by simp,qX r fs]
  exact q
 ·obtain⟨b9,r,pl,hz⟩:=I.tuple hq
  refine SeqAt.notIn_tupleAt (DO x) pl (fun w hw=>nF rx fx r fs w (by simpa using hw)) ⟨.bl _,H,I,rfl,?_⟩
  rw[show b9.toArray.any (DO x)=b9.any (DO x) by simp,qX r fs]
  exact q
theorem zh:iZ X (.builtin "len") (fun xs H Q=> ∃p ys,xs=[.ref p]/\(bG X.K H p ys∨cF X.K H p ys)/\Q (.int ys.length) H):=by
 intro pins s σ H xs us Q I r h
 obtain⟨p,ys,rfl,hq,q⟩:=h
 obtain⟨u,rfl,rx⟩:=vals1 r
 cases rx
 have hn:=y3
 rcases hq with hq|hq
 ·obtain⟨b9,r',pl,hz⟩:=I.list hq
  have hlen:=r'.length
  exact Calls.call_len_list pl.isList (by simp only[List.size_toArray] <;> lia) ⟨.int ys.length,H,I.tok _,⟨s.toks + 1,by rw[List.size_toArray,hlen]⟩,q⟩
 ·obtain⟨b9,r',pl,hz⟩:=I.tuple hq
  have hlen:=r'.length
  exact len_tuple pl (by simp only[List.size_toArray] <;> lia) ⟨.int ys.length,H,I.tok _,⟨s.toks + 1,by rw[List.size_toArray,hlen]⟩,q⟩
theorem zi:iZ X (.type "list") (fun xs H Q=> ∃p ys,xs=[.ref p]/\(bG X.K H p ys∨cF X.K H p ys)/\ ∀l,H l=none->Q (.ref l) (upd H l (.lst ys))):=by
 intro pins s σ H xs us Q I r h
 obtain⟨p,ys,rfl,hq,q⟩:=h
 obtain⟨u,rfl,rx⟩:=vals1 r
 cases rx
 have fin: ∀(b9:List Value),Vals ys b9->ys.length<=sizeLine-> ∀(h':Heap) (c':Nat),(∀b o',s.heap.get? b=some o'->h'.get? b=some o')->
   h'.get? s.heap.objs.size=some {cls:= .type "list",dict:=none,data:= .seq b9.toArray c',slots:= #[]}->EP X pins σ Q (.ref s.heap.objs.size) {s with heap:=h'}:=fun b9 r' hz h' c' kp e=>
  ⟨.ref s.heap.objs.size,_,I.laid (t':=s.toks) kp (aD _) (show dH X.prog X.w _ h' _ (.lst ys) from⟨hz,b9,c',r',e⟩),rfl,q _ (I.cE.fresh (aD _))⟩
 rcases hq with hq|hq
 ·obtain⟨b9,r',pl,hz⟩:=I.list hq
  have hlen:=r'.length
  obtain⟨o,ho,hc,n,hd⟩:=pl.isList
  exact call_list_seq p (.inl rfl) ho hc hd (fun h' c' kp e=>fin b9 r' hz h' c' kp e) (by simp only[List.size_toArray] <;> lia)
 ·obtain⟨b9,r',pl,hz⟩:=I.tuple hq
  have hlen:=r'.length
  obtain⟨o,ho,hc,n,hd⟩:=pl
  exact call_list_seq p (.inr rfl) ho hc hd (fun h' c' kp e=>fin b9 r' hz h' c' kp e) (by simp only[List.size_toArray] <;> lia)
theorem xc:iZ X (.type "tuple") (fun xs H Q=> ∃p ys,xs=[.ref p]/\((bG X.K H p ys/\ ∀l,H l=none->Q (.ref l) (upd H l (.tup ys)))∨(cF X.K H p ys/\Q (.ref p) H))):=by
 intro pins s σ H xs us Q I r h
 obtain⟨p,ys,rfl,h⟩:=h
 obtain⟨u,rfl,rx⟩:=vals1 r
 cases rx
 rcases h with⟨hq,q⟩|⟨hq,q⟩
 ·obtain⟨b9,r',pl,hz⟩:=I.list hq
  have hlen:=r'.length
  refine call_tuple_list pl.isList (fun h' kp=>?_) (by simp only[List.size_toArray] <;> lia)
  have I1:Inv X pins σ H {s with heap:=h'}:=I.kept (t':=s.toks) kp
  have I2:Inv X pins σ (upd H h'.objs.size (.tup ys)) {s with heap:=h'.push {cls:= .type "tuple",data:= .seq b9.toArray}}:=
   I1.laid (t':=s.toks) (fun b o e=>ay _ e) (aD _) (show dH X.prog X.w _ _ _ (.tup ys) from⟨hz,b9,r',IsTup.new _ _⟩)
  exact⟨.ref h'.objs.size,_,I2,rfl,q _ (I1.cE.fresh (aD _))⟩
 ·obtain⟨b9,r',pl,hz⟩:=I.tuple hq
  exact call_tuple_same pl ⟨.ref p,H,I,rfl,q⟩
def Xp (K:Frag)(T:String)(x:V)(H:Hp):Prop:=match x with
 | .str _=>T="str"
 | .int _=>T="int"
 | .ref p=>(T="list"/\ ∃xs,bG K H p xs)∨(T="tuple"/\ ∃o,K.lookup p=some o/\o.cls= .type "tuple"/\o.dict=none)∨
   (T="dict"/\((∃bh,H p=some (.dK bh))∨ ∃bh,H p=some (.dT bh)))∨(T="set"/\ ∃S n,H p=some (.set S n))
 |_=>False
theorem Jb {pins:List (Addr×Obj)}{σ:St}{H:Hp}{s:Shared}{T:String}{x:V}{v:Value}(I:Inv X pins σ H s)(r:RelV x v)(ty:Xp X.K T x H):
  s.TypeIs v T/\ ∀a,v= .ref a-> ∃ob,s.heap.get? a=some ob/\ob.dict=none:=by
 cases x with
 |str z=>
  obtain⟨t,rfl⟩:=r
  cases(show T="str" from ty)
  exact⟨typeIs_str s z t,fun _ e=>nomatch e⟩
 |int i=>
  obtain⟨t,rfl⟩:=r
  cases(show T="int" from ty)
  exact⟨typeIs_int s i t,fun _ e=>nomatch e⟩
 |ref p=>
  cases r
  rcases ty with⟨rfl,xs,hq⟩|⟨rfl,o,hk,hc,hd⟩|⟨rfl,hk⟩|⟨rfl,S,n,hk⟩
  ·obtain⟨b9,_,pl,_⟩:=I.list hq
   refine⟨pl.isList.typeIs,fun a e=>?_⟩
   cases e
   obtain⟨o,n,e,c,hd,_⟩:=pl
   exact⟨o,e,hd⟩
  ·refine⟨⟨o,I.g6 p o hk,hc⟩,fun a e=>?_⟩
   cases e
   exact⟨o,I.g6 _ o hk,hd⟩
  ·have z: ∃o,s.heap.get? p=some o/\o.ExactDict:=by
    rcases hk with⟨bh,hk⟩|⟨bh,hk⟩
    ·obtain⟨_,_,_,_,o,_,_,e,ex,_⟩:=I.cE p _ hk
     exact⟨o,e,ex⟩
    ·obtain⟨_,_,_,_,o,_,_,e,ex,_⟩:=I.cE p _ hk
     exact⟨o,e,ex⟩
   obtain⟨o,e,ex⟩:=z
   refine⟨⟨o,e,ex.1⟩,fun a e2=>?_⟩
   cases e2
   exact⟨o,e,ex.2.1⟩
  ·obtain⟨o,_,_,_,e,ex,_⟩:=I.cE p _ hk
   refine⟨⟨o,e,ex.1⟩,fun a e2=>?_⟩
   cases e2
   exact⟨o,e,ex.2.1⟩
 |_=>exact False.elim ty
def Xq (K:Frag)(T:String)(r:V->List V->Hp->VK->Prop)(to:TE):TE:=fun σ H Q=>to σ H fun x H1=>Xp K T x H1/\r x [] H1 Q
def tBM (K:Frag)(T:String)(r:V->List V->Hp->VK->Prop)(to:TE)(t:TA):TE:=fun σ H Q=>to σ H fun x H1=>Xp K T x H1/\t σ H1 fun xs H2=>r x xs H2 Q
variable {o e:Expr}{es:List Expr}{to:TE}{t:TA}{name:Str}{apos gQ:Pos}{T id:String}{r:V->List V->Hp->VK->Prop}
theorem OQ (pa:PlainAttrs T)(slot:Slot T name id)(VP:typeOf (.builtin id)=pure (.type "method_descriptor"))(hm:MtR X id r)(ho:PE X o to)
  (qY:attributeBase o name X.env (eval o X.env)=eval o X.env:=by rfl) (uZ:(apos.endLine == gQ.line)=true:=by rfl):PE X (.Call (.Attribute o name apos) [] [] gQ) (Xq X.K T r to):=by
 intro pins s σ H Q I h
 refine wpAny_Call_method0_late qY uZ (d9 (ho pins s σ H _ I h) fun v s1 ⟨x,H1,I1,r1,ty,q1⟩=>?_)
 obtain⟨h1,h2⟩:=Jb I1 r1 ty
 exact⟨T,id,pa,slot,VP,h1,h2,i6 rfl (PySem.evalArgs_none (hm pins s1 σ H1 x [] v [] Q I1 r1 .nil q1))⟩
theorem Sq (pa:PlainAttrs T)(slot:Slot T name id)(VP:typeOf (.builtin id)=pure (.type "method_descriptor"))(hm:MtR X id r)(ho:PE X o to)(ha:PA X (e :: es) t)
  (qY:attributeBase o name X.env (eval o X.env)=eval o X.env:=by rfl)
  (OR:((backTo gQ (starEach (e :: es) X.env)).all (fun x=> !x.1) && (backToKw gQ (keywordEach [] X.env)).all (fun x=>x.1.isSome)
   && decide ((e :: es).length + ([]:List Keyword).length + (if([]:List Keyword).isEmpty then 0 else 1) < 30))=true:=by rfl)
  (uZ:(apos.endLine == gQ.line)=true:=by rfl) (hs:starEach (e :: es) X.env=(false,eval e X.env) :: starEach es X.env:=by rfl) (u0:(backTo gQ (starEach es X.env)).any (·.1)=false:=by rfl):
  PE X (.Call (.Attribute o name apos) (e :: es) [] gQ) (tBM X.K T r to t):=by
 intro pins s σ H Q I h
 refine wpAny_Call_method_late qY OR uZ rfl (d9 (ho pins s σ H _ I h) fun v s1 ⟨x,H1,I1,r1,ty,q1⟩=>?_)
 obtain⟨h1,h2⟩:=Jb I1 r1 ty
 refine⟨T,id,pa,slot,VP,h1,h2,?_⟩
 have hA:=ha gQ pins s1 σ H1 _ I1 q1
 rw[hs] at hA ⊢
 refine i6 (by show(false || (backTo gQ (starEach es X.env)).any (·.1))=false; rw[u0] <;> rfl) (Gd ?_)
 exact d9 hA fun us s2 ⟨vs,H2,I2,r2,q2⟩=>hm pins s2 σ H2 x vs v us Q I2 r1 r2 q2
end
def MtM (X:Cx)(id:String)(r:V->List V->Hp->VK->Prop):Prop:=
 ∀(pins:List (Addr×Obj)) (s:Shared) (σ:St) (H:Hp) (x:V) (xs:List V) (v:Value) (us:List Value) (Q:VK),Inv X pins σ H s->RelV x v->Vals xs us->r x xs H Q->
  wpAny (model X.prog X.w) X.A (call (.builtin id) (v :: us)) (EP X pins σ Q) X.xe s
theorem Vals.one: ∀{x:V} {us:List Value},Vals [x] us-> ∃u,us=[u]/\RelV x u
 |_,_,.cons r .nil=>⟨_,rfl,r⟩
theorem Vals.zero: ∀{us:List Value},Vals [] us->us=[]
 |_,.nil=>rfl
theorem Vals.dropLast {xs:List V}{us:List Value}(h:Vals xs us):Vals xs.dropLast us.dropLast:=by
 induction h with
 |nil=>exact .nil
 |cons r t ih=>
  cases t with
  |nil=>exact .nil
  |cons q t'=>exact .cons r ih
theorem Vals.rep {xs:List V}{us:List Value}(h:Vals xs us): ∀k:Nat,Vals (List.replicate k xs).flatten (List.replicate k us).flatten
 |0=> .nil
 |k + 1=>by
  rw[dB,dB,i7,i7]
  exact Vals.append h (Vals.rep h k)
theorem DP {α:Type}(l:List α):l.eraseIdx (l.length - 1)=l.dropLast:=by
 induction l with
 |nil=>rfl
 |cons a r ih=>
  cases r with
  |nil=>rfl
  |cons b r=>
   have e:(a :: b :: r).length - 1=((b :: r).length - 1) + 1:=by
    have h1:(a :: b :: r).length=r.length + 2:=rfl
    have h2:(b :: r).length=r.length + 1:=rfl
    lia
   rw[e,List.eraseIdx_cons_succ,ih]
   all_goals rfl
theorem foldl_rep (b9:List Value): ∀(k:Nat) (acc:List Value),
  List.foldl (fun x1 x2=>x1 ++ x2) acc.toArray (List.replicate k b9.toArray)=(acc ++ (List.replicate k b9).flatten).toArray
 |0,acc=>by simp
 |k + 1,acc=>by
  have e:acc.toArray ++ b9.toArray=(acc ++ b9).toArray:=by simp
  have e2:(acc ++ b9) ++ (List.replicate k b9).flatten=acc ++ (List.replicate (k + 1) b9).flatten:=by
   rw[dB,i7,b0]
  rw[← e2,← foldl_rep b9 k (acc ++ b9),← e,dB,cB]
section
variable {X:Cx}{pins:List (Addr×Obj)}{σ:St}{H:Hp}{s:Shared}{l b:Addr}{xs ys zs:List V}
theorem Inv.Sr {b9 qS:List Value}{n:Nat}{f:Array Value->Array Value}{t':Nat}(I:Inv X pins σ H s)(hH:H l=some (.lst xs))
  (e:s.heap.get? l=some {cls:= .type "list",data:= .seq b9.toArray n}) (hf:f b9.toArray=qS.toArray) (hv:Vals ys qS) (hz:ys.length<=sizeLine):
  Inv X pins σ (upd H l (.lst ys)) {s with heap:=s.heap.update l (Obj.mapSeq f),toks:=t'}:=by
 have q:=PySem.IsL.update e f
 rw[hf] at q
 refine I.write (x:=l) (e:=l) (by rw[hH]; exact trivial) (.inl rfl) (fun b' u hb hu=>(m9 s.heap (Obj.mapSeq f) (wQ hb)).trans hu) ⟨_,q⟩ ?_
 exact⟨hz,qS,_,hv,q⟩
theorem Inv.OS {b9:List Value}{t':Nat}(I:Inv X pins σ H s)(hv:Vals ys b9)(hz:ys.length<=sizeLine):
  Inv X pins σ (upd H s.heap.objs.size (.lst ys)) {s with heap:=s.heap.push {cls:= .type "list",data:= .seq b9.toArray},toks:=t'}:=
 I.laid (fun _ _ q=>ay _ q) (aD _) ⟨hz,b9,0,hv,bR _ rfl⟩
theorem Inv.fresh (I:Inv X pins σ H s):H s.heap.objs.size=none:=I.cE.fresh (aD _)
theorem Inv.Jc (I:Inv X pins σ H s)(hH:H l=some (.lst xs)):xs.length<=sizeLine/\ ∃(b9:List Value) (n:Nat),Vals xs b9/\xs.length=b9.length/\s.heap.get? l=some {cls:= .type "list",data:= .seq b9.toArray n}:=by
 obtain⟨z,b9,n,r,e⟩:=I.cE l _ hH
 exact⟨z,b9,n,r,r.length,e⟩
theorem Jd {n:Nat}(h:n<=sizeLine):Builtin.List.listTooLong n=false:=by
 unfold Builtin.List.listTooLong
 exact bL (by lia)
end
section
variable {X:Cx}
inductive Xr (x:V)(vs:List V)(H:Hp)(k:Addr->List V->V->Prop):Prop
 |mk (l:Addr)(xs:List V)(y:V)(h1:x= .ref l)(h2:vs=[y])(h3:H l=some (.lst xs))(h4:xs.length < sizeLine)(q:k l xs y):Xr x vs H k
def E4:V->List V->Hp->VK->Prop:=fun x vs H Q=>Xr x vs H fun l xs y=>Q .eF (upd H l (.lst (xs ++ [y])))
theorem ym:MtM X "list.append" E4:=by
 intro pins s σ H x vs v us Q I rx rv h
 obtain⟨l,xs,y,rfl,rfl,hH,hz,q⟩:=h
 cases rx
 obtain⟨u,rfl,ru⟩:=rv.one
 obtain⟨z,b9,n,r,hl,e⟩:=I.Jc hH
 refine call_meets F.slot_list_append ⟨_,e,rfl⟩ F.entry_list_append (F.args_list_append_2 _ _) (PySem.list_append l b9.toArray n u (by rw[bA]; lia)) ⟨e,?_⟩
 refine⟨.eF,_,I.Sr (qS:=b9 ++ [u]) hH e (by simp) (r.append (.cons ru .nil)) ?_,rfl,q⟩
 rw[ax,List.length_singleton]
 lia
def Xs:V->List V->Hp->VK->Prop:=fun x vs H Q=> ∃l xs y,x= .ref l/\vs=[]/\H l=some (.lst xs)/\xs[xs.length - 1]? =some y/\Q y (upd H l (.lst xs.dropLast))
theorem OT:MtM X "list.pop" Xs:=by
 intro pins s σ H x vs v us Q I rx rv h
 obtain⟨l,xs,y,rfl,rfl,hH,hy,q⟩:=h
 cases rx
 have Xt:=rv.zero
 subst Xt
 obtain⟨z,b9,n,r,hl,e⟩:=I.Jc hH
 obtain⟨u,hu,ru⟩:=r.get hy
 have hy':b9.toArray[b9.toArray.size - 1]? =some u:=by
  show b9.toArray[b9.length - 1]? =some u
  rw[← Array.getElem?_toList,← hl]
  exact hu
 refine call_meets F.slot_list_pop ⟨_,e,rfl⟩ F.entry_list_pop (F.args_list_pop_1 _) (MeetsSeq.list_pop_last l b9.toArray n u hy' (by rw[bA]; lia)) ⟨e,?_⟩
 refine⟨y,_,I.Sr (qS:=b9.dropLast) hH e ?_ r.dropLast ?_,ru,q⟩
 ·show b9.toArray.eraseIdxIfInBounds (b9.toArray.size - 1)=b9.dropLast.toArray
  rw[bA,List.eraseIdxIfInBounds_toArray,DP]
 ·rw[List.length_dropLast]
  lia
def Ss:R2:=fun x y H Q=> ∃l b xs zs,x= .ref l/\y= .ref b/\H l=some (.lst xs)/\H b=some (.lst zs)/\xs.length + zs.length<=sizeLine/\ ∀p,H p=none->Q (.ref p) (upd H p (.lst (xs ++ zs)))
theorem lp:o6 X (binaryOp .Add) Ss:=by
 intro pins s σ H x y v u Q I rx ry h
 obtain⟨l,b,xs,zs,rfl,rfl,hH,hB,hz,q⟩:=h
 cases rx
 cases ry
 obtain⟨z,b9,n,r,hl,e⟩:=I.Jc hH
 obtain⟨z2,GC,n2,r2,VQ,e2⟩:=I.Jc hB
 refine PySem.P.add_list e e2 ?_ (by rw[bA,bA]; lia)
 have ea:b9.toArray ++ GC.toArray=(b9 ++ GC).toArray:=by simp
 rw[ea]
 exact⟨.ref _,_,I.OS (t':=s.toks) (r.append r2) (by rw[ax]; lia),rfl,q _ I.fresh⟩
def Su:R2:=fun x y H Q=> ∃l k xs,x= .ref l/\y= .int k/\H l=some (.lst xs)/\ -(2 ^ 63)<=k/\k < 2 ^ 63/\xs.length * k.toNat<=sizeLine/\
 ∀p,H p=none->Q (.ref p) (upd H p (.lst (List.replicate k.toNat xs).flatten))
theorem len_rep {α:Type}(xs:List α)(k:Nat):(List.replicate k xs).flatten.length=k * xs.length:=by
 induction k with
 |zero=>simp
 |succ k ih=>rw[dB,i7,ax,ih,wU,Nat.add_comm]
theorem zj:o6 X (binaryOp .Mult) Su:=by
 intro pins s σ H x y v u Q I rx ry h
 obtain⟨l,k,xs,rfl,rfl,hH,h1,h2,hz,q⟩:=h
 cases rx
 obtain⟨t,rfl⟩:=ry
 obtain⟨z,b9,n,r,hl,e⟩:=I.Jc hH
 have hlen:b9.toArray.size * k.toNat<=sizeLine:=by rw[bA,← hl]; exact hz
 have Xu: ¬ b9.toArray.size * k.toNat > (2 ^ 63 - 1) / 8:=by
  have:(sizeLine:Nat)<=(2 ^ 63 - 1) / 8:=by decide
  lia
 have Xv: ¬ (!Builtin.List.listFitsIndex k)=true:=by
  rw[fitsIndex_both h1 h2]
  exact aX
 have Sv: ¬ Builtin.List.listTooLong (b9.toArray.size * k.toNat)=true:=by
  rw[Jd hlen]
  exact aX
 have Xw:List.foldl (fun x1 x2=>x1 ++ x2) #[] (List.replicate (if b9.toArray.isEmpty=true then 0 else k.toNat) b9.toArray)=(List.replicate k.toNat b9).flatten.toArray:=by
  have f0: ∀m:Nat,List.foldl (fun x1 x2=>x1 ++ x2) #[] (List.replicate m b9.toArray)=(List.replicate m b9).flatten.toArray:=fun m=>by
   have:=foldl_rep b9 m []
   rw[Lu] at this
   exact this
  rw[f0]
  cases b9 with
  |nil=>simp
  |cons a r'=>rw[if_neg (by simp)]
 refine wpAny_binaryOp_repeat_ref (T:="list") (U:="int") (by decide) ⟨_,e,rfl⟩ (fun s'=>typeIs_int s' k t) noFill_list_mul F.fills_int_mul F.slot_int_rmul repeat_list F.slot_int_index.lookup
  (call_meets F.slot_int_rmul (typeIs_int s k t) F.entry_int_rmul (F.args_int_rmul_2 _ _) (int___rmul___int_list k t l b9.toArray n)
   ⟨e,rfl,⟨_,e,rfl⟩,call_meets F.slot_list_mul ⟨_,e,rfl⟩ F.entry_list_mul (F.args_list_mul_2 _ _) (AutoListH.list___mul___list_int_3 l b9.toArray n k t Xv Xu Sv) ⟨e,?_⟩⟩)
 rw[Xw]
 exact⟨.ref _,_,I.OS (t':=s.toks) (r.rep k.toNat) (by rw[len_rep,Nat.mul_comm]; exact hz),rfl,q _ I.fresh⟩
end
section
variable {prog:Program}{w:World}{A:Around}{E:Value->Shared->Prop}{s:Shared}
end
section
variable {X:Cx}
end
section
variable {κ:Type}[DecidableEq κ]
def gA (bh:List (κ×V))(k:κ):Option V:=(bh.find? fun kv=>decide (kv.1=k)).map (·.2)
def putK (bh:List (κ×V))(k:κ)(v:V):List (κ×V):=
 if(bh.any fun kv=>decide (kv.1=k))=true then bh.map (fun kv=>if kv.1=k then(kv.1,v) else kv) else bh ++ [(k,v)]
def lK (bh:List (κ×V))(k:κ):List (κ×V):=bh.filter fun kv=>decide (kv.1≠k)
theorem fT {p:κ×V}{r:List (κ×V)}{k:κ}(e:p.1=k):gA (p :: r) k=some p.2:=by simp[gA,List.find?_cons,e]
theorem fH {p:κ×V}{r:List (κ×V)}{k:κ}(e: ¬ p.1=k):gA (p :: r) k=gA r k:=by simp[gA,List.find?_cons,e]
theorem nG (k:κ): ∀bh:List (κ×V),(bh.any fun kv=>decide (kv.1=k))=(gA bh k).isSome
 |[]=>rfl
 |p :: r=>by
  rw[ug]
  by_cases e:p.1=k
  ·simp only[fT e,decide_eq_true e,Bool.true_or,Option.isSome_some]
  ·rw[fH e,bL e,Bool.false_or]; exact nG k r
theorem Bw (k j:κ)(y:V): ∀bh:List (κ×V),gA (bh.map fun kv=>if kv.1=k then(kv.1,y) else kv) j=(gA bh j).map fun x=>if j=k then y else x
 |[]=>rfl
 |p :: r=>by
  have ih:=Bw k j y r
  rw[cO]
  by_cases h:p.1=k
  ·rw[aY h]
   by_cases e:p.1=j
   ·rw[fT (p:=(p.1,y)) e,fT e,oY,aY (e.symm.trans h)]
   ·rw[fH (p:=(p.1,y)) e,fH e,ih]
  ·rw[aN h]
   by_cases e:p.1=j
   ·rw[fT (p:=p) e,fT e,oY,aN (fun z=>h (e.trans z))]
   ·rw[fH (p:=p) e,fH e,ih]
theorem yn (k j:κ)(y:V): ∀bh:List (κ×V),gA bh k=none->gA (bh ++ [(k,y)]) j=if j=k then some y else gA bh j
 |[],_=>by
  by_cases e:k=j
  ·rw[aY e.symm]; exact fT (p:=(k,y)) e
  ·rw[aN (fun z=>e z.symm)]; exact fH (p:=(k,y)) e
 |p :: r,hn=>by
  rw[List.cons_append]
  have hk: ¬ p.1=k:=fun z=>by rw[fT z] at hn; cases hn
  rw[fH hk] at hn
  have ih:=yn k j y r hn
  by_cases e:p.1=j
  ·rw[fT e,fT e,aN (fun z=>hk (e.trans z))]
  ·rw[fH e,fH e,ih]
theorem Je (bh:List (κ×V))(k j:κ)(y:V):gA (putK bh k y) j=if j=k then some y else gA bh j:=by
 unfold putK
 by_cases a:(bh.any fun kv=>decide (kv.1=k))=true
 ·rw[aY a,Bw]
  rw[nG] at a
  by_cases e:j=k
  ·obtain⟨x,hx⟩:=Q4.mp a
   rw[aY e,e,hx,oY,aY rfl]
  ·rw[aN e]
   cases gA bh j with
   |none=>rfl
   |some x=>rw[oY,aN e]
 ·rw[aN a]
  refine yn k j y bh ?_
  rw[nG] at a
  cases q:gA bh k with
  |none=>rfl
  |some x=>rw[q] at a; exact(a rfl).elim
theorem kQ (bh:List (κ×V))(k:κ)(v:V):(putK bh k v).length<=bh.length + 1:=by
 unfold putK
 split
 ·rw[ae]; lia
 ·rw[ax,bO,wV]; lia
theorem Jf {bh:List (κ×V)}{k:κ}(v:V)(h:gA bh k=none):putK bh k v=bh ++ [(k,v)]:=by
 unfold putK
 rw[nG,h]
 exact aN (by decide)
theorem lH.lL {o:Option V}{u:Option Value}(r:lH o u):o.isSome=u.isSome:=by
 cases o with
 |none=>cases u with
  |none=>rfl
  |some _=>exact(show False from r).elim
 |some _=>cases u with
  |none=>exact(show False from r).elim
  |some _=>rfl
theorem KV.val {bh:List (κ×V)}{vs:List (κ×Value)}(r:KV bh vs)(k:κ):lH (gA bh k) (valueAt vs k):=by
 unfold KV at r
 induction r with
 |nil=>exact True.intro
 | @cons p q ps qs h t ih=>
  obtain⟨h1,h2⟩:=h
  by_cases e:p.1=k
  ·have e':q.1=k:=h1.symm.trans e
   have b:valueAt (q :: qs) k=some q.2:=by simp[valueAt,List.find?_cons,e']
   rw[fT e,b]; exact h2
  ·have e': ¬ q.1=k:=fun z=>e (h1.trans z)
   have b:valueAt (q :: qs) k=valueAt qs k:=by simp[valueAt,List.find?_cons,e']
   rw[fH e,b]; exact ih
theorem KV.any {bh:List (κ×V)}{vs:List (κ×Value)}(r:KV bh vs)(k:κ):(bh.any fun kv=>decide (kv.1=k))=vs.any fun kv=>decide (kv.1=k):=by
 unfold KV at r
 induction r with
 |nil=>rfl
 |cons h t ih=>rw[ug,ug,ih,h.1]
theorem KV.OU {bh:List (κ×V)}{vs:List (κ×Value)}(r:KV bh vs)(k:κ){y:V}{u:Value}(ry:RelV y u):
  KV (bh.map fun kv=>if kv.1=k then(kv.1,y) else kv) (vs.map fun kv=>if kv.1=k then(kv.1,u) else kv):=by
 unfold KV at r ⊢
 induction r with
 |nil=>exact .nil
 | @cons p q ps qs h t ih=>
  rw[cO,cO]
  refine .cons ?_ ih
  obtain⟨h1,h2⟩:=h
  by_cases e:p.1=k
  ·rw[aY e,aY (h1.symm.trans e)]; exact⟨h1,ry⟩
  ·rw[aN e,aN (fun z=>e (h1.trans z))]; exact⟨h1,h2⟩
theorem KV.put {bh:List (κ×V)}{vs:List (κ×Value)}(r:KV bh vs)(k:κ){y:V}{u:Value}(ry:RelV y u):KV (putK bh k y) (stored vs k u):=by
 unfold putK stored
 rw[r.any k]
 by_cases e:(vs.any fun kv=>decide (kv.1=k))=true
 ·rw[aY e,aY e]; exact r.OU k ry
 ·rw[aN e,aN e]; exact cw r ⟨rfl,ry⟩
theorem KV.drop {bh:List (κ×V)}{vs:List (κ×Value)}(r:KV bh vs)(k:κ):KV (lK bh k) (without vs k):=by
 unfold KV at r ⊢
 unfold lK without
 induction r with
 |nil=>exact .nil
 | @cons p q ps qs h t ih=>
  obtain⟨h1,h2⟩:=h
  rw[List.filter_cons,List.filter_cons]
  by_cases e:p.1=k
  ·have a: ¬ decide (p.1≠k)=true:=by simp[e]
   have b: ¬ decide (q.1≠k)=true:=by simp[h1.symm.trans e]
   rw[aN a,aN b]; exact ih
  ·have e': ¬ q.1=k:=fun z=>e (h1.trans z)
   have a:decide (p.1≠k)=true:=by simp[e]
   have b:decide (q.1≠k)=true:=by simp[e']
   rw[aY a,aY b]; exact .cons ⟨h1,h2⟩ ih
theorem KV.length {bh:List (κ×V)}{vs:List (κ×Value)}(r:KV bh vs):bh.length=vs.length:=aO r
theorem Jg (bh:List (κ×V))(k:κ):(lK bh k).length<=bh.length:=aW _ _
end
theorem va {P:Program}{w:World}{k:Key}{u:Value}(r:RelV (kV k) u):(dZ P w).is k u=true:=by
 cases k with
 |inl i=>obtain⟨t,e⟩:=(show ∃t,u=Value.int i t from r); subst e; exact Be P w i t
 |inr x=>obtain⟨t,e⟩:=(show ∃t,u=Value.str x t from r); subst e; exact Bf P w x t
theorem yo {P:Program}{w:World}: ∀{ks:List Key} {us:List Value},Vals (ks.map kV) us->ItemsAre (dZ P w) ks us
 |[],_,r=>by rw[qH] at r; cases r; exact .nil
 |k :: ks,_,r=>by
  rw[cO] at r
  cases r with
  |cons h t=>exact .cons (va h) (yo t)
abbrev KT (H:Hp):List (List Key×V)->List (List Key×Addr×Value)->Prop:=Paired fun p q=>p.1=q.1/\H q.2.1=some (.tup (p.1.map kV))/\RelV p.2 q.2.2
theorem KT.val {H:Hp}{bh:List (List Key×V)}{xs:List (List Key×Addr×Value)}(r:KT H bh xs)(k:List Key):lH (gA bh k) ((atKey xs k).map (·.2)):=by
 induction r with
 |nil=>exact True.intro
 | @cons p q ps qs h t ih=>
  obtain⟨h1,_,h2⟩:=h
  by_cases e:p.1=k
  ·have e':q.1=k:=h1.symm.trans e
   have b:atKey (q :: qs) k=some q.2:=by simp[atKey,List.find?_cons,e']
   rw[fT e,b]; exact h2
  ·have e': ¬ q.1=k:=fun z=>e (h1.trans z)
   have b:atKey (q :: qs) k=atKey qs k:=by simp[atKey,List.find?_cons,e']
   rw[fH e,b]; exact ih
theorem KT.OU {H:Hp}{bh:List (List Key×V)}{xs:List (List Key×Addr×Value)}(r:KT H bh xs)(k:List Key){y:V}{u:Value}(ry:RelV y u):
  KT H (bh.map fun kv=>if kv.1=k then(kv.1,y) else kv) (xs.map (putAt k u)):=by
 induction r with
 |nil=>exact .nil
 | @cons p q ps qs h t ih=>
  rw[cO,cO]
  refine .cons ?_ ih
  obtain⟨h1,h2,h3⟩:=h
  unfold putAt
  by_cases e:p.1=k
  ·rw[aY e,aY (h1.symm.trans e)]; exact⟨h1,h2,ry⟩
  ·rw[aN e,aN (fun z=>e (h1.trans z))]; exact⟨h1,h2,h3⟩
theorem KT.put {H:Hp}{bh:List (List Key×V)}{xs:List (List Key×Addr×Value)}(r:KT H bh xs)(k:List Key){b:Addr}{y:V}{u:Value}(hb:H b=some (.tup (k.map kV)))(ry:RelV y u):
  KT H (putK bh k y) (storedH xs k b u):=by
 have e:(bh.any fun kv=>decide (kv.1=k))=(atKey xs k).isSome:=by
  rw[nG,(r.val k).lL,Ge]
 unfold putK storedH
 rw[e]
 by_cases q:(atKey xs k).isSome=true
 ·rw[aY q,aY q]; exact r.OU k ry
 ·rw[aN q,aN q]; exact cw r ⟨rfl,hb,ry⟩
theorem KT.keeps {H H':Hp}{bh:List (List Key×V)}{xs:List (List Key×Addr×Value)}(r:KT H bh xs)(ht: ∀b ys,H b=some (.tup ys)->H' b=some (.tup ys)):KT H' bh xs:=
 Paired.g8 r fun _ _ z=>⟨z.1,ht _ _ z.2.1,z.2.2⟩
section
variable {P:Program}{w:World}{H:Hp}{h:Heap}{a:Addr}
theorem NF {u:HO}(ok:o5 P w H h)(e:Rd H a u):dH P w H h a u:=e.ok ok
theorem vb {bh:List (Key×V)}(ok:o5 P w H h)(e:Rd H a (.dK bh)):bh.length<=sizeLine/\(a == sysModules)=false/\ ∃vs,KV bh vs/\h.DictOf (dZ P w) a vs:=
 show dH P w H h a (.dK bh) from NF ok e
theorem E5 {bh:List (Key×V)}(ok:o5 P w H h)(e:H a=some (.dK bh)):bh.length<=sizeLine/\(a == sysModules)=false/\ ∃vs,KV bh vs/\h.DictOf (dZ P w) a vs:=vb ok (.inl e)
theorem vc {ks:List Key}(ok:o5 P w H h)(e:H a=some (.tup (ks.map kV))):(tupleKind (dZ P w)).is h ks a:=by
 obtain⟨_,b9,r,o,h1,h2,n,h3⟩:=(show dH P w H h a (.tup (ks.map kV)) from ok a _ e)
 exact⟨o,b9.toArray,n,h1,h2,h3,by simpa using yo r⟩
theorem yp {bh:List (List Key×V)}(ok:o5 P w H h)(e:Rd H a (.dT bh)):bh.length<=sizeLine/\(a == sysModules)=false/\
  ∃xs,KT H bh xs/\h.DictOfH (tupleKind (dZ P w)) a xs:=by
 obtain⟨z,y,xs,r,o,es,ep,h1,h2,h3,h4,h5⟩:=(show dH P w H h a (.dT bh) from NF ok e)
 refine⟨z,y,xs,r,o,es,ep,h1,h2,h3,h4,fun x hx=>?_,h5⟩
 have all: ∀{l:List (List Key×V)} {m:List (List Key×Addr×Value)},KT H l m-> ∀x∈m,(tupleKind (dZ P w)).is h x.1 x.2.1:=by
  intro l m q
  induction q with
  |nil=>intro x hx; exact nomatch hx
  | @cons p q ps qs hq t ih=>
   intro x hx
   rcases au.mp hx with e|hx
   ·subst e
    exact vc ok (by rw[← hq.1]; exact hq.2.1)
   ·exact ih x hx
 exact all r x hx
theorem Sw {bh:List (List Key×V)}(ok:o5 P w H h)(e:H a=some (.dT bh)):bh.length<=sizeLine/\(a == sysModules)=false/\
  ∃xs,KT H bh xs/\h.DictOfH (tupleKind (dZ P w)) a xs:=yp ok (.inl e)
end
def mX (H:Hp)(a:Addr)(y:V)(r:Option V):Prop:=
 (∃bh k,Rd H a (.dK bh)/\y=kV k/\r=gA bh k)∨ ∃bh k b,Rd H a (.dT bh)/\y= .ref b/\H b=some (.tup (k.map kV))/\r=gA bh k
def GD (H:Hp)(a:Addr)(y v:V)(H':Hp):Prop:=
 (∃bh k,H a=some (.dK bh)/\y=kV k/\bh.length < sizeLine/\H'=upd H a (.dK (putK bh k v)))∨
 ∃bh k b,H a=some (.dT bh)/\y= .ref b/\H b=some (.tup (k.map kV))/\bh.length < sizeLine/\H'=upd H a (.dT (putK bh k v))
theorem mX.k {H:Hp}{a:Addr}{bh:List (Key×V)}{k:Key}(e:H a=some (.dK bh)):mX H a (kV k) (gA bh k):= .inl ⟨bh,k,.inl e,rfl,rfl⟩
theorem GD.k {H:Hp}{a:Addr}{bh:List (Key×V)}{k:Key}{v:V}(e:H a=some (.dK bh))(hl:bh.length < sizeLine):GD H a (kV k) v (upd H a (.dK (putK bh k v))):= .inl ⟨bh,k,e,rfl,hl,rfl⟩
section
variable {X:Cx}{pins:List (Addr×Obj)}{σ:St}{H:Hp}{s:Shared}{a:Addr}{y v:V}{u r:Value}{o:Option V}{A:Around}{E:Value->Shared->Prop}
theorem Inv.big (I:Inv X pins σ H s):sysModules < s.heap.objs.size:=by
 have h:mainGlobals < s.heap.objs.size:=(I.mod.glob.keeps I.bk).lt
 exact Nat.lt_trans (by decide) h
theorem GF {Q:Value->Shared->Prop}(hu:A.units + 1 < cLine)(I:Inv X pins σ H s)(g:mX H a y (some v))(ry:RelV y u)(h: ∀w' s',Inv X pins σ H s'->RelV v w'->Q w' s'):
  wpAny (model X.prog X.w) A (getItem (.ref a) u) Q E s:=by
 rcases g with⟨bh,k,e,ey,l⟩|⟨bh,k,b,e,ey,eb,l⟩
 ·subst ey
  obtain⟨z,hd,vs,rel,dd⟩:=vb I.cE e
  obtain⟨w',hw,GB⟩:=lH.some_of (v:=v) (o:=valueAt vs k) (by rw[l]; exact rel.val k)
  exact wpAny_getItem_of (va ry) dd.mapOf hw (h w' _ (I.tok _) GB)
 ·subst ey
  cases(show u=Value.ref b from ry)
  obtain⟨z,hd,xs,rel,dd⟩:=yp I.cE e
  obtain⟨w',hw,GB⟩:=lH.some_of (v:=v) (o:=(atKey xs k).map (·.2)) (by rw[l]; exact rel.val k)
  obtain⟨p,hp,yq⟩:=a8.mp hw
  refine wpAny_getItem_heap (uw hu) (vc I.cE eb) dd hp ?_
  rw[yq]
  exact h w' _ (I.tok _) GB
theorem Xx {Q:Value->Shared->Prop}(hu:A.units + 1 < cLine)(I:Inv X pins σ H s)(g:mX H a y o)(ry:RelV y u)(h: ∀s',Inv X pins σ H s'->Q (.bool o.isSome) s'):
  wpAny (model X.prog X.w) A (compareOp .In u (.ref a)) Q E s:=by
 rcases g with⟨bh,k,e,ey,l⟩|⟨bh,k,b,e,ey,eb,l⟩
 ·subst ey
  obtain⟨z,hd,vs,rel,dd⟩:=vb I.cE e
  refine wpAny_in_of (va ry) hd dd.mapOf ?_
  rw[← (rel.val k).lL,← l]
  exact h _ (I.tok _)
 ·subst ey
  cases(show u=Value.ref b from ry)
  obtain⟨z,hd,xs,rel,dd⟩:=yp I.cE e
  refine wpAny_in_heap (uw hu) (vc I.cE eb) hd dd ?_
  have q:=(rel.val k).lL
  rw[Ge] at q
  rw[← q,← l]
  exact h _ (I.tok _)
theorem LS {Q:Value->Shared->Prop}(hu:A.units + 1 < cLine)(I:Inv X pins σ H s)(g:mX H a y o)(ry:RelV y u)(h: ∀s',Inv X pins σ H s'->Q (.bool (!o.isSome)) s'):
  wpAny (model X.prog X.w) A (compareOp .NotIn u (.ref a)) Q E s:=by
 rcases g with⟨bh,k,e,ey,l⟩|⟨bh,k,b,e,ey,eb,l⟩
 ·subst ey
  obtain⟨z,hd,vs,rel,dd⟩:=vb I.cE e
  refine wpAny_notIn_of (va ry) hd dd.mapOf ?_
  rw[← (rel.val k).lL,← l]
  exact h _ (I.tok _)
 ·subst ey
  cases(show u=Value.ref b from ry)
  obtain⟨z,hd,xs,rel,dd⟩:=yp I.cE e
  refine wpAny_notIn_heap (uw hu) (vc I.cE eb) hd dd ?_
  have q:=(rel.val k).lL
  rw[Ge] at q
  rw[← q,← l]
  exact h _ (I.tok _)
theorem uA {h':Heap}{t':Nat}{ob:HO}(I:Inv X pins σ H s)(mu:RU (H a))(hs:Heap.SameBut a s.heap h')(he: ∃q,h'.get? a=some q)(new:dH X.prog X.w (upd H a ob) h' a ob):
  Inv X pins σ (upd H a ob) {s with heap:=h',toks:=t'}:=
 I.write (x:=a) (e:=a) mu (.inl rfl) (fun b q hb z=>(hs.2 b hb).trans z) he new
theorem zk {P:Program}{w:World}{H':Hp}{h':Heap}{bh:List (Key×V)}{vs:List (Key×Value)}(z:bh.length<=sizeLine)(hd:(a == sysModules)=false)(rel:KV bh vs)(dd:h'.DictOf (dZ P w) a vs):
  dH P w H' h' a (.dK bh):=⟨z,hd,vs,rel,dd⟩
theorem GG {H':Hp}{Q:Unit->Shared->Prop}(hu:A.units + 1 < cLine)(I:Inv X pins σ H s)(g:GD H a y v H')(ry:RelV y u)(rv:RelV v r)(h: ∀s',Inv X pins σ H' s'->Q () s'):
  wpAny (model X.prog X.w) A (setItem (.ref a) u r) Q E s:=by
 rcases g with⟨bh,k,e,ey,l,eH⟩|⟨bh,k,b,e,ey,eb,l,eH⟩
 ·subst ey eH
  obtain⟨z,hd,vs,rel,dd⟩:=E5 I.cE e
  have hz:vs.length<=sizeLine:=by rw[← rel.length]; exact z
  have hl:(putK bh k v).length<=sizeLine:=by have:=kQ bh k v; lia
  refine wpAny_setItem_pairs (hsz:=hz) (va ry) dd fun h' E6 hs=>h _ ?_
  have he: ∃q,h'.get? a=some q:=let⟨q,_,_,hq,_⟩:=E6; ⟨q,hq⟩
  exact uA I (by rw[e]; exact True.intro) hs he (zk hl hd (rel.put k rv) E6)
 ·subst ey eH
  cases(show u=Value.ref b from ry)
  obtain⟨z,hd,xs,rel,dd⟩:=Sw I.cE e
  have hz:xs.length<=sizeLine:=by rw[← aO rel]; exact z
  have hl:(putK bh k v).length<=sizeLine:=by have:=kQ bh k v; lia
  refine wpAny_setItem_heap (hsz:=hz) (uw hu) (vc I.cE eb) dd fun h' E6 hs=>h _ ?_
  obtain⟨q,es,ep,hq,h2,h3,h4,_,h5⟩:=E6
  refine uA I (by rw[e]; exact True.intro) hs ⟨q,hq⟩ ⟨hl,hd,_,(rel.put k eb rv).keeps fun c ys ec=>?_,q,es,ep,hq,h2,h3,h4,h5⟩
  rw[az (mM ec e (fun z=>nomatch z))]
  exact ec
end
section
variable {X:Cx}{pins:List (Addr×Obj)}{σ:St}{H:Hp}{s:Shared}{a:Addr}{bh:List (Key×V)}{k:Key}{u:Value}{A:Around}{E:Value->Shared->Prop}
theorem Sx {v:V}{more:List Value}{Q:Value->Shared->Prop}(I:Inv X pins σ H s)(e:H a=some (.dK bh))(ry:RelV (kV k) u)(l:gA bh k=some v)(hm:more=[]∨ ∃x,more=[x])
  (h: ∀w' s',Inv X pins σ (upd H a (.dK (lK bh k))) s'->RelV v w'->Q w' s'):wpAny (model X.prog X.w) A (call (.builtin "dict.pop") (.ref a :: u :: more)) Q E s:=by
 obtain⟨z,hd,vs,rel,dd⟩:=E5 I.cE e
 obtain⟨w',hw,GB⟩:=lH.some_of (v:=v) (o:=valueAt vs k) (by rw[← l]; exact rel.val k)
 have hp:(keyPart u).isSome=true:=by
  cases k with
  |inl i=>obtain⟨t,q⟩:=(show ∃t,u=Value.int i t from ry); subst q; rfl
  |inr x=>obtain⟨t,q⟩:=(show ∃t,u=Value.str x t from ry); subst q; rfl
 have ha:argsOk "dict.pop" ⟨.ref a :: u :: more,[]⟩:=by
  rcases hm with q|⟨x,q⟩
  ·subst q; exact PySem.F.args_dict_pop_2 _ _
  ·subst q; exact PySem.F.args_dict_pop_3 _ _ _
 refine call_meetsIn PySem.F.slot_dict_pop dd.typeIs PySem.F.entry_dict_pop ha (meets_dict_pop_there (dZ X.prog X.w) a (va ry) more hm hp)
  ⟨vs,w',dd,by rw[← rel.length]; exact z,hw,fun h' E6 hs=>h w' _ ?_ GB⟩
 have he: ∃q,h'.get? a=some q:=let⟨q,_,_,hq,_⟩:=E6; ⟨q,hq⟩
 exact uA I (by rw[e]; exact True.intro) hs he (zk (aV (Jg bh k) z) hd (rel.drop k) E6)
end
def Sy (i:Expr):Prop:= ∀ov iv,subscripted i false ov iv=operate [ov,iv] (getItem ov iv)
theorem LU {prog:Program}{w:World}{A:Around}{E:Value->Shared->Prop}{s:Shared}{env:Env}{value slice:Expr}{pos:Pos}{T id:String}{Q:Value->Shared->Prop}
  (hl:typeLookup (.type T) "__getitem__"=pure (some (.builtin id))) (hs:Sy slice)
  (h:wpAny (model prog w) A (eval value env) (fun o s₁=>wpAny (model prog w) A (eval slice env) (fun i s₂=>s₂.TypeIs o T/\wpAny (model prog w) A (getItem o i) Q E s₂) E s₁) E s):
  wpAny (model prog w) A (eval (.Subscript value slice pos) env) Q E s:=by
 refine Subscript_ (cm h (fun o s₁ h₁=>cm h₁ (fun i s₂ h₂=>?_) fun _ _ x=>x) fun _ _ x=>x)
 obtain⟨hT,h₂⟩:=h₂
 unfold subscriptTail
 refine aB ?_
 rw[getitemInPython_of_ne hT.not_modules]
 refine aB (wpAny_specialOf hT hl ?_)
 have fin:wpAny (model prog w) A (subscripted slice false o i) (fun r s₃=>wpAny (model prog w) A (letTemporaryGo value o r >>=fun _=>pure r) Q E s₃) E s₂:=by
  rw[hs o i]
  exact wpAny_operating (cm h₂ (fun r s₃ h₃=>aB (wpAny_letTemporaryGo (bF h₃))) fun _ _ x=>x)
 first
  |exact bF (aB fin)
  |exact aB (bF (aB fin))
  |exact aB fin
theorem Bx {X:Cx}{pins:List (Addr×Obj)}{σ:St}{H:Hp}{s:Shared}{a:Addr}{y:V}{o:Option V}(I:Inv X pins σ H s)(g:mX H a y o):s.TypeIs (.ref a) "dict":=by
 rcases g with⟨bh,k,e,_,_⟩|⟨bh,k,b,e,_,_,_⟩
 ·obtain⟨_,_,vs,_,dd⟩:=vb I.cE e
  exact dd.typeIs
 ·obtain⟨_,_,xs,_,dd⟩:=yp I.cE e
  exact dd.typeIs
def Sz (td ty:TE):TE:=fun σ H Q=>td σ H fun x H1=>ty σ H1 fun y H2=> ∃a v,x= .ref a/\mX H2 a y (some v)/\Q v H2
def Xy (ty td:TE):TE:=fun σ H Q=>ty σ H fun y H1=>td σ H1 fun x H2=> ∃a o,x= .ref a/\mX H2 a y o/\Q (.bl o.isSome) H2
def LV (ty td:TE):TE:=fun σ H Q=>ty σ H fun y H1=>td σ H1 fun x H2=> ∃a o,x= .ref a/\mX H2 a y o/\Q (.bl (!o.isSome)) H2
def SA (td ty tv:TE):TS:=fun D σ H=>tv σ H fun v H1=>td σ H1 fun x H2=>ty σ H2 fun y H3=> ∃a H4,x= .ref a/\GD H3 a y v H4/\D.nx σ H4
section
variable {X:Cx}{o i e value:Expr}{pos pos' OJ:Pos}{td ty tv:TE}
theorem cJ (hu:X.A.units + 1 < cLine)(ho:PE X o td)(hi:PE X i ty)(hs:Sy i):PE X (.Subscript o i pos) (Sz td ty):=by
 intro pins s σ H Q I h
 refine LU PySem.F.slot_dict_getitem.lookup hs (d9 (ho pins s σ H _ I h) fun u s1 ⟨x,H1,I1,rx,q1⟩=>d9 (hi pins s1 σ H1 _ I1 q1) fun iv s2 ⟨y,H2,I2,ry,a,v,ex,g,q2⟩=>?_)
 subst ex
 obtain rfl:u=Value.ref a:=rx
 exact⟨Bx I2 g,GF hu I2 g ry fun w' s3 I3 GB=>⟨v,H2,I3,GB,q2⟩⟩
theorem OV (hu:X.A.units + 1 < cLine)(hi:PE X i ty)(ho:PE X o td):PC X .In i o (Xy ty td):=by
 intro pins s σ H Q I h
 refine d9 (hi pins s σ H _ I h) fun iv s1 ⟨y,H1,I1,ry,q1⟩=>d9 (ho pins s1 σ H1 _ I1 q1) fun u s2 ⟨x,H2,I2,rx,a,ov,ex,g,q2⟩=>?_
 subst ex
 obtain rfl:u=Value.ref a:=rx
 exact Xx hu I2 g ry fun s3 I3=>⟨.bl ov.isSome,H2,I3,rfl,q2⟩
theorem GH (hu:X.A.units + 1 < cLine)(hi:PE X i ty)(ho:PE X o td):PC X .NotIn i o (LV ty td):=by
 intro pins s σ H Q I h
 refine d9 (hi pins s σ H _ I h) fun iv s1 ⟨y,H1,I1,ry,q1⟩=>d9 (ho pins s1 σ H1 _ I1 q1) fun u s2 ⟨x,H2,I2,rx,a,ov,ex,g,q2⟩=>?_
 subst ex
 obtain rfl:u=Value.ref a:=rx
 exact LS hu I2 g ry fun s3 I3=>⟨.bl (!ov.isSome),H2,I3,rfl,q2⟩
theorem E7 (hu:X.A.units + 1 < cLine)(ho:PE X o td)(hi:PE X i ty)(hv:PE X value tv)(hs:swapsWith value (some (.Subscript o i pos')) pos.line X.env=pure false):
  PS X (.Assign [.Subscript o i pos'] value pos) (SA td ty tv):=by
 intro pins s σ H D I h
 refine wpAny_Assign_Subscript (d9 (hv pins s σ H _ I h) fun r s1 ⟨v,H1,I1,rv,q1⟩=>d9 (ho pins s1 σ H1 _ I1 q1) fun u s2 ⟨x,H2,I2,rx,q2⟩=>d9 (hi pins s2 σ H2 _ I2 q2) fun iv s3 ⟨y,H3,I3,ry,a,H4,ex,g,q3⟩=>?_) hs
 subst ex
 obtain rfl:u=Value.ref a:=rx
 exact GG hu I3 g ry rv fun s4 I4=>⟨σ,H4,I4,q3⟩
end
theorem By {P:Program}{w:World}{H:Hp}(h:Heap)(hb:sysModules < h.objs.size):dH P w H (h.push {cls:= .type "dict",data:= .dict #[]}) h.objs.size (.dK []):=
 ⟨bq _,hJ.mpr (wQ (a7 hb)),[],.nil,Heap.DictOf.new h⟩
def OW:TE:=fun _ H Q=> ∀p,H p=none->Q (.ref p) (upd H p (.dK []))
section
variable {X:Cx}{pos:Pos}
theorem Bz:PE X (.Dict [] [] pos) OW:=fun pins s σ H Q I h=>
 wpAny_Dict_empty ⟨.ref s.heap.objs.size,_,I.laid (a:=s.heap.objs.size) (o:= .dK []) (t':=s.toks) (fun _ _ q=>ay _ q) (aD _) (By s.heap I.big),rfl,h _ (I.cE.fresh (aD _))⟩
end
def DQ:List (TE×TE)->St->Hp->(List (V×V)->Hp->Prop)->Prop
 |[],_,H,Q=>Q [] H
 |(tk,tv) :: r,σ,H,Q=>tk σ H fun x H1=>tv σ H1 fun y H2=>DQ r σ H2 fun ps H3=>Q ((x,y) :: ps) H3
abbrev VV:List (V×V)->List (Value×Value)->Prop:=Paired fun p q=>RelV p.1 q.1/\RelV p.2 q.2
def LW (X:Cx)(pos:Pos)(keys:List (Option Expr))(values:List Expr)(LX:List (TE×TE)):Prop:=
 ∀(pins:List (Addr×Obj)) (s:Shared) (σ:St) (H:Hp) (Q:List (V×V)->Hp->Prop),Inv X pins σ H s->DQ LX σ H Q->
  wpAny (model X.prog X.w) X.A (evalPairs (pairTrees keys values X.env pos)) (fun vs s'=> ∃ps H',Inv X pins σ H' s'/\VV ps vs/\Q ps H') X.xe s
theorem LY {X:Cx}{pos:Pos}:LW X pos [] [] []:=fun pins s σ H Q I h=>pairTrees_nil_walk ⟨[],H,I,.nil,h⟩
theorem vd {X:Cx}{pos:Pos}{k v:Expr}{ks:List (Option Expr)}{vs:List Expr}{tk tv:TE}{LX:List (TE×TE)}(hk:PE X k tk)(hv:PE X v tv)(hr:LW X pos ks vs LX):
  LW X pos (some k :: ks) (v :: vs) ((tk,tv) :: LX):=fun pins s σ H Q I h=>
 pairTrees_cons_walk (d9 (hk pins s σ H _ I h) fun u s1 ⟨x,H1,I1,rx,q1⟩=>d9 (hv pins s1 σ H1 _ I1 q1) fun w2 s2 ⟨y,H2,I2,ry,q2⟩=>
  d9 (hr pins s2 σ H2 _ I2 q2) fun ws s3 ⟨ps,H3,I3,rel,q3⟩=>⟨(x,y) :: ps,H3,I3,.cons ⟨rx,ry⟩ rel,q3⟩)
def qg (bh more:List (Key×V)):List (Key×V):=more.foldl (fun acc kv=>putK acc kv.1 kv.2) bh
theorem KV.merge: ∀{more:List (Key×V)} {rs:List (Key×Value)} {bh:List (Key×V)} {vs:List (Key×Value)},KV more rs->KV bh vs->KV (qg bh more) (merged vs rs):=by
 intro more rs bh vs r
 unfold KV at r
 induction r generalizing bh vs with
 |nil=>intro q; exact q
 | @cons p q ps qs h t ih=>
  intro r0
  have e:KV (putK bh p.1 p.2) (stored vs q.1 q.2):=by
   have:=r0.put p.1 h.2
   rw[← h.1]; exact this
  exact ih e
theorem pE: ∀(more bh:List (Key×V)),(qg bh more).length<=bh.length + more.length
 |[],bh=>by show bh.length<=bh.length + 0; lia
 |p :: r,bh=>by
  have h1:=pE r (putK bh p.1 p.2)
  have h2:=kQ bh p.1 p.2
  show(qg (putK bh p.1 p.2) r).length<=_
  rw[bO]; lia
theorem ve {P:Program}{w:World}: ∀{bh:List (Key×V)} {ws:List (Value×Value)},VV (bh.map fun kv=>(kV kv.1,kv.2)) ws-> ∃rs,Carries (dZ P w) ws rs/\KV bh rs
 |[],_,r=>by rw[qH] at r; cases r; exact⟨[],True.intro,.nil⟩
 |p :: bh,_,r=>by
  rw[cO] at r
  cases r with
  | @cons a b as bs h t=>
   obtain⟨rs,c,q⟩:=ve (P:=P) (w:=w) t
   obtain⟨b1,b2⟩:=b
   exact⟨(p.1,b2) :: rs,⟨va h.1,rfl,c⟩,.cons ⟨rfl,h.2⟩ q⟩
def SD (LX:List (TE×TE)):TE:=fun σ H Q=> ∀p,H p=none->DQ LX σ (upd H p (.dK [])) fun ps H2=>H2 p=some (.dK [])/\ ∃bh:List (Key×V),ps=bh.map (fun kv=>(kV kv.1,kv.2))/\bh.length<=15/\Q (.ref p) (upd H2 p (.dK (qg [] bh)))
theorem LZ {X:Cx}{pos:Pos}{keys:List (Option Expr)}{values:List Expr}{LX:List (TE×TE)}(h:LW X pos keys values LX)(OX:keys.all (·.isSome)=true)(hl:keys.length=values.length)(h0:keys≠[])
  (Xz:keys.length<=15):PE X (.Dict keys values pos) (SD LX):=by
 intro pins s σ H Q I q
 have hn:=I.cE.fresh (aD s.heap.objs.size)
 have I1:=I.laid (a:=s.heap.objs.size) (o:= .dK []) (h':=s.heap.push {cls:= .type "dict",data:= .dict #[]}) (t':=s.toks) (fun _ _ q=>ay _ q) (aD _) (By s.heap I.big)
 refine wpAny_Dict_walk (knd:=dZ X.prog X.w) OX hl h0 Xz (d9 (h pins _ σ _ _ I1 (q _ hn)) fun ws s2 ⟨ps,H2,I2,rel,e,bh,ep,lk,q2⟩=>?_)
 subst ep
 obtain⟨rs,c,rk⟩:=ve (P:=X.prog) (w:=X.w) rel
 obtain⟨z,hd,SE,r0,dd⟩:=E5 I2.cE e
 cases r0
 refine⟨rs,c,dd,fun h' E6 hs=>⟨.ref s.heap.objs.size,_,?_,rfl,q2⟩⟩
 have hz:(qg [] bh).length<=sizeLine:=by
  have h1:=pE bh []
  rw[wV] at h1
  rw[eU]; lia
 have he: ∃q,h'.get? s.heap.objs.size=some q:=let⟨q,_,_,hq,_⟩:=E6; ⟨q,hq⟩
 exact uA I2 (by rw[e]; exact True.intro) hs he (zk hz hd (rk.merge .nil) E6)
structure M1 (X:Cx)(o:Expr)(m:Str)(apos:Pos)(e:Expr)(gQ:Pos):Prop where
 base:attributeBase o m X.env (eval o X.env)=eval o X.env
 few:((backTo gQ (starEach [e] X.env)).all (fun x=> !x.1) && (backToKw gQ (keywordEach [] X.env)).all (fun x=>x.1.isSome)
  && decide (([e]:List Expr).length + ([]:List Keyword).length + (if([]:List Keyword).isEmpty then 0 else 1) < 30))=true
 line:(apos.endLine == gQ.line)=true
 trees:backTo gQ (starEach [e] X.env)=[(false,eval e X.env)]
def IsD (H:Hp)(a:Addr):Prop:=(∃bh,Rd H a (.dK bh))∨ ∃bh,Rd H a (.dT bh)
theorem OY {X:Cx}{pins:List (Addr×Obj)}{σ:St}{H:Hp}{s:Shared}{a:Addr}(I:Inv X pins σ H s)(d:IsD H a):
  s.TypeIs (.ref a) "dict"/\(∀b,Value.ref a= .ref b-> ∃ob,s.heap.get? b=some ob/\ob.dict=none)/\(a == sysModules)=false:=by
 rcases d with⟨bh,e⟩|⟨bh,e⟩
 ·obtain⟨_,hd,vs,_,dd⟩:=vb I.cE e
  refine⟨dd.typeIs,fun b q=>?_,hd⟩
  cases q
  obtain⟨ob,_,_,h1,h2,_⟩:=dd
  exact⟨ob,h1,h2.2.1⟩
 ·obtain⟨_,hd,xs,_,dd⟩:=yp I.cE e
  refine⟨dd.typeIs,fun b q=>?_,hd⟩
  cases q
  obtain⟨ob,_,_,h1,h2,_⟩:=dd
  exact⟨ob,h1,h2.2.1⟩
section
variable {X:Cx}{pins:List (Addr×Obj)}{σ:St}{H:Hp}{s:Shared}{a:Addr}{y d:V}{u r:Value}{o:Option V}{A:Around}{E:Value->Shared->Prop}
end
def OZ (td ty:TE):TE:=fun σ H Q=>td σ H fun x H1=> ∃a,x= .ref a/\IsD H1 a/\ty σ H1 fun y H2=> ∃bh k v,H2 a=some (.dK bh)/\y=kV k/\gA bh k=some v/\Q v (upd H2 a (.dK (lK bh k)))
section
variable {X:Cx}{o e f:Expr}{apos gQ:Pos}{td ty tx:TE}
theorem Jh (ho:PE X o td)(he:PE X e ty)(m:M1 X o "pop" apos e gQ):PE X (.Call (.Attribute o "pop" apos) [e] [] gQ) (OZ td ty):=by
 intro pins s σ H Q I h
 refine wpAny_Call_method m.base m.few m.line PySem.F.plainAttrs_dict PySem.F.slot_dict_pop PySem.F.type_dict_pop (d9 (ho pins s σ H _ I h) fun u s1 ⟨x,H1,I1,rx,a,ex,d,q1⟩=>?_)
 subst ex
 obtain rfl:u=Value.ref a:=rx
 obtain⟨t1,t2,_⟩:=OY I1 d
 refine⟨t1,t2,?_⟩
 rw[m.trees]
 refine i6 rfl (Gd (Calls.spliced_cons (d9 (he pins s1 σ H1 _ I1 q1) fun iv s2 ⟨y,H2,I2,ry,bh,k,v,ea,ey,l,q2⟩=>Calls.spliced_nil ?_)))
 subst ey
 exact Sx I2 ea ry l (.inl rfl) fun w' s3 I3 GB=>⟨v,_,I3,GB,q2⟩
end
section
variable {X:Cx}{pins:List (Addr×Obj)}{σ:St}{H:Hp}{s:Shared}{a:Addr}{bh:List (Key×V)}{A:Around}{E:Value->Shared->Prop}
theorem Ji {Q:Value->Shared->Prop}(I:Inv X pins σ H s)(e:Rd H a (.dK bh))(h: ∀p s',H p=none->Inv X pins σ (upd H p (.dK bh)) s'->Q (.ref p) s'):wpAny (model X.prog X.w) A (call (.type "dict") [.ref a]) Q E s:=by
 obtain⟨z,hd,vs,rel,dd⟩:=vb I.cE e
 refine kt_call_dict hd dd (by rw[← rel.length]; exact z) fun h' E6 hs=>?_
 refine h _ _ (I.cE.fresh (aD _)) (I.laid (a:=s.heap.objs.size) (o:= .dK bh) (t':=s.toks) (fun b q hq=>?_) (aD _) (zk z (hJ.mpr (wQ (a7 I.big))) rel E6))
 exact(hs.2 b (a7 (aM hq))).trans (ay _ hq)
end
section
variable {X:Cx}{pins:List (Addr×Obj)}{σ:St}{H:Hp}{s:Shared}{a:Addr}{y:V}{u:Value}{A:Around}{E:Value->Shared->Prop}
end
end L2
namespace Att
open PySem PySem.W PySem.Calls PyProof.Rows
theorem ui {P:Params}{h:Heap}: ∀(ns:List Int) (vs:List Value),WellAll P h vs (ns.map WData.int)->IntsAre vs ns:=by
 intro ns
 induction ns with
 |nil=>
  intro vs w
  rw[qH] at w
  cases w
  exact .nil
 |cons n ns ih=>
  intro vs w
  rw[cO] at w
  cases w with
  |cons a b=>
   cases a
   exact .cons _ _ (ih _ b)
theorem GI {l:OpenLaw}{n:Nat}(hn:l.most=some n){P:Params}{h:Heap}{args:List WData}{vals:List Value}
  (L3:l.row.toRowW.claim.pre args=true) (yr:WellAll P h vals args):
  ∃a vs ns,vals=[Value.ref a]/\args=[WData.list (ns.map WData.int)]/\h.get? a=some {cls:= .type "list",data:= .seq vs.toArray}/\IntsAre vs ns/\ns.length<=n:=by
 have hsh:WShape.hasAll [] args [.list .int]=true:=(pre_splitW L3).1
 have hc:l.pre.holds [] {args:=args}=true:=(pre_splitW L3).2
 obtain⟨d,r,rfl,h1,h2⟩:=hasAllW_cons hsh
 obtain rfl:=hasAllW_nil h2
 obtain⟨xs,rfl,h3⟩:=hasW_list h1
 obtain⟨ns,rfl⟩:=items_int h3
 have hlen:ns.length<=n:=by
  unfold OpenLaw.pre at hc
  have h4:(WTm.not (.lt (.lit (.int (n:Int))) (.len (.arg 0)))).holds [] {args:=[.list (ns.map .int)]}=true:=by
   have h4:=(holds_andW hc).1
   rw[hn] at h4
   exact h4
  have h5:=condW_of h4 (w_not (w_lt w_lit (w_len_list (w_arg rfl))))
  rw[ae] at h5
  refine Nat.le_of_not_lt fun q=>?_
  have q':(n:Int) < ((ns.length:Nat):Int):=by lia
  first
   |(rw[aK q'] at h5; exact absurd h5 (by decide))
   |(simp at h5; lia)
 cases yr with
 |cons w1 w2=>
  cases w2
  cases w1 with
  |list ho OX=>exact⟨_,_,ns,rfl,rfl,ho,ui ns _ OX,hlen⟩
theorem GJ (l:OpenLaw)(args:List WData):l.row.toRowW.claim.post args (.bool true) args=true:=
 postW_of (r:=l.row.toRowW) (X:=(true == true))
  (show WShape.has [] (.bool true) .bool=true by first|rfl|decide|simp[WShape.has,WShape.arms,WShape.armsAll])
  (show(WTm.eq .res (.lit (.bool true))).value [] {args:=args,res:=some (.bool true),after:=args}=some (.bool (true == true)) from w_eq_bool (w_res rfl) w_lit) rfl
theorem BA {l:OpenLaw}{n:Nat}{q:Program}{loose:List Str}{XP:(Str->Option Value)->Heap->Prop}{YP:World->Heap->Prop}{d:DefRec}
  (hn:l.most=some n) (XA:d.params.defaults=[])
  (call: ∀(w:World) (s₀ s₁:Shared) (mg mb:Str->Option Value) (fa:Addr) (o:Obj) (pm cd doc:Value) (a:Addr) (vs:List Value) (ns:List Int),
   Ground q loose [] XP w s₀ mg mb s₁.heap->YP w s₁.heap->
   s₁.heap.get? fa=some o->o.data= .func (docDef d.name d.params d.body d.scope pm cd doc)->s₁.heap.CodeRec cd d.name->mg d.name=some (.ref fa)->
   s₁.heap.get? a=some {cls:= .type "list",data:= .seq vs.toArray}->IntsAre vs ns->ns.length<=n->s₁.gens= #[]->
   codeAny (model l.prog w) callerA (.call (.ref fa) ⟨[.ref a],[]⟩) (fun r s'=>r= .ok (.ret (.bool true))/\OldK s₁.heap s'.heap/\s'.os=s₁.os/\AllBare s'.gens) s₁):
  WalkO q loose XP YP l.row.toRowW d [] (fun f vs=>PySem.call f vs):=by
 intro w s₀ s₁ mg mb G Y fa o pm cd doc dV kV ho hd sf hD SG hg args vals as L3 acq hrd yr hlo
 obtain rfl:dV= .none:=Dflts.none hD XA
 obtain rfl:kV= .none:=Dflts.noKw hD
 obtain⟨a,vs,ns,rfl,rfl,O0,hints,hlen⟩:=GI hn L3 yr
 refine enter_call (Dw (call w s₀ s₁ mg mb fa o pm cd doc a vs ns G Y ho (fd_plain hd) sf SG O0 hints hlen hg) fun r s' hq=>?_)
 obtain⟨rfl,h2,h3,h4⟩:=hq
 exact⟨.inl ⟨.bool true,.bool true,[],rfl,fun _=>rfl,.bool true,GJ l _,fun _=>⟨List.Pairwise.nil,fun _ hm=>(nomatch hm)⟩⟩,h2,h3,h4⟩
section
variable {prog:Program}{w:World}{A:Around}{E:Value->Shared->Prop}{s:Shared}{K:Frag}
end
end Att
namespace L2
open PySem PySem.Spec PyProof.Rows
theorem yt: ∀{vs:List Value} {ns:List Int},IntsAre vs ns->Vals (ns.map V.int) vs
 |_,_,.nil=> .nil
 |_,_,.cons n t h=> .cons ⟨t,rfl⟩ (yt h)
def gR (s:Stmt):Arguments:=match s with
 | .FunctionDef _ a _ _ _ _ _ _ _ _=>a
 |_=>{posonlyargs:=[],args:=[],vararg:=none,kwonlyargs:=[],kw_defaults:=[],kwarg:=none,defaults:=[]}
def dI (s:Stmt):List Stmt:=match s with
 | .FunctionDef _ _ b _ _ _ _ _ _ _=>b
 |_=>[]
def aA (s:Stmt):Scope:=match s with
 | .FunctionDef _ _ _ _ _ _ sc _ _ _=>sc
 |_=>{kind:= .function,names:=[],isGenerator:=false,isCoroutine:=false}
abbrev sG:Gz:=fun _ _ _ _ _ _=>False
abbrev E0:XK:=fun _ _ _=>False
theorem nH {X:Cx}:Passes sG X E0:=fun _ _ _ _ _ _ _ h=>h.elim
structure gE (K:Frag)(x qual:Str)(st:Stmt)(f:Addr)(fd:FuncData):Prop where
 ex: ∃(oc:Value) (od:Option Addr) (kV doc pm:Value) (an:Option Addr) (cY ct:Value) (GA:Array (Option Value)),
  fd=fnOf x qual (gR st) (dI st) (aA st) .none kV doc pm an cY ct/\K.lookup f=some ⟨oc,od,.func fd,GA⟩/\codeIn K cY qual=true
 kp:keepIn K (.ref f)=true
section
variable {P:Program}{w:World}{K:Frag}{mg:Str->Option Value}{base:Heap}
theorem gE.ok {x qual:Str}{st:Stmt}{f:Addr}{fd:FuncData}{N ps:List Str}{k:Nat}{sp:Sp}(F:gE K x qual st f fd)(S:aU N ps (aA st))(len: ∀vs H Q E,sp vs H Q E->vs.length=ps.length)
  (gp: ∀(cY:Value) (A:Around) (outer:List Env) (s:Shared) (H:Hp) (vs:List V) (Q:VK) (E:XK),fu k (A.deeper (envOfC qual (aA st) s.heap.objs.size f cY))->sp vs H Q E->
   ∃t,pB (lJ sG P w K mg base N qual (aA st) f cY A outer s H E).ER (dI st) t/\t {nx:=fun _ H'=>Q .eF H',rt:=Q} (start N vs) H):mf P w K mg base sG (k + 1) f fd ps sp:=by
 obtain⟨oc,od,kV,doc,pm,an,cY,ct,GA,rfl,lk,sf⟩:=F.ex
 refine IZ lk sf S len fun A outer s H vs Q E hr y6=>?_
 obtain⟨t,h,q⟩:=gp cY A outer s H vs Q E hr y6
 exact⟨t,h.ER,q⟩
theorem gE.binds {x qual:Str}{st:Stmt}{f:Addr}{fd:FuncData}{ps:List Str}(F:gE K x qual st f fd)
  (h: ∀(kV doc pm:Value) (an:Option Addr) (cY ct:Value) (us:List Value),us.length=ps.length->bindArgs (fnOf x qual (gR st) (dI st) (aA st) .none kV doc pm an cY ct) ⟨us,[]⟩=pure (ps.zip us)):Binds K fd ps []:=by
 obtain⟨oc,od,kV,doc,pm,an,cY,ct,GA,rfl,lk,sf⟩:=F.ex
 exact .all (h kV doc pm an cY ct)
theorem qh {x qual:Str}{st:Stmt}{f:Addr}{oc:Value}{od an:Option Addr}{GA:Array (Option Value)}{kV doc pm cY ct:Value}(l:K.lookup f=some ⟨oc,od,.func (fnOf x qual (gR st) (dI st) (aA st) .none kV doc pm an cY ct),GA⟩)
  (c:codeIn K cY qual=true) (k:keepIn K (.ref f)=true):gE K x qual st f (fnOf x qual (gR st) (dI st) (aA st) .none kV doc pm an cY ct):=⟨⟨oc,od,kV,doc,pm,an,cY,ct,GA,rfl,l,c⟩,k⟩
end
theorem kW {A:Around}{k:Nat}(hr:fu k A):A.units + 1 < cLine:=qI (Nat.add_le_add_left (by decide:1<=64) _) hr.units
theorem bf {n:Nat}(h:n<=1000):n < sizeLine:=qI h (by decide)
section
variable {X:Cx}
theorem pv (i:Nat){x:Str}{pos:Pos}(hN:X.N[i]? =some x:=by rfl)(hv:RW X.env.scope x:=by first|exact Or.inl rfl|exact Or.inr (Or.inl rfl)|exact Or.inr (Or.inr rfl))(hd:(x == ("__debug__":Str))=false:=by decide)
  (sf:(x == ("__classdict__":Str))=false:=by decide):PE X (.Name x pos) (RZ i):=DA hN hv hd sf
end
theorem bX {A B:Prop}(h:B):if false=true then A else B:=by
 rw[aN aX]
 exact h
theorem fU {A B:Prop}(h:A):if true=true then A else B:=by
 rw[aY rfl]
 exact h
theorem cH {c A B:Prop}[Decidable c](h1:c->A)(h2: ¬ c->B):if c then A else B:=by
 by_cases h:c
 ·rw[aY h]
  exact h1 h
 ·rw[aN h]
  exact h2 h
theorem BB {c A B:Prop}[Decidable c](hc:c)(h:B):if(!decide c)=true then A else B:=by
 rw[aK hc]
 exact bX h
def aF (H H':Hp):Prop:= ∀b o,H b=some o->H' b=some o
theorem aF.refl (H:Hp):aF H H:=fun _ _ h=>h
theorem aF.trans {H H1 H2:Hp}(a:aF H H1)(b:aF H1 H2):aF H H2:=fun c o h=>b c o (a c o h)
theorem aF.free {H H':Hp}(e:aF H H'){l:Addr}(h:H' l=Option.none):H l=Option.none:=by
 cases q:H l with
 |none=>rfl
 |some o=>
  rw[e l o q] at h
  cases h
theorem aF.seq {K:Frag}{H H':Hp}{a:Addr}{xs:List V}(e:aF H H')(h:bG K H a xs):bG K H' a xs:=by
 rcases h with(h|⟨o,h⟩)|h
 ·exact .inl (.inl (e _ _ h))
 ·exact .inl (.inr ⟨o,e _ _ h⟩)
 ·exact .inr h
section
variable {X:Cx}
end
section
variable {κ:Type}[DecidableEq κ]
end
theorem GK {prog:Program}{w:World}{A:Around}{R:Result->Shared->Prop}{s:Shared}{elt target iter:Expr}{ifs:List Expr}{scope:Scope}{pos:Pos}{it acc:Value}{env:Env}(I:Nat->Shared->Prop)
  (turn: ∀n s,I n s->wpAny (model prog w) A (pyNext it) (fun r s₁=>match r with
   |none=>R (.ok .next) s₁
   |some v=>wpAny (model prog w) A (letOwnedTupleGo target it v) (fun _ s₁'=>wpAny (model prog w) A (assign target env v) (fun _ s₂=>
     wpAny (model prog w) A (forIn ifs true fun c r=>if r=true then do let ok ← isTrue c env (eval c env); pure (ForInStep.yield ok) else pure (ForInStep.yield r)) (fun ok s₃=>
      if ok=true then wpAny (model prog w) A (eval elt env) (fun x s₄=>
       wpAny (model prog w) A (call (.builtin "list.append") [acc,x]) (fun _ s₅=> ∃m,m < n/\I m s₅) (fun _ _=>False) s₄) (fun _ _=>False) s₃
      else ∃m,m < n/\I m s₃) (fun _ _=>False) s₂) (fun _ _=>False) s₁') (fun _ _=>False) s₁) (fun _ _=>False) s)
  (n:Nat) (h:I n s):
  codeAny (model prog w) A (.compLoop (.ListComp elt [⟨target,iter,ifs,0⟩] scope pos) 0 it acc env) R s:=by
 refine codeAny_loop rfl I (fun n s hI=>?_) n h
 show wpAny _ A ((compTurn (.ListComp elt [⟨target,iter,ifs,0⟩] scope pos) 0 it acc env).onRaise (fun x=>do noteFrame x env; theTreesLotGoes x)) _ _ s
 refine wpAny_noted ?_
 rw[compTurn_list]
 refine aB (iG (aB (cm (turn n s hI) (fun r s₁ h₁=>?_) fun _ _ h'=>h'.elim)))
 cases r with
 |none=>exact bF h₁
 |some v=>
  refine aB (cm h₁ (fun _ s₁' h₁'=>?_) fun _ _ h'=>h'.elim)
  refine aB (cm h₁' (fun _ s₂ h₂=>aB (cm h₂ (fun ok s₃ h₃=>?_) fun _ _ h'=>h'.elim)) fun _ _ h'=>h'.elim)
  cases ok with
  |false=>exact bF ⟨rfl,h₃⟩
  |true=>
   exact aB (aB (cm h₃ (fun x s₄ h₄=>aB (cm h₄ (fun _ s₅ h₅=>bF (bF ⟨rfl,h₅⟩)) fun _ _ h'=>h'.elim)) fun _ _ h'=>h'.elim))
def BC (X:Cx)(N:List Str)(scope:Scope)(cl:List (Str×Addr))(C:Addr)(s3:Shared)(H3:Hp)(fp:List Addr):Cx:=
 {X with N:=N,s₀:=s3,H₀:=H3,env:=compEnvC scope cl C X.env,outer:=X.stack,stack:=X.stack,ex:=fp,fn:=fun _=>false,pn:=[],xe:=fun _ _=>False}
def Ld (X:Cx)(ifs:List Expr)(t:TT):Prop:=
 ∀(pins:List (Addr×Obj)) (s:Shared) (σ:St) (H:Hp) (Q:Bool->Hp->Prop),Inv X pins σ H s->t σ H Q->
  wpAny (model X.prog X.w) X.A (forIn ifs true fun c r=>if r=true then do let ok ← isTrue c X.env (eval c X.env); pure (ForInStep.yield ok) else pure (ForInStep.yield r)) (TP X pins σ Q) X.xe s
def XB:TT:=fun _ H Q=>Q true H
theorem lq {X:Cx}:Ld X [] XB:=fun pins s σ H Q I h=>wpAny_tests_nil ⟨H,I,h⟩
theorem qj {X:Cx}{c:Expr}{t:TT}(h:PT X c t):Ld X [c] t:=fun pins s σ H Q I hw=>wpAny_tests_one (h pins s σ H Q I hw)
def yu (J:It)(g:TG)(tc:TT)(te:TE)(σ0:St)(H2:Hp)(Q:VK):Prop:=
 ∀D,H2 D=none-> ∃W:Nat->Nat->St->Hp->Prop,(∃m,W 0 m σ0 (upd H2 D (.lst [])))/\ ∀i m σ' H',W i m σ' H'->
  (J.stop i H'/\Q (.ref D) H')∨(J.go i H'/\ ∃N:St->Hp->Prop,(∀L4 qk,N L4 qk-> ∃m',m' < m/\W (i + 1) m' L4 qk)/\
   ∀x qk,J.Q9 i H' x qk->g x σ' qk fun σ2 H2=>tc σ2 H2 fun ok H3=>if ok=true then te σ2 H3 fun y H4=> ∃ys,H4 D=some (.lst ys)/\ys.length < sizeLine/\N σ2 (upd H4 D (.lst (ys ++ [y]))) else N σ2 H3)
structure sH (X:Cx)(scope:Scope)(cl:List (Str×Addr))(cn:List Str)(cj:List Nat):Prop where
 GL:closureFor scope X.env=pure cl
 cell: ∀y∈scope.names,y.2≠ .cell
 kind:scope.kind= .function
 names: ∀x∈scope.names,x.2= .local->scope.names.lookup x.1=some .local
 sub: ∀x c,cl.lookup x=some c->X.env.cells.lookup x=some c
 all: ∀x,((relabel scope X.env).names.lookup x=some .cell∨(relabel scope X.env).names.lookup x=some .free)-> ∃c,cl.lookup x=some c
 cap:Paired (fun x j=>X.N[j]? =some x/\(X.env.kindOf x=some .cell∨X.env.kindOf x=some .free)/\((relabel scope X.env).names.lookup x=some .cell∨(relabel scope X.env).names.lookup x=some .free)) cn cj
theorem bK {α β:Type}{F:α->β->Prop}: ∀{l₁:List α} {l₂:List β} {i:Nat} {a:α},Paired F l₁ l₂->l₁[i]? =some a-> ∃b,l₂[i]? =some b/\F a b
 |_,_,_,_,.nil,e=>by simp at e
 |_,_,0,_,.cons r _,e=>by simp at e; subst e; exact⟨_,rfl,r⟩
 |_,_,i + 1,a,.cons _ t,e=>by
  obtain⟨b,h1,h2⟩:=bK (i:=i) (a:=a) t (by simpa using e)
  exact⟨b,by simpa using h1,h2⟩
def vf (tn:List Str)(cj:List Nat)(σ:St):St:=tn.map (fun _=>none) ++ cj.map fun j=>(σ[j]?).join
theorem vg {X:Cx}{pins:List (Addr×Obj)}{σ:St}{H2:Hp}{s2:Shared}{elt tg iter:Expr}{ifs:List Expr}{scope:Scope}{pos:Pos}{cl:List (Str×Addr)}{tn cn:List Str}{cj:List Nat}{g:TG}{tc:TT}{te:TE}
  {it:Addr} {fp:List Addr} {O1:Nat->Heap->Prop} {J:It} {RR:Value->Addr->Result->Shared->Prop} {E:Value->Shared->Prop} {Q:VK}
  (yw:X.calm=true) (S:sH X scope cl cn cj)
  (hg: ∀C s3 H3 fp,PG (BC X (tn ++ cn) scope cl C s3 H3 fp) tg g) (hc: ∀C s3 H3 fp,Ld (BC X (tn ++ cn) scope cl C s3 H3 fp) ifs tc) (he: ∀C s3 H3 fp,PE (BC X (tn ++ cn) scope cl C s3 H3 fp) elt te)
  (I2:Inv X pins σ H2 s2) (T:Turn X.prog X.w X.K tg J fp it O1) (NB:O1 0 s2.heap) (f2: ∀b∈fp,uT X pins H2 b)
  (hw:yu J g tc te (vf tn cj σ) H2 Q)
  (hRR: ∀D C (s':Shared) H' m',Inv X pins σ H' s'->uT X pins H' C->s'.heap.Ns C m'->Q (.ref D) H'->RR (.ref D) C (.ok .next) s'):
  wpAny (model X.prog X.w) X.A (newList []) (fun acc s₃=>wpAny (model X.prog X.w) X.A (newFunctionEnv scope X.env.globals cl [] X.env.qual none .none (some X.env)) (fun SH s₄=>
   codeAny (model X.prog X.w) X.A (.compStart (.ListComp elt [⟨tg,iter,ifs,0⟩] scope pos) 0 (.ref it) acc {SH with scope:=relabel scope X.env}) (RR acc SH.locals) s₄) E s₃) E s2:=by
 have hD0:H2 s2.heap.objs.size=none:=I2.cE.fresh (aD _)
 obtain⟨W,⟨m0,w0⟩,turn⟩:=hw _ hD0
 refine wpAny_newObj_type (wpAny_newFunctionEnv S.cell (by intro y hy; simp at hy) (fun h₁ O2 O3=>?_) S.kind)
 dsimp only at O2 O3 ⊢
 have I3:Inv X pins σ (upd H2 s2.heap.objs.size (.lst [])) {s2 with heap:=s2.heap.push {cls:= .type "list",dict:=none,data:= .seq ([]:List Value).toArray}}:=I2.OS (t':=s2.toks) (ys:=[]) (b9:=[]) .nil (bq _)
 generalize VR:s2.heap.push {cls:= .type "list",dict:=none,data:= .seq ([]:List Value).toArray}=HH at O2 O3 I3 ⊢
 have hC:HH.objs.size=s2.heap.objs.size + 1:=by rw[← VR,oH]
 have old: ∀b o,HH.get? b=some o->h₁.get? b=some o:=fun b o e=>O3.extBut b o (a7 (aM e)) (ay _ e)
 have XC: ∀b o,s2.heap.get? b=some o->HH.get? b=some o:=fun b o e=>VR▸ay _ e
 have SI: ∀b∈fp,b < s2.heap.objs.size:=fun b hb=>by
  obtain⟨o,e,_⟩:=T.obj 0 _ NB b hb
  exact aM e
 have VS:(BC X (tn ++ cn) scope cl HH.objs.size {s2 with heap:=HH} (upd H2 s2.heap.objs.size (.lst [])) fp).Ok:=by
  refine⟨I3.ok.mod,S.kind,I3.ok.glob,I3.ok.blt,aD _,fun x y c h1 h2=>I3.ok.inj x y c (S.sub x c h1) (S.sub y c h2),fun x hx=>S.all x hx,fun x c z=>absurd z aX,I3.ok.hd,I3.ok.frames,.inl rfl,fun b hb=>⟨?_,fun x c e z=>?_⟩,I3.bs,?_,fun b o e hb=>?_,fun b hb z=>?_,I3.stack,I3.qR⟩
  ·show b≠HH.objs.size
   rw[hC]
   exact a7 (i8 (SI b hb))
  ·exact(f2 b hb).2.2.2.2.1 x c (S.sub x c e) z
  ·exact aV I3.ok.Bg I3.sz
  ·rcases(f2 b hb).2.2.2.1 with z|z
   ·exact I3.ok.wY b o e z
   ·have h1:b < X.base.objs.size:=aM e
    exact absurd (bo h1 (aV I3.ok.Bg z)) (i0 _)
  ·rcases au.mp (I3.uQ b z) with z|z
   ·exact(f2 b hb).2.1 z
   ·exact(f2 b hb).2.2.1 z
 have IY:Inv (BC X (tn ++ cn) scope cl HH.objs.size {s2 with heap:=HH} (upd H2 s2.heap.objs.size (.lst [])) fp) [] (vf tn cj σ) (upd H2 s2.heap.objs.size (.lst [])) {s2 with heap:=h₁,toks:=s2.toks + ([]:List (Str×Value)).length}:=by
  refine⟨VS,rfl,I3.bare,Un.kept old,⟨_,O2,fun i x v e1 e2 e3=>?_⟩,fun x c e=>?_,?_,fun x c e=>I3.iY x c (S.sub x c e),fun p hp=>absurd hp (by intro z; exact nomatch z),I3.cE.kept old,?_⟩
  ·have e1':(tn ++ cn)[i]? =some x:=e1
   by_cases hi:i < tn.length
   ·unfold vf at e2
    rw[List.getElem?_append_left (by simpa using hi),List.getElem?_map] at e2
    cases h:tn[i]? with
    |none=>rw[h] at e2; cases e2
    |some _=>rw[h] at e2; cases e2
   ·rw[gj (by lia)] at e1'
    obtain⟨j,hj,hN,hk,NG⟩:=bK S.cap e1'
    unfold vf at e2
    rw[List.getElem?_append_right (by simpa using hi),List.getElem?_map] at e2
    simp only[List.length_map,hj,Option.map_some] at e2
    have SJ:σ[j]? =some (some v):=by
     cases h:σ[j]? with
     |none=>rw[h] at e2; cases e2
     |some q=>
      rw[h] at e2
      have SJ:q=some v:=aG e2
      rw[SJ]
    obtain⟨m,hn,hl⟩:=I3.loc
    have hv:RW X.env.scope x:=by
     rcases hk with hk|hk
     ·exact .inr (.inl hk)
     ·exact .inr (.inr hk)
    obtain⟨u,r,l⟩:=hl j x v hN SJ hv
    refine⟨u,r,?_⟩
    rcases l with⟨k,_⟩|⟨_,c,hc,mN⟩
    ·rcases hk with hk|hk <;> (rw[k] at hk; cases hk)
    ·obtain⟨c',Bl⟩:=S.all x NG
     have:=S.sub x c' Bl
     rw[hc] at this
     cases this
     obtain⟨o,ho,hd⟩:=mN
     exact .inr ⟨NG,c,Bl,⟨o,old _ _ ho,hd⟩⟩
  ·obtain⟨v,o,ho,hd⟩:=I3.cell x c (S.sub x c e)
   exact⟨v,o,old _ _ ho,hd⟩
  ·exact I3.cE.fresh (aD _)
  ·show(vf tn cj σ).length=(tn ++ cn).length
   unfold vf
   rw[ax,ax,ae,ae,S.cap.length]
 have st1:O1 0 h₁:=T.keep 0 _ _ NB fun b _ o e=>old b o (XC b o e)
 have ny: ∀{H':Hp},(∀b∈fp,H' b=none)-> ∀b∈fp,uT (BC X (tn ++ cn) scope cl HH.objs.size {s2 with heap:=HH} (upd H2 s2.heap.objs.size (.lst [])) fp) [] H' b:=fun hn b hb=>
  ⟨hn b hb,(VS.LF b hb).1,VS.wZ b hb,.inl hb,(VS.LF b hb).2,fun p hp=>absurd hp (by intro z; exact nomatch z)⟩
 have fp1: ∀b∈fp,upd H2 s2.heap.objs.size (.lst []) b=none:=fun b hb=>by
  rw[az (a7 (SI b hb))]
  exact(f2 b hb).1
 have loop:codeAny (model X.prog X.w) X.A (.compLoop (.ListComp elt [⟨tg,iter,ifs,0⟩] scope pos) 0 (.ref it) (.ref s2.heap.objs.size) (compEnvC scope cl HH.objs.size X.env))
    (RR (.ref s2.heap.objs.size) HH.objs.size) {s2 with heap:=h₁,toks:=s2.toks + ([]:List (Str×Value)).length}:=by
  refine GK (fun n s'=> ∃i σ' H',Inv (BC X (tn ++ cn) scope cl HH.objs.size {s2 with heap:=HH} (upd H2 s2.heap.objs.size (.lst [])) fp) [] σ' H' s'/\O1 i s'.heap/\(∀b∈fp,H' b=none)/\W i n σ' H') ?_ m0 ⟨0,_,_,IY,st1,fp1,w0⟩
  rintro n s3 ⟨i,σ3,H3,J3,Se,LK,w3⟩
  rcases turn i n σ3 H3 w3 with⟨stop,qn⟩|⟨go,N,hN,step⟩
  ·refine d9 (T.done (BC X (tn ++ cn) scope cl HH.objs.size {s2 with heap:=HH} (upd H2 s2.heap.objs.size (.lst [])) fp) rfl rfl rfl yw i [] s3 σ3 H3 _ J3 (ny LK) Se stop) fun r s4 ⟨hr,J4⟩=>?_
   subst hr
   obtain⟨m',WS,_⟩:=J4.loc
   exact hRR _ _ s4 H3 m' (I3.EN (ch:=fp) J4.os J4.base J4.cE J4.bare fun b hb=>⟨(f2 b hb).2.2.2.1,(f2 b hb).2.1,(f2 b hb).2.2.2.2.1,(f2 b hb).2.2.2.2.2⟩) (I3.Gr (aD _) J4.free) WS qn
  ·refine d9 (T.item (BC X (tn ++ cn) scope cl HH.objs.size {s2 with heap:=HH} (upd H2 s2.heap.objs.size (.lst [])) fp) rfl rfl rfl yw i [] s3 σ3 H3 _ J3 (ny LK) Se go) fun r s4 ⟨u,hr,h4⟩=>?_
   subst hr
   refine d9 h4 fun _ s5 ⟨x,H5,J5,r5,y5,OG,Rb⟩=>?_
   have J5':=J5.pinned (ny Rb) (T.obj _ _ OG)
   refine d9 (hg _ _ _ _ _ s5 σ3 H5 x u _ J5' r5 (step x H5 y5)) fun _ s6 ⟨σ6,H6,J6,q6⟩=>?_
   have again: ∀{s7:Shared} {σ7:St} {H7:Hp},Inv (BC X (tn ++ cn) scope cl HH.objs.size {s2 with heap:=HH} (upd H2 s2.heap.objs.size (.lst [])) fp) ([] ++ qd fp s5.heap) σ7 H7 s7->N σ7 H7->
     ∃m,m < n/\ ∃i σ' H',Inv (BC X (tn ++ cn) scope cl HH.objs.size {s2 with heap:=HH} (upd H2 s2.heap.objs.size (.lst [])) fp) [] σ' H' s7/\O1 i s7.heap/\(∀b∈fp,H' b=none)/\W i m σ' H':=fun{s7 σ7 H7} I7 n7=>by
    obtain⟨m',hm,w7⟩:=hN σ7 H7 n7
    refine⟨m',hm,i + 1,σ7,H7,I7.jm,T.keep _ _ _ OG fun b hb o e=>(I7.pin (b,o) (bw _ (bw _ (j8 hb e)))).1,fun b hb=>?_,w7⟩
    obtain⟨o,e,d⟩:=T.obj _ _ OG b hb
    exact(I7.pin (b,o) (bw _ (bw _ (j8 hb e)))).2.1
   refine d9 (hc _ _ _ _ _ s6 σ6 H6 _ J6 q6) fun ok s7 ⟨H7,J7,q7⟩=>?_
   cases ok with
   |false=>exact again J7 q7
   |true=>
    refine d9 (he _ _ _ _ _ s7 σ6 H7 _ J7 q7) fun y s8 ⟨yv,H8,J8,r8,ys,hD,hz,q8⟩=>?_
    refine d9 (ym _ s8 σ6 H8 (.ref s2.heap.objs.size) [yv] (.ref s2.heap.objs.size) [y] (fun _ H'=>N σ6 H') J8 rfl (.cons r8 .nil) ⟨_,ys,yv,rfl,rfl,hD,hz,q8⟩) fun _ s9 ⟨_,H9,J9,_,q9⟩=>?_
    exact again J9 q9
 exact codeAny_compStart_list loop (T.self _ 0 _ _ _ st1 loop)
def NH (wi:TI)(tn:List Str)(cj:List Nat)(g:TG)(tc:TT)(te:TE):TE:=fun σ H Q=>wi σ H fun J H2=>yu J g tc te (vf tn cj σ) H2 Q
theorem iK {X:Cx}{elt tg iter:Expr}{ifs:List Expr}{scope:Scope}{pos:Pos}{cl:List (Str×Addr)}{tn cn:List Str}{cj:List Nat}{wi:TI}{g:TG}{tc:TT}{te:TE}
  (yw:X.calm=true) (S:sH X scope cl cn cj) (hi:PI X tg iter wi)
  (hg: ∀C s3 H3 fp,PG (BC X (tn ++ cn) scope cl C s3 H3 fp) tg g) (hc: ∀C s3 H3 fp,Ld (BC X (tn ++ cn) scope cl C s3 H3 fp) ifs tc) (he: ∀C s3 H3 fp,PE (BC X (tn ++ cn) scope cl C s3 H3 fp) elt te)
  (hs: ∀x,foldedSetIterable iter X.env x=pure x:=by intro _; rfl):
  PE X (.ListComp elt [⟨tg,iter,ifs,0⟩] scope pos) (NH wi tn cj g tc te):=by
 intro pins s σ H Q I h
 rw[eval_ListComp]
 refine wpAny_comprehension_free (use:=none) rfl hs S.GL S.kind S.names (d9 (hi pins s σ H _ I h) fun v s1 h1=>d9 h1 fun VM s2 h2=>?_)
 obtain⟨it,fp,O1,J,H2,e,I2,T,NB,f2,hw⟩:=h2
 subst e
 refine vg (RR:=fun acc C=>compPost (model X.prog X.w) X.A X.xe none (EP X pins σ Q) acc C) yw S hg hc he I2 T NB f2 hw ?_
 intro D C s' H' m' I' GN hn q
 exact⟨m',hn,fun h' L5=>⟨.ref D,H',I'.turned (t':=s'.toks) (fun b o hb e=>(L5.2 b hb).trans e) GN.1 GN.2.1 GN.2.2.2.1 GN.2.2.2.2.1 GN.2.2.2.2.2,rfl,q⟩⟩
theorem jo {X:Cx}{i:Nat}{y:Str}{py SK:Pos}{elt tg iter:Expr}{ifs:List Expr}{scope:Scope}{pos:Pos}{cl:List (Str×Addr)}{tn cn:List Str}{cj:List Nat}{wi:TI}{g:TG}{tc:TT}{te:TE}
  (hN:X.N.Nodup) (hy:X.N[i]? =some y) (hx:Loc X.env.scope y)
  (yw:X.calm=true) (S:sH X scope cl cn cj) (hi:PI X tg iter wi)
  (hg: ∀C s3 H3 fp,PG (BC X (tn ++ cn) scope cl C s3 H3 fp) tg g) (hc: ∀C s3 H3 fp,Ld (BC X (tn ++ cn) scope cl C s3 H3 fp) ifs tc) (he: ∀C s3 H3 fp,PE (BC X (tn ++ cn) scope cl C s3 H3 fp) elt te)
  (XD:swapsWith (.ListComp elt [⟨tg,iter,ifs,0⟩] scope pos) (some (.Name y py)) SK.line X.env=pure true:=by rfl)
  (hs: ∀x,foldedSetIterable iter X.env x=pure x:=by intro _; rfl)
  (hf:X.fn y=true∨X.env.scope.names.lookup y=some .local:=by first|exact .inl rfl|exact .inr rfl|assumption):
  PS X (.Assign [.Name y py] (.ListComp elt [⟨tg,iter,ifs,0⟩] scope pos) SK) (LJ (NH wi tn cj g tc te) (Bp i)):=by
 intro pins s σ H D I h
 rw[exec_Assign_Name_used _ _ _ _ XD]
 refine aB (iG (aB ?_))
 show wpAny _ X.A (do let _ ← comprehension (.ListComp elt [⟨tg,iter,ifs,0⟩] scope pos) scope X.env _ (newList []) false (eval iter X.env) (some (assign (.Name y py) X.env))) _ _ s
 refine aB (cm (wpAny_comprehension_free (use:=some (assign (.Name y py) X.env)) (Q:=fun _ s'=>SP X pins D .next s') rfl hs S.GL S.kind S.names
  (d9 (hi pins s σ H _ I h) fun v s1 h1=>d9 h1 fun VM s2 h2=>?_)) (fun _ s' hq=>bF (bF hq)) fun _ _ e=>e)
 obtain⟨it,fp,O1,J,H2,e,I2,T,NB,f2,hw⟩:=h2
 subst e
 refine vg (RR:=fun acc C=>compPost (model X.prog X.w) X.A X.xe (some (assign (.Name y py) X.env)) (fun _ s'=>SP X pins D .next s') acc C) yw S hg hc he I2 T NB f2 hw ?_
 intro D' C s' H' m' I' GN hn q
 show wpAny _ X.A (assign (.Name y py) X.env (.ref D')) _ _ _
 refine wpAny_assign_Name (ye I' hN hy hx (v:= .ref D') rfl (fun E1 I'' ⟨a,sb,ha⟩=>?_) hf)
 have hCa:C≠a:=by
  rcases ha with rfl|ha
  ·exact GN.2.1
  ·exact fun z=>GN.2.2.2.2.1 y a ha z.symm
 refine⟨m',hn.sameBut sb hCa,fun h3 Rg=>⟨_,H',I''.turned (t':=E1.toks) (fun b o hb e=>(Rg.2 b hb).trans e) GN.1 GN.2.1 GN.2.2.2.1 GN.2.2.2.2.1 GN.2.2.2.2.2,q⟩⟩
theorem dX {K:Frag}{a:Addr}{xs:List V}{g:TG}{tc:TT}{te:TE}{σ0:St}{H2:Hp}{Q:VK}(Pv:Addr->Nat->St->Hp->Prop)(h0: ∀D,H2 D=none->Pv D 0 σ0 (upd H2 D (.lst [])))
  (hl: ∀D i σ H,i<=xs.length->Pv D i σ H->bG K H a xs)
  (hs: ∀D i x σ H,xs[i]? =some x->Pv D i σ H->g x σ H fun σ2 H2=>tc σ2 H2 fun ok H3=>if ok=true then te σ2 H3 fun y H4=> ∃ys,H4 D=some (.lst ys)/\ys.length < sizeLine/\Pv D (i + 1) σ2 (upd H4 D (.lst (ys ++ [y]))) else Pv D (i + 1) σ2 H3)
  (hd: ∀D σ H,H2 D=none->Pv D xs.length σ H->Q (.ref D) H):yu (Ra K a) g tc te σ0 H2 Q:=by
 intro D hD
 refine⟨fun i m σ H=>m=xs.length - i/\i<=xs.length/\Pv D i σ H,⟨xs.length,by simp,Nat.zero_le _,h0 D hD⟩,?_⟩
 rintro i m σ H ⟨rfl,hi,p⟩
 have q:=hl D i σ H hi p
 by_cases iI:i < xs.length
 ·refine .inr ⟨⟨xs,xs[i],q,by simp[iI]⟩,Pv D (i + 1),fun σ' H' p'=>⟨xs.length - (i + 1),by lia,rfl,iI,p'⟩,fun x H' y=>?_⟩
  obtain⟨e,y⟩:=y
  subst e
  exact hs D i x σ _ (y xs q) p
 ·have e:i=xs.length:=by lia
  subst e
  exact .inl ⟨⟨xs,q,aD _⟩,hd D σ H hD p⟩
theorem Jj {K:Frag}{a:Addr}{xs:List V}{g:TG}{tc:TT}{te:TE}{σ0:St}{H2:Hp}{Q:VK}(Pv:Addr->Nat->St->Hp->Prop)(h0: ∀D,H2 D=none->Pv D 0 σ0 (upd H2 D (.lst [])))
  (hl: ∀D i σ H,i<=xs.length->Pv D i σ H->cF K H a xs)
  (hs: ∀D i x σ H,xs[i]? =some x->Pv D i σ H->g x σ H fun σ2 H2=>tc σ2 H2 fun ok H3=>if ok=true then te σ2 H3 fun y H4=> ∃ys,H4 D=some (.lst ys)/\ys.length < sizeLine/\Pv D (i + 1) σ2 (upd H4 D (.lst (ys ++ [y]))) else Pv D (i + 1) σ2 H3)
  (hd: ∀D σ H,H2 D=none->Pv D xs.length σ H->Q (.ref D) H):yu (W9 K a) g tc te σ0 H2 Q:=by
 intro D hD
 refine⟨fun i m σ H=>m=xs.length - i/\i<=xs.length/\Pv D i σ H,⟨xs.length,by simp,Nat.zero_le _,h0 D hD⟩,?_⟩
 rintro i m σ H ⟨rfl,hi,p⟩
 have q:=hl D i σ H hi p
 by_cases iI:i < xs.length
 ·refine .inr ⟨⟨xs,xs[i],q,by simp[iI]⟩,Pv D (i + 1),fun σ' H' p'=>⟨xs.length - (i + 1),by lia,rfl,iI,p'⟩,fun x H' y=>?_⟩
  obtain⟨e,y⟩:=y
  subst e
  exact hs D i x σ _ (y xs q) p
 ·have e:i=xs.length:=by lia
  subst e
  exact .inl ⟨⟨xs,q,aD _⟩,hd D σ H hD p⟩
theorem DR {lo:Int}{n:Nat}{g:TG}{tc:TT}{te:TE}{σ0:St}{H2:Hp}{Q:VK}(Pv:Addr->Nat->St->Hp->Prop)(h0: ∀D,H2 D=none->Pv D 0 σ0 (upd H2 D (.lst [])))
  (hs: ∀D i σ H,i < n->Pv D i σ H->g (.int (lo + i)) σ H fun σ2 H2=>tc σ2 H2 fun ok H3=>if ok=true then te σ2 H3 fun y H4=> ∃ys,H4 D=some (.lst ys)/\ys.length < sizeLine/\Pv D (i + 1) σ2 (upd H4 D (.lst (ys ++ [y]))) else Pv D (i + 1) σ2 H3)
  (hd: ∀D σ H,H2 D=none->Pv D n σ H->Q (.ref D) H):yu (NA lo n) g tc te σ0 H2 Q:=by
 intro D hD
 refine⟨fun i m σ H=>m=n - i/\i<=n/\Pv D i σ H,⟨n,by simp,Nat.zero_le _,h0 D hD⟩,?_⟩
 rintro i m σ H ⟨rfl,hi,p⟩
 by_cases iI:i < n
 ·refine .inr ⟨iI,Pv D (i + 1),fun σ' H' p'=>⟨n - (i + 1),by lia,rfl,iI,p'⟩,fun x H' y=>?_⟩
  obtain⟨e,y⟩:=y
  subst e y
  exact hs D i σ _ iI p
 ·have e:i=n:=by lia
  subst e
  exact .inl ⟨aD _,hd D σ H hD p⟩
theorem Inv.DS {X:Cx}{pins:List (Addr×Obj)}{σ:St}{H:Hp}{s:Shared}{h':Heap}{a:Addr}{o:HO}{t':Nat}{ch:List Addr}(I:Inv X pins σ H s)(k: ∀b ob,b∉ch->s.heap.get? b=some ob->h'.get? b=some ob)
  (Bh: ∀b∈ch,uT X pins H b) (hp:s.heap.objs.size<=a) (new:dH X.prog X.w (upd H a o) h' a o):Inv X pins σ (upd H a o) {s with heap:=h',toks:=t'}:=by
 have hn:H a=none:=I.cE.fresh hp
 have RY: ∀b u,H b=some u->b∉ch:=fun b u e z=>by rw[(Bh b z).1] at e; cases e
 refine I.step (g':=s.gens) (d':=s.drawn) (ch:=ch) (fun b hb=>⟨(Bh b hb).2.2.2.1,(Bh b hb).2.1,(Bh b hb).2.2.2.2.1,(Bh b hb).2.2.2.2.2⟩) (fun b ob _ _ hc e _=>k b ob hc e) (fun b ob _ _ hc e _=>⟨ob.slots,k b ob hc e⟩)
  (fun b ob _ e n=>by rw[az (a7 (bo (aM e) hp))]; exact n)
  (fun b ob hc e=>⟨ob,k b ob hc e⟩) (fun b xs e=>by rw[az (aJ e hn)]; exact e) (fun b ob u e=>by rw[az (aJ e hn)]; exact e) (fun b ps e=>⟨#[],by rw[az (aJ e hn),e]; simp⟩) (fun m hm=>?_) (fun b u e=>?_) I.bare
 ·obtain⟨ob,es,ep,ho,r⟩:=hm
  exact⟨ob,es,ep,k _ ob (fun z=>(Bh _ z).2.1 rfl) ho,r⟩
 ·by_cases hb:b=a
  ·subst hb
   rw[ag] at e
   cases e
   exact new
  ·rw[az hb] at e
   refine(I.cE b u e).uh (fun c v hc q=>k c v ?_ q) (fun c q=>by rw[az (aJ q hn)]; exact q) fun c xs q=>by rw[az (aJ q hn)]; exact q
   rcases hc with z|z
   ·rw[z]; exact RY b u e
   ·exact RY c _ z
def SM (K:Frag)(a:Addr):It:=
 ⟨fun i H=> ∃xs x,bG K H a xs/\xs[i]? =some x,fun i H x H'=> ∃p y,H p=none/\x= .ref p/\H'=upd H p (.tup [.int i,y])/\ ∀xs,bG K H a xs->xs[i]? =some y,fun i H=> ∃xs,bG K H a xs/\xs.length<=i⟩
theorem GO {P:Program}{w:World}{K:Frag}{elts:List Expr}{k1}{pos:Pos}(a e it:Addr)(jE:e≠it):Turn P w K (.Tuple elts k1 pos) (SM K a) [e,it] e (fun i h=>(∃old,IsEnum h e it i old)/\h.IsListIter it a i) where
 mem:=by simp
 obj:=fun i h st b hb=>by
  obtain⟨⟨old,he⟩,hit⟩:=st
  have e1:b=e∨b=it:=by simpa using hb
  rcases e1 with rfl|rfl
  ·exact⟨_,he,fun v z=>by have z':Data.fields _ =Data.cell v:=z; cases z'⟩
  ·obtain⟨o,e,c,d⟩:=hit
   exact⟨o,e,fun v z=>by rw[d] at z; cases z⟩
 keep:=fun i h h' st k=>by
  obtain⟨⟨old,he⟩,hit⟩:=st
  exact⟨⟨old,k e (by simp) _ he⟩,hit.at fun o e=>k it (by simp) o e⟩
 item:=by
  intro X hP hw hK hc i pins s σ H E I hf st hg
  subst hP hw hK
  obtain⟨⟨old,he⟩,hit⟩:=st
  obtain⟨xs,x,hq,hx⟩:=hg
  obtain⟨b9,rv,p,hz⟩:=I.list hq
  obtain⟨u,hu,ru⟩:=rv.get hx
  refine wpAny_pyNext_enum_item he hit p.isList (x:=u) (by simpa using hu) jE fun h' ho XE hT hsz hk=>⟨_,rfl,?_⟩
  refine wpAny_letOwnedTupleGo_enum ho fun h2 he2 Rf=>?_
  have iI:e < s.heap.objs.size:=aM he
  have DT:h2.get? s.heap.objs.size=some {cls:= .type "tuple",data:= .seq #[.int i s.toks,u]}:=(Rf.2 _ (qG iI)).trans hT
  have hn:H s.heap.objs.size=none:=I.cE.fresh (aD _)
  have I2:Inv X pins σ (upd H s.heap.objs.size (.tup [.int i,x])) {s with heap:=h2,toks:=s.toks + 1}:=by
   refine I.DS (ch:=[e,it]) (fun b ob hb q=>?_) hf (aD _) ⟨by show 2<=sizeLine; decide,[.int i s.toks,u],.cons ⟨_,rfl⟩ (.cons ru .nil),⟨_,DT,rfl,_,rfl⟩⟩
   have mh:b≠e/\b≠it:=⟨fun z=>hb (by simp[z]),fun z=>hb (by simp[z])⟩
   exact(Rf.2 b mh.1).trans (hk b ob mh.1 mh.2 q)
  refine⟨.ref s.heap.objs.size,_,I2,rfl,⟨_,x,hn,rfl,rfl,fun ys hy=>by rw[I.Bo hy hq]; exact hx⟩,⟨⟨u,by simpa using he2⟩,XE.at fun o q=>(Rf.2 it jE.symm).trans q⟩,fun b hb=>?_⟩
  have VT:=hf b hb
  rw[az]
  ·exact VT.1
  ·have e1:b=e∨b=it:=by simpa using hb
   rcases e1 with rfl|rfl
   ·exact a7 iI
   ·obtain⟨o,q,_⟩:=hit
    exact a7 (aM q)
 done:=by
  intro X hP hw hK hc i pins s σ H E I hf st hg
  subst hP hw hK
  obtain⟨⟨old,he⟩,hit⟩:=st
  obtain⟨xs,hq,hx⟩:=hg
  obtain⟨b9,rv,p,hz⟩:=I.list hq
  obtain⟨f0,f1,f2,f3,f4,f5⟩:=hf it (by simp)
  have hl:=rv.length
  exact wpAny_pyNext_enum_end (I.ok.hd hc) he hit p.isList (by simp; lia) fun h' eb=>⟨rfl,I.turned (t':=s.toks) (fun b o hb e=>eb b o hb e) f0 f1 f3 f4 f5⟩
 self:=fun _ _ _ _ _ st h=>by
  obtain⟨⟨old,he⟩,hit⟩:=st
  exact wpAny_pyIter_enum he h
def SN (K:Frag)(ta:TA):TI:=fun σ H R=>ta σ H fun vs H1=> ∃a,vs=[.ref a]/\(∃xs,bG K H1 a xs)/\R (SM K a) H1
theorem qZ {X:Cx}{elts:List Expr}{k1}{OJ:Pos}{l:Expr}{ta:TA}{p pos:Pos}(hg:Gl X "enumerate")(hm:X.mg "enumerate"=none)(ha:PA X [l] ta)(hs:starEach [l] X.env=[(false,eval l X.env)]:=by rfl):
  PI X (.Tuple elts k1 OJ) (.Call (.Name "enumerate" p) [l] [] pos) (SN X.K ta):=by
 intro pins s σ H R I h
 refine Call_ (qb I hg hm boot_enumerate (oV (d9 (ha pos pins s σ H _ I h) fun us s1 ⟨vs,H1,I1,r1,q1⟩=>?_) hs rfl))
 obtain⟨a,e,⟨xs,hq⟩,q⟩:=q1
 subst e
 obtain⟨u,rfl,ru⟩:=vals1 r1
 cases ru
 obtain⟨b9,rv,pl,hz⟩:=I1.list hq
 refine call_enumerate_list pl.isList fun h' he hit hsz kp=>?_
 have I2:Inv X pins σ H1 {s1 with heap:=h'}:=I1.kept (t':=s1.toks) kp
 refine wpAny_pyIter_enum he ⟨s1.heap.objs.size + 1,[s1.heap.objs.size + 1,s1.heap.objs.size],_,_,H1,rfl,I2,GO a _ _ (Nat.succ_ne_self _),⟨⟨_,he⟩,hit⟩,fun b hb=>?_,q⟩
 have e1:b=s1.heap.objs.size + 1∨b=s1.heap.objs.size:=by simpa using hb
 have mh:s1.heap.objs.size<=b:=by
  rcases e1 with rfl|rfl
  ·exact c8 _
  ·exact aD _
 exact I1.Gr mh (I1.cE.fresh mh)
theorem nI {K:Frag}{a:Addr}{xs:List V}{g:TG}{tb:TS}{D:Ends}{σ:St}{H:Hp}(Pv:Nat->St->Hp->Prop)(h0:Pv 0 σ H)(hl: ∀i σ H,i<=xs.length->Pv i σ H->bG K H a xs)
  (hs: ∀i x p σ H,xs[i]? =some x->H p=none->Pv i σ H->g (.ref p) σ (upd H p (.tup [.int i,x])) fun σ2 H2=>tb {D with nx:=Pv (i + 1),ct:=Pv (i + 1),bk:=D.nx} σ2 H2) (hd: ∀σ H,Pv xs.length σ H->D.nx σ H):
  ∃W:Nat->Nat->St->Hp->Prop,(∃m,W 0 m σ H)/\ ∀i m σ H,W i m σ H->
   ((SM K a).stop i H/\D.nx σ H)∨((SM K a).go i H/\ ∃N:St->Hp->Prop,(∀σ' H',N σ' H'-> ∃m',m' < m/\W (i + 1) m' σ' H')/\ ∀x H',(SM K a).Q9 i H x H'->g x σ H' fun σ2 H2=>tb {D with nx:=N,ct:=N,bk:=D.nx} σ2 H2):=by
 refine⟨fun i m σ H=>m=xs.length - i/\i<=xs.length/\Pv i σ H,⟨xs.length,by simp,Nat.zero_le _,h0⟩,?_⟩
 rintro i m σ H ⟨rfl,hi,p⟩
 have q:=hl i σ H hi p
 by_cases iI:i < xs.length
 ·refine .inr ⟨⟨xs,xs[i],q,by simp[iI]⟩,Pv (i + 1),fun σ' H' p'=>⟨xs.length - (i + 1),by lia,rfl,iI,p'⟩,fun x H' y=>?_⟩
  obtain⟨pp,y,h1,e1,e2,h2⟩:=y
  subst e1 e2
  exact hs i y pp σ _ (h2 xs q) h1 p
 ·have e:i=xs.length:=by lia
  subst e
  exact .inl ⟨⟨xs,q,aD _⟩,hd σ H p⟩
structure fC (P:Program)(w:World)(K:Frag)(mg:Str->Option Value)(base:Heap)(x:Str)(k:Nat)(ps:List Str)(sp:Sp):Prop where
 ex: ∃(f:Addr) (fd:FuncData),mf P w K mg base sG k f fd ps sp/\mg x=some (.ref f)/\keepIn K (.ref f)=true/\Binds K fd ps []
section
variable {X:Cx}{x:Str}{k:Nat}{ps:List Str}{sp:Sp}{e:Expr}{es:List Expr}{t:TA}{p pos:Pos}
theorem SO (C:fC X.prog X.w X.K X.mg X.base x k ps sp)(hr:fu k X.A)(hg:Gl X x)(ha:PA X (e :: es) t)(qW:(x == ("__debug__":Str))=false:=by decide)
  (he:starEach (e :: es) X.env=(false,eval e X.env) :: starEach es X.env:=by rfl) (jb:(backTo pos (starEach es X.env)).any (·.1)=false:=by rfl):PE X (.Call (.Name x p) (e :: es) [] pos) (uX sp [] E0 t):=by
 obtain⟨f,fd,F,hm,hk,hb⟩:=C.ex
 exact EZ F hr hg hm hk hb .nil nH ha qW he jb
theorem Jk (C:fC X.prog X.w X.K X.mg X.base x k ps sp)(hr:fu k X.A)(hg:Gl X x)(qW:(x == ("__debug__":Str))=false:=by decide):PE X (.Call (.Name x p) [] [] pos) (uX sp [] E0 DK):=by
 obtain⟨f,fd,F,hm,hk,hb⟩:=C.ex
 exact IW F hr hg hm hk hb .nil nH qW
end
structure Df (K:Frag)(mg:Str->Option Value)(x:Str)(st:Stmt):Prop where
 ex: ∃(f:Addr) (fd:FuncData),gE K x x st f fd/\mg x=some (.ref f)
theorem Df.cal {P:Program}{w:World}{K:Frag}{mg:Str->Option Value}{base:Heap}{x:Str}{st:Stmt}{N ps:List Str}{k:Nat}{sp:Sp}(D:Df K mg x st)(S:aU N ps (aA st))
  (hb: ∀(kV doc pm:Value) (an:Option Addr) (cY ct:Value) (us:List Value),us.length=ps.length->bindArgs (fnOf x x (gR st) (dI st) (aA st) .none kV doc pm an cY ct) ⟨us,[]⟩=pure (ps.zip us))
  (len: ∀vs H Q E,sp vs H Q E->vs.length=ps.length)
  (gp: ∀(f:Addr) (cY:Value) (A:Around) (outer:List Env) (s:Shared) (H:Hp) (vs:List V) (Q:VK) (E:XK),fu k (A.deeper (envOfC x (aA st) s.heap.objs.size f cY))->sp vs H Q E->
   ∃t,pB (lJ sG P w K mg base N x (aA st) f cY A outer s H E).ER (dI st) t/\t {nx:=fun _ H'=>Q .eF H',rt:=Q} (start N vs) H):fC P w K mg base x (k + 1) ps sp:=by
 obtain⟨f,fd,F,hm⟩:=D.ex
 exact⟨f,fd,F.ok S len (gp f),hm,F.kp,F.binds hb⟩
theorem zl {X:Cx}{scope:Scope}(yf: ∀y∈scope.names,y.2≠ .free:=by decide +kernel)(mN: ∀y∈scope.names,y.2≠ .cell:=by decide +kernel)(nE:scope.kind= .function:=by rfl)(vh: ∀x∈scope.names,x.2= .local->scope.names.lookup x.1=some .local:=by decide +kernel):sH X scope [] [] []:=by
 have e:(relabel scope X.env).names=scope.names:=map_eq_self (l:=scope.names) (fun x hx=>by
  obtain⟨n,k⟩:=x
  have:(k == NameKind.free)=false:=by simpa using yf _ hx
  simp[this])
 refine⟨closureFor_none yf,mN,nE,vh,fun x c h=>by simp at h,fun x h=>?_,.nil⟩
 rw[e] at h
 rcases h with h|h
 ·exact absurd rfl (mN _ (ck h))
 ·exact absurd rfl (yf _ (ck h))
theorem iL {X:Cx}{scope:Scope}{x:Str}{c:Addr}{j:Nat}(GL:closureFor scope X.env=pure [(x,c)]:=by rfl)(mN: ∀y∈scope.names,y.2≠ .cell:=by decide +kernel)(nE:scope.kind= .function:=by rfl)(vh: ∀x∈scope.names,x.2= .local->scope.names.lookup x.1=some .local:=by decide +kernel)
  (hx:X.env.cells.lookup x=some c:=by rfl) (zo:List (Str×NameKind)) (SQ:(relabel scope X.env).names=zo:=by rfl) (Dk: ∀y∈zo,(y.2= .cell∨y.2= .free)->y.1=x:=by decide +kernel) (hN:X.N[j]? =some x:=by rfl) (hk:X.env.kindOf x=some .cell∨X.env.kindOf x=some .free:=by exact Or.inl rfl)
  (NG:(relabel scope X.env).names.lookup x=some .cell∨(relabel scope X.env).names.lookup x=some .free:=by exact Or.inl rfl):sH X scope [(x,c)] [x] [j]:=by
 refine⟨GL,mN,nE,vh,fun y c' h=>?_,fun y h=>?_,.cons ⟨hN,hk,NG⟩ .nil⟩
 ·have h':=ck h
  have e:(y,c')=(x,c):=by simpa using h'
  cases e
  exact hx
 ·have e:y=x:=by
   rcases h with h|h
   ·rw[SQ] at h
    exact Dk _ (ck h) (.inl rfl)
   ·rw[SQ] at h
    exact Dk _ (ck h) (.inr rfl)
  subst e
  exact⟨c,by simp[List.lookup_cons]⟩
section
variable {X:Cx}
def SR (i j:Int):Prop:=Builtin.Int.intBits i<=2 ^ 20/\Builtin.Int.intBits j<=2 ^ 20
theorem L6:o6 X (binaryOp .Mult) (rI SR fun i j=> .int (i * j)):=Sf fun _ _ _ _ _ _ _ hc q=>mul_int q (.of_bits hc.1 hc.2)
end
section
variable {prog:Program}{w:World}{A:Around}{E:Value->Shared->Prop}{s:Shared}
end
section
variable {X:Cx}
theorem fb:iZ X (.builtin "isinstance") (fun xs H Q=> ∃x c t b,xs=[x,.ty c]/\nA X.K H x t/\PySem.W.kitOne X.K t (.type c)=some b/\Q (.bl b) H):=by
 intro pins s σ H xs us Q I r h
 obtain⟨x,c,t,b,rfl,ty,e,q⟩:=h
 obtain⟨u,u2,rfl,r1,r2⟩:=vals2 r
 obtain rfl:u2=Value.type c:=r2
 exact Gy I r1 ty e fun tk=>⟨.bl b,H,I.tok _,rfl,q⟩
theorem E8: ∀{cs:List String} {us:List Value},Vals (cs.map V.ty) us->us=cs.map Value.type
 |[],_,r=>by rw[qH] at r; cases r; rfl
 |c :: cs,_,r=>by
  rw[cO] at r
  cases r with
  |cons r1 r2=>
   have e1:_ =Value.type c:=r1
   rw[e1,E8 r2,cO]
theorem DU {pins:List (Addr×Obj)}{σ:St}{H:Hp}{s:Shared}{A:Around}{E:Value->Shared->Prop}{Q:Value->Shared->Prop}{x:V}{u t:Value}{tp:Addr}{cs:List String}{b:Bool}(I:Inv X pins σ H s)(rx:RelV x u)(ty:nA X.K H x t)
  (hp:H tp=some (.tup (cs.map V.ty))) (e:PySem.W.kitAny X.K t (cs.map Value.type)=some b) (h: ∀tk,Q (.bool b) {s with toks:=tk}):
  wpAny (model X.prog X.w) A (call (.builtin "isinstance") [u,.ref tp]) Q E s:=by
 obtain⟨_,b9,rv,⟨cl,dd,dt,sl⟩,hg,hc,n,hd⟩:=(show dH X.prog X.w H s.heap tp (.tup (cs.map V.ty)) from I.cE tp _ hp)
 have ei:=E8 rv
 subst ei
 simp only at hc hd
 subst hc hd
 cases ty with
 |eF=>cases(show u=Value.none from rx); exact ez PySem.W.kitx_none I.g6 True.intro hg e (fun z=>nomatch z) h
 |bl y=>cases(show u=Value.bool y from rx); exact ez PySem.W.kitx_bool I.g6 True.intro hg e (fun z=>nomatch z) h
 |int i=>obtain⟨t,q⟩:=(show ∃t,u=Value.int i t from rx); cases q; exact ez PySem.W.kitx_int I.g6 True.intro hg e (fun z=>nomatch z) h
 |str y=>obtain⟨t,q⟩:=(show ∃t,u=Value.str y t from rx); cases q; exact ez PySem.W.kitx_str I.g6 True.intro hg e (fun z=>nomatch z) h
 |LB y=>obtain⟨t,q⟩:=(show ∃t,u=Value.float y t from rx); cases q; exact ez PySem.W.kitx_float I.g6 True.intro hg e (fun z=>nomatch z) h
 | @lst a xs ea=>
  cases(show u=Value.ref a from rx)
  obtain⟨_,_,n,_,h1⟩:=(show dH X.prog X.w H s.heap a (.lst xs) from I.cE a _ ea)
  exact ez sk I.g6 ⟨_,h1,rfl⟩ hg e (fun z=>nomatch z) h
 | @Dj a ob xs ea=>
  cases(show u=Value.ref a from rx)
  obtain⟨_,_,_,n,_,h1⟩:=(show dH X.prog X.w H s.heap a (.Dj ob (.lst xs)) from I.cE a _ ea)
  exact ez sk I.g6 ⟨_,h1,rfl⟩ hg e (fun z=>nomatch z) h
 | @tup a xs ea=>
  cases(show u=Value.ref a from rx)
  obtain⟨_,_,_,p⟩:=(show dH X.prog X.w H s.heap a (.tup xs) from I.cE a _ ea)
  obtain⟨o,h1,h2,_⟩:=p
  exact ez PySem.W.kitx_tuple I.g6 ⟨o,h1,h2⟩ hg e (fun z=>nomatch z) h
 | @dK a bh ea=>
  cases(show u=Value.ref a from rx)
  obtain⟨_,_,vs,_,p⟩:=(show dH X.prog X.w H s.heap a (.dK bh) from I.cE a _ ea)
  obtain⟨o,es,ep,h1,h2,_⟩:=p
  exact ez sm I.g6 ⟨o,h1,h2.1⟩ hg e (fun z=>nomatch z) h
 | @dT a bh ea=>
  cases(show u=Value.ref a from rx)
  obtain⟨_,_,xs,_,o,es,ep,h1,h2,_⟩:=(show dH X.prog X.w H s.heap a (.dT bh) from I.cE a _ ea)
  exact ez sm I.g6 ⟨o,h1,h2.1⟩ hg e (fun z=>nomatch z) h
 | @ins a C dx fs ea cl ha hn qe hm=>
  cases(show u=Value.ref a from rx)
  obtain⟨mA,O,_⟩:=qU I.cE ea
  obtain⟨od,J,_⟩:=O.look
  exact ez (PySem.W.kitx_own (cl.get _) cl.hd ha hn qe hm) I.g6 J hg e (fun z=>nomatch z) h
theorem DV:iZ X (.builtin "isinstance") (fun xs H Q=> ∃(x:V) (tp:Addr) (cs:List String) (t:Value) (b:Bool),xs=[x,.ref tp]/\H tp=some (.tup (cs.map V.ty))/\nA X.K H x t/\PySem.W.kitAny X.K t (cs.map Value.type)=some b/\Q (.bl b) H):=by
 intro pins s σ H xs us Q I r h
 obtain⟨x,tp,cs,t,b,rfl,hp,ty,e,q⟩:=h
 obtain⟨u,u2,rfl,r1,r2⟩:=vals2 r
 obtain rfl:u2=Value.ref tp:=r2
 exact DU I r1 ty hp e fun tk=>⟨.bl b,H,I.tok _,rfl,q⟩
def O4 (K:Frag):R2:=fun x y H Q=> ∃a b xs,x= .ref a/\y= .ref b/\bG K H a xs/\bG K H b []/\Q (.bl (!xs.isEmpty)) H
theorem Jl {n:Nat}(hu:X.A.units + n < cLine):o6 X (compareOp .NotEq) (O4 X.K):=by
 intro pins s σ H x y v u Q I rx ry h
 obtain⟨a,b,xs,rfl,rfl,ha,hb,q⟩:=h
 cases rx
 cases ry
 obtain⟨b9,r1,p1,_⟩:=I.list ha
 obtain⟨GC,r2,p2,_⟩:=I.list hb
 have e2:GC=[]:=r2.zero
 subst e2
 cases xs with
 |nil=>
  have e1:b9=[]:=r1.zero
  subst e1
  exact SeqAt.RcNeAt.lists (e:=fun _=>true) p1.isList p2.isList rfl (by lia) (fun j h1 _=>absurd h1 (by simp)) X.prog X.w X.xe _ ⟨.bl false,H,I,rfl,q⟩
 |cons z zs=>
  have l1:=r1.length
  exact SeqAt.RcNeAt.lists_lengths p1.isList p2.isList (by simp only[List.size_toArray,← l1]; simp) (by lia) X.prog X.w X.xe _ ⟨.bl true,H,I,rfl,q⟩
def XF (K:Frag):R2:=fun x y H Q=> ∃p xs i v,x= .ref p/\y= .int i/\(bG K H p xs∨cF K H p xs)/\uz xs i=some v/\Q v H
theorem NI:I9 X (XF X.K):=by
 intro value slice pins s σ H x y v u Q I rx ry h hs
 obtain⟨p,xs,i,z,e1,e2,hq|hq,he,q⟩:=h
 ·exact zd value slice pins s σ H x y v u Q I rx ry ⟨p,xs,i,z,e1,e2,hq,he,q⟩ hs
 ·exact DM value slice pins s σ H x y v u Q I rx ry ⟨p,xs,i,z,e1,e2,hq,he,q⟩ hs
end
theorem aF.new {H:Hp}{p:Addr}{o:HO}(h:H p=none):aF H (upd H p o):=fun b u e=>by rw[az (aJ e h)]; exact e
def XG (t u:TS):TS:=fun D σ H=> ∃M:St->Hp->Prop,t {D with nx:=M} σ H/\ ∀σ' H',M σ' H'->u D σ' H'
theorem jN {X:Cx}{st:Stmt}{rest:List Stmt}{t u:TS}(h1:PS X st t)(h2:pB X rest u):pB X (st :: rest) (XG t u):=by
 intro pins s σ H D I ⟨M,h,hM⟩
 refine wpAny_execs_cons (d9 (h1 pins s σ H {D with nx:=M} I h) fun f s1 q=>?_)
 cases f with
 |next=>
  obtain⟨σ',H',I',q⟩:=q
  exact h2 pins s1 σ' H' D I' (hM _ _ q)
 |ret v=>exact q
 |brk=>exact q
 |cont=>exact q
section
variable {X:Cx}{K:Frag}
theorem lM (h:X.K=K):I9 X (OM K):=by subst h; exact zd
theorem uB (h:X.K=K):I9 X (ON K):=by subst h; exact DM
end
inductive Dt where
 |eF|bl (b:Bool)|int (i:Int)|str (x:Str)|tup (ds:List Dt)|lst (ds:List Dt)
mutual
def Rp (H:Hp):Dt->V->Prop
 | .eF,v=>v= .eF
 | .bl b,v=>v= .bl b
 | .int i,v=>v= .int i
 | .str x,v=>v= .str x
 | .tup ds,v=> ∃a xs,v= .ref a/\H a=some (.tup xs)/\g9 H ds xs
 | .lst ds,v=> ∃a xs,v= .ref a/\H a=some (.lst xs)/\g9 H ds xs
def g9 (H:Hp):List Dt->List V->Prop
 |[],vs=>vs=[]
 |d :: ds,vs=> ∃v r,vs=v :: r/\Rp H d v/\g9 H ds r
end
mutual
def Dt.size:Dt->Nat
 | .tup ds=>1 + Dt.fI ds
 | .lst ds=>1 + Dt.fI ds
 | .eF=>1
 | .bl _=>1
 | .int _=>1
 | .str _=>1
def Dt.fI:List Dt->Nat
 |[]=>0
 |d :: ds=>d.size + Dt.fI ds
end
theorem Dt.size_pos (d:Dt):1<=d.size:=by cases d <;> simp[Dt.size]
theorem Dt.iM (a b:List Dt):Dt.fI (a ++ b)=Dt.fI a + Dt.fI b:=by
 induction a with
 |nil=>simp[Dt.fI]
 |cons d ds ih=>simp[Dt.fI,ih]; lia
theorem Dt.q0 (a:List Dt):a.length<=Dt.fI a:=by
 induction a with
 |nil=>simp[Dt.fI]
 |cons d ds ih=>
  have:=d.size_pos
  simp[Dt.fI]; lia
theorem vi {H:Hp}{v:V}:Rp H .eF v↔v= .eF:=by unfold Rp; exact Iff.rfl
theorem ra {H:Hp}{v:V}{b:Bool}:Rp H (.bl b) v↔v= .bl b:=by unfold Rp; exact Iff.rfl
theorem dD {H:Hp}{v:V}{i:Int}:Rp H (.int i) v↔v= .int i:=by unfold Rp; exact Iff.rfl
theorem fv {H:Hp}{v:V}{x:Str}:Rp H (.str x) v↔v= .str x:=by unfold Rp; exact Iff.rfl
theorem j9 {H:Hp}{v:V}{ds:List Dt}:Rp H (.tup ds) v↔ ∃a xs,v= .ref a/\H a=some (.tup xs)/\g9 H ds xs:=by unfold Rp; exact Iff.rfl
theorem ka {H:Hp}{v:V}{ds:List Dt}:Rp H (.lst ds) v↔ ∃a xs,v= .ref a/\H a=some (.lst xs)/\g9 H ds xs:=by unfold Rp; exact Iff.rfl
theorem cv {H:Hp}{vs:List V}:g9 H [] vs↔vs=[]:=by unfold g9; exact Iff.rfl
theorem br {H:Hp}{d:Dt}{ds:List Dt}{vs:List V}:g9 H (d :: ds) vs↔ ∃v r,vs=v :: r/\Rp H d v/\g9 H ds r:=by
 conv=>lhs; unfold g9
mutual
theorem Rp.mono {H H':Hp}(s:aF H H'): ∀(d:Dt) {v:V},Rp H d v->Rp H' d v
 | .eF,_,h=>vi.mpr (vi.mp h)
 | .bl _,_,h=>ra.mpr (ra.mp h)
 | .int _,_,h=>dD.mpr (dD.mp h)
 | .str _,_,h=>fv.mpr (fv.mp h)
 | .tup ds,_,h=>by
  obtain⟨a,xs,e,h1,h2⟩:=j9.mp h
  exact j9.mpr ⟨a,xs,e,s _ _ h1,g9.mono s ds h2⟩
 | .lst ds,_,h=>by
  obtain⟨a,xs,e,h1,h2⟩:=ka.mp h
  exact ka.mpr ⟨a,xs,e,s _ _ h1,g9.mono s ds h2⟩
theorem g9.mono {H H':Hp}(s:aF H H'): ∀(ds:List Dt) {vs:List V},g9 H ds vs->g9 H' ds vs
 |[],_,h=>cv.mpr (cv.mp h)
 |d :: ds,_,h=>by
  obtain⟨v,r,e,h1,h2⟩:=br.mp h
  exact br.mpr ⟨v,r,e,Rp.mono s d h1,g9.mono s ds h2⟩
end
theorem g9.length {H:Hp}: ∀{ds:List Dt} {vs:List V},g9 H ds vs->ds.length=vs.length
 |[],_,h=>by rw[cv.mp h]; rfl
 |d :: ds,_,h=>by
  obtain⟨v,r,e,_,h2⟩:=br.mp h
  rw[e,bO,bO,g9.length h2]
theorem g9.get {H:Hp}: ∀{ds:List Dt} {vs:List V} {i:Nat} {d:Dt},g9 H ds vs->ds[i]? =some d-> ∃v,vs[i]? =some v/\Rp H d v
 |[],_,_,_,_,e=>by simp at e
 |d :: ds,_,0,_,h,e=>by
  obtain⟨v,r,rfl,h1,_⟩:=br.mp h
  simp at e; subst e
  exact⟨v,rfl,h1⟩
 |d :: ds,_,i + 1,_,h,e=>by
  obtain⟨v,r,rfl,_,h2⟩:=br.mp h
  obtain⟨u,h3,h4⟩:=g9.get (i:=i) h2 (by simpa using e)
  exact⟨u,by simpa using h3,h4⟩
theorem g9.append {H:Hp}: ∀{ds es:List Dt} {vs us:List V},g9 H ds vs->g9 H es us->g9 H (ds ++ es) (vs ++ us)
 |[],_,_,_,h,h'=>by rw[cv.mp h]; exact h'
 |d :: ds,_,_,_,h,h'=>by
  obtain⟨v,r,rfl,h1,h2⟩:=br.mp h
  exact br.mpr ⟨v,r ++ _,rfl,h1,g9.append h2 h'⟩
theorem g9.one {H:Hp}{d:Dt}{v:V}(h:Rp H d v):g9 H [d] [v]:=br.mpr ⟨v,[],rfl,h,cv.mpr rfl⟩
theorem g9.ints {H:Hp}: ∀(ns:List Int),g9 H (ns.map Dt.int) (ns.map V.int)
 |[]=>cv.mpr rfl
 |n :: ns=>br.mpr ⟨_,_,rfl,dD.mpr rfl,g9.ints ns⟩
theorem fk {H:Hp}{a:Addr}{xs:List V}{ds:List Dt}(h:H a=some (.lst xs))(r:g9 H ds xs):Rp H (.lst ds) (.ref a):=ka.mpr ⟨a,xs,rfl,h,r⟩
theorem eP {H:Hp}{a:Addr}{xs:List V}{ds:List Dt}(h:H a=some (.tup xs))(r:g9 H ds xs):Rp H (.tup ds) (.ref a):=j9.mpr ⟨a,xs,rfl,h,r⟩
def O5:Dt->String
 | .eF=>"NoneType"| .bl _=>"bool"| .int _=>"int"| .str _=>"str"| .tup _=>"tuple"| .lst _=>"list"
theorem Rp.ty {K:Frag}{H:Hp}{d:Dt}{v:V}(h:Rp H d v):nA K H v (.type (O5 d)):=by
 cases d with
 |eF=>rw[vi.mp h]; exact .eF
 |bl b=>rw[ra.mp h]; exact .bl b
 |int i=>rw[dD.mp h]; exact .int i
 |str x=>rw[fv.mp h]; exact .str x
 |tup ds=>obtain⟨a,xs,e,h1,_⟩:=j9.mp h; rw[e]; exact .tup h1
 |lst ds=>obtain⟨a,xs,e,h1,_⟩:=ka.mp h; rw[e]; exact .lst h1
def XH:Dt->Bool| .lst _=>true|_=>false
def XI:Dt->Bool| .tup _=>true|_=>false
def isLT:Dt->Bool| .lst _=>true| .tup _=>true|_=>false
def VU:Dt->Bool| .str _=>true|_=>false
def isB:Dt->Bool| .bl _=>true|_=>false
def isI:Dt->Bool| .int _=>true| .bl _=>true|_=>false
def isW:Dt->Bool| .int _=>true|_=>false
theorem E9 {K:Frag}(d:Dt):PySem.W.kitOne K (.type (O5 d)) (.type "list")=some (XH d):=by cases d <;> (first|rfl|decide +kernel)
theorem Jm {K:Frag}(d:Dt):PySem.W.kitOne K (.type (O5 d)) (.type "tuple")=some (XI d):=by cases d <;> (first|rfl|decide +kernel)
theorem yx {K:Frag}(d:Dt):PySem.W.kitOne K (.type (O5 d)) (.type "str")=some (VU d):=by cases d <;> (first|rfl|decide +kernel)
theorem NJ {K:Frag}(d:Dt):PySem.W.kitOne K (.type (O5 d)) (.type "bool")=some (isB d):=by cases d <;> (first|rfl|decide +kernel)
theorem SS {K:Frag}(d:Dt):PySem.W.kitOne K (.type (O5 d)) (.type "int")=some (isI d):=by cases d <;> (first|rfl|decide +kernel)
theorem O6 {K:Frag}(d:Dt):PySem.W.kitAny K (.type (O5 d)) [.type "list",.type "tuple"]=some (isLT d):=by
 unfold PySem.W.kitAny
 rw[E9]
 cases d <;> (first|rfl|(show PySem.W.kitAny K _ [.type "tuple"]=_; unfold PySem.W.kitAny; rw[Jm]; rfl))
theorem tK {α β:Type}{F:α->β->Prop}: ∀{l₁:List α} {l₂:List β} {y:β},Paired F l₁ l₂->l₂[l₂.length - 1]? =some y-> ∃l d,l₁=l ++ [d]/\F d y/\Paired F l l₂.dropLast
 |_,_,_,.nil,e=>by simp at e
 |a :: l₁,b :: l₂,y,.cons r t,e=>by
  cases t with
  |nil=>
   simp at e; subst e
   exact⟨[],a,rfl,r,.nil⟩
  |cons r' t'=>
   rename_i a' b' m₁ m₂
   have e':(b' :: m₂)[(b' :: m₂).length - 1]? =some y:=by
    have h1:(b :: b' :: m₂).length - 1=((b' :: m₂).length - 1) + 1:=by simp
    rw[h1] at e
    simpa using e
   obtain⟨l,d,e1,h1,h2⟩:=tK (.cons r' t') e'
   refine⟨a :: l,d,by rw[e1]; rfl,h1,?_⟩
   rw[List.dropLast_cons_of_ne_nil (by simp)]
   exact .cons r h2
def mi (H H':Hp)(d:Dt)(v:V):Prop:= ∃t u1 u2,v= .ref t/\H' t=some (.tup [u1,u2])/\Rp H d u1/\Rp H d u2
theorem mi.mono {H H' H2:Hp}{d:Dt}{v:V}(h:mi H H' d v)(k: ∀b xs,H' b=some (.tup xs)->H2 b=some (.tup xs)):mi H H2 d v:=by
 obtain⟨t,u1,u2,e,h1,h2⟩:=h
 exact⟨t,u1,u2,e,k _ _ h1,h2⟩
theorem Jn {H:Hp}{p:Addr}{o:HO}(h:H p=none): ∀b xs,H b=some (.tup xs)->upd H p o b=some (.tup xs):=fun b xs e=>aF.new h b _ e
theorem dU {H:Hp}{p:Addr}{o:HO}{ys:List V}(h:H p=some (.lst ys)): ∀b xs,H b=some (.tup xs)->upd H p o b=some (.tup xs):=fun b xs e=>by
 rw[az (mM e h (by intro z; cases z))]; exact e
theorem aF.dr {H0 H:Hp}{p:Addr}{o:HO}(s:aF H0 H)(h:H0 p=none):aF H0 (upd H p o):=fun b u e=>by
 rw[az (aJ e h)]; exact s b u e
def kids:Dt->List Dt
 | .tup ds=>ds
 | .lst ds=>ds
 |_=>[]
theorem Fb {H:Hp}{d:Dt}{v:V}(h:Rp H d v)(hd:isLT d=true): ∃a xs,v= .ref a/\(∀(K:Frag) (H':Hp),aF H H'->bG K H' a xs∨cF K H' a xs)/\g9 H (kids d) xs:=by
 cases d with
 |tup ds=>
  obtain⟨a,xs,e,h1,h2⟩:=j9.mp h
  exact⟨a,xs,e,fun K H' s=> .inr (cF.of (s _ _ h1)),h2⟩
 |lst ds=>
  obtain⟨a,xs,e,h1,h2⟩:=ka.mp h
  exact⟨a,xs,e,fun K H' s=> .inl (bG.of (s _ _ h1)),h2⟩
 |_=>cases hd
theorem GQ {d:Dt}(hd:isLT d=true):d.size=1 + Dt.fI (kids d):=by
 cases d with
 |tup ds=>simp[Dt.size,kids]
 |lst ds=>simp[Dt.size,kids]
 |_=>cases hd
mutual
def Dt.plain:Dt->Bool
 | .int _=>true
 | .str _=>true
 | .tup ds=>Dt.nJ ds
 | .lst ds=>Dt.nJ ds
 | .eF=>false
 | .bl _=>false
def Dt.nJ:List Dt->Bool
 |[]=>true
 |d :: ds=>d.plain && Dt.nJ ds
end
theorem Dt.ql {ds:List Dt}:Dt.nJ ds=true↔ ∀d∈ds,d.plain=true:=by
 induction ds with
 |nil=>simp[Dt.nJ]
 |cons d ds ih=>simp[Dt.nJ,ih]
theorem DW {d:Dt}(h:d.plain=true): ∀c∈kids d,c.plain=true:=by
 cases d with
 |tup ds=>exact Dt.ql.mp (by simpa[Dt.plain,kids] using h)
 |lst ds=>exact Dt.ql.mp (by simpa[Dt.plain,kids] using h)
 |_=>intro c hc; cases hc
theorem uj {ds:List Dt}{i:Nat}{d:Dt}(h:ds[i]? =some d):ds.take (i + 1)=ds.take i ++ [d]:=by rw[Gf,h]; rfl
theorem xg (ds:List Dt)(i:Nat):Dt.fI (ds.take i)<=Dt.fI ds:=by
 have:=Dt.iM (ds.take i) (ds.drop i)
 rw[List.take_append_drop] at this
 lia
theorem ji {n:Nat}(h:n<=1000000):n < sizeLine:=qI h (by rw[eU]; decide)
open PySem.W
def kb {α:Type}(key:Nat->Int)(n:Nat)(Po:α->Prop):KasT α->Prop
 | .ret a=>Po a
 | .ask i j k=>i < n/\j < n/\kb key n Po (k (decide (key i < key j)))
theorem ij {α:Type}{key:Nat->Int}{n:Nat}{Po Po':α->Prop}(h: ∀a,Po a->Po' a): ∀(t:KasT α),kb key n Po t->kb key n Po' t
 | .ret a,q=>h a q
 | .ask i j k,q=>⟨q.1,q.2.1,ij h _ q.2.2⟩
theorem jc {α β:Type}{key:Nat->Int}{n:Nat}{Po:β->Prop}{f:α->KasT β}: ∀(t:KasT α),kb key n (fun a=>kb key n Po (f a)) t->kb key n Po (t.bind f)
 | .ret a,q=>q
 | .ask i j k,q=>⟨q.1,q.2.1,jc _ q.2.2⟩
theorem vj {α:Type}{key:Nat->Int}{n:Nat}{Po:α->Prop}{cmp:Nat->Nat->(Bool->Shared->Prop)->Shared->Prop}{s:Shared}{Q:α->Shared->Prop}
  (hc: ∀i j (C:Bool->Shared->Prop),i < n->j < n->C (decide (key i < key j)) s->cmp i j C s) (hq: ∀a,Po a->Q a s): ∀(t:KasT α),kb key n Po t->t.kasWp cmp Q s
 | .ret a,q=>hq a q
 | .ask i j k,q=>hc i j _ q.1 q.2.1 (vj hc hq _ q.2.2)
def kf (key:Nat->Int)(p:Array Nat)(i:Nat):Int:=key (p.getD i 0)
def rg (n:Nat)(p:Array Nat):Prop:=p.Perm (List.toArray (List.range n))
theorem rg.size {n:Nat}{p:Array Nat}(h:rg n p):p.size=n:=by
 have:=Array.Perm.size_eq h
 simpa using this
theorem rg.lt {n:Nat}{p:Array Nat}(h:rg n p)(h0:0 < n)(i:Nat):p.getD i 0 < n:=by
 by_cases hi:i < p.size
 ·have e:p.getD i 0=p[i]:=by simp[Array.getD,hi]
  rw[e]
  have hm:p[i]∈p:=Array.getElem_mem hi
  have:=(Array.Perm.mem_iff h).mp hm
  simpa using this
 ·have e:p.getD i 0=0:=by simp[Array.getD,hi]
  rw[e]; exact h0
theorem rh {p q:Array Nat}{i j:Nat}(h:p[i]? =q[j]?):p.getD i 0=q.getD j 0:=by
 rw[Lv,Lv,h]
theorem qm {key:Nat->Int}{p:Array Nat}{i j:Nat}(hj:j<=p.size)(a:Nat):kf key (kas_rev p i j) a=if i<=a/\a < j then kf key p (i + j - 1 - a) else kf key p a:=by
 have:=getElem?_mirror_all (xs:=p) (i:=i) hj a
 by_cases h:i<=a/\a < j
 ·rw[aY h] at this ⊢
  exact cV key (rh this)
 ·rw[aN h] at this ⊢
  exact cV key (rh this)
theorem rg.rev {n:Nat}{p:Array Nat}(h:rg n p)(i j:Nat):rg n (kas_rev p i j):=(mirror_perm p i j _).trans h
theorem Jo {key:Nat->Int}{p:Array Nat}{src d:Nat}(hs:src < p.size)(hd:d<=src)(k:Nat):kf key (bubble p src d) k=if k=src - d then kf key p src else if src - d < k/\k<=src then kf key p (k - 1) else kf key p k:=by
 have:=getElem?_bubble (xs:=p) hs d hd k
 by_cases h:k=src - d
 ·rw[aY h] at this ⊢
  exact cV key (rh this)
 ·rw[aN h] at this ⊢
  by_cases h2:src - d < k/\k<=src
  ·rw[aY h2] at this ⊢
   exact cV key (rh this)
  ·rw[aN h2] at this ⊢
   exact cV key (rh this)
def lN (key:Nat->Int)(p:Array Nat)(m:Nat):Prop:= ∀a b,a<=b->b < m->kf key p a<=kf key p b
def Jp (key:Nat->Int)(p:Array Nat)(m:Nat):Prop:= ∀a b,a<=b->b < m->kf key p b<=kf key p a
section
variable {key:Nat->Int}{n:Nat}
theorem Jq {p:Array Nat}(hp:rg n p)(h0:0 < n): ∀(f m:Nat),1<=m->lN key p m->kb key n (fun r=>m<=r/\r<=m + f/\lN key p r/\(r=m + f∨kf key p r < kf key p (r - 1))) (kas_asc p f m)
 |0,m,h1,hs=>⟨aD _,aD _,hs,.inl rfl⟩
 |f + 1,m,h1,hs=>by
  unfold kas_asc
  refine⟨hp.lt h0 _,hp.lt h0 _,?_⟩
  by_cases c:key (p.getD m 0) < key (p.getD (m - 1) 0)
  ·rw[decide_eq_true c]; dsimp only; rw[if_pos rfl]
   exact⟨aD _,by lia,hs,.inr c⟩
  ·rw[decide_eq_false c]; dsimp only; rw[if_neg Bool.false_ne_true]
   have L5:lN key p (m + 1):=by
    intro a b Iv hb
    by_cases L8:b < m
    ·exact hs a b Iv L8
    ·have e:b=m:=by lia
     subst e
     by_cases O7:a=b
     ·rw[O7]; exact fX _
     ·have h2:=hs a (b - 1) (by lia) (by lia)
      have h3:kf key p (b - 1)<=kf key p b:=by unfold kf; lia
      lia
   refine ij (fun r ⟨q1,q2,q3,q4⟩=>⟨by lia,by lia,q3,?_⟩) _ (Jq hp h0 f (m + 1) (by lia) L5)
   rcases q4 with q4|q4
   ·exact .inl (by lia)
   ·exact .inr q4
theorem zp (h0:0 < n): ∀(f:Nat) (p:Array Nat) (m q:Nat),rg n p->m + f<=n->q + 1<=m->Jp key p m->(∀a,m - (q + 1)<=a->a < m->kf key p a=kf key p (m - 1))->
  kb key n (fun r=>rg n r.1/\1<=r.2.1/\r.2.1<=n/\r.2.2 + 1<=r.2.1/\Jp key r.1 r.2.1/\ ∀a,r.2.1 - (r.2.2 + 1)<=a->a < r.2.1->kf key r.1 a=kf key r.1 (r.2.1 - 1)) (kas_desc f p m q)
 |0,p,m,q,hp,hm,hq,hs,he=>⟨hp,(by show 1<=m; lia),(by show m<=n; lia),hq,hs,he⟩
 |f + 1,p,m,q,hp,hm,hq,hs,he=>by
  unfold kas_desc
  have dn: ∀{r:Array Nat},(∀a,a < m->kf key r a=kf key p a)->kf key r m=kf key p m->kf key p m<=kf key p (m - 1)->Jp key r (m + 1):=by
   intro r hr SU c a b Iv hb
   by_cases L8:b < m
   ·rw[hr a (by lia),hr b L8]; exact hs a b Iv L8
   ·have e:b=m:=by lia
    subst e
    by_cases O7:a=b
    ·rw[O7]; exact fX _
    ·rw[SU,hr a (by lia)]
     have h2:=hs a (b - 1) (by lia) (by lia)
     lia
  refine⟨hp.lt h0 _,hp.lt h0 _,?_⟩
  by_cases c:key (p.getD m 0) < key (p.getD (m - 1) 0)
  ·rw[decide_eq_true c]; dsimp only; rw[if_pos rfl]
   have c':kf key p m<=kf key p (m - 1):=by unfold kf; lia
   have last: ∀{r:Array Nat} (a:Nat),m + 1 - (0 + 1)<=a->a < m + 1->kf key r a=kf key r (m + 1 - 1):=fun{r} a h1 h2=>by
    have e:a=m + 1 - 1:=by lia
    rw[e]
   by_cases hq0:q > 0
   ·rw[aY hq0]
    have hz:m<=p.size:=by rw[hp.size]; lia
    have hr: ∀a,a < m->kf key (kas_rev p (m - (q + 1)) m) a=kf key p a:=fun a ha=>by
     rw[qm hz]
     split
     ·rename_i h
      rw[he a h.1 h.2,he _ (by lia) (by lia)]
     ·rfl
    have SU:kf key (kas_rev p (m - (q + 1)) m) m=kf key p m:=by rw[qm hz,aN (by lia)]
    exact zp h0 f _ (m + 1) 0 (hp.rev _ _) (by lia) (by lia) (dn hr SU c') last
   ·rw[aN hq0]
    exact zp h0 f p (m + 1) 0 hp (by lia) (by lia) (dn (fun _ _=>rfl) rfl c') last
  ·rw[decide_eq_false c]; dsimp only; rw[if_neg Bool.false_ne_true]
   refine⟨hp.lt h0 _,hp.lt h0 _,?_⟩
   by_cases d:key (p.getD (m - 1) 0) < key (p.getD m 0)
   ·rw[decide_eq_true d]; dsimp only; rw[if_pos rfl]
    exact⟨hp,(by show 1<=m; lia),(by show m<=n; lia),hq,hs,he⟩
   ·rw[decide_eq_false d]; dsimp only; rw[if_neg Bool.false_ne_true]
    have e0:kf key p m=kf key p (m - 1):=by unfold kf; lia
    refine zp h0 f p (m + 1) (q + 1) hp (by lia) (by lia) (dn (fun _ _=>rfl) rfl (by lia)) (fun a h1 h2=>?_)
    have e1:m + 1 - 1=m:=by lia
    rw[e1]
    by_cases O7:a=m
    ·rw[O7]
    ·rw[e0]; exact he a (by lia) (by lia)
theorem Fc (h0:0 < n){p:Array Nat}{m:Nat}(hp:rg n p)(h1:1<=m)(hm:m<=n)(hs:Jp key p m):kb key n (fun r=>rg n r.2/\1<=r.1/\r.1<=n/\lN key r.2 r.1) (kas_tail3 m n p):=by
 unfold kas_tail3
 have hz:m<=p.size:=by rw[hp.size]; lia
 have hu:lN key (kas_rev p 0 m) m:=by
  intro a b Iv hb
  rw[qm hz,qm hz,aY ⟨bq _,by lia⟩,aY ⟨bq _,hb⟩]
  exact hs _ _ (by lia) (by lia)
 refine jc _ (ij (fun r ⟨q1,q2,q3,_⟩=>?_) _ (Jq (hp.rev 0 m) h0 (n - m) m h1 hu))
 exact⟨hp.rev 0 m,by lia,by lia,q3⟩
theorem vk (h0:0 < n){p:Array Nat}{m:Nat}(hp:rg n p)(hm:m + 1<=n)(hs:Jp key p (m + 1)):kb key n (fun r=>rg n r.2/\1<=r.1/\r.1<=n/\lN key r.2 r.1) (kas_descPart m n p):=by
 unfold kas_descPart
 refine jc _ (ij (fun r ⟨q1,q2,q3,q4,q5,q6⟩=>?_) _ (zp h0 (n - (m + 1)) p (m + 1) 0 hp (by lia) (by lia) hs fun a h1 h2=>by
  have e:a=m + 1 - 1:=by lia
  rw[e]))
 by_cases hq:r.2.2 > 0
 ·rw[aY hq]
  have hz:r.2.1<=r.1.size:=by rw[q1.size]; lia
  refine Fc h0 (q1.rev _ _) q2 q3 fun a b Iv hb=>?_
  have hr: ∀a,a < r.2.1->kf key (kas_rev r.1 (r.2.1 - (r.2.2 + 1)) r.2.1) a=kf key r.1 a:=fun a ha=>by
   rw[qm hz]
   split
   ·rename_i h
    rw[q6 a h.1 h.2,q6 _ (by lia) (by lia)]
   ·rfl
  rw[hr a (by lia),hr b hb]
  exact q5 a b Iv hb
 ·rw[aN hq]
  exact Fc h0 q1 q2 q3 q5
theorem L9 (h0:0 < n){p:Array Nat}(hp:rg n p):kb key n (fun r=>rg n r.2/\1<=r.1/\r.1<=n/\lN key r.2 r.1) (kas_count n p):=by
 unfold kas_count
 have hs1:lN key p 1:=fun a b Iv hb=>by
  have e:a=b:=by lia
  rw[e]; exact fX _
 refine jc _ (ij (fun m ⟨q1,q2,q3,q4⟩=>?_) _ (Jq hp h0 (n - 1) 1 (aD _) hs1))
 by_cases SV:(m == n)=true
 ·rw[aY SV]
  exact⟨hp,q1,by lia,q3⟩
 ·rw[aN SV]
  have jE:m≠n:=fun z=>SV (by simp[z])
  have iI:kf key p m < kf key p (m - 1):=by
   rcases q4 with q4|q4
   ·exact absurd q4 (by lia)
   ·exact q4
  by_cases hm1:m > 1
  ·rw[aY hm1]
   refine⟨hp.lt h0 _,hp.lt h0 _,?_⟩
   by_cases c:key (p.getD 0 0) < key (p.getD (m - 1) 0)
   ·rw[decide_eq_true c]; dsimp only; rw[if_pos rfl]
    exact⟨hp,q1,by lia,q3⟩
   ·rw[decide_eq_false c]; dsimp only; rw[if_neg Bool.false_ne_true]
    have hz:m<=p.size:=by rw[hp.size]; lia
    have heq: ∀a,a < m->kf key p a=kf key p (m - 1):=fun a ha=>by
     have h1:=q3 0 a (bq _) ha
     have h2:=q3 a (m - 1) (by lia) (by lia)
     have h3:kf key p (m - 1)<=kf key p 0:=by unfold kf; lia
     lia
    have hr: ∀a,a < m->kf key (kas_rev p 0 m) a=kf key p (m - 1):=fun a ha=>by
     rw[qm hz,aY ⟨bq _,ha⟩]
     exact heq _ (by lia)
    refine vk h0 (hp.rev _ _) (by lia) fun a b Iv hb=>?_
    by_cases L8:b < m
    ·rw[hr a (by lia),hr b L8]; exact fX _
    ·have e:b=m:=by lia
     subst e
     by_cases O7:a=b
     ·rw[O7]; exact fX _
     ·rw[hr a (by lia),qm hz,aN (by lia)]
      lia
  ·rw[aN hm1]
   have e:m=1:=by lia
   subst e
   refine vk h0 hp (by lia) fun a b Iv hb=>?_
   by_cases XJ:a=b
   ·rw[XJ]; exact fX _
   ·have e1:a=0:=by lia
    have e2:b=1:=by lia
    subst e1 e2
    have e3:(1:Nat) - 1=0:=rfl
    rw[e3] at iI
    lia
theorem zq (h0:0 < n){p:Array Nat}{k:Nat}(hp:rg n p)(hs:lN key p k): ∀(f l r:Nat),l<=r->r<=k->r - l<=f->(∀i,i < l->kf key p i<=kf key p k)->(∀i,r<=i->i < k->kf key p k < kf key p i)->
  kb key n (fun m=>m<=k/\(∀i,i < m->kf key p i<=kf key p k)/\ ∀i,m<=i->i < k->kf key p k < kf key p i) (kas_place p k f l r)
 |0,l,r,hlr,VW,hf,h1,h2=>by
  have e:l=r:=by lia
  subst e
  exact⟨VW,h1,h2⟩
 |f + 1,l,r,hlr,VW,hf,h1,h2=>by
  unfold kas_place
  by_cases O8:l≥r
  ·rw[aY O8]
   have e:l=r:=by lia
   subst e
   exact⟨VW,h1,h2⟩
  ·rw[aN O8]
   refine⟨hp.lt h0 _,hp.lt h0 _,?_⟩
   by_cases c:key (p.getD k 0) < key (p.getD ((l + r) / 2) 0)
   ·rw[decide_eq_true c]; dsimp only; rw[if_pos rfl]
    refine zq h0 hp hs f l ((l + r) / 2) (by lia) (by lia) (by lia) h1 fun i hi XM=>?_
    have:=hs ((l + r) / 2) i hi XM
    have c':kf key p k < kf key p ((l + r) / 2):=c
    lia
   ·rw[decide_eq_false c]; dsimp only; rw[if_neg Bool.false_ne_true]
    refine zq h0 hp hs f ((l + r) / 2 + 1) r (by lia) VW (by lia) (fun i hi=>?_) h2
    have:=hs i ((l + r) / 2) (by lia) (by lia)
    have c': ¬ kf key p k < kf key p ((l + r) / 2):=c
    lia
theorem NK (h0:0 < n): ∀(f:Nat) (p:Array Nat) (k:Nat),rg n p->k + f=n->lN key p k->kb key n (fun r=>rg n r/\lN key r n) (kas_bin f p k)
 |0,p,k,hp,hk,hs=>⟨hp,by rw[← hk]; exact hs⟩
 |f + 1,p,k,hp,hk,hs=>by
  unfold kas_bin
  refine jc _ (ij (fun l ⟨q1,q2,q3⟩=>?_) _ (zq h0 hp hs k 0 k (bq _) (aD _) (by lia) (fun i hi=>absurd hi (eA _)) fun i h1 h2=>by lia))
  have hz:k < p.size:=by rw[hp.size]; lia
  refine NK h0 f _ (k + 1) ((bubble_perm p k _).trans hp) (by lia) fun a b Iv hb=>?_
  rw[Jo hz (by lia),Jo hz (by lia)]
  have el:k - (k - l)=l:=by lia
  rw[el]
  by_cases ha:a=l
  ·rw[aY ha]
   by_cases mh:b=l
   ·rw[aY mh]; exact fX _
   ·rw[aN mh,aY ⟨by lia,by lia⟩]
    have:=q3 (b - 1) (by lia) (by lia)
    lia
  ·rw[aN ha]
   by_cases ha2:l < a/\a<=k
   ·rw[aY ha2,aN (by lia),aY ⟨by lia,by lia⟩]
    exact hs _ _ (by lia) (by lia)
   ·rw[aN ha2]
    have Rh:a < l:=by lia
    by_cases mh:b=l
    ·rw[aY mh]; exact q2 a Rh
    ·rw[aN mh]
     by_cases VT:l < b/\b<=k
     ·rw[aY VT]
      exact hs _ _ (by lia) (by lia)
     ·rw[aN VT]
      exact hs _ _ Iv (by lia)
theorem Jr (h0:0 < n):kb key n (fun r=>rg n r/\lN key r n) (kas_sort n):=by
 unfold kas_sort
 refine jc _ (ij (fun r ⟨q1,q2,q3,q4⟩=>?_) _ (L9 h0 (Lw _)))
 by_cases h:r.1 < n
 ·rw[aY h]
  have e:max r.1 1=r.1:=by lia
  rw[e]
  exact NK h0 _ _ _ q1 (by lia) q4
 ·rw[aN h]
  have e:r.1=n:=by lia
  rw[e] at q4
  exact⟨q1,q4⟩
end
section
variable {prog:Program}{w:World}{A:Around}{E:Value->Shared->Prop}{s:Shared}
theorem zr {a:Addr}{vs:List Value}{n:Nat}{P:PySem.Fin->Shared->Prop}{key:Nat->Int}{κ:SortKind}(ho:s.heap.get? a=some (seqObj "list" vs.toArray n))(Dl:vs.length < 64)
  (hk:2<=vs.length-> ∀(s':Shared) (Q:SortKind->Shared->Prop),(∀b o,b≠a->s.heap.get? b=some o->s'.heap.get? b=some o)->Q κ s'->wpAny (model prog w) A (keyKind' vs.toArray) Q (fun _ _=>False) s')
  (hc: ∀(s':Shared) (i j:Nat) (C:Bool->Shared->Prop),(∀b o,b≠a->s.heap.get? b=some o->s'.heap.get? b=some o)->i < vs.length->j < vs.length->C (decide (key i < key j)) s'->
   wpAny (model prog w) A (keyLt' κ (vs.getD i Value.none) (vs.getD j Value.none)) C (fun _ _=>False) s')
  (h: ∀p:Array Nat,rg vs.length p->lN key p vs.length->P (.done (.ret .none)) {s with heap:=sortedHeap s.heap a vs (p.toList.map fun i=>vs.getD i Value.none).toArray}):
  wpAny (model prog w) A (Builtin.«list.sort» ⟨[.ref a],[]⟩) P E s:=by
 rw[list_sort_plain]
 have ha:a < s.heap.objs.size:=aM ho
 have hl:sizeLine=16777216:=eU
 refine aB (listItems_at ho rfl ?_)
 refine aB (wN ho rfl ?_ (by rw[bA]; lia) (bq _))
 obtain⟨e1,GR⟩: ∃e1,(s.heap.update a (Obj.mapSeq fun _=>(#[]:Array Value))).get? a=some (seqObj "list" #[] e1):=⟨_,Nx ho (fun _=> #[])⟩
 refine aB (seqEpoch_at GR rfl ?_)
 refine aB (wpAny_newTuple ?_ (by show vs.length<=_; lia))
 refine aB (Lx ?_ (bq _))
 refine iF ?_
 have VX:(((s.heap.update a (Obj.mapSeq fun _=>(#[]:Array Value))).push (seqObj "tuple" vs.toArray 0)).push (seqObj "list" #[] 0)).get? a=some (seqObj "list" #[] e1):=by
  rw[nj _ _ _ (by rw[size_push',pY]; exact a7 (i8 ha)),nj _ _ _ (by rw[pY]; exact a7 ha)]
  exact GR
 show wpAny (model prog w) A _ P E {s with heap:=((s.heap.update a (Obj.mapSeq fun _=>(#[]:Array Value))).push (seqObj "tuple" vs.toArray 0)).push (seqObj "list" #[] 0)}
 dsimp only
 have keep: ∀b o,b≠a->s.heap.get? b=some o->(((s.heap.update a (Obj.mapSeq fun _=>(#[]:Array Value))).push (seqObj "tuple" vs.toArray 0)).push (seqObj "list" #[] 0)).get? b=some o:=fun b o hb e=>
  ay _ (ay _ ((m9 s.heap _ (wQ hb)).trans e))
 have hsz:vs.toArray.size=vs.length:=by simp
 by_cases h2:vs.toArray.size < 2
 ·rw[aY h2,aY h2]
  refine aB (bF ?_)
  rw[StateT.run_pure]
  refine aB (bF ?_)
  dsimp only
  have DX:(arrOf (SortSt.mk' general' (vs.toArray.zip vs.toArray) #[] 7 none)).map (·.2)=((List.toArray (List.range vs.length)).toList.map fun i=>vs.getD i Value.none).toArray:=by
   show(vs.toArray.zip vs.toArray).map (·.2)=_
   apply Array.toList_inj.mp
   apply List.ext_getElem?
   intro i
   simp only[Array.toList_map,Array.toList_zip,List.getElem?_map,List.getElem?_zip_eq_some,List.getElem?_range]
   by_cases hi:i < vs.length
   ·simp[hi,List.getElem?_zip_eq_some,List.zip]
   ·simp[hi]
  refine aB (seqEpoch_at VX rfl ?_)
  rw[DX]
  refine wpAny_bind (listUpdate_at VX rfl ?_ (Nat.zero_le _) (by simp; lia))
  simp only[bne_self_eq_false,Bool.false_eq_true,if_false]
  refine bF (h _ (Lw _) ?_)
  intro i j hij hj
  have:i=j:=by lia
  subst this; exact fX _
 ·rw[aN h2,aN h2]
  have SW:2<=vs.length:=by lia
  refine aB (cm (hk SW _ (fun κ' s'=>κ'=κ/\s'={s with heap:=((s.heap.update a (Obj.mapSeq fun _=>(#[]:Array Value))).push (seqObj "tuple" vs.toArray 0)).push (seqObj "list" #[] 0)}) keep ⟨rfl,rfl⟩) (fun κ' s' Le=>?_) fun _ _ x=>x.elim)
  obtain⟨rfl,rfl⟩:=Le
  refine aB (cm (kat_run (Q:=fun A6 s'=>s'={s with heap:=((s.heap.update a (Obj.mapSeq fun _=>(#[]:Array Value))).push (seqObj "tuple" vs.toArray 0)).push (seqObj "list" #[] 0)}/\ ∃p:Array Nat,p.size=vs.length/\arrOf A6=p.map (kas_item (vs.toArray.zip vs.toArray))/\failedOf A6=none/\rg vs.length p/\lN key p vs.length)
   (G:=fun p s'=>s'={s with heap:=((s.heap.update a (Obj.mapSeq fun _=>(#[]:Array Value))).push (seqObj "tuple" vs.toArray 0)).push (seqObj "list" #[] 0)}/\rg vs.length p/\lN key p vs.length)
   (κ:=κ') rfl SW Dl (fun p' A6 s' a1 a2 a3 a4=>⟨a4.1,p',a1,a2,a3,a4.2⟩) (vj (fun i j C hi hj q=>hc _ i j C keep hi hj q) (fun p q=>⟨rfl,q⟩) _ (Jr (by lia)))) ?_ fun _ _ e=>e)
  rintro⟨⟨⟩,A6⟩ s' ⟨rfl,p,hp,XN,hf,q1,q2⟩
  dsimp only
  have DX:=kat_snds (ks:=vs) (vs:=vs) rfl XN
  rw[DX]
  refine aB (seqEpoch_at VX rfl ?_)
  refine aB (wN VX rfl ?_ (bq _) (by rw[bA,ae,oZ,hp]; lia))
  rw[hf]
  simp only[bne_self_eq_false,Bool.false_eq_true,if_false]
  exact bF (h p q1 q2)
theorem GS {l:Addr}{vs:List Value}{Q:Value->Shared->Prop}{key:Nat->Int}{κ:SortKind}(hl:s.heap.IsList l vs.toArray)(Dl:vs.length < 64)
  (hk:2<=vs.length-> ∀(s':Shared) (Q:SortKind->Shared->Prop),(∀b o,s.heap.get? b=some o->s'.heap.get? b=some o)->Q κ s'->wpAny (model prog w) A.in1.in1 (keyKind' vs.toArray) Q (fun _ _=>False) s')
  (hc: ∀(s':Shared) (i j:Nat) (C:Bool->Shared->Prop),(∀b o,s.heap.get? b=some o->s'.heap.get? b=some o)->i < vs.length->j < vs.length->C (decide (key i < key j)) s'->
   wpAny (model prog w) A.in1.in1 (keyLt' κ (vs.getD i Value.none) (vs.getD j Value.none)) C (fun _ _=>False) s')
  (h: ∀p:Array Nat,rg vs.length p->lN key p vs.length->Q (.ref (s.heap.objs.size + 1)) {s with heap:=sortedAll s.heap vs (p.toList.map fun i=>vs.getD i Value.none).toArray}):
  wpAny (model prog w) A (call (.builtin "sorted") [.ref l]) Q E s:=by
 have VY:sizeLine=16777216:=eU
 refine Calls.call_function_entry kind_sorted plain_sorted entry_sorted (args_sorted1 _) ?_
 unfold Builtin.«sorted»
 refine aB (m:=checkCount "sorted" 1 1 _) (bF ?_)
 refine aB (collect_list hl ?_ (by lia))
 refine aB (Lx ?_ (by show vs.length<=_; lia))
 have hsz:((s.heap.push (seqObj "list" #[] 0)).update s.heap.objs.size (Obj.mapSeq (· ++ vs.toArray))).objs.size=s.heap.objs.size + 1:=by
  rw[pY,size_push']
 have Oz:(((s.heap.push (seqObj "list" #[] 0)).update s.heap.objs.size (Obj.mapSeq (· ++ vs.toArray))).push (seqObj "list" vs.toArray 0)).get? (s.heap.objs.size + 1)=some (seqObj "list" vs.toArray 0):=by
  rw[← hsz]; exact bR _ rfl
 have keep: ∀b o,s.heap.get? b=some o->b≠s.heap.objs.size + 1/\(((s.heap.push (seqObj "list" #[] 0)).update s.heap.objs.size (Obj.mapSeq (· ++ vs.toArray))).push (seqObj "list" vs.toArray 0)).get? b=some o:=fun b o q=>by
  have iI:b < s.heap.objs.size:=aM q
  refine⟨a7 (i8 iI),?_⟩
  rw[nj _ _ _ (by rw[hsz]; exact a7 (i8 iI)),ID _ _ _ _ (a7 iI),nj _ _ _ (a7 iI)]
  exact q
 show wpAny _ _ _ _ _ {s with heap:=((s.heap.push (seqObj "list" #[] 0)).update s.heap.objs.size (Obj.mapSeq (· ++ vs.toArray))).push (seqObj "list" vs.toArray 0)}
 rw[hsz]
 refine aB (iF (wpAny_call_entry slot_list_sort ⟨_,Oz,rfl⟩ entry_list_sort (zr (key:=key) (κ:=κ) Oz Dl
  (fun h2 s' Q' kp q=>hk h2 s' Q' (fun b o e=>kp b o (keep b o e).1 (keep b o e).2) q) (fun s' i j C kp hi hj q=>hc s' i j C (fun b o e=>kp b o (keep b o e).1 (keep b o e).2) hi hj q) fun p a1 a2=>⟨_,rfl,?_⟩) (args_list_sort _)))
 exact bF ⟨_,rfl,h p a1 a2⟩
theorem nK {b:Bool}{Q:Bool->Shared->Prop}: ∀{ts us:List Int} {vs ws:List Value} (i:Nat),IntsAre vs ts->IntsAre ws us->Q (HT.lexLt ts us) s->
  KatLex prog w A b (decide (ts.length < us.length)) Q (vs.zip ws) i s
 |_,_,_,_,i,.nil,.nil,q=>q
 |_,_,_,_,i,.nil,.cons _ _ _,q=>by
  show Q (decide _) s
  rw[decide_eq_true (by simp)]; exact q
 |_,_,_,_,i,.cons _ _ _,.nil,q=>by
  show Q (decide _) s
  rw[decide_eq_false (by simp)]; exact q
 |_,_,_,_,i,.cons x t r,.cons y u r',q=>by
  refine kat_cons ?_
  have he:=SeqAt.EqAt.int_int (A:=A) (s:=s) x t y u
  refine he prog w _ _ ?_
  rw[HT.qf] at q
  by_cases e:x=y
  ·rw[aY e] at q
   have eb:(x == y)=true:=by simp[e]
   rw[eb]
   refine kat_yes ?_
   have hd: ∀(a b:Nat),decide (a + 1 < b + 1)=decide (a < b):=fun a b=>by
    rw[Bool.eq_iff_iff]; simp
   rw[bO,bO,hd]
   exact nK (i + 1) r r' q
  ·rw[aN e] at q
   have eb:(x == y)=false:=by simpa using e
   rw[eb]
   refine kat_no ?_
   cases hb:(b && i == 0) with
   |true=>exact oneLt_int q
   |false=>exact kat_one _ _ (PyProof.Rows.lt_int q)
end
def ix (H:Hp)(ts:List (List Int))(xs:List V):Prop:=Paired (fun(t:List Int) v=> ∃p,v= .ref p/\H p=some (.tup (t.map V.int))) ts xs
theorem ix.mono {H H':Hp}{ts:List (List Int)}{xs:List V}(h:ix H ts xs)(k: ∀b xs,H b=some (.tup xs)->H' b=some (.tup xs)):ix H' ts xs:=
 Paired.g8 h fun _ _ ⟨p,e,q⟩=>⟨p,e,k _ _ q⟩
theorem ix.get {H:Hp}{ts:List (List Int)}{xs:List V}(h:ix H ts xs){i:Nat}(hi:i < ts.length): ∃p,xs.getD i .eF= .ref p/\H p=some (.tup ((ts.getD i []).map V.int)):=by
 have g:ts[i]? =some ts[i]:=af hi
 obtain⟨v,hv,p,e,q⟩:=bK h g
 refine⟨p,?_,?_⟩
 ·rw[ak,hv,e]; rfl
 ·rw[ak,g]; exact q
theorem jV {xs:List V}{us:List Value}(r:Vals xs us)(i:Nat):RelV (xs.getD i .eF) (us.getD i .none):=by
 by_cases hi:i < xs.length
 ·have g:xs[i]? =some xs[i]:=af hi
  obtain⟨u,h1,h2⟩:=r.get g
  rw[ak,ak,g,h1]
  exact h2
 ·have h1:xs[i]? =none:=ma (by lia)
  rw[ak,ak,h1,r.none_of h1]
  rfl
theorem sI {xs:List V}{us:List Value}(r:Vals xs us): ∀l:List Nat,Vals (l.map fun i=>xs.getD i .eF) (l.map fun i=>us.getD i .none)
 |[]=> .nil
 |i :: l=> .cons (jV r i) (sI r l)
theorem yy {H:Hp}{ts:List (List Int)}{xs:List V}(h:ix H ts xs): ∀l:List Nat,(∀i∈l,i < ts.length)->ix H (l.map fun i=>ts.getD i []) (l.map fun i=>xs.getD i .eF)
 |[],_=> .nil
 |i :: l,hl=> .cons (by
   obtain⟨p,e,q⟩:=h.get (hl i aS)
   exact⟨p,e,q⟩) (yy h l fun j hj=>hl j (aI _ hj))
theorem range_getD {α:Type}(ts:List α)(d:α):(List.range ts.length).map (fun i=>ts.getD i d)=ts:=by
 apply List.ext_getElem?
 intro i
 rw[aC]
 by_cases hi:i < ts.length
 ·rw[List.getElem?_range hi,oY,ak,af hi]; rfl
 ·rw[List.getElem?_eq_none (by simpa using hi),List.getElem?_eq_none (by lia)]; rfl
theorem rg.list {n:Nat}{p:Array Nat}(h:rg n p):p.toList.Perm (List.range n):=by
 have:=Array.perm_iff_toList_perm.mp h
 simpa using this
theorem tL {p:Array Nat}{n:Nat}{key:Nat->Int}(hp:p.size=n)(h:lN key p n):p.toList.Pairwise (fun i j=>key i<=key j):=by
 rw[List.pairwise_iff_getElem]
 intro i j hi hj hij
 have zt:i < p.size:=by simpa using hi
 have VZ:j < p.size:=by simpa using hj
 have:=h i j (by lia) (by lia)
 unfold kf at this
 have e1:p.getD i 0=p.toList[i]:=by simp[Array.getD,zt]
 have e2:p.getD j 0=p.toList[j]:=by simp[Array.getD,VZ]
 rw[e1,e2] at this
 exact this
section
variable {X:Cx}
theorem Inv.tupI {pins:List (Addr×Obj)}{σ:St}{H:Hp}{s:Shared}(I:Inv X pins σ H s){p:Addr}{t:List Int}(h:H p=some (.tup (t.map V.int))):
  ∃(o:Obj) (b9:List Value) (n:Nat),s.heap.get? p=some o/\o.cls= .type "tuple"/\o.data= .seq b9.toArray n/\IntsAre b9 t:=by
 obtain⟨_,b9,rv,o,ho,hc,n,hd⟩:=(show dH X.prog X.w H s.heap p (.tup (t.map V.int)) from I.cE p _ h)
 exact⟨o,b9,n,ho,hc,hd,intsAre_of rv⟩
theorem sJ {pins:List (Addr×Obj)}{σ:St}{H:Hp}{s:Shared}(I:Inv X pins σ H s){h':Heap}(kp: ∀b o,s.heap.get? b=some o->h'.get? b=some o): ∀{ts:List (List Int)} {xs:List V} {us:List Value},ix H ts xs->Vals xs us->(∀t∈ts,t≠[])->
  ∃fs:List Value,KatTups h' us fs/\fs.length=us.length/\ ∀v∈fs,∃n t,v= .int n t
 |[],_,us,.nil,r,_=>by
  have e:us=[]:=r.zero
  subst e
  exact⟨[],trivial,rfl,fun v hv=>by cases hv⟩
 |t :: ts,_,_,.cons ⟨p,e,q⟩ rest,.cons r1 r2,jE=>by
  subst e
  obtain⟨fs,h1,h2,h3⟩:=sJ I kp rest r2 fun t ht=>jE t (aI _ ht)
  obtain⟨o,b9,n,ho,hc,hd,hi⟩:=I.tupI q
  have ht:t≠[]:=jE t aS
  cases hi with
  |nil=>exact absurd rfl ht
  |cons z tk zt=>
   cases r1
   refine⟨.int z tk :: fs,⟨⟨p,o,_,n,rfl,kp _ _ ho,hc,hd,by simp⟩,h1⟩,by rw[List.length_cons,List.length_cons,h2],fun v hv=>?_⟩
   rcases au.mp hv with rfl|hv
   ·exact⟨z,tk,rfl⟩
   ·exact h3 v hv
def O9 (K:Frag):List V->Hp->VK->Prop:=fun vs H Q=> ∃a xs ts,∃key:List Int->Int,vs=[V.ref a]/\bG K H a xs/\xs.length < 64/\ix H ts xs/\(∀t∈ts,t≠[])/\(∀t∈ts,∀u∈ts,HT.lexLt t u=decide (key t < key u))/\
 ∀D ys us,H D=none->ix H us ys->us.Perm ts->us.Pairwise (fun t u=>key t<=key u)->Q (V.ref D) (upd H D (.lst ys))
theorem zu:iZ X (.builtin "sorted") (O9 X.K):=by
 intro pins s σ H xs us Q I r h
 obtain⟨a,xs,ts,key,rfl,hq,Dl,hT,jE,IQ,q⟩:=h
 obtain⟨u,rfl,ru⟩:=vals1 r
 cases ru
 obtain⟨b9,rv,pl,hz⟩:=I.list hq
 have hl:=rv.length
 have iI:ts.length=xs.length:=hT.length
 refine GS (κ:=tuples' true) (key:=fun i=>key (ts.getD i [])) pl.isList (by lia) (fun h2 s' Q' kp q'=>?_) (fun s' i j C kp hi hj q'=>?_) fun p hp hup=>?_
 ·obtain⟨fs,f1,f2,f3⟩:=sJ I kp hT rv jE
  refine kat_kind (T:= .type "int") f1 (by lia) (fun v hv=>?_) rfl q'
  obtain⟨n,t,rfl⟩:=f3 v hv
  exact Looks.of_pure rfl
 ·obtain⟨p1,e1,g1⟩:=hT.get (i:=i) (by lia)
  obtain⟨p2,e2,g2⟩:=hT.get (i:=j) (by lia)
  have w1:=jV rv i
  have w2:=jV rv j
  rw[e1] at w1
  rw[e2] at w2
  have w1':b9.getD i Value.none= .ref p1:=w1
  have w2':b9.getD j Value.none= .ref p2:=w2
  rw[w1',w2']
  obtain⟨o1,XO,n1,GR,hc1,mj,SX⟩:=I.tupI g1
  obtain⟨o2,GC,n2,Ri,Ma,hd2,SY⟩:=I.tupI g2
  refine kat_lt (kp _ _ GR) mj (kp _ _ Ri) hd2 ?_
  have l1:=SX.length
  have l2:=SY.length
  have m1:ts.getD i []∈ts:=by rw[ak,af (show i < ts.length by lia)]; exact bH _
  have m2:ts.getD j []∈ts:=by rw[ak,af (show j < ts.length by lia)]; exact bH _
  have k:=nK (prog:=X.prog) (w:=X.w) (A:=X.A.in1.in1) (b:=true) (Q:=C) (s:=s') 0 SX SY (by rw[IQ _ m1 _ m2]; exact q')
  rw[bA,bA,l1,l2]
  exact k
 ·have ni:=hp.size
  have hD:H (s.heap.objs.size + 1)=none:=I.cE.fresh (c8 _)
  obtain⟨e,he⟩:=sortedAll_at s.heap b9 (p.toList.map fun i=>b9.getD i Value.none).toArray
  refine⟨.ref (s.heap.objs.size + 1),_,I.laid (t':=s.toks) (a:=s.heap.objs.size + 1) (o:= .lst (p.toList.map fun i=>xs.getD i .eF)) (fun b o q=>sortedAll_old q) (c8 _) ⟨?_,_,e,sI rv p.toList,he⟩,rfl,q _ _ (p.toList.map fun i=>ts.getD i []) hD ?_ ?_ ?_⟩
  ·rw[ae,oZ,ni]
   exact aV (iV hl.symm) hz
  ·refine yy hT p.toList fun i hi=>?_
   have:=(hp.list.mem_iff).mp hi
   rw[dO] at this
   lia
  ·have e1:=hp.list.map (fun i=>ts.getD i [])
   rw[← hl,← iI,range_getD] at e1
   exact e1
  ·rw[sq]
   exact tL ni hup
theorem tM (ns:List Int): ∀n,n<=ns.length->preSum (fun i=>ns.getD i 0) n=(ns.take n).sum
 |0,_=>by simp[preSum]
 |n + 1,h=>by
  rw[preSum,tM ns n (by lia),A5,Ly,af (by lia),ak,af (by lia)]
  simp
def S4 (K:Frag):List V->Hp->VK->Prop:=fun xs H Q=> ∃(p:Addr) (ns:List Int),xs=[V.ref p]/\bG K H p (ns.map V.int)/\Q (.int ns.sum) H
theorem sM (hc:X.calm=true):iZ X (.builtin "sum") (S4 X.K):=by
 intro pins s σ H xs us Q I r h
 obtain⟨p,ns,rfl,hq,q⟩:=h
 obtain⟨u,rfl,ru⟩:=vals1 r
 cases ru
 obtain⟨b9,rv,pl,hz⟩:=I.list hq
 have hI:IntsAre b9 ns:=intsAre_of rv
 have hl:=hI.length
 have hh:=I.ok.hd hc
 have hT:s.heap.IsList p b9.toArray:=pl.isList
 have hp:p < s.heap.objs.size:=by
  obtain⟨o,ho,_⟩:=hT
  exact aM ho
 have XQ:p≠s.heap.objs.size:=a7 hp
 refine call_sum_walkG (wpAny_pyIter_list hT ?_)
 refine⟨_,[_,p],[_],_,_,_,fun i=>ns.getD i 0,rfl,Walks.list (A:=X.A.in1) hh _ p XQ b9.toArray,
  ⟨⟨_,Heap.get?_push_size _ rfl,rfl,rfl⟩,hT.push _⟩,fun c hc=>?_,(fun i v hv=>IntsAre.int_at hI i v (by simpa using hv)),fun h' tk t' hk=>?_⟩
 ·show c < (s.heap.push _).objs.size
  rw[oH]
  rcases au.mp hc with rfl|hc
  ·exact gr _
  ·rcases au.mp hc with rfl|hc
   ·exact i8 hp
   ·cases hc
 ·refine⟨.int _,H,I.kept (t':=tk) (fun b o e=>hk b o (fun hm=>?_) (ay _ e)),⟨_,rfl⟩,?_⟩
  ·rw[ao] at hm
   exact absurd hm (a7 (aM e))
  ·rw[bA,hl,tM ns ns.length (aD _),aZ]
   exact q
theorem yz (a:Array Nat): ∀(n:Nat) (acc:Array Nat),((List.replicate n a).foldl (· ++ ·) acc).size=acc.size + n * a.size
 |0,acc=>by simp
 |n + 1,acc=>by
  rw[dB,cB,yz a n,Array.size_append,wU]
  lia
def S5:R2:=fun x y H Q=> ∃(z:Str) (n:Int),x= .str z/\y= .int n/\z.length=1/\0<=n/\n<=1000/\ ∀z':Str,z'.length<=1000->Q (.str z') H
theorem zv:o6 X (binaryOp .Mult) S5:=by
 intro pins s σ H x y v u Q I rx ry h
 obtain⟨z,n,rfl,rfl,hz,h0,h1,q⟩:=h
 obtain⟨t,rfl⟩:=rx
 obtain⟨t',rfl⟩:=ry
 refine P.mul_str ?_ (fun _ _=>?_) (fun _ _=>?_) ?_
 ·rw[bL (by lia),bL (by lia)]; rfl
 ·rw[hz]
  intro Mb
  have:(2 ^ 63 - 1:Int) / n≥1:=by
   have hn:0 < n:=by
    by_cases c:0 < n
    ·exact c
    ·have e:n=0:=by lia
     subst e
     simp at Mb
     lia
   exact Int.le_ediv_of_mul_le hn (by lia)
  lia
 ·rw[hz]
  unfold Builtin.Str.tooLong
  simp
  rw[eU]
  lia
 ·by_cases c:n < 1
  ·rw[aY c]
   exact⟨by decide,⟨.str Str.empty,H,I.tok _,⟨_,rfl⟩,q _ (by show 0<=1000; lia)⟩⟩
  ·rw[aN c]
   by_cases c2:(n == 1 || z.length == 0)=true
   ·rw[aY c2]
    exact⟨.str z,H,I,⟨_,rfl⟩,q _ (by lia)⟩
   ·rw[aN c2]
    have hsz:((List.replicate n.toNat z.cps).foldl (· ++ ·) #[]).size<=1000:=by
     rw[yz]
     have:z.cps.size=1:=hz
     rw[this]
     simp
     lia
    refine⟨?_,⟨.str _,H,I.tok _,⟨_,rfl⟩,q _ hsz⟩⟩
    show _<=_
    refine aV hsz ?_
    rw[eU]; lia
end
inductive bg where
 |dP (aH:Str) (day A7 dS:Int)
 |pF (aH:Str) (day dS:Int)
 |note (b day dS:Int)
 |set (c b dS:Int)
 |bU (aH:Str)
 |iC (n:Int)
 |ask (bD:Bool) (aH:Str) (day:Int)
 |il (aH:Str) (day:Int) (dj:List Int)
structure Rw where
 aH:Str
 a:Int
 b:Int
 c:Int
 d:Int
instance:Inhabited Rw:=⟨⟨"",0,0,0,0⟩⟩
structure Bk where
 aE:List Rw
 credits:List Rw
 made:List (Nat×Nat×Int)
def Bk.new:Bk:=⟨[],[],[]⟩
def Bk.cr (S:Bk)(c:Nat):Rw:=S.credits.getD c default
def Bk.bl (S:Bk)(b:Nat):Rw:=S.aE.getD b default
def Bk.df (S:Bk)(c b:Nat):Bool:=decide ((S.cr c).aH=(S.bl b).aH) && (decide ((S.cr c).c= -1) || decide ((S.cr c).c=(b:Int)))
def Rw.less (r:Rw)(x:Int):Rw:={r with d:=r.d - x}
def Bk.put (S:Bk)(c b:Nat)(x:Int):Bk:=⟨S.aE.set b ((S.bl b).less x),S.credits.set c ((S.cr c).less x),S.made ++ [(c,b,x)]⟩
def eW (a b:Int):Int:=if b < a then b else a
def uk (x:Int×Nat):Int:=x.1 * 1000 + (x.2:Int)
def ins (x:Int×Nat):List (Int×Nat)->List (Int×Nat)
 |[]=>[x]
 |y :: l=>if uk x<=uk y then x :: y :: l else y :: ins x l
def fO:List (Int×Nat)->List (Int×Nat)
 |[]=>[]
 |x :: l=>ins x (fO l)
theorem BD (x y:Int×Nat)(l:List (Int×Nat)):ins x (y :: l)=if uk x<=uk y then x :: y :: l else y :: ins x l:=rfl
theorem vm (x:Int×Nat): ∀l,(ins x l).Perm (x :: l)
 |[]=>Ol _
 |y :: l=>by
  unfold ins
  split
  ·exact Ol _
  ·exact(List.Perm.cons y (vm x l)).trans (List.Perm.swap x y l)
theorem dE: ∀l,(fO l).Perm l
 |[]=>Ol _
 |x :: l=>(vm x (fO l)).trans (List.Perm.cons x (dE l))
theorem Js (x:Int×Nat): ∀l,l.Pairwise (fun a b=>uk a<=uk b)->(ins x l).Pairwise (fun a b=>uk a<=uk b)
 |[],_=>List.pairwise_singleton _ _
 |y :: l,h=>by
  rw[fB] at h
  unfold ins
  split
  ·rename_i c
   rw[fB]
   refine⟨fun z hz=>?_,fB.mpr h⟩
   rcases au.mp hz with rfl|hz
   ·exact c
   ·exact md c (h.1 z hz)
  ·rename_i c
   rw[fB]
   refine⟨fun z hz=>?_,Js x l h.2⟩
   rcases au.mp ((vm x l).mem_iff.mp hz) with rfl|hz
   ·lia
   ·exact h.1 z hz
theorem vn: ∀l,(fO l).Pairwise (fun a b=>uk a<=uk b)
 |[]=>List.Pairwise.nil
 |x :: l=>Js x _ (vn l)
theorem GU (x:Int×Nat): ∀l,(∀y∈l,uk x<=uk y)->ins x l=x :: l
 |[],_=>rfl
 |y :: l,h=>by
  unfold ins
  rw[aY (h y aS)]
theorem vo (p:Int×Nat->Bool)(x:Int×Nat): ∀l,l.Pairwise (fun a b=>uk a<=uk b)->(ins x l).filter p=if p x then ins x (l.filter p) else l.filter p
 |[],_=>by
  unfold ins
  cases h:p x <;> simp[h,ins]
 |y :: l,hs=>by
  rw[fB] at hs
  rw[BD]
  by_cases c:uk x<=uk y
  ·rw[aY c]
   cases h:p x
   ·rw[List.filter_cons_of_neg (by simp[h])]
    simp
   ·rw[cQ h]
    simp only[if_true]
    rw[GU x]
    intro z hz
    rcases au.mp (en.mp hz).1 with rfl|hz'
    ·exact c
    ·exact md c (hs.1 z hz')
  ·rw[aN c]
   have ih:=vo p x l hs.2
   cases hy:p y
   ·rw[List.filter_cons_of_neg (by simp[hy]),ih,List.filter_cons_of_neg (by simp[hy])]
   ·rw[cQ hy,ih,cQ hy]
    cases h:p x
    ·simp
    ·simp only[if_true]
     rw[BD,aN c]
theorem mm (p:Int×Nat->Bool): ∀l,fO (l.filter p)=(fO l).filter p
 |[]=>rfl
 |x :: l=>by
  show _ =(ins x (fO l)).filter p
  rw[vo p x _ (vn l),← mm p l]
  cases h:p x
  ·rw[List.filter_cons_of_neg (by simp[h])]
   simp
  ·rw[cQ h]
   simp[fO]
def gF (rows:List Rw)(aH:Str)(key:Rw->Int):List (Int×Nat):=((List.range rows.length).filter fun k=>decide ((rows.getD k default).aH=aH)).map fun k=>(key (rows.getD k default),k)
def inOrder (rows:List Rw)(aH:Str)(key:Rw->Int):List Nat:=(fO (gF rows aH key)).map (·.2)
def vp (rows:List Rw)(aH:Str)(key:Rw->Int):List (Int×Nat):=
 ((List.range rows.length).filter fun k=>decide ((rows.getD k default).aH=aH) && decide (0 < (rows.getD k default).d)).map fun k=>(key (rows.getD k default),k)
def inTurn (rows:List Rw)(aH:Str)(key:Rw->Int):List Nat:=(fO (vp rows aH key)).map (·.2)
theorem BE (rows:List Rw)(aH:Str)(key:Rw->Int):vp rows aH key=(gF rows aH key).filter fun x=>decide (0 < (rows.getD x.2 default).d):=by
 unfold vp gF
 rw[Lz,qJ]
 congr 1
 apply i9
 intro k _
 simp[Bool.and_comm]
theorem tN {α β:Type}(f:α->β)(p:β->Bool)(l:List α):(l.filter fun x=>p (f x)).map f=(l.map f).filter p:=by
 rw[Lz]; rfl
theorem gS (rows:List Rw)(aH:Str)(key:Rw->Int):inTurn rows aH key=(inOrder rows aH key).filter fun k=>decide (0 < (rows.getD k default).d):=by
 unfold inTurn inOrder
 rw[BE,mm]
 exact tN (fun x:Int×Nat=>x.2) (fun k=>decide (0 < (rows.getD k default).d)) _
theorem jq {rows:List Rw}{aH:Str}{key:Rw->Int}{k:Nat}:k∈inOrder rows aH key↔k < rows.length/\(rows.getD k default).aH=aH:=by
 unfold inOrder gF
 rw[bJ]
 constructor
 ·rintro⟨x,hx,rfl⟩
  obtain⟨j,hj,rfl⟩:=bJ.mp ((dE _).mem_iff.mp hx)
  simpa using hj
 ·rintro⟨h1,h2⟩
  refine⟨(key (rows.getD k default),k),(dE _).mem_iff.mpr (bJ.mpr ⟨k,?_,rfl⟩),rfl⟩
  exact List.mem_filter.mpr ⟨List.mem_range.mpr h1,by simpa using h2⟩
theorem bP {rows:List Rw}{aH:Str}{key:Rw->Int}{k:Nat}:k∈inTurn rows aH key↔k < rows.length/\(rows.getD k default).aH=aH/\0 < (rows.getD k default).d:=by
 rw[gS,en,jq]
 simp[and_assoc]
theorem xh (rows:List Rw)(aH:Str)(key:Rw->Int):(inOrder rows aH key).Nodup:=by
 have h:((fO (gF rows aH key)).map (·.2)).Perm ((gF rows aH key).map (·.2)):=(dE _).map _
 refine h.nodup_iff.mpr ?_
 unfold gF
 rw[fq]
 have e:((fun x:Int×Nat=>x.2) ∘ fun k=>(key (rows.getD k default),k))=id:=rfl
 rw[e,LA]
 exact ux.filter _
theorem gT (rows:List Rw)(aH:Str)(key:Rw->Int):(inTurn rows aH key).Nodup:=by
 rw[gS]
 exact(xh rows aH key).filter _
def o7 (r r':Rw):Prop:=r'.aH=r.aH/\r'.a=r.a/\r'.b=r.b/\r'.c=r.c
theorem o7.refl (r:Rw):o7 r r:=⟨rfl,rfl,rfl,rfl⟩
theorem o7.trans {r s t:Rw}(h:o7 r s)(k:o7 s t):o7 r t:=⟨k.1.trans h.1,k.2.1.trans h.2.1,k.2.2.1.trans h.2.2.1,k.2.2.2.trans h.2.2.2⟩
theorem BF {rows iN:List Rw}{aH:Str}{key:Rw->Int}(hk: ∀r r',o7 r r'->key r'=key r)(hl:iN.length=rows.length)(h: ∀k,o7 (rows.getD k default) (iN.getD k default)):gF iN aH key=gF rows aH key:=by
 unfold gF
 rw[hl]
 have e:(fun k=>decide ((iN.getD k default).aH=aH))=fun k=>decide ((rows.getD k default).aH=aH):=by
  funext k
  rw[(h k).1]
 rw[e]
 apply fY
 intro k _
 rw[hk _ _ (h k)]
theorem zw {rows iN:List Rw}{aH:Str}{key:Rw->Int}(hk: ∀r r',o7 r r'->key r'=key r)(hl:iN.length=rows.length)(h: ∀k,o7 (rows.getD k default) (iN.getD k default)):inOrder iN aH key=inOrder rows aH key:=by
 unfold inOrder
 rw[BF hk hl h]
theorem zx {rows iN:List Rw}{aH:Str}{key:Rw->Int}(hk: ∀r r',o7 r r'->key r'=key r)(hl:iN.length=rows.length)(h: ∀k,o7 (rows.getD k default) (iN.getD k default))(hd: ∀k,(iN.getD k default).d<=(rows.getD k default).d):
  inTurn iN aH key=(inTurn rows aH key).filter fun k=>decide (0 < (iN.getD k default).d):=by
 rw[gS,gS,zw hk hl h,qJ]
 apply i9
 intro k _
 have:=hd k
 by_cases c:0 < (iN.getD k default).d
 ·have c2:0 < (rows.getD k default).d:=by lia
  rw[aK c,aK c2]
  rfl
 ·rw[bL c]
  rfl
def bu (exact:Bool)(c:Nat)(S:Bk)(b:Nat):Bk:=
 if 0 < (S.cr c).d/\S.df c b=true/\((S.cr c).d=(S.bl b).d∨exact=false) then S.put c b (eW (S.cr c).d (S.bl b).d) else S
def bC (aH:Str)(exact:Bool)(S:Bk)(c:Nat):Bk:=(inTurn S.aE aH (·.b)).foldl (bu exact c) S
def bN (aH:Str)(S:Bk)(exact:Bool):Bk:=(inTurn S.credits aH (·.a)).foldl (bC aH exact) S
def Bk.dv (S:Bk)(aH:Str):Bk:=bN aH (bN aH S true) false
theorem BG {α:Type}{l:List α}{i k:Nat}{v d:α}(h:i < l.length):(l.set i v).getD k d=if k=i then v else l.getD k d:=by
 rw[ak,ak]
 by_cases c:k=i
 ·subst c
  rw[aY rfl,lE h]
  rfl
 ·rw[aN c,m8 (fun z=>c z.symm)]
theorem lu {S:Bk}{c b k:Nat}{x:Int}(h:b < S.aE.length):(S.put c b x).bl k=if k=b then(S.bl b).less x else S.bl k:=BG h
theorem nL {S:Bk}{c b k:Nat}{x:Int}(h:c < S.credits.length):(S.put c b x).cr k=if k=c then(S.cr c).less x else S.cr k:=BG h
def kJ (S:Bk)(l:List (Nat×Nat×Int)):Bk:=l.foldl (fun S t=>S.put t.1 t.2.1 t.2.2) S
theorem nM (S:Bk)(l m:List (Nat×Nat×Int)):kJ S (l ++ m)=kJ (kJ S l) m:=by
 unfold kJ; rw[List.foldl_append]
theorem jW (S:Bk): ∀l,(kJ S l).made=S.made ++ l
 |[]=>by simp[kJ]
 |t :: l=>by
  show(kJ (S.put t.1 t.2.1 t.2.2) l).made=_
  rw[jW _ l]
  simp[Bk.put]
structure Later (S S':Bk):Prop where
 bl:S'.aE.length=S.aE.length
 cl:S'.credits.length=S.credits.length
 b: ∀k,o7 (S.bl k) (S'.bl k)/\(S'.bl k).d<=(S.bl k).d
 c: ∀k,o7 (S.cr k) (S'.cr k)/\(S'.cr k).d<=(S.cr k).d
theorem Later.refl (S:Bk):Later S S:=⟨rfl,rfl,fun k=>⟨o7.refl _,fX _⟩,fun k=>⟨o7.refl _,fX _⟩⟩
theorem Later.trans {S T U:Bk}(h:Later S T)(k:Later T U):Later S U:=
 ⟨k.bl.trans h.bl,k.cl.trans h.cl,fun i=>⟨(h.b i).1.trans (k.b i).1,md (k.b i).2 (h.b i).2⟩,fun i=>⟨(h.c i).1.trans (k.c i).1,md (k.c i).2 (h.c i).2⟩⟩
theorem Later.put {S:Bk}{c b:Nat}{x:Int}(hb:b < S.aE.length)(hc:c < S.credits.length)(hx:0<=x):Later S (S.put c b x):=by
 refine⟨fm,fm,fun k=>?_,fun k=>?_⟩
 ·rw[lu hb]
  split
  ·rename_i e
   subst e
   exact⟨o7.refl _,by show(S.bl k).d - x<=_; lia⟩
  ·exact⟨o7.refl _,fX _⟩
 ·rw[nL hc]
  split
  ·rename_i e
   subst e
   exact⟨o7.refl _,by show(S.cr k).d - x<=_; lia⟩
  ·exact⟨o7.refl _,fX _⟩
theorem Later.df {S T:Bk}(h:Later S T)(c b:Nat):T.df c b=S.df c b:=by
 unfold Bk.df
 rw[(h.c c).1.1,(h.b b).1.1,(h.c c).1.2.2.2]
theorem Later.NL {S T:Bk}(h:Later S T)(aH:Str):inTurn T.aE aH (·.b)=(inTurn S.aE aH (·.b)).filter fun k=>decide (0 < (T.bl k).d):=
 zx (fun r r' z=>z.2.2.1) h.bl (fun k=>(h.b k).1) (fun k=>(h.b k).2)
def ip (f:Int)(ls:List Int)(row:List Bool)(tk:Nat->Bool):Option Nat:=(List.range ls.length).find? fun j=>row.getD j false && decide (ls.getD j 0=f) && !tk j
def bV (fs ls:List Int)(al:List (List Bool)):Nat->(Nat->Bool)×List (Nat×Nat×Int)
 |0=>(fun _=>false,[])
 |i + 1=>match ip (fs.getD i 0) ls (al.getD i []) (bV fs ls al i).1 with
  |none=>bV fs ls al i
  |some j=>(fun x=>x == j || (bV fs ls al i).1 x,(bV fs ls al i).2 ++ [(i,j,fs.getD i 0)])
def mq (gs ts:List Nat)(t:Nat×Nat×Int):Nat×Nat×Int:=(gs.getD t.1 0,ts.getD t.2.1 0,t.2.2)
theorem yA {α:Type}(l:List α)(d:α):(List.range l.length).map (fun j=>l.getD j d)=l:=by
 apply List.ext_getElem
 ·rw[ae,dF]
 ·intro i h1 h2
  rw[List.getElem_map,List.getElem_range,ak,af h2]
  rfl
theorem DY {α:Type}(l:List α)(d:α)(p:α->Bool):l.find? p=((List.range l.length).find? fun j=>p (l.getD j d)).map fun j=>l.getD j d:=by
 have e:l.find? p=((List.range l.length).map (fun j=>l.getD j d)).find? p:=by rw[yA]
 rw[e,List.find?_map]
 rfl
theorem ke {l:List Nat}{i:Nat}(h:i < l.length):l.getD i 0∈l:=by
 rw[ak,af h]
 exact bH _
theorem getD_map {α β:Type}(f:α->β)(l:List α)(i:Nat)(d:α)(e:β)(h:i < l.length):(l.map f).getD i e=f (l.getD i d):=by
 rw[ak,ak,aC,af h]
 rfl
theorem getD_inj {l:List Nat}(nd:l.Nodup){i j:Nat}(hi:i < l.length)(hj:j < l.length)(h:l.getD i 0=l.getD j 0):i=j:=by
 rw[ak,ak,af hi,af hj] at h
 exact(List.getElem_inj nd).mp h
theorem idle {ex:Bool}{c:Nat}: ∀{l:List Nat} {S:Bk},(S.cr c).d<=0->l.foldl (bu ex c) S=S
 |[],_,_=>rfl
 |b :: l,S,h=>by
  rw[cB]
  have e:bu ex c S b=S:=by
   unfold bu
   rw[aN (fun z=>by lia)]
  rw[e]
  exact idle h
theorem Fd {c:Nat}{S:Bk}(hc:c < S.credits.length): ∀{l:List Nat},(∀b∈l,b < S.aE.length)->0 < (S.cr c).d->l.foldl (bu true c) S=match l.find? (fun b=>S.df c b && decide ((S.bl b).d=(S.cr c).d)) with
  |none=>S
  |some b=>S.put c b (S.cr c).d
 |[],_,_=>rfl
 |b :: l,hl,h=>by
  rw[cB]
  by_cases z:(S.df c b && decide ((S.bl b).d=(S.cr c).d))=true
  ·rw[List.find?_cons_of_pos (p:=fun b=>S.df c b && decide ((S.bl b).d=(S.cr c).d)) z]
   have z':S.df c b=true/\(S.bl b).d=(S.cr c).d:=by simpa using z
   have e:bu true c S b=S.put c b (S.cr c).d:=by
    unfold bu
    rw[aY ⟨h,z'.1,.inl z'.2.symm⟩,z'.2]
    congr 1
    unfold eW
    split <;> rfl
   rw[e]
   refine idle ?_
   rw[nL hc,aY rfl]
   show(S.cr c).d - (S.cr c).d<=0
   lia
  ·rw[List.find?_cons_of_neg (p:=fun b=>S.df c b && decide ((S.bl b).d=(S.cr c).d)) z]
   have e:bu true c S b=S:=by
    unfold bu
    rw[aN]
    rintro⟨_,z1,z2⟩
    rcases z2 with z2|z2
    ·exact z (by simp[z1,z2])
    ·cases z2
   rw[e]
   exact Fd hc (fun x hx=>hl x (aI _ hx)) h
structure vq (S:Bk)(aH:Str)(gs ts:List Nat)(fs ls:List Int)(al:List (List Bool)):Prop where
 eg:gs=inTurn S.credits aH (·.a)
 et:ts=inTurn S.aE aH (·.b)
 ef:fs=gs.map fun g=>(S.cr g).d
 el:ls=ts.map fun t=>(S.bl t).d
 ea:al=gs.map fun g=>ts.map fun t=>S.df g t
section
variable {S:Bk}{aH:Str}{gs ts:List Nat}{fs ls:List Int}{al:List (List Bool)}
theorem vq.g (R:vq S aH gs ts fs ls al){i:Nat}(h:i < gs.length):gs.getD i 0 < S.credits.length/\0 < (S.cr (gs.getD i 0)).d/\fs.getD i 0=(S.cr (gs.getD i 0)).d:=by
 have m:=ke h
 rw[R.eg] at m
 obtain⟨m1,_,m3⟩:=bP.mp m
 rw[← R.eg] at m1 m3
 exact⟨m1,m3,by rw[R.ef,getD_map _ gs i 0 0 h]⟩
theorem vq.t (R:vq S aH gs ts fs ls al){i:Nat}(h:i < ts.length):ts.getD i 0 < S.aE.length/\0 < (S.bl (ts.getD i 0)).d/\ls.getD i 0=(S.bl (ts.getD i 0)).d:=by
 have m:=ke h
 rw[R.et] at m
 obtain⟨m1,_,m3⟩:=bP.mp m
 rw[← R.et] at m1 m3
 exact⟨m1,m3,by rw[R.el,getD_map _ ts i 0 0 h]⟩
theorem vq.a (R:vq S aH gs ts fs ls al){i j:Nat}(hi:i < gs.length)(hj:j < ts.length):(al.getD i []).getD j false=S.df (gs.getD i 0) (ts.getD j 0):=by
 rw[R.ea,getD_map _ gs i 0 [] hi,getD_map _ ts j 0 false hj]
theorem vq.gn (R:vq S aH gs ts fs ls al):gs.Nodup:=by rw[R.eg]; exact gT _ _ _
theorem vq.tn (R:vq S aH gs ts fs ls al):ts.Nodup:=by rw[R.et]; exact gT _ _ _
theorem vq.ll (R:vq S aH gs ts fs ls al):ls.length=ts.length:=by rw[R.el,ae]
theorem vq.tm (R:vq S aH gs ts fs ls al){b:Nat}(h:b∈ts):b < S.aE.length:=by
 rw[R.et] at h
 exact(bP.mp h).1
theorem qo {l:List Nat}{i:Nat}(h:i < l.length):l.take (i + 1)=l.take i ++ [l.getD i 0]:=by
 rw[A5,af h,ak,af h]
 rfl
structure XR (S:Bk)(aH:Str)(gs ts:List Nat)(fs ls:List Int)(i:Nat)(st:(Nat->Bool)×List (Nat×Nat×Int))(Si:Bk):Prop where
 run:(gs.take i).foldl (bC aH true) S=Si
 eq:Si=kJ S (st.2.map (mq gs ts))
 later:Later S Si
 b: ∀j,j < ts.length->(Si.bl (ts.getD j 0)).d=if st.1 j=true then 0 else ls.getD j 0
 c: ∀k,i<=k->k < gs.length->(Si.cr (gs.getD k 0)).d=fs.getD k 0
theorem BH (R:vq S aH gs ts fs ls al){i:Nat}{Si:Bk}(hi:i < gs.length)(J:XR S aH gs ts fs ls i (bV fs ls al i) Si): ∃S',XR S aH gs ts fs ls (i + 1) (bV fs ls al (i + 1)) S':=by
 obtain⟨g1,g2,g3⟩:=R.g hi
 have gc:gs.getD i 0 < Si.credits.length:=by rw[J.later.cl]; exact g1
 have fr:(Si.cr (gs.getD i 0)).d=fs.getD i 0:=J.c i (aD _) hi
 have fp:0 < (Si.cr (gs.getD i 0)).d:=by rw[fr,g3]; exact g2
 have find:((inTurn Si.aE aH (·.b)).find? fun b=>Si.df (gs.getD i 0) b && decide ((Si.bl b).d=(Si.cr (gs.getD i 0)).d))=(ip (fs.getD i 0) ls (al.getD i []) (bV fs ls al i).1).map fun j=>ts.getD j 0:=by
  rw[J.later.NL,← R.et,List.find?_filter,DY ts 0]
  unfold ip
  rw[R.ll]
  congr 1
  have q: ∀j∈List.range ts.length,(decide (0 < (Si.bl (ts.getD j 0)).d) && (Si.df (gs.getD i 0) (ts.getD j 0) && decide ((Si.bl (ts.getD j 0)).d=(Si.cr (gs.getD i 0)).d)))=((al.getD i []).getD j false && decide (ls.getD j 0=fs.getD i 0) && !(bV fs ls al i).1 j):=by
   intro j hj
   have hj:=dO.mp hj
   rw[R.a hi hj,J.later.df,J.b j hj,fr]
   obtain⟨_,t2,t3⟩:=R.t hj
   cases h:(bV fs ls al i).1 j
   ·simp only[Bool.false_eq_true,if_false,Bool.not_false,Bool.and_true]
    rw[t3,aK t2]
    simp
   ·simp
  have key: ∀(l:List Nat) (p q:Nat->Bool),(∀j∈l,p j=q j)->l.find? p=l.find? q:=by
   intro l p q h
   induction l with
   |nil=>rfl
   |cons x l ih=>
    rw[List.find?_cons,List.find?_cons,h x aS,ih fun j hj=>h j (aI _ hj)]
  refine key _ _ _ fun j hj=>?_
  rw[← q j hj]
  simp
 have run:(gs.take (i + 1)).foldl (bC aH true) S=match(ip (fs.getD i 0) ls (al.getD i []) (bV fs ls al i).1).map (fun j=>ts.getD j 0) with
   |none=>Si
   |some b=>Si.put (gs.getD i 0) b (Si.cr (gs.getD i 0)).d:=by
  rw[qo hi,lG,J.run]
  show bC aH true Si (gs.getD i 0)=_
  unfold bC
  rw[Fd gc (fun b hb=>(bP.mp hb).1) fp,find]
 cases h:ip (fs.getD i 0) ls (al.getD i []) (bV fs ls al i).1 with
 |none=>
  rw[h] at run
  have e:bV fs ls al (i + 1)=bV fs ls al i:=by rw[bV,h]
  rw[e]
  exact⟨Si,run,J.eq,J.later,J.b,fun k h1 h2=>J.c k (by lia) h2⟩
 |some j=>
  rw[h] at run
  have e:bV fs ls al (i + 1)=(fun x=>x == j || (bV fs ls al i).1 x,(bV fs ls al i).2 ++ [(i,j,fs.getD i 0)]):=by rw[bV,h]
  have hj:j < ts.length:=by
   unfold ip at h
   have:=Om h
   rw[R.ll] at this
   exact dO.mp this
  have hj2:(al.getD i []).getD j false=true/\ls.getD j 0=fs.getD i 0/\(bV fs ls al i).1 j=false:=by
   unfold ip at h
   have:=List.find?_some h
   simpa[and_assoc] using this
  obtain⟨t1,t2,t3⟩:=R.t hj
  have tb:ts.getD j 0 < Si.aE.length:=by rw[J.later.bl]; exact t1
  have f0:0<=fs.getD i 0:=by rw[g3]; lia
  have run':(gs.take (i + 1)).foldl (bC aH true) S=Si.put (gs.getD i 0) (ts.getD j 0) (fs.getD i 0):=by
   rw[run,← fr]
   rfl
  rw[e]
  refine⟨Si.put (gs.getD i 0) (ts.getD j 0) (fs.getD i 0),run',?_,J.later.trans (Later.put tb gc f0),fun j' VZ=>?_,fun k h1 h2=>?_⟩
  ·rw[aL,nM,← J.eq]
   rfl
  ·rw[lu tb]
   by_cases q:j'=j
   ·subst q
    rw[aY rfl]
    simp only[beq_self_eq_true,Bool.true_or,if_true]
    show(Si.bl (ts.getD j' 0)).d - fs.getD i 0=0
    rw[J.b j' hj,hj2.2.2,aN (by decide),hj2.2.1]
    lia
   ·rw[aN fun z=>q (getD_inj R.tn VZ hj z),J.b j' VZ]
    have:(j' == j)=false:=by simpa using q
    show _ =if(j' == j || (bV fs ls al i).1 j')=true then 0 else _
    rw[this,Bool.false_or]
  ·rw[nL gc,aN fun z=>by have:=getD_inj R.gn h2 hi z; lia]
   exact J.c k (by lia) h2
theorem vt (R:vq S aH gs ts fs ls al): ∀i,i<=gs.length-> ∃Si,XR S aH gs ts fs ls i (bV fs ls al i) Si
 |0,_=>⟨S,rfl,rfl,Later.refl S,fun j hj=>by
   obtain⟨_,_,t3⟩:=R.t hj
   show _ =if false=true then 0 else _
   rw[aN (by decide),t3],fun k _ h2=>by
   obtain⟨_,_,g3⟩:=R.g h2
   exact g3.symm⟩
 |i + 1,h=>by
  obtain⟨Si,J⟩:=vt R i (by lia)
  exact BH R (by lia) J
theorem Jt (R:vq S aH gs ts fs ls al):bN aH S true=kJ S ((bV fs ls al gs.length).2.map (mq gs ts))/\Later S (bN aH S true):=by
 obtain⟨Si,J⟩:=vt R gs.length (aD _)
 have e:bN aH S true=Si:=by
  unfold bN
  rw[← R.eg,← J.run,aZ]
 rw[e]
 exact⟨J.eq,J.later⟩
end
theorem Fe {l:List Int}{i j:Nat}{v:Int}(h:i≠j):(l.set i v).getD j 0=l.getD j 0:=by
 rw[ak,ak,m8 h]
theorem Mc {l:List Int}{i:Nat}{v:Int}(h:i < l.length):(l.set i v).getD i 0=v:=by
 rw[ak,lE h]; rfl
def dR (l:List Int)(ps:List (Nat×Int)):List Int:=ps.foldl (fun l x=>l.set x.1 (l.getD x.1 0 - x.2)) l
theorem tO (l:List Int)(ps:List (Nat×Int))(x:Nat×Int):dR l (ps ++ [x])=(dR l ps).set x.1 ((dR l ps).getD x.1 0 - x.2):=by
 unfold dR; rw[List.foldl_append]; rfl
theorem qp (ps:List (Nat×Int)): ∀l:List Int,(dR l ps).length=l.length:=by
 induction ps with
 |nil=>intro l; rfl
 |cons x ps ih=>
  intro l
  show(dR (l.set x.1 _) ps).length=_
  rw[ih,fm]
def bE (f:Int)(l:List Int)(row:List Bool):Nat->Int×List (Nat×Int)
 |0=>(f,[])
 |j + 1=>if row.getD j false=true/\0 < eW (bE f l row j).1 (l.getD j 0) then((bE f l row j).1 - eW (bE f l row j).1 (l.getD j 0),(bE f l row j).2 ++ [(j,eW (bE f l row j).1 (l.getD j 0))]) else bE f l row j
def cz (fs ls:List Int)(al:List (List Bool)):Nat->List Int×List (Nat×Nat×Int)
 |0=>(ls,[])
 |i + 1=>(dR (cz fs ls al i).1 (bE (fs.getD i 0) (cz fs ls al i).1 (al.getD i []) (cz fs ls al i).1.length).2,
   (cz fs ls al i).2 ++ (bE (fs.getD i 0) (cz fs ls al i).1 (al.getD i []) (cz fs ls al i).1.length).2.map fun x=>(i,x.1,x.2))
theorem jX (fs ls:List Int)(al:List (List Bool)): ∀i,(cz fs ls al i).1.length=ls.length
 |0=>rfl
 |i + 1=>by
  show(dR _ _).length=_
  rw[qp,jX fs ls al i]
def gz (c:Nat)(S:Bk)(b:Nat):Bk:=if 0 < (S.bl b).d then bu false c S b else S
theorem Ju {c b:Nat}{S:Bk}(hc:c < S.credits.length)(hb:b < S.aE.length):Later S (gz c S b)/\ ∀k,k≠b->((gz c S b).bl k).d=(S.bl k).d:=by
 unfold gz bu
 split
 ·rename_i h1
  split
  ·rename_i h2
   refine⟨Later.put hb hc ?_,fun k hk=>by rw[lu hb,aN hk]⟩
   unfold eW
   split <;> lia
  ·exact⟨Later.refl S,fun _ _=>rfl⟩
 ·exact⟨Later.refl S,fun _ _=>rfl⟩
theorem Ff {c:Nat}{S0:Bk}: ∀{l:List Nat} {S:Bk},l.Nodup->c < S.credits.length->(∀b∈l,b < S.aE.length)->(∀b∈l,(S.bl b).d=(S0.bl b).d)->
  (l.filter fun b=>decide (0 < (S0.bl b).d)).foldl (bu false c) S=l.foldl (gz c) S
 |[],_,_,_,_,_=>rfl
 |b :: l,S,nd,hc,hl,hd=>by
  rw[dN] at nd
  obtain⟨lt,ot⟩:=Ju (S:=S) hc (hl b aS)
  have ih:=Ff (S:=gz c S b) (S0:=S0) (l:=l) nd.2 (by rw[lt.cl]; exact hc) (fun x hx=>by rw[lt.bl]; exact hl x (aI _ hx)) (fun x hx=>by
   rw[ot x (fun z=>nd.1 (z▸hx))]
   exact hd x (aI _ hx))
  rw[cB,← ih]
  have e:=hd b aS
  by_cases z:0 < (S0.bl b).d
  ·rw[List.filter_cons_of_pos (by simpa using z),List.foldl_cons]
   congr 1
   unfold gz
   rw[aY (by lia)]
  ·rw[List.filter_cons_of_neg (by simpa using z)]
   congr 1
   unfold gz
   rw[aN (by lia)]
section
variable {S:Bk}{aH:Str}{gs ts:List Nat}{fs ls:List Int}{al:List (List Bool)}
structure Pa (S:Bk)(ts:List Nat)(c:Nat)(L:List Int)(j:Nat)(st:Int×List (Nat×Int))(Sj:Bk):Prop where
 run:(ts.take j).foldl (gz c) S=Sj
 eq:Sj=kJ S (st.2.map fun x=>(c,ts.getD x.1 0,x.2))
 later:Later S Sj
 f:(Sj.cr c).d=st.1
 b: ∀k,k < ts.length->(Sj.bl (ts.getD k 0)).d=(dR L st.2).getD k 0
 lt: ∀x∈st.2,x.1 < j
 oc: ∀k,k≠c->Sj.cr k=S.cr k
theorem zy {c:Nat}{L:List Int}{row:List Bool}(nd:ts.Nodup)(hc:c < S.credits.length)(ht: ∀b∈ts,b < S.aE.length)(hL:L.length=ts.length)(hb: ∀k,k < ts.length->(S.bl (ts.getD k 0)).d=L.getD k 0)
  (hr: ∀k,k < ts.length->row.getD k false=S.df c (ts.getD k 0)) {j:Nat} (hj:j < ts.length) {Sj:Bk} (J:Pa S ts c L j (bE (S.cr c).d L row j) Sj): ∃S',Pa S ts c L (j + 1) (bE (S.cr c).d L row (j + 1)) S':=by
 have ap:(dR L (bE (S.cr c).d L row j).2).getD j 0=L.getD j 0:=by
  have other: ∀(ps:List (Nat×Int)) (l:List Int),(∀x∈ps,x.1≠j)->(dR l ps).getD j 0=l.getD j 0:=by
   intro ps
   induction ps with
   |nil=>intro l h; rfl
   |cons x ps ih=>
    intro l h
    show(dR (l.set x.1 _) ps).getD j 0=_
    rw[ih _ fun y hy=>h y (aI _ hy),Fe (h x aS)]
  exact other _ _ fun x hx=>a7 (J.lt x hx)
 have bd:(Sj.bl (ts.getD j 0)).d=L.getD j 0:=by rw[J.b j hj,ap]
 have cj:c < Sj.credits.length:=by rw[J.later.cl]; exact hc
 have bj:ts.getD j 0 < Sj.aE.length:=by rw[J.later.bl]; exact ht _ (ke hj)
 have run:(ts.take (j + 1)).foldl (gz c) S=gz c Sj (ts.getD j 0):=by
  rw[qo hj,lG,J.run]
  rfl
 have g:Sj.df c (ts.getD j 0)=row.getD j false:=by rw[J.later.df,hr j hj]
 by_cases z:row.getD j false=true/\0 < eW (bE (S.cr c).d L row j).1 (L.getD j 0)
 ·have e:bE (S.cr c).d L row (j + 1)=((bE (S.cr c).d L row j).1 - eW (bE (S.cr c).d L row j).1 (L.getD j 0),(bE (S.cr c).d L row j).2 ++ [(j,eW (bE (S.cr c).d L row j).1 (L.getD j 0))]):=by
   rw[bE,aY z]
  have z1:0 < (Sj.bl (ts.getD j 0)).d/\0 < (Sj.cr c).d:=by
   rw[bd,J.f]
   have:=z.2
   unfold eW at this
   split at this <;> lia
  have e2:gz c Sj (ts.getD j 0)=Sj.put c (ts.getD j 0) (eW (bE (S.cr c).d L row j).1 (L.getD j 0)):=by
   unfold gz bu
   rw[aY z1.1,aY ⟨z1.2,by rw[g]; exact z.1,.inr rfl⟩,J.f,bd]
  rw[e]
  refine⟨_,run.trans e2,?_,J.later.trans (Later.put bj cj (by lia)),?_,fun k hk=>?_,fun x hx=>?_,fun k hk=>?_⟩
  ·rw[aL,nM,← J.eq]
   rfl
  ·rw[nL cj,aY rfl]
   show(Sj.cr c).d - _ =_
   rw[J.f]
  ·rw[lu bj,tO]
   have len:(dR L (bE (S.cr c).d L row j).2).length=ts.length:=by rw[qp,hL]
   by_cases q:k=j
   ·subst q
    rw[aY rfl,Mc (by rw[len]; exact hk)]
    show(Sj.bl (ts.getD k 0)).d - _ =(dR L _).getD k 0 - _
    rw[J.b k hk]
   ·rw[aN fun w=>q (getD_inj nd hk hj w),J.b k hk,Fe (wQ q)]
  ·rcases bc.mp hx with hx|hx
   ·have:=J.lt x hx
    lia
   ·rw[ao.mp hx]
    exact gr _
  ·rw[nL cj,aN hk]
   exact J.oc k hk
 ·have e:bE (S.cr c).d L row (j + 1)=bE (S.cr c).d L row j:=by rw[bE,aN z]
  have e2:gz c Sj (ts.getD j 0)=Sj:=by
   unfold gz bu
   split
   ·rename_i h1
    rw[aN]
    rintro⟨h2,h3,_⟩
    refine z ⟨by rw[← g]; exact h3,?_⟩
    rw[bd] at h1
    rw[J.f] at h2
    unfold eW
    split <;> assumption
   ·rfl
  rw[e]
  exact⟨Sj,run.trans e2,J.eq,J.later,J.f,J.b,fun x hx=>by have:=J.lt x hx; lia,J.oc⟩
theorem Fg {c:Nat}{L:List Int}{row:List Bool}(nd:ts.Nodup)(hc:c < S.credits.length)(ht: ∀b∈ts,b < S.aE.length)(hL:L.length=ts.length)(hb: ∀k,k < ts.length->(S.bl (ts.getD k 0)).d=L.getD k 0)
  (hr: ∀k,k < ts.length->row.getD k false=S.df c (ts.getD k 0)): ∀j,j<=ts.length-> ∃Sj,Pa S ts c L j (bE (S.cr c).d L row j) Sj
 |0,_=>⟨S,rfl,rfl,Later.refl S,rfl,hb,(fun _ h=>by cases h),fun _ _=>rfl⟩
 |j + 1,h=>by
  obtain⟨Sj,J⟩:=Fg nd hc ht hL hb hr j (by lia)
  exact zy nd hc ht hL hb hr (by lia) J
structure XS (S:Bk)(aH:Str)(gs ts:List Nat)(fs:List Int)(i:Nat)(st:List Int×List (Nat×Nat×Int))(Si:Bk):Prop where
 run:(gs.take i).foldl (bC aH false) S=Si
 eq:Si=kJ S (st.2.map (mq gs ts))
 later:Later S Si
 b: ∀j,j < ts.length->(Si.bl (ts.getD j 0)).d=st.1.getD j 0
 c: ∀k,i<=k->k < gs.length->(Si.cr (gs.getD k 0)).d=fs.getD k 0
theorem BI (R:vq S aH gs ts fs ls al){i:Nat}{Si:Bk}(hi:i < gs.length)(J:XS S aH gs ts fs i (cz fs ls al i) Si): ∃S',XS S aH gs ts fs (i + 1) (cz fs ls al (i + 1)) S':=by
 obtain⟨g1,g2,g3⟩:=R.g hi
 have gc:gs.getD i 0 < Si.credits.length:=by rw[J.later.cl]; exact g1
 have fr:(Si.cr (gs.getD i 0)).d=fs.getD i 0:=J.c i (aD _) hi
 have tl:(cz fs ls al i).1.length=ts.length:=by rw[jX,R.ll]
 have tb: ∀b∈ts,b < Si.aE.length:=fun b hb=>by rw[J.later.bl]; exact R.tm hb
 obtain⟨S',K⟩:=Fg (S:=Si) (ts:=ts) (c:=gs.getD i 0) (L:=(cz fs ls al i).1) (row:=al.getD i []) R.tn gc tb tl J.b (fun k hk=>by rw[R.a hi hk,J.later.df]) ts.length (aD _)
 have e:(gs.take (i + 1)).foldl (bC aH false) S=S':=by
  rw[qo hi,lG,J.run]
  show bC aH false Si (gs.getD i 0)=_
  unfold bC
  rw[J.later.NL,← R.et,Ff R.tn gc tb (fun _ _=>rfl),← K.run,aZ]
 rw[fr] at K
 have pe:bE (fs.getD i 0) (cz fs ls al i).1 (al.getD i []) ts.length=bE (fs.getD i 0) (cz fs ls al i).1 (al.getD i []) (cz fs ls al i).1.length:=by rw[tl]
 rw[pe] at K
 refine⟨S',e,?_,J.later.trans K.later,K.b,fun k h1 h2=>?_⟩
 ·show S'=kJ S (((cz fs ls al i).2 ++ _).map (mq gs ts))
  rw[aL,nM,← J.eq,K.eq,fq]
  rfl
 ·rw[K.oc _ fun z=>by have:=getD_inj R.gn h2 hi z; lia]
  exact J.c k (by lia) h2
theorem vv (R:vq S aH gs ts fs ls al): ∀i,i<=gs.length-> ∃Si,XS S aH gs ts fs i (cz fs ls al i) Si
 |0,_=>⟨S,rfl,rfl,Later.refl S,fun j hj=>by
   obtain⟨_,_,t3⟩:=R.t hj
   exact t3.symm,fun k _ h2=>by
   obtain⟨_,_,g3⟩:=R.g h2
   exact g3.symm⟩
 |i + 1,h=>by
  obtain⟨Si,J⟩:=vv R i (by lia)
  exact BI R (by lia) J
theorem Jv (R:vq S aH gs ts fs ls al):bN aH S false=kJ S ((cz fs ls al gs.length).2.map (mq gs ts))/\Later S (bN aH S false):=by
 obtain⟨Si,J⟩:=vv R gs.length (aD _)
 have e:bN aH S false=Si:=by
  unfold bN
  rw[← R.eg,← J.run,aZ]
 rw[e]
 exact⟨J.eq,J.later⟩
end
inductive mO where
 |int (i:Int)
 |txt (s:Str)
 |sets (l:List (Nat×Nat×Int))
 |pairs (l:List (Nat×Int))
 |ints (l:List Int)
def bg.isSet:bg->Bool
 | .set _ _ _=>true
 | .bU _=>true
 |_=>false
def bg.tells:bg->Bool
 | .dP _ _ _ _=>true
 | .pF _ _ _=>true
 | .note _ _ _=>true
 | .set _ _ _=>true
 | .bU _=>true
 |_=>false
def qL (x:Int)(n:Nat):Prop:=0<=x/\x < (n:Int)
instance (x:Int) (n:Nat):Decidable (qL x n):=inferInstanceAs (Decidable (_/\_))
def Bk.bar (S:Bk):bg->Str
 | .dP _ day A7 dS=>if dS < 1 then "no amount" else if A7 < day then "too early" else ""
 | .pF _ _ dS=>if dS < 1 then "no amount" else ""
 | .note b _ dS=>if ¬ qL b S.aE.length then "no bill" else if dS < 1 then "no amount" else ""
 | .set c b dS=>if ¬ qL c S.credits.length then "no credit" else if ¬ qL b S.aE.length then "no bill" else if S.df c.toNat b.toNat=false then "not theirs" else
   if dS < 1 then "no amount" else if eW (S.cr c.toNat).d (S.bl b.toNat).d < dS then "too much" else ""
 |_=>""
theorem vw (S:Bk)(b d a:Int):S.bar (.note b d a)=(if ¬ qL b S.aE.length then("no bill":Str) else if a < 1 then("no amount":Str) else("":Str)):=rfl
theorem zz (S:Bk)(c b a:Int):S.bar (.set c b a)=(if ¬ qL c S.credits.length then("no credit":Str) else if ¬ qL b S.aE.length then("no bill":Str) else if S.df c.toNat b.toNat=false then("not theirs":Str) else
   if a < 1 then("no amount":Str) else if eW (S.cr c.toNat).d (S.bl b.toNat).d < a then("too much":Str) else("":Str)):=rfl
theorem n1:("no credit":Str)≠"":=by decide +kernel
theorem n2:("no bill":Str)≠"":=by decide +kernel
theorem n3:("not theirs":Str)≠"":=by decide +kernel
theorem n4:("no amount":Str)≠"":=by decide +kernel
theorem n6:("too much":Str)≠"":=by decide +kernel
theorem oN {S:Bk}{b d a:Int}(h:S.bar (.note b d a)=""):qL b S.aE.length/\1<=a:=by
 rw[vw] at h
 split at h
 ·exact absurd h n2
 ·rename_i q
  split at h
  ·exact absurd h n4
  ·exact⟨Gg.mp q,by lia⟩
theorem lO {S:Bk}{c b a:Int}(h:S.bar (.set c b a)=""):qL c S.credits.length/\qL b S.aE.length/\S.df c.toNat b.toNat=true/\1<=a/\a<=(S.cr c.toNat).d/\a<=(S.bl b.toNat).d:=by
 rw[zz] at h
 split at h
 ·exact absurd h n1
 rename_i q1
 split at h
 ·exact absurd h n2
 rename_i q2
 split at h
 ·exact absurd h n3
 rename_i q3
 split at h
 ·exact absurd h n4
 rename_i q4
 split at h
 ·exact absurd h n6
 rename_i q5
 refine⟨Classical.not_not.mp q1,Classical.not_not.mp q2,by simpa using q3,by lia,?_⟩
 unfold eW at q5
 split at q5 <;> lia
def Bk.iD (S:Bk)(r:Rw):Bk:={S with aE:=S.aE ++ [r]}
def Bk.f7 (S:Bk)(r:Rw):Bk:={S with credits:=S.credits ++ [r]}
def Bk.enter (S:Bk):bg->Bk
 | .dP w d u a=>S.iD ⟨w,d,u,a,a⟩
 | .pF w d a=>S.f7 ⟨w,d,a,-1,a⟩
 | .note b d a=>S.f7 ⟨(S.bl b.toNat).aH,d,a,b,a⟩
 | .set c b a=>S.put c.toNat b.toNat a
 | .bU w=>S.dv w
 |_=>S
def Bk.Jw (S:Bk):bg->mO
 | .dP _ _ _ _=> .int S.aE.length
 | .pF _ _ _=> .int S.credits.length
 | .note _ _ _=> .int S.credits.length
 | .set _ _ a=> .int a
 | .bU w=> .sets ((S.dv w).made.drop S.made.length)
 |_=> .int 0
def cy:List (Int×bg)->Bk->Option Bk
 |[],S=>some S
 |(_,d) :: l,S=>if S.bar d="" then cy l (S.enter d) else none
def iO:List (Int×bg)->Bk->Str
 |[],_=>""
 |(_,d) :: l,S=>if S.bar d="" then iO l (S.enter d) else S.bar d
def Bk.gx (S:Bk)(t:Nat×Nat×Int):Int:=if(S.bl t.2.1).a > (S.cr t.1).a then(S.bl t.2.1).a else(S.cr t.1).a
def spotOf (bD:Bool)(t:Nat×Nat×Int):Nat:=if bD then t.2.1 else t.1
def Bk.cnt (S:Bk)(bD:Bool)(k:Nat)(day:Int)(t:Nat×Nat×Int):Bool:=decide (spotOf bD t=k) && decide (S.gx t<=day)
def Bk.rows (S:Bk)(bD:Bool):List Rw:=if bD then S.aE else S.credits
def Jx (bD:Bool)(r:Rw):Int:=if bD then r.c else r.b
def keyOf (bD:Bool)(r:Rw):Int:=if bD then r.b else r.a
def Bk.rest (S:Bk)(bD:Bool)(k:Nat)(day:Int):Int:=Jx bD ((S.rows bD).getD k default) - ((S.made.filter (S.cnt bD k day)).map (·.2.2)).sum
def Bk.eQ (S:Bk)(bD:Bool)(aH:Str)(day:Int):List (Nat×Int):=
 ((inOrder (S.rows bD) aH (keyOf bD)).filter fun k=>decide (((S.rows bD).getD k default).a<=day) && decide (0 < S.rest bD k day)).map fun k=>(k,S.rest bD k day)
def placeOf (gx:Int)(dj:List Int):Nat:=if gx<=0 then 0 else 1 + (dj.filter fun l=>decide (l < gx)).length
def tP (l:List Int)(i:Nat)(x:Int):List Int:=l.set i (l.getD i 0 + x)
def Bk.Pb (S:Bk)(aH:Str)(day:Int)(dj:List Int):List Int:=
 (S.eQ true aH day).foldl (fun l t=>tP l (placeOf (day - (S.bl t.1).b) dj) t.2) (List.replicate (dj.length + 2) 0)
structure hV where
 steps:List (Int×bg)
 bk:Bk
def hV.new:hV:=⟨[],Bk.new⟩
def cu (m:Int)(st:Int×bg):Bool:= !(decide (st.1=m) && st.2.isSet)
def dz (T:hV)(n:Int):bg->mO×hV
 | .iC m=>if(T.steps.filter (cu m)).length=T.steps.length then(.txt "no setting",T) else
   match cy (T.steps.filter (cu m)) Bk.new with
   |none=>(.txt "needed",T)
   |some S=>(.txt "undone",⟨T.steps.filter (cu m),S⟩)
 | .ask o w d=>(.pairs (T.bk.eQ o w d),T)
 | .il w d l=>(.ints (T.bk.Pb w d l),T)
 |d=>if T.bk.bar d="" then(T.bk.Jw d,⟨T.steps ++ [(n,d)],T.bk.enter d⟩) else(.txt (T.bk.bar d),T)
def dQ:List bg->hV->Nat->List mO×hV
 |[],T,_=>([],T)
 |d :: l,T,n=>((dz T n d).1 :: (dQ l (dz T n d).2 (n + 1)).1,(dQ l (dz T n d).2 (n + 1)).2)
structure WF (S:Bk)(n:Nat):Prop where
 m: ∀t∈S.made,t.1 < S.credits.length/\t.2.1 < S.aE.length
 o: ∀c,c < S.credits.length->(S.cr c).c= -1∨ ∃b:Nat,(S.cr c).c=(b:Int)/\b < S.aE.length/\(S.cr c).aH=(S.bl b).aH
 lb:S.aE.length<=n
 lc:S.credits.length<=n
 lm:S.made.length<=8000 * n
theorem WF.new:WF Bk.new 0:=⟨(fun t h=>by cases h),fun c h=>absurd h (eA _),aD _,aD _,aD _⟩
theorem WF.mono {S:Bk}{n m:Nat}(h:WF S n)(k:n<=m):WF S m:=⟨h.m,h.o,aV h.lb k,aV h.lc k,aV h.lm (Nat.mul_le_mul_left _ k)⟩
theorem getD_snoc {α:Type}{l:List α}{x d:α}{k:Nat}(h:k < l.length):(l ++ [x]).getD k d=l.getD k d:=by
 rw[ak,ak,jA h]
theorem getD_last {α:Type}{l:List α}{x d:α}:(l ++ [x]).getD l.length d=x:=by
 rw[ak,gj (aD _)]
 simp
theorem WF.iD {S:Bk}{n:Nat}(h:WF S n)(r:Rw):WF (S.iD r) (n + 1):=by
 have len:(S.iD r).aE.length=S.aE.length + 1:=by simp[Bk.iD]
 refine⟨fun t ht=>⟨(h.m t ht).1,by rw[len]; have:=(h.m t ht).2; lia⟩,fun c hc=>?_,by rw[len]; have:=h.lb; lia,by have:=h.lc; exact su this,by have:=h.lm; show S.made.length<=_; lia⟩
 rcases h.o c hc with z|⟨b,z1,z2,z3⟩
 ·exact .inl z
 ·refine .inr ⟨b,z1,by rw[len]; lia,?_⟩
  show(S.cr c).aH=((S.aE ++ [r]).getD b default).aH
  rw[getD_snoc z2]
  exact z3
theorem WF.f7 {S:Bk}{n:Nat}(h:WF S n)(r:Rw)(hr:r.c= -1∨ ∃b:Nat,r.c=(b:Int)/\b < S.aE.length/\r.aH=(S.bl b).aH):WF (S.f7 r) (n + 1):=by
 have len:(S.f7 r).credits.length=S.credits.length + 1:=by simp[Bk.f7]
 refine⟨fun t ht=>⟨by rw[len]; have:=(h.m t ht).1; lia,(h.m t ht).2⟩,fun c hc=>?_,by have:=h.lb; exact su this,by rw[len]; have:=h.lc; lia,by have:=h.lm; show S.made.length<=_; lia⟩
 by_cases q:c < S.credits.length
 ·have e:(S.f7 r).cr c=S.cr c:=getD_snoc q
  rw[e]
  exact h.o c q
 ·have q':c=S.credits.length:=by lia
  have e:(S.f7 r).cr c=r:=by rw[q']; exact getD_last
  rw[e]
  exact hr
theorem WF.later {S S':Bk}{n m:Nat}(h:WF S n)(l:Later S S')(hm: ∀t∈S'.made,t.1 < S.credits.length/\t.2.1 < S.aE.length)(hn:n<=m)(hl:S'.made.length<=8000 * m):WF S' m:=by
 refine⟨fun t ht=>by rw[l.cl,l.bl]; exact hm t ht,fun c hc=>?_,by rw[l.bl]; exact aV h.lb hn,by rw[l.cl]; exact aV h.lc hn,hl⟩
 rw[l.cl] at hc
 rw[(l.c c).1.2.2.2,(l.c c).1.1]
 rcases h.o c hc with z|⟨b,z1,z2,z3⟩
 ·exact .inl z
 ·exact .inr ⟨b,z1,by rw[l.bl]; exact z2,by rw[(l.b b).1.1]; exact z3⟩
theorem vx: ∀{n:Nat} {l:List Nat},l.Nodup->(∀x∈l,x < n)->l.length<=n
 |0,l,_,h=>by
  cases l with
  |nil=>exact aD _
  |cons x l=>exact absurd (h x aS) (eA _)
 |n + 1,l,nd,h=>by
  by_cases q:n∈l
  ·have h1:=vx (n:=n) (l:=l.erase n) (nd.erase n) (fun x hx=>by
    have h2:=h x (List.mem_of_mem_erase hx)
    have h3:x≠n:=fun z=>(List.Nodup.mem_erase_iff nd).mp hx |>.1 z
    lia)
   rw[List.length_erase_of_mem q] at h1
   lia
  ·have:=vx (n:=n) nd (fun x hx=>by
    have h2:=h x hx
    have h3:x≠n:=fun z=>q (z▸hx)
    lia)
   lia
theorem iq (rows:List Rw)(aH:Str)(key:Rw->Int):(inTurn rows aH key).length<=rows.length:=vx (gT _ _ _) fun _ h=>(bP.mp h).1
theorem iy (fs ls:List Int)(al:List (List Bool)): ∀i,(bV fs ls al i).2.length<=i
 |0=>aD _
 |i + 1=>by
  have:=iy fs ls al i
  unfold bV
  split
  ·lia
  ·rw[ax]
   show _ + 1<=_
   lia
theorem gG (f:Int)(l:List Int)(row:List Bool): ∀j,(bE f l row j).2.length<=j
 |0=>aD _
 |j + 1=>by
  have:=gG f l row j
  rw[bE]
  split
  ·rw[ax]
   show _ + 1<=_
   lia
  ·lia
theorem qq (fs ls:List Int)(al:List (List Bool)): ∀i,(cz fs ls al i).2.length<=i * ls.length
 |0=>by simp[cz]
 |i + 1=>by
  have h1:=qq fs ls al i
  have h2:=gG (fs.getD i 0) (cz fs ls al i).1 (al.getD i []) (cz fs ls al i).1.length
  show((cz fs ls al i).2 ++ _).length<=_
  rw[ax,ae,wU]
  rw[jX] at h2 ⊢
  lia
theorem mr (fs ls:List Int)(al:List (List Bool)): ∀i,∀t∈(bV fs ls al i).2,t.1 < i/\t.2.1 < ls.length
 |0,t,h=>by cases h
 |i + 1,t,h=>by
  rw[bV] at h
  split at h
  ·have:=mr fs ls al i t h
   lia
  ·rename_i j hj
   rcases bc.mp h with h|h
   ·have:=mr fs ls al i t h
    lia
   ·rw[ao.mp h]
    unfold ip at hj
    have:=dO.mp (Om hj)
    exact⟨gr _,this⟩
theorem qr (f:Int)(l:List Int)(row:List Bool): ∀j,∀x∈(bE f l row j).2,x.1 < j
 |0,x,h=>by cases h
 |j + 1,x,h=>by
  rw[bE] at h
  split at h
  ·rcases bc.mp h with h|h
   ·have:=qr f l row j x h
    lia
   ·rw[ao.mp h]
    exact gr _
  ·have:=qr f l row j x h
   lia
theorem vy (fs ls:List Int)(al:List (List Bool)): ∀i,∀t∈(cz fs ls al i).2,t.1 < i/\t.2.1 < ls.length
 |0,t,h=>by cases h
 |i + 1,t,h=>by
  rcases bc.mp (show t∈(cz fs ls al i).2 ++ _ from h) with h|h
  ·have:=vy fs ls al i t h
   lia
  ·obtain⟨x,hx,rfl⟩:=bJ.mp h
   have:=qr _ _ _ _ x hx
   rw[jX] at this
   exact⟨gr _,this⟩
def rnd (S:Bk)(aH:Str):vq S aH (inTurn S.credits aH (·.a)) (inTurn S.aE aH (·.b)) ((inTurn S.credits aH (·.a)).map fun g=>(S.cr g).d) ((inTurn S.aE aH (·.b)).map fun t=>(S.bl t).d)
  ((inTurn S.credits aH (·.a)).map fun g=>(inTurn S.aE aH (·.b)).map fun t=>S.df g t):=⟨rfl,rfl,rfl,rfl,rfl⟩
theorem Fh {S:Bk}{gs ts:List Nat}{l:List (Nat×Nat×Int)}(hl: ∀t∈l,t.1 < gs.length/\t.2.1 < ts.length)(hg: ∀g∈gs,g < S.credits.length)(ht: ∀t∈ts,t < S.aE.length): ∀t∈l.map (mq gs ts),t.1 < S.credits.length/\t.2.1 < S.aE.length:=by
 intro t h
 obtain⟨x,hx,rfl⟩:=bJ.mp h
 obtain⟨h1,h2⟩:=hl x hx
 exact⟨hg _ (ke h1),ht _ (ke h2)⟩
theorem rj (S:Bk)(aH:Str)(ex:Bool):Later S (bN aH S ex)/\ ∃l,(bN aH S ex).made=S.made ++ l/\(∀t∈l,t.1 < S.credits.length/\t.2.1 < S.aE.length)/\l.length<=S.credits.length + S.credits.length * S.aE.length:=by
 have gl:=iq S.credits aH (·.a)
 have tl:=iq S.aE aH (·.b)
 have hg: ∀g∈inTurn S.credits aH (·.a),g < S.credits.length:=fun g h=>(bP.mp h).1
 have ht: ∀t∈inTurn S.aE aH (·.b),t < S.aE.length:=fun g h=>(bP.mp h).1
 have mul:(inTurn S.credits aH (·.a)).length * (inTurn S.aE aH (·.b)).length<=S.credits.length * S.aE.length:=qP gl tl
 cases ex with
 |true=>
  obtain⟨e,l⟩:=Jt (rnd S aH)
  refine⟨l,_,by rw[e]; exact jW _ _,Fh (fun t h=>?_) hg ht,?_⟩
  ·have:=mr _ _ _ _ t h
   rwa [ae] at this
  ·rw[ae]
   have:=iy ((inTurn S.credits aH (·.a)).map fun g=>(S.cr g).d) ((inTurn S.aE aH (·.b)).map fun t=>(S.bl t).d) ((inTurn S.credits aH (·.a)).map fun g=>(inTurn S.aE aH (·.b)).map fun t=>S.df g t) (inTurn S.credits aH (·.a)).length
   lia
 |false=>
  obtain⟨e,l⟩:=Jv (rnd S aH)
  refine⟨l,_,by rw[e]; exact jW _ _,Fh (fun t h=>?_) hg ht,?_⟩
  ·have:=vy _ _ _ _ t h
   rwa [ae] at this
  ·rw[ae]
   have:=qq ((inTurn S.credits aH (·.a)).map fun g=>(S.cr g).d) ((inTurn S.aE aH (·.b)).map fun t=>(S.bl t).d) ((inTurn S.credits aH (·.a)).map fun g=>(inTurn S.aE aH (·.b)).map fun t=>S.df g t) (inTurn S.credits aH (·.a)).length
   rw[ae] at this
   lia
theorem nN (S:Bk)(aH:Str):Later S (S.dv aH)/\ ∃l,(S.dv aH).made=S.made ++ l/\(∀t∈l,t.1 < S.credits.length/\t.2.1 < S.aE.length)/\l.length<=2 * (S.credits.length + S.credits.length * S.aE.length):=by
 obtain⟨l1,m1,e1,h1,n1⟩:=rj S aH true
 obtain⟨l2,m2,e2,h2,n2⟩:=rj (bN aH S true) aH false
 refine⟨l1.trans l2,m1 ++ m2,by show(bN aH (bN aH S true) false).made=_; rw[e2,e1,b0],fun t ht=>?_,?_⟩
 ·rcases bc.mp ht with ht|ht
  ·exact h1 t ht
  ·have:=h2 t ht
   rwa [l1.cl,l1.bl] at this
 ·rw[l1.cl,l1.bl] at n2
  rw[ax]
  lia
theorem WF.enter {S:Bk}{n:Nat}{d:bg}(h:WF S n)(hn:n < 60)(hb:S.bar d=""):WF (S.enter d) (n + 1):=by
 cases d with
 |dP w d u a=>exact h.iD _
 |pF w d a=>exact h.f7 _ (.inl rfl)
 |note b d a=>
  refine h.f7 _ (.inr ⟨b.toNat,?_⟩)
  have z:=(oN hb).1
  obtain⟨z1,z2⟩:=z
  refine⟨?_,?_,rfl⟩
  ·show b=(b.toNat:Int)
   lia
  ·lia
 |set c b a=>
  obtain⟨zc,zb,_,za,_⟩:=lO hb
  obtain⟨c1,c2⟩:=zc
  obtain⟨b1,b2⟩:=zb
  have l:Later S (S.put c.toNat b.toNat a):=Later.put (by lia) (by lia) (by lia)
  refine h.later l (fun t ht=>?_) (c8 _) ?_
  ·rcases bc.mp ht with ht|ht
   ·exact h.m t ht
   ·rw[ao.mp ht]
    show c.toNat < _/\b.toNat < _
    lia
  ·show(S.made ++ [_]).length<=_
   rw[ax]
   have:=h.lm
   show _ + 1<=_
   lia
 |bU w=>
  obtain⟨l,m,e,h1,h2⟩:=nN S w
  refine h.later l (fun t ht=>?_) (c8 _) ?_
  ·rw[show(S.enter (.bU w)).made=S.made ++ m from e] at ht
   rcases bc.mp ht with ht|ht
   ·exact h.m t ht
   ·exact h1 t ht
  ·show(S.dv w).made.length<=_
   rw[e,ax]
   have h3:=h.lm
   have h4:=h.lb
   have h5:=h.lc
   have:S.credits.length * S.aE.length<=60 * 60:=qP (by lia) (by lia)
   lia
 |iC m=>exact h.mono (c8 _)
 |ask o w d=>exact h.mono (c8 _)
 |il w d l=>exact h.mono (c8 _)
structure nO (S T:Bk):Prop where
 bl:T.aE.length=S.aE.length
 cl:T.credits.length=S.credits.length
 b: ∀k,o7 (S.bl k) (T.bl k)
 c: ∀k,o7 (S.cr k) (T.cr k)
theorem o7.symm {r s:Rw}(h:o7 r s):o7 s r:=⟨h.1.symm,h.2.1.symm,h.2.2.1.symm,h.2.2.2.symm⟩
theorem nO.refl (S:Bk):nO S S:=⟨rfl,rfl,fun _=>o7.refl _,fun _=>o7.refl _⟩
theorem nO.symm {S T:Bk}(h:nO S T):nO T S:=⟨h.bl.symm,h.cl.symm,fun k=>(h.b k).symm,fun k=>(h.c k).symm⟩
theorem nO.trans {S T U:Bk}(h:nO S T)(k:nO T U):nO S U:=⟨k.bl.trans h.bl,k.cl.trans h.cl,fun i=>(h.b i).trans (k.b i),fun i=>(h.c i).trans (k.c i)⟩
theorem Later.ny {S T:Bk}(h:Later S T):nO S T:=⟨h.bl,h.cl,fun k=>(h.b k).1,fun k=>(h.c k).1⟩
theorem nO.df {S T:Bk}(h:nO S T)(c b:Nat):T.df c b=S.df c b:=by
 unfold Bk.df
 rw[(h.c c).1,(h.b b).1,(h.c c).2.2.2]
theorem sN {l m:List Rw}{r s:Rw}(hl:m.length=l.length)(h: ∀k,o7 (l.getD k default) (m.getD k default))(hr:o7 r s)(k:Nat):o7 ((l ++ [r]).getD k default) ((m ++ [s]).getD k default):=by
 by_cases q:k < l.length
 ·rw[getD_snoc q,getD_snoc (by rw[hl]; exact q)]
  exact h k
 ·by_cases e:k=l.length
  ·subst e
   rw[getD_last,← hl,getD_last]
   exact hr
  ·have o1:(l ++ [r]).getD k default=default:=by
    rw[ak,ma (by rw[ax]; show l.length + 1<=k; lia)]
    rfl
   have o2:(m ++ [s]).getD k default=default:=by
    rw[ak,ma (by rw[ax]; show m.length + 1<=k; lia)]
    rfl
   rw[o1,o2]
   exact o7.refl _
theorem Jy {S T:Bk}(h:nO S T){d:bg}(hb:S.bar d=""):T.bar d=""∨T.bar d="too much":=by
 cases d with
 |note b d a=>
  obtain⟨z1,z2⟩:=oN hb
  left
  rw[vw,h.bl,aN (fun z=>z z1),aN (by lia)]
 |set c b a=>
  obtain⟨z1,z2,z3,z4,_⟩:=lO hb
  rw[zz,h.bl,h.cl,h.df,aN (fun z=>z z1),aN (fun z=>z z2),aN (by rw[z3]; decide),aN (by lia)]
  split
  ·exact .inr rfl
  ·exact .inl rfl
 |dP w d u a=>exact .inl hb
 |pF w d a=>exact .inl hb
 |bU w=>exact .inl rfl
 |iC m=>exact .inl rfl
 |ask o w d=>exact .inl rfl
 |il w d l=>exact .inl rfl
theorem jd {S:Bk}{d:bg}(hs:d.isSet=true)(hb:S.bar d=""):Later S (S.enter d):=by
 cases d with
 |set c b a=>
  obtain⟨⟨_,_⟩,⟨_,_⟩,_,_,_⟩:=lO hb
  exact Later.put (by lia) (by lia) (by lia)
 |bU w=>exact(nN S w).1
 |dP w d u a=>cases hs
 |pF w d a=>cases hs
 |note b d a=>cases hs
 |iC m=>cases hs
 |ask o w d=>cases hs
 |il w d l=>cases hs
theorem DZ {S T:Bk}(h:nO S T){d:bg}(hs:S.bar d="")(ht:T.bar d=""):nO (S.enter d) (T.enter d):=by
 cases d with
 |dP w d u a=>exact⟨by simp[Bk.enter,Bk.iD,h.bl],h.cl,sN h.bl h.b (o7.refl _),h.c⟩
 |pF w d a=>exact⟨h.bl,by simp[Bk.enter,Bk.f7,h.cl],h.b,sN h.cl h.c (o7.refl _)⟩
 |note b d a=>exact⟨h.bl,by simp[Bk.enter,Bk.f7,h.cl],h.b,sN h.cl h.c ⟨(h.b _).1,rfl,rfl,rfl⟩⟩
 |set c b a=>exact(jd rfl hs).ny.symm.trans (h.trans (jd rfl ht).ny)
 |bU w=>exact(jd (d:= .bU w) rfl hs).ny.symm.trans (h.trans (jd (d:= .bU w) rfl ht).ny)
 |iC m=>exact h
 |ask o w d=>exact h
 |il w d l=>exact h
theorem Pc (m:Int): ∀(l:List (Int×bg)) {S T:Bk},nO S T->(cy l S).isSome=true->iO (l.filter (cu m)) T=""∨iO (l.filter (cu m)) T="too much"
 |[],_,_,_,_=> .inl rfl
 |(n,d) :: l,S,T,h,hw=>by
  unfold cy at hw
  split at hw
  ·rename_i hb
   by_cases k:cu m (n,d)=true
   ·rw[cQ k]
    unfold iO
    split
    ·rename_i ht
     exact Pc m l (DZ h hb ht) hw
    ·rename_i ht
     exact .inr ((Jy h hb).resolve_left ht)
   ·rw[kH k]
    have ds:d.isSet=true:=by
     unfold cu at k
     simp at k
     exact k.2
    exact Pc m l ((jd ds hb).ny.symm.trans h) hw
  ·cases hw
theorem sO: ∀(l:List (Int×bg)) {S T:Bk} {n:Nat},WF S n->cy l S=some T->n + l.length<=60->WF T (n + l.length)
 |[],S,T,n,h,e,_=>by
  cases e
  exact h
 |(k,d) :: l,S,T,n,h,e,hl=>by
  unfold cy at e
  split at e
  ·rename_i hb
   have len:((k,d) :: l).length=l.length + 1:=rfl
   rw[len] at hl ⊢
   have:=sO l (h.enter (by lia) hb) e (by lia)
   rwa [show n + (l.length + 1)=n + 1 + l.length by lia]
  ·cases e
theorem lx: ∀(l m:List (Int×bg)) (S:Bk),cy (l ++ m) S=(cy l S).bind (cy m)
 |[],m,S=>rfl
 |(k,d) :: l,m,S=>by
  show(if S.bar d="" then cy (l ++ m) (S.enter d) else none)=(if S.bar d="" then cy l (S.enter d) else none).bind (cy m)
  split
  ·exact lx l m _
  ·rfl
structure Good (T:hV)(n:Nat):Prop where
 w:cy T.steps Bk.new=some T.bk
 lt: ∀st∈T.steps,0<=st.1/\st.1 < (n:Int)
 inc:T.steps.Pairwise fun a b=>a.1 < b.1
 tl: ∀st∈T.steps,st.2.tells=true
 len:T.steps.length<=n
theorem Good.new:Good hV.new 0:=⟨rfl,(fun _ h=>by cases h),List.Pairwise.nil,(fun _ h=>by cases h),aD _⟩
theorem Good.mono {T:hV}{n m:Nat}(h:Good T n)(k:n<=m):Good T m:=⟨h.w,fun st hs=>⟨(h.lt st hs).1,by have:=(h.lt st hs).2; lia⟩,h.inc,h.tl,aV h.len k⟩
theorem Good.wf {T:hV}{n:Nat}(h:Good T n)(hn:n<=60):WF T.bk n:=by
 have z:=sO T.steps WF.new h.w (by have:=h.len; lia)
 rw[Nat.zero_add] at z
 exact z.mono h.len
theorem Good.add {T:hV}{n:Nat}(h:Good T n){d:bg}(ht:d.tells=true)(hb:T.bk.bar d=""):Good ⟨T.steps ++ [((n:Int),d)],T.bk.enter d⟩ (n + 1):=by
 refine⟨?_,fun st hs=>?_,?_,fun st hs=>?_,?_⟩
 ·show cy (T.steps ++ [((n:Int),d)]) Bk.new=_
  rw[lx,h.w]
  show(if T.bk.bar d="" then some (T.bk.enter d) else none)=_
  rw[aY hb]
 ·rcases bc.mp hs with hs|hs
  ·have:=h.lt st hs
   lia
  ·rw[ao.mp hs]
   show(0:Int)<=(n:Int)/\(n:Int) < _
   lia
 ·rw[List.pairwise_append]
  refine⟨h.inc,List.pairwise_singleton _ _,fun a ha b hb=>?_⟩
  rw[ao.mp hb]
  exact(h.lt a ha).2
 ·rcases bc.mp hs with hs|hs
  ·exact h.tl st hs
  ·rw[ao.mp hs]
   exact ht
 ·show(T.steps ++ [_]).length<=_
  rw[ax]
  have:=h.len
  show _ + 1<=_
  lia
theorem Good.step {T:hV}{n:Nat}(h:Good T n)(d:bg):Good (dz T n d).2 (n + 1):=by
 have keep:=h.mono (c8 n)
 have dflt: ∀d:bg,d.tells=true->Good (if T.bk.bar d="" then(T.bk.Jw d,(⟨T.steps ++ [((n:Int),d)],T.bk.enter d⟩:hV)) else(.txt (T.bk.bar d),T)).2 (n + 1):=fun d ht=>by
  split
  ·rename_i hb
   exact h.add ht hb
  ·exact keep
 cases d with
 |iC m=>
  show Good (if(T.steps.filter (cu m)).length=T.steps.length then(mO.txt "no setting",T) else
   match cy (T.steps.filter (cu m)) Bk.new with
   |none=>(.txt "needed",T)
   |some S=>(.txt "undone",⟨T.steps.filter (cu m),S⟩)).2 (n + 1)
  split
  ·exact keep
  ·cases e:cy (T.steps.filter (cu m)) Bk.new with
   |none=>exact keep
   |some S=>
    refine⟨e,fun st hs=>?_,h.inc.filter _,fun st hs=>h.tl st (en.mp hs).1,?_⟩
    ·have:=h.lt st (en.mp hs).1
     lia
    ·have h1:=aW (cu m) T.steps
     have h2:=h.len
     show(T.steps.filter (cu m)).length<=_
     lia
 |ask o w d=>exact keep
 |il w d l=>exact keep
 |dP w d u a=>exact dflt _ rfl
 |pF w d a=>exact dflt _ rfl
 |note b d a=>exact dflt _ rfl
 |set c b a=>exact dflt _ rfl
 |bU w=>exact dflt _ rfl
theorem jr: ∀(l:List bg) (T:hV) (n:Nat),(dQ l T n).1.length=l.length
 |[],_,_=>rfl
 |d :: l,T,n=>by
  show(dQ l _ _).1.length + 1=_
  rw[jr l]
  rfl
def bg.dt:bg->Dt
 | .dP w d u a=> .tup [.str "bill",.str w,.int d,.int u,.int a]
 | .pF w d a=> .tup [.str "pay",.str w,.int d,.int a]
 | .note b d a=> .tup [.str "note",.int b,.int d,.int a]
 | .set c b a=> .tup [.str "set",.int c,.int b,.int a]
 | .bU w=> .tup [.str "sweep",.str w]
 | .iC n=> .tup [.str "undo",.int n]
 | .ask o w d=> .tup [.str (if o then "owed" else "free"),.str w,.int d]
 | .il w d l=> .tup [.str "ages",.str w,.int d,.tup (l.map Dt.int)]
def eB:Int:=10 ^ 62
theorem Fj {x:Int}(h:x<=10 ^ 60):x<=eB:=md h (by decide +kernel)
def bg.ok:bg->Prop
 | .dP _ d _ _=>d<=eB
 | .pF _ d _=>d<=eB
 | .note _ d _=>d<=eB
 | .il _ _ l=>l.length<=11/\l.Pairwise (· < ·)/\ ∀x∈l,1<=x
 |_=>True
mutual
def Dt.Lf:Dt->Bool
 | .lst _=>false
 | .tup ds=>Dt.xi ds
 | .eF=>true
 | .bl _=>true
 | .int _=>true
 | .str _=>true
def Dt.xi:List Dt->Bool
 |[]=>true
 |d :: ds=>d.Lf && Dt.xi ds
end
def cK (H H':Hp):Prop:= ∀b xs,H b=some (.tup xs)->H' b=some (.tup xs)
theorem cK.trans {H1 H2 H3:Hp}(a:cK H1 H2)(b:cK H2 H3):cK H1 H3:=fun x xs e=>b x xs (a x xs e)
theorem aF.tk {H H':Hp}(s:aF H H'):cK H H':=fun b xs e=>s _ _ e
theorem dY {H:Hp}{p:Addr}{o:HO}{ys:List V}(h:H p=some (.lst ys)):cK H (upd H p o):=dU h
mutual
theorem Rp.BJ {H H':Hp}(k:cK H H'): ∀(d:Dt) {v:V},d.Lf=true->Rp H d v->Rp H' d v
 | .eF,_,_,h=>vi.mpr (vi.mp h)
 | .bl _,_,_,h=>ra.mpr (ra.mp h)
 | .int _,_,_,h=>dD.mpr (dD.mp h)
 | .str _,_,_,h=>fv.mpr (fv.mp h)
 | .tup ds,_,n,h=>by
  obtain⟨a,xs,e,h1,h2⟩:=j9.mp h
  exact j9.mpr ⟨a,xs,e,k _ _ h1,g9.BJ k ds (by simpa[Dt.Lf] using n) h2⟩
 | .lst ds,_,n,h=>by simp[Dt.Lf] at n
theorem g9.BJ {H H':Hp}(k:cK H H'): ∀(ds:List Dt) {vs:List V},Dt.xi ds=true->g9 H ds vs->g9 H' ds vs
 |[],_,_,h=>cv.mpr (cv.mp h)
 |d :: ds,_,n,h=>by
  obtain⟨v,r,e,h1,h2⟩:=br.mp h
  have n':d.Lf=true/\Dt.xi ds=true:=by simpa[Dt.xi] using n
  exact br.mpr ⟨v,r,e,Rp.BJ k d n'.1 h1,g9.BJ k ds n'.2 h2⟩
end
theorem GV (l:List Int):Dt.xi (l.map Dt.int)=true:=by
 induction l with
 |nil=>rfl
 |cons x l ih=>simp[Dt.xi,Dt.Lf,ih]
theorem bg.Lf (d:bg):d.dt.Lf=true:=by
 cases d <;> simp[bg.dt,Dt.Lf,Dt.xi,GV]
theorem GW (ds:List bg):Dt.xi (ds.map bg.dt)=true:=by
 induction ds with
 |nil=>rfl
 |cons d ds ih=>simp[Dt.xi,bg.Lf,ih]
def eI (H:Hp)(ds:List bg)(ms:List V):Prop:=g9 H (ds.map bg.dt) ms
theorem eI.mono {H H':Hp}{ds:List bg}{ms:List V}(h:eI H ds ms)(k:cK H H'):eI H' ds ms:=g9.BJ k _ (GW ds) h
theorem eI.snoc {H:Hp}{ds:List bg}{ms:List V}{d:bg}{v:V}(h:eI H ds ms)(hd:Rp H d.dt v):eI H (ds ++ [d]) (ms ++ [v]):=by
 unfold eI
 rw[aL]
 exact g9.append h (g9.one hd)
theorem eI.length {H:Hp}{ds:List bg}{ms:List V}(h:eI H ds ms):ds.length=ms.length:=by
 have:=g9.length h
 rwa [ae] at this
theorem Md (n:Nat)(b:Str):(List.replicate n [V.str b]).flatten=(List.replicate n b).map V.str:=by
 induction n with
 |zero=>rfl
 |succ n ih=>rw[dB,i7,ih,dB]; rfl
def Rw.vs (r:Rw):List V:=[.str r.aH,.int r.a,.int r.b,.int r.c,.int r.d]
structure fP where
 pb:Addr
 pc:Addr
 pm:Addr
 iP:List Addr
 cps:List Addr
def fP.fp (f:fP):List Addr:=f.pb :: f.pc :: f.pm :: (f.iP ++ f.cps)
def bk3 (f:fP):List (Key×V):=[(Sum.inr "bills",.ref f.pb),(Sum.inr "credits",.ref f.pc),(Sum.inr "made",.ref f.pm)]
def fe (H:Hp)(rs:List Rw)(ps:List Addr):Prop:=Paired (fun(r:Rw) p=>H p=some (.lst r.vs)) rs ps
def iz (H:Hp)(ms:List (Nat×Nat×Int))(vs:List V):Prop:=Paired (fun(t:Nat×Nat×Int) v=> ∃p,v= .ref p/\H p=some (.tup [.int t.1,.int t.2.1,.int t.2.2])) ms vs
theorem iz.mono {H H':Hp}{ms:List (Nat×Nat×Int)}{vs:List V}(h:iz H ms vs)(k:cK H H'):iz H' ms vs:=
 Paired.g8 h fun _ _ ⟨p,e,q⟩=>⟨p,e,k _ _ q⟩
structure dA (H:Hp)(sd:Addr)(S:Bk)(f:fP):Prop where
 dict:H sd=some (.dK (bk3 f))
 hb:H f.pb=some (.lst (f.iP.map V.ref))
 hc:H f.pc=some (.lst (f.cps.map V.ref))
 hm: ∃ms,H f.pm=some (.lst ms)/\iz H S.made ms
 rb:fe H S.aE f.iP
 rc:fe H S.credits f.cps
 nd:f.fp.Nodup
 ns:sd∉f.fp
theorem fe.keep {H H':Hp}{rs:List Rw}{ps:List Addr}(h:fe H rs ps)(k: ∀p∈ps,∀o,H p=some o->H' p=some o):fe H' rs ps:=by
 induction h with
 |nil=>exact .nil
 | @cons r p rs ps hr t ih=>exact .cons (k p aS _ hr) (ih fun q hq=>k q (aI _ hq))
theorem dA.keep {H H':Hp}{sd:Addr}{S:Bk}{f:fP}(h:dA H sd S f)(k: ∀b o,(b=sd∨b∈f.fp)->H b=some o->H' b=some o)(t:cK H H'):dA H' sd S f:=by
 obtain⟨ms,m1,m2⟩:=h.hm
 refine⟨k _ _ (.inl rfl) h.dict,k _ _ (.inr (by simp[fP.fp])) h.hb,k _ _ (.inr (by simp[fP.fp])) h.hc,⟨ms,k _ _ (.inr (by simp[fP.fp])) m1,m2.mono t⟩,h.rb.keep fun p hp o e=>k p o (.inr (by simp[fP.fp,hp])) e,h.rc.keep fun p hp o e=>k p o (.inr (by simp[fP.fp,hp])) e,h.nd,h.ns⟩
theorem dA.same {H H':Hp}{sd:Addr}{S:Bk}{f:fP}(h:dA H sd S f)(s:aF H H'):dA H' sd S f:=h.keep (fun b o _ e=>s _ _ e) s.tk
def Frame (fp:List Addr)(H H':Hp):Prop:= ∀b o,b∉fp->H b=some o->H' b=some o
theorem Frame.refl {fp:List Addr}{H:Hp}:Frame fp H H:=fun _ _ _ e=>e
theorem Frame.trans {fp S6:List Addr}{H1 H2 H3:Hp}(a:Frame fp H1 H2)(b:Frame S6 H2 H3)(h: ∀x∈S6,x∈fp∨H1 x=none):Frame fp H1 H3:=fun x o hx e=>
 b x o (fun hx'=>by
  rcases h x hx' with h|h
  ·exact hx h
  ·rw[h] at e; cases e) (a x o hx e)
theorem aF.frame {fp:List Addr}{H H':Hp}(s:aF H H'):Frame fp H H':=fun b o _ e=>s _ _ e
theorem Frame.upd {fp:List Addr}{H:Hp}{p:Addr}{o:HO}(h:p∈fp):Frame fp H (upd H p o):=fun b u hb e=>by
 have jE:b≠p:=fun z=>hb (by rw[z]; exact h)
 rw[az jE]; exact e
theorem Frame.same {fp:List Addr}{H0 H H':Hp}(a:Frame fp H H')(s:aF H0 H)(h: ∀x∈fp,H0 x=none):aF H0 H':=fun b o e=>a b o (fun hb=>by rw[h b hb] at e; cases e) (s b o e)
theorem fe.length {H:Hp}{rs:List Rw}{ps:List Addr}(h:fe H rs ps):rs.length=ps.length:=aO h
theorem fe.at {H:Hp}{rs:List Rw}{ps:List Addr}(h:fe H rs ps){i:Nat}(hi:i < rs.length): ∃p,ps[i]? =some p/\H p=some (.lst (rs.getD i default).vs):=by
 obtain⟨p,e,q⟩:=bK h (af hi)
 refine⟨p,e,?_⟩
 rw[ak,af hi]
 exact q
theorem fe.set {H:Hp}: ∀{rs:List Rw} {ps:List Addr} {i:Nat} {p:Addr} {r:Rw},fe H rs ps->ps.Nodup->ps[i]? =some p->fe (upd H p (.lst r.vs)) (rs.set i r) ps
 |_,_,i,p,r,.nil,_,h=>by simp at h
 |_,_,0,p,r,.cons (b:=q) hr t,nd,h=>by
  injection h with h
  subst h
  rw[dN] at nd
  refine .cons ag (fe.keep t fun x hx o e=>?_)
  have jE:x≠q:=fun z=>nd.1 (by rw[← z]; exact hx)
  rw[az jE]; exact e
 |_,_,i + 1,p,r,.cons (b:=q) hr t,nd,h=>by
  rw[dN] at nd
  rw[List.getElem?_cons_succ] at h
  have jE:q≠p:=fun z=>nd.1 (by rw[z]; exact eD h)
  refine .cons ?_ (fe.set t nd.2 h)
  rw[az jE]; exact hr
theorem fe.iA {H:Hp}{rs:List Rw}{ps:List Addr}{p:Addr}{o:HO}(h:fe H rs ps)(hp:p∉ps):fe (upd H p o) rs ps:=
 h.keep fun q hq u e=>by
  have jE:q≠p:=fun z=>hp (by rw[← z]; exact hq)
  rw[az jE]; exact e
theorem fP.S7 {f:fP}(h:f.fp.Nodup):f.pb≠f.pc/\f.pb≠f.pm/\f.pc≠f.pm/\(∀p∈f.iP,p≠f.pb/\p≠f.pc/\p≠f.pm/\p∉f.cps)/\(∀p∈f.cps,p≠f.pb/\p≠f.pc/\p≠f.pm/\p∉f.iP)/\f.iP.Nodup/\f.cps.Nodup:=by
 unfold fP.fp at h
 simp only[List.nodup_cons,List.mem_cons,List.mem_append,not_or,List.nodup_append] at h
 obtain⟨⟨h1,h2,h3,h4⟩,⟨h5,h6,h7⟩,⟨h8,h9⟩,Lg,XT,V0⟩:=h
 refine⟨h1,h2,h5,fun p hp=>⟨fun e=>h3 (e▸hp),fun e=>h6 (e▸hp),fun e=>h8 (e▸hp),fun hc=>V0 p hp p hc rfl⟩,fun p hp=>⟨fun e=>h4 (e▸hp),fun e=>h7 (e▸hp),fun e=>h9 (e▸hp),fun hb=>V0 p hb p hp rfl⟩,Lg,XT⟩
theorem dA.setB {H:Hp}{sd:Addr}{S:Bk}{f:fP}(h:dA H sd S f){i:Nat}{p:Addr}{r:Rw}(hp:f.iP[i]? =some p)(hl: ∃xs,H p=some (.lst xs)):dA (upd H p (.lst r.vs)) sd {S with aE:=S.aE.set i r} f:=by
 obtain⟨d1,d2,d3,d4,d5,d6,d7⟩:=fP.S7 h.nd
 have hm:=eD hp
 obtain⟨e1,e2,e3,e4⟩:=d4 p hm
 obtain⟨ms,m1,m2⟩:=h.hm
 obtain⟨xs,hx⟩:=hl
 have es:sd≠p:=fun z=>h.ns (by rw[z]; simp[fP.fp,hm])
 exact⟨by rw[az es]; exact h.dict,by rw[az e1.symm]; exact h.hb,by rw[az e2.symm]; exact h.hc,⟨ms,by rw[az e3.symm]; exact m1,m2.mono (dY hx)⟩,h.rb.set d6 hp,h.rc.iA e4,h.nd,h.ns⟩
theorem dA.setC {H:Hp}{sd:Addr}{S:Bk}{f:fP}(h:dA H sd S f){i:Nat}{p:Addr}{r:Rw}(hp:f.cps[i]? =some p)(hl: ∃xs,H p=some (.lst xs)):dA (upd H p (.lst r.vs)) sd {S with credits:=S.credits.set i r} f:=by
 obtain⟨d1,d2,d3,d4,d5,d6,d7⟩:=fP.S7 h.nd
 have hm:=eD hp
 obtain⟨e1,e2,e3,e4⟩:=d5 p hm
 obtain⟨ms,m1,m2⟩:=h.hm
 obtain⟨xs,hx⟩:=hl
 have es:sd≠p:=fun z=>h.ns (by rw[z]; simp[fP.fp,hm])
 exact⟨by rw[az es]; exact h.dict,by rw[az e1.symm]; exact h.hb,by rw[az e2.symm]; exact h.hc,⟨ms,by rw[az e3.symm]; exact m1,m2.mono (dY hx)⟩,h.rb.iA e4,h.rc.set d7 hp,h.nd,h.ns⟩
theorem dA.XU {H:Hp}{sd:Addr}{S:Bk}{f:fP}(h:dA H sd S f){ms:List V}{t:Nat×Nat×Int}{p:Addr}(hm:H f.pm=some (.lst ms))(hms:iz H S.made ms)(hp:H p=some (.tup [.int t.1,.int t.2.1,.int t.2.2])):
  dA (upd H f.pm (.lst (ms ++ [.ref p]))) sd {S with made:=S.made ++ [t]} f:=by
 obtain⟨d1,d2,d3,d4,d5,d6,d7⟩:=fP.S7 h.nd
 have es:sd≠f.pm:=fun z=>h.ns (by rw[z]; simp[fP.fp])
 exact⟨by rw[az es]; exact h.dict,by rw[az d2]; exact h.hb,by rw[az d3]; exact h.hc,⟨_,ag,cw (hms.mono (dY hm)) ⟨p,rfl,dU hm _ _ hp⟩⟩,h.rb.iA fun z=>(d4 _ z).2.2.1 rfl,h.rc.iA fun z=>(d5 _ z).2.2.1 rfl,h.nd,h.ns⟩
theorem S8:("bills":Str)≠"credits":=by decide +kernel
theorem S9:("bills":Str)≠"made":=by decide +kernel
theorem Ta:("credits":Str)≠"made":=by decide +kernel
theorem Tc (a b c:V):gA [((Sum.inr "bills":Key),a),(Sum.inr "credits",b),(Sum.inr "made",c)] (Sum.inr "bills")=some a:=by
 unfold gA
 rw[List.find?_cons_of_pos (by simp)]; rfl
theorem Td (a b c:V):gA [((Sum.inr "bills":Key),a),(Sum.inr "credits",b),(Sum.inr "made",c)] (Sum.inr "credits")=some b:=by
 unfold gA
 rw[List.find?_cons_of_neg (by simpa using S8),List.find?_cons_of_pos (by simp)]; rfl
theorem Te (a b c:V):gA [((Sum.inr "bills":Key),a),(Sum.inr "credits",b),(Sum.inr "made",c)] (Sum.inr "made")=some c:=by
 unfold gA
 rw[List.find?_cons_of_neg (by simpa using S9),List.find?_cons_of_neg (by simpa using Ta),List.find?_cons_of_pos (by simp)]; rfl
theorem Pd (a b c:V):qg [] [((Sum.inr "bills":Key),a),(Sum.inr "credits",b),(Sum.inr "made",c)]=[((Sum.inr "bills":Key),a),(Sum.inr "credits",b),(Sum.inr "made",c)]:=by
 unfold qg
 rw[cB,cB,cB,List.foldl_nil]
 have h1:putK ([]:List (Key×V)) (Sum.inr "bills") a=[((Sum.inr "bills":Key),a)]:=by
  unfold putK; rw[if_neg (by simp)]; rfl
 have h2:putK [((Sum.inr "bills":Key),a)] (Sum.inr "credits") b=[((Sum.inr "bills":Key),a),(Sum.inr "credits",b)]:=by
  unfold putK; rw[if_neg (by simpa using S8)]; rfl
 have h3:putK [((Sum.inr "bills":Key),a),(Sum.inr "credits",b)] (Sum.inr "made") c=[((Sum.inr "bills":Key),a),(Sum.inr "credits",b),(Sum.inr "made",c)]:=by
  unfold putK; rw[if_neg (by simpa using⟨S9,Ta⟩)]; rfl
 dsimp only
 rw[h1,h2,h3]
theorem dA.gB {H:Hp}{sd:Addr}{S:Bk}{f:fP}(h:dA H sd S f):mX H sd (.str "bills") (some (.ref f.pb)):=Tc (.ref f.pb) (.ref f.pc) (.ref f.pm)▸mX.k (k:=Sum.inr "bills") h.dict
theorem dA.gC {H:Hp}{sd:Addr}{S:Bk}{f:fP}(h:dA H sd S f):mX H sd (.str "credits") (some (.ref f.pc)):=Td (.ref f.pb) (.ref f.pc) (.ref f.pm)▸mX.k (k:=Sum.inr "credits") h.dict
theorem dA.gM {H:Hp}{sd:Addr}{S:Bk}{f:fP}(h:dA H sd S f):mX H sd (.str "made") (some (.ref f.pm)):=Te (.ref f.pb) (.ref f.pc) (.ref f.pm)▸mX.k (k:=Sum.inr "made") h.dict
theorem dA.lb {H:Hp}{sd:Addr}{S:Bk}{f:fP}(h:dA H sd S f){b:Nat}(hb:b < S.aE.length): ∃p,f.iP[b]? =some p/\uz (f.iP.map V.ref) (b:Int)=some (.ref p)/\H p=some (.lst (S.bl b).vs):=by
 obtain⟨p,e,q⟩:=h.rb.at hb
 exact⟨p,e,cA (by rw[aC,e]; rfl),q⟩
theorem dA.lc {H:Hp}{sd:Addr}{S:Bk}{f:fP}(h:dA H sd S f){b:Nat}(hb:b < S.credits.length): ∃p,f.cps[b]? =some p/\uz (f.cps.map V.ref) (b:Int)=some (.ref p)/\H p=some (.lst (S.cr b).vs):=by
 obtain⟨p,e,q⟩:=h.rc.at hb
 exact⟨p,e,cA (by rw[aC,e]; rfl),q⟩
section
variable {prog:Program}{w:World}{A:Around}{E:Value->Shared->Prop}
def tQ (prog:Program)(w:World)(A:Around)(kS:Addr)(f:Value)(Fi:List Value->Shared->Prop):List Value->List Value->Shared->Prop
 |[],ks,s=>Fi ks s
 |v :: r,ks,s=>wpAny (model prog w) A (call f [v]) (fun k s'=> ∃e,s'.heap.get? kS=some (seqObj "list" ks.toArray e)/\ ∀h' c,Heap.SameBut kS s'.heap h'->h'.get? kS=some (seqObj "list" (ks ++ [k]).toArray c)->tQ prog w A kS f Fi r (ks ++ [k]) {s' with heap:=h'}) (fun _ _=>False) s
def GX (prog:Program)(w:World)(A:Around)(D kS:Addr)(e1:Nat)(vs:List Value)(Q:Shared->Prop)(ks:List Value)(s:Shared):Prop:=
 ∃(κ:SortKind) (key:Nat->Int),D≠kS/\s.heap.get? D=some (seqObj "list" #[] e1)/\(2<=vs.length-> ∀Q':SortKind->Shared->Prop,Q' κ s->wpAny (model prog w) A (keyKind' ks.toArray) Q' (fun _ _=>False) s)/\
  (∀(i j:Nat) (C:Bool->Shared->Prop),i < vs.length->j < vs.length->C (decide (key i < key j)) s->wpAny (model prog w) A (keyLt' κ (ks.getD i Value.none) (ks.getD j Value.none)) C (fun _ _=>False) s)/\
  ∀(p:Array Nat) (h':Heap) (n:Nat),rg vs.length p->lN key p vs.length->h'.objs.size=s.heap.objs.size->h'.get? D=some (seqObj "list" (p.toList.map fun i=>vs.getD i Value.none).toArray n)->(∀b,b≠D->b≠kS->h'.get? b=s.heap.get? b)->Q {s with heap:=h'}
theorem Fl {f:Value}{kS:Addr}{Fi:List Value->Shared->Prop}{n:Nat}{body:Value->PUnit->Sem (ForInStep PUnit)}(hn:n < 64)
  (hb: ∀x ks (s:Shared) (C:Value->Shared->Prop),List.length ks < 64->wpAny (model prog w) A (call f [x]) (fun k s'=> ∃e,s'.heap.get? kS=some (seqObj "list" ks.toArray e)/\ ∀h' c,Heap.SameBut kS s'.heap h'->h'.get? kS=some (seqObj "list" (ks ++ [k]).toArray c)->C k {s' with heap:=h'}) (fun _ _=>False) s->
   wpAny (model prog w) A (body x ⟨⟩) (fun r s'=>r= .yield ⟨⟩/\ ∃k c,s'.heap.get? kS=some (seqObj "list" (ks ++ [k]).toArray c)/\C k s') E s): ∀(r ks:List Value) (e:Nat) (s:Shared),ks.length + r.length=n->
   s.heap.get? kS=some (seqObj "list" ks.toArray e)->tQ prog w A kS f Fi r ks s->
   wpAny (model prog w) A (forIn r PUnit.unit body) (fun _ s'=> ∃ks e,s'.heap.get? kS=some (seqObj "list" ks.toArray e)/\ks.length=n/\Fi ks s') E s
 |[],ks,e,s,hl,hk,h=>by
  rw[List.forIn_nil]
  exact wpAny_pure ⟨ks,e,hk,by simpa using hl,h⟩
 |x :: r,ks,e,s,hl,hk,h=>by
  rw[bO] at hl
  rw[List.forIn_cons]
  refine aB (cm (hb x ks s (fun k s'=>tQ prog w A kS f Fi r (ks ++ [k]) s') (by lia) h) (fun q s' hq=>?_) fun _ _ x=>x)
  obtain⟨rfl,k,c,Le,h2⟩:=hq
  show wpAny (model prog w) A (forIn r PUnit.unit body) _ E s'
  exact Fl hn hb r (ks ++ [k]) c s' (by rw[ax,List.length_singleton]; lia) Le h2
variable {s:Shared}
theorem Fm {D kS:Addr}{e e1:Nat}{ks out:List Value}{st:SortSt}{P:PySem.Fin->Shared->Prop}(hD:s.heap.get? D=some (seqObj "list" #[] e1))(hk:s.heap.get? kS=some (seqObj "list" ks.toArray e))(ne:D≠kS)
  (DX:(arrOf st).map (·.2)=out.toArray) (hz:out.length < 64) (hkz:ks.length < 64) (hf:failedOf st=none)
  (h: ∀(h':Heap) (n:Nat),h'.objs.size=s.heap.objs.size->h'.get? D=some (seqObj "list" out.toArray n)->(∀b,b≠D->b≠kS->h'.get? b=s.heap.get? b)->P (.done (.ret .none)) {s with heap:=h'}):
  wpAny (model prog w) A (ksk_tail D false e1 (.ref kS) st) P E s:=by
 have hl:sizeLine=16777216:=eU
 unfold ksk_tail
 try dsimp only
 rw[DX]
 have s1:=sx s.heap kS (Obj.mapSeq fun _=>(#[]:Array Value))
 have d1:(s.heap.update kS (Obj.mapSeq fun _=>(#[]:Array Value))).get? D=some (seqObj "list" #[] e1):=(s1.2 D ne).trans hD
 have s2:=sx (s.heap.update kS (Obj.mapSeq fun _=>(#[]:Array Value))) D (Obj.mapSeq fun _=>out.toArray)
 obtain⟨c2,Ma⟩: ∃c2,((s.heap.update kS (Obj.mapSeq fun _=>(#[]:Array Value))).update D (Obj.mapSeq fun _=>out.toArray)).get? D=some (seqObj "list" out.toArray c2):=⟨_,Nx d1 fun _=>out.toArray⟩
 refine aB (wN hk rfl ?_ (by rw[bA]; lia) (bq _))
 refine aB (wpAny_letGo ?_)
 refine aB (seqEpoch_at d1 rfl ?_)
 simp only[Bool.false_eq_true,if_false]
 refine aB (wN d1 rfl ?_ (bq _) (by rw[bA]; lia))
 rw[hf]
 simp only[bne_self_eq_false,Bool.false_eq_true,if_false]
 refine bF (h _ c2 (s2.1.trans s1.1) Ma fun b n1 n2=>(s2.2 b n1).trans (s1.2 b n2))
theorem Pe {D kS:Addr}{e e1:Nat}{ks vs:List Value}{P:PySem.Fin->Shared->Prop}(hk:s.heap.get? kS=some (seqObj "list" ks.toArray e))(hl:ks.length=vs.length)(Dl:vs.length < 64)
  (h:GX prog w A D kS e1 vs (fun s'=>P (.done (.ret .none)) s') ks s):wpAny (model prog w) A (ksk_end D false vs.toArray e1 (.ref kS) ks.toArray) P E s:=by
 obtain⟨κ,key,ne,hD,kind,cmp,fin⟩:=h
 have hsz:vs.toArray.size=vs.length:=by simp
 unfold ksk_end
 try dsimp only
 simp only[Bool.false_eq_true,if_false]
 by_cases h2:vs.toArray.size < 2
 ·rw[aY h2,aY h2]
  refine aB (bF ?_)
  rw[StateT.run_pure]
  refine aB (bF ?_)
  dsimp only
  have DX:(arrOf (SortSt.mk' general' (ks.toArray.zip vs.toArray) #[] 7 none)).map (·.2)=((List.toArray (List.range vs.length)).toList.map fun i=>vs.getD i Value.none).toArray:=by
   show(ks.toArray.zip vs.toArray).map (·.2)=_
   apply Array.toList_inj.mp
   have e1:((ks.toArray.zip vs.toArray).map (·.2)).toList=vs:=by
    rw[Array.toList_map,Array.toList_zip]
    exact List.map_snd_zip (by rw[Bd,Bd]; lia)
   rw[e1]
   show vs=(List.range vs.length).map fun i=>vs.getD i Value.none
   exact(range_getD vs Value.none).symm
  refine Fm hD hk ne DX (by rw[ae,Bd,dF]; exact Dl) (by lia) rfl fun h' n z1 z2 z3=>?_
  refine fin (List.toArray (List.range vs.length)) h' n (Lw _) (fun i j hij hj=>?_) z1 z2 z3
  have:i=j:=by lia
  subst this
  exact fX _
 ·rw[aN h2,aN h2]
  have SW:2<=vs.length:=by lia
  refine aB (cm (kind SW (fun κ' s'=>κ'=κ/\s'=s) ⟨rfl,rfl⟩) (fun κ' s' Le=>?_) fun _ _ x=>x.elim)
  obtain⟨rfl,rfl⟩:=Le
  refine aB (cm (kat_run (Q:=fun A6 E1=>E1=s'/\ ∃p:Array Nat,p.size=vs.length/\arrOf A6=p.map (kas_item (ks.toArray.zip vs.toArray))/\failedOf A6=none/\rg vs.length p/\lN key p vs.length)
   (G:=fun p E1=>E1=s'/\rg vs.length p/\lN key p vs.length) (κ:=κ') hl SW Dl (fun p' A6 E1 a1 a2 a3 a4=>⟨a4.1,p',a1,a2,a3,a4.2⟩) (vj (fun i j C hi hj q=>cmp i j C hi hj q) (fun p q=>⟨rfl,q⟩) _ (Jr (by lia)))) ?_ fun _ _ e=>e)
  rintro⟨⟨⟩,A6⟩ E1 ⟨rfl,p,hp,XN,hf,q1,q2⟩
  dsimp only
  exact Fm hD hk ne (kat_snds hl XN) (by rw[ae,oZ,hp]; exact Dl) (by lia) hf fun h' n z1 z2 z3=>fin p h' n q1 q2 z1 z2 z3
theorem Me {D:Addr}{n:Nat}{vs:List Value}{f:Value}{P:PySem.Fin->Shared->Prop}(ho:s.heap.get? D=some (seqObj "list" vs.toArray n))(Dl:vs.length < 64)
  (h: ∀(kS:Addr) (e1:Nat) (h':Heap),(∀b o,b≠D->s.heap.get? b=some o->h'.get? b=some o)->h'.get? D=some (seqObj "list" #[] e1)->h'.get? kS=some (seqObj "list" #[] 0)->D≠kS->s.heap.objs.size<=kS->
   tQ prog w A kS f (GX prog w A D kS e1 vs (fun s'=>P (.done (.ret .none)) s')) vs [] {s with heap:=h'}):wpAny (model prog w) A (ksk_tree D f false) P E s:=by
 have ha:D < s.heap.objs.size:=aM ho
 have hl:sizeLine=16777216:=eU
 have s1:=sx s.heap D (Obj.mapSeq fun _=>(#[]:Array Value))
 obtain⟨e1,GR⟩: ∃e1,(s.heap.update D (Obj.mapSeq fun _=>(#[]:Array Value))).get? D=some (seqObj "list" #[] e1):=⟨_,Nx ho fun _=> #[]⟩
 have XW:((s.heap.update D (Obj.mapSeq fun _=>(#[]:Array Value))).push (seqObj "tuple" vs.toArray 0)).objs.size=s.heap.objs.size + 1:=by rw[size_push',pY]
 unfold ksk_tree
 refine aB (listItems_at ho rfl ?_)
 refine aB (wN ho rfl ?_ (by rw[bA]; lia) (bq _))
 refine aB (seqEpoch_at GR rfl ?_)
 refine aB (wpAny_newTuple ?_ (by show vs.length<=_; lia))
 refine aB (Lx ?_ (bq _))
 refine iF ?_
 generalize hU:((s.heap.update D (Obj.mapSeq fun _=>(#[]:Array Value))).push (seqObj "tuple" vs.toArray 0))=U at XW
 have kU: ∀b o,(s.heap.update D (Obj.mapSeq fun _=>(#[]:Array Value))).get? b=some o->U.get? b=some o:=fun b o z=>by
  rw[← hU]
  exact ay _ z
 have Rj:(U.push (seqObj "list" #[] 0)).get? U.objs.size=some (seqObj "list" #[] 0):=bR _ rfl
 have start:=h U.objs.size e1 (U.push (seqObj "list" #[] 0)) (fun b o n z=>ay _ (kU b o ((s1.2 b n).trans z))) (ay _ (kU D _ GR)) Rj (by rw[XW]; exact a7 (i8 ha)) (by rw[XW]; exact c8 _)
 show wpAny (model prog w) A (ksk_rest D f false vs.toArray e1 (.ref U.objs.size)) P E {s with heap:=U.push (seqObj "list" #[] 0)}
 unfold ksk_rest
 refine aB (wpAny_rule ?_)
 first
  |rw[List.forIn_toArray]
  |(rw[← Array.forIn_toList]; simp only[List.toList_toArray])
 refine wpAny_bind (wpAny_mono (Fl Dl (fun x ks s' C hz hx=>?_) vs [] 0 _ (by simp) Rj start) (fun _ s' hd=>?_) fun _ _ x=>x)
 ·refine aB (wpAny_attempt (cm hx (fun k E1 hk=>?_) fun _ _ hF=>hF.elim))
  obtain⟨e,nk,c⟩:=hk
  have s2:=sx E1.heap U.objs.size (Obj.mapSeq (·.push k))
  have ea:ks.toArray.push k=(ks ++ [k]).toArray:=by simp
  obtain⟨c2,Ma⟩: ∃c2,(E1.heap.update U.objs.size (Obj.mapSeq (·.push k))).get? U.objs.size=some (seqObj "list" (ks ++ [k]).toArray c2):=⟨_,by rw[← ea]; exact Nx nk (·.push k)⟩
  try dsimp only
  refine aB (wN nk rfl ?_ (by rw[bA]; lia) (aV (iV (Array.size_push ..)) (by rw[bA]; lia)))
  exact bF ⟨rfl,k,c2,Ma,c _ c2 s2 Ma⟩
 ·obtain⟨ks,e,Le,hl',fin⟩:=hd
  try dsimp only
  refine aB (listItems_at Le rfl ?_)
  exact Pe Le hl' Dl fin
theorem sortedK {l q:Addr}{vs:List Value}{Q:Value->Shared->Prop}(hl:s.heap.IsList l vs.toArray)(Dl:vs.length < 64)
  (h: ∀(D kS:Addr) (e1:Nat) (h':Heap),(∀b o,s.heap.get? b=some o->h'.get? b=some o)->h'.get? D=some (seqObj "list" #[] e1)->h'.get? kS=some (seqObj "list" #[] 0)->D≠kS->s.heap.objs.size<=D->s.heap.objs.size<=kS->
   tQ prog w A.in1.in1 kS (.ref q) (GX prog w A.in1.in1 D kS e1 vs (fun s'=>Q (.ref D) s')) vs [] {s with heap:=h'}):
  wpAny (model prog w) A (call (.builtin "sorted") [.ref l] [(Str.ofString "key",.ref q)]) Q E s:=by
 have VY:sizeLine=16777216:=eU
 refine call_function_entry_kw kind_sorted plain_sorted entry_sorted (ksk_s1 _ _) ?_
 unfold Builtin.«sorted»
 refine aB (m:=checkCount "sorted" 1 1 _) (bF ?_)
 refine aB (collect_list hl ?_ (by lia))
 refine aB (Lx ?_ (by show vs.length<=_; lia))
 have hsz:((s.heap.push (seqObj "list" #[] 0)).update s.heap.objs.size (Obj.mapSeq (· ++ vs.toArray))).objs.size=s.heap.objs.size + 1:=by
  rw[pY,size_push']
 generalize hU:((s.heap.push (seqObj "list" #[] 0)).update s.heap.objs.size (Obj.mapSeq (· ++ vs.toArray)))=U at hsz
 have keep: ∀b o,s.heap.get? b=some o->U.get? b=some o:=fun b o z=>by
  have lt:b < s.heap.objs.size:=aM z
  rw[← hU,ID _ _ _ _ (a7 lt),nj _ _ _ (a7 lt)]
  exact z
 have Oz:(U.push (seqObj "list" vs.toArray 0)).get? U.objs.size=some (seqObj "list" vs.toArray 0):=bR _ rfl
 show wpAny _ _ _ _ _ {s with heap:=U.push (seqObj "list" vs.toArray 0)}
 refine aB (iF (wpAny_call_entry_kw slot_list_sort ⟨_,Oz,rfl⟩ entry_list_sort ?body (ksk_l1 _ _)))
 case body=>
  show wpAny (model prog w) A.in1.in1 (Builtin.«list.sort» ⟨[.ref U.objs.size],[(Str.ofString "key",.ref q)]⟩) _ _ _
  rw[ksk_t1]
  refine Me (s:={s with heap:=U.push (seqObj "list" vs.toArray 0)}) Oz Dl fun kS e1 h' kp d1 k1 ne le=>?_
  have z:=h U.objs.size kS e1 h' (fun b o w=>kp b o (fun w2=>by rw[w2] at w; exact absurd (aM w) (by rw[hsz]; exact yc.mpr (c8 _))) (ay _ (keep b o w))) d1 k1 ne (by rw[hsz]; exact c8 _) (by
   have le':(U.push (seqObj "list" vs.toArray 0)).objs.size<=kS:=le
   rw[size_push',hsz] at le'
   exact aV (su (c8 _)) le')
  have mono: ∀(r ks:List Value) (s':Shared),tQ prog w A.in1.in1 kS (.ref q) (GX prog w A.in1.in1 U.objs.size kS e1 vs (fun s'=>Q (.ref U.objs.size) s')) r ks s'->
    tQ prog w A.in1.in1 kS (.ref q) (GX prog w A.in1.in1 U.objs.size kS e1 vs (fun s'=> ∃v,PySem.Fin.done (.ret .none)= .done (.ret v)/\wpAny (model prog w) A.in1 (ret (.ref U.objs.size)) (fun fin s'=> ∃v,fin=PySem.Fin.done (Flow.ret v)/\Q v s') E s')) r ks s':=by
   intro r
   induction r with
   |nil=>
    rintro ks s' ⟨κ,key,a1,a2,a3,a4,a5⟩
    exact⟨κ,key,a1,a2,a3,a4,fun p h2 n b1 b2 b3 b4 b5=>⟨_,rfl,bF ⟨_,rfl,a5 p h2 n b1 b2 b3 b4 b5⟩⟩⟩
   |cons v r ih=>
    intro ks s' hh
    exact cm hh (fun k s2 ⟨e,z1,z2⟩=>⟨e,z1,fun h2 c w1 w2=>ih _ _ (z2 h2 c w1 w2)⟩) fun _ _ x=>x
  exact mono vs [] _ z
end
end L2
namespace Lh
open PySem
theorem GY (f:Array Value->Array Value)(o:Obj):(Obj.mapFields f o).dict=o.dict:=by
 obtain⟨c,d,dt,sl⟩:=o
 cases dt <;> rfl
def je (h:Heap)(e:Addr)(cls:Value)(iX:Option Addr)(vs:Array Value):Prop:= ∃oe,h.get? e=some oe/\oe.cls=cls/\oe.dict=iX/\oe.data= .fields vs
theorem je.set {h:Heap}{e:Addr}{cls:Value}{iX:Option Addr}{vs:Array Value}(x:je h e cls iX vs)(i:Nat)(v:Value):
  je (h.update e (Obj.mapFields (·.setIfInBounds i v))) e cls iX (vs.setIfInBounds i v):=by
 obtain⟨oe,he,hc,hd,hv⟩:=x
 have q:=Obj.data_mapFields hv (·.setIfInBounds i v)
 exact⟨_,Dx _ he (Obj.isFreed_of_fields q),(Obj.cls_mapFields _ _).trans hc,(GY _ _).trans hd,q⟩
theorem je.same {h h':Heap}{e:Addr}{cls:Value}{iX:Option Addr}{vs:Array Value}(x:je h e cls iX vs)(k: ∀o,h.get? e=some o->h'.get? e=some o):je h' e cls iX vs:=
 let⟨oe,he,r⟩:=x
 ⟨oe,k _ he,r⟩
def nP (fr own:List Addr)(h h':Heap):Prop:= ∀b o,h.get? b=some o->b∉own->(b∉fr->h'.get? b=some o)/\ ∃sl,h'.get? b=some {o with slots:=sl}
theorem nP.trans {fr o1 o2:List Addr}{h h1 h2:Heap}(a:nP fr o1 h h1)(b:nP fr o2 h1 h2):nP fr (o1 ++ o2) h h2:=fun c ob q n=>by
 obtain⟨k,sl,e⟩:=a c ob q (fun z=>n (cZ _ z))
 obtain⟨_,V3,e2⟩:=b c _ e (fun z=>n (bw _ z))
 exact⟨fun hn=>(b c ob (k hn) (fun z=>n (bw _ z))).1 hn,V3,e2⟩
theorem nP.mono {fr Rk o1 o2:List Addr}{h h1:Heap}(a:nP fr o1 h h1)(hf: ∀b∈fr,b∈Rk)(ho: ∀b∈o1,b∈o2):nP Rk o2 h h1:=fun c ob q n=>
 let⟨k,sl,e⟩:=a c ob q (fun z=>n (ho c z))
 ⟨fun hn=>k (fun z=>hn (hf c z)),sl,e⟩
theorem zA {fr:List Addr}{h:Heap}{a:Addr}(f:Obj->Obj):nP fr [a] h (h.update a f):=fun b o q n=>by
 have z:(h.update a f).get? b=some o:=(m9 _ _ (fun(e:a=b)=>n (ao.mpr e.symm))).trans q
 exact⟨fun _=>z,o.slots,z⟩
theorem vz {fr own:List Addr}{h:Heap}(o':Obj):nP fr own h (h.push o'):=fun b o q _=>⟨fun _=>ay _ q,o.slots,ay _ q⟩
theorem je.but {fr own:List Addr}{h h':Heap}{e:Addr}{cls:Value}{iX:Option Addr}{vs:Array Value}(x:je h e cls iX vs)(b:nP fr own h h')(n:e∉own):je h' e cls iX vs:=by
 obtain⟨oe,he,hc,hd,hv⟩:=x
 obtain⟨_,sl,q⟩:=b e oe he n
 exact⟨_,q,hc,hd,hv⟩
def Li (h:Heap)(T:Addr)(fl:Value):Prop:= ∃c d ts,je h T c d ts/\ts[3]? =some fl
theorem fE {ts:Array Value}{i:Nat}{v:Value}(h:ts[i]? =some v):i < ts.size:=(Array.getElem?_eq_some_iff.mp h).1
theorem qt {ts:Array Value}{i:Nat}{v:Value}(h:i < ts.size):(ts.setIfInBounds i v)[i]? =some v:=by
 rw[Array.getElem?_setIfInBounds_self_of_lt h]
theorem rm {ts:Array Value}{i j:Nat}{v:Value}(h:i≠j):(ts.setIfInBounds i v)[j]? =ts[j]? :=by
 rw[Array.getElem?_setIfInBounds_ne h]
section
variable {M:Model}{A:Around}{E:Value->Shared->Prop}{s:Shared}{env:Env}{outer:List Env}{base:Heap}{L e T:Addr}{cls:Value}{iX:Option Addr}{vs:Array Value}{Q:Unit->Shared->Prop}
theorem rn {a:Addr}{i:Nat}{v:Value}{R:Value->Shared->Prop}(x:je s.heap a cls iX vs)(h:vs[i]? =some v)(q:R v s):wpAny M A (field (.ref a) i) R E s:=by
 obtain⟨oe,he,_,_,hv⟩:=x
 exact IE he hv h q
theorem oO {a:Addr}{i:Nat}{v:Value}(x:je s.heap a cls iX vs)(h:i < vs.size)
  (q: ∀h',nP [] [a] s.heap h'->je h' a cls iX (vs.setIfInBounds i v)->h'.objs.size=s.heap.objs.size->Q () {s with heap:=h'}):wpAny M A (setField (.ref a) i v) Q E s:=by
 obtain⟨oe,he,hc,hd,hv⟩:=id x
 exact wpAny_setField he hv h (q _ (zA _) (x.set i v) (Heap.size_after_update ..))
theorem vA {fl:Value}(x:je s.heap e cls iX vs)(h1:vs[1]? =some (.ref T))(ht:Li s.heap T fl)
  (q: ∀h',nP [] [T] s.heap h'->Li h' T .none->h'.objs.size=s.heap.objs.size->Q () {s with heap:=h'}):wpAny M A (setFlight (.ref e) none) Q E s:=by
 obtain⟨c,d,ts,xt,h3⟩:=ht
 unfold setFlight
 refine aB (rn x h1 ?_)
 rw[if_pos (show(Value.ref T != Value.none)=true from by simp)]
 exact oO xt (fE h3) fun h' b x' z=>q h' b ⟨c,d,_,x',qt (fE h3)⟩ z
theorem entry {head:Value}{had:Bool}(Dm:A.frames=some (env :: outer))(hl:s.heap.FunFrames base (env :: outer))(hf:env.frame=some L)(x:je s.heap e cls iX vs)(hsz:1 < vs.size)
  (q: ∀h' T,nP ((env :: outer).filterMap (·.frame)) [e] s.heap h'->je h' e cls iX (vs.setIfInBounds 1 (.ref T))->T=s.heap.objs.size->Li h' T (rawInt L)->Q () {s with heap:=h'}):
  wpAny M A (do let a ← frameOf env; let pl ← entryPlaceOf L had; let b ← EntryCells.newEntry head a .none (rawInt L) .none pl; setField (.ref e) 1 b) Q E s:=by
 refine aB (wpAny_frameOf_fun Dm hl hf fun h1 so=>?_)
 refine aB (wpAny_entryPlaceOf fun pl jb=>?_)
 unfold EntryCells.newEntry newFields
 refine aB (wpAny_newObj_type ?_ (jb.sizeOk5 _ _ _ _ _))
 have b1:nP ((env :: outer).filterMap (·.frame)) [] s.heap h1:=fun b o z _=>⟨fun n=>(so.2.1 b n).trans z,so.2.2 b o z⟩
 have x1:je h1 e cls iX vs:=x.but b1 (by simp)
 generalize V4:({cls:= .type "traceback",dict:=none,data:= .fields ([head,.ref L,.none,rawInt L,.none] ++ (if pl.isEmpty then List.replicate 6 Value.none else pl)).toArray}:Obj)=ob
 have x2:je (h1.push ob) e cls iX vs:=x1.same fun o z=>ay _ z
 have ne:h1.objs.size≠e:=by
  obtain⟨_,z,_⟩:=x1
  exact qG (aM z)
 have xt:je (h1.push ob) h1.objs.size ob.cls ob.dict ([head,.ref L,.none,rawInt L,.none] ++ (if pl.isEmpty then List.replicate 6 Value.none else pl)).toArray:=by
  subst V4
  exact⟨_,bR _ rfl,rfl,rfl,rfl⟩
 refine oO (s:={s with heap:=h1.push ob}) x2 hsz fun h' b x' _=>q h' h1.objs.size ?_ x' so.1 ⟨_,_,_,xt.but b (by simpa using ne),?_⟩
 ·exact((b1.trans (vz ob (own:=[]))).trans (b.mono (by simp) (fun _ z=>z))).mono (fun _ z=>z) (by simp)
 ·simp
theorem Pf (Dm:A.frames=some (env :: outer))(hl:s.heap.FunFrames base (env :: outer))(hf:env.frame=some L)(x:je s.heap e cls iX vs)(h1:vs[1]? =some .none)
  (q: ∀h' T,nP ((env :: outer).filterMap (·.frame)) [e] s.heap h'->je h' e cls iX (vs.setIfInBounds 1 (.ref T))->T=s.heap.objs.size->Li h' T .none->Q () {s with heap:=h'}):
  wpAny M A (leaving env (.ref e)) Q E s:=by
 have ne:s.heap.objs.size≠e:=by
  obtain⟨_,z,_⟩:=x
  exact qG (aM z)
 unfold leaving noteFrame
 simp only[hf]
 refine aB (aB (rn x h1 ?_))
 rw[aN (by decide)]
 refine entry Dm hl hf x (fE h1) fun h' T b x' hT t=>?_
 refine vA x' (qt (fE h1)) t fun h2 b2 t2 _=>q h2 T ?_ (x'.but b2 (by rw[hT]; simpa using ne.symm)) hT t2
 intro c o z n
 have hc:c≠T:=fun w=>by rw[w,hT] at z; exact absurd (aM z) (i0 _)
 exact(b.trans (b2.mono (by simp) (fun _ z=>z))) c o z (by simpa using⟨by simpa using n,hc⟩)
theorem NM (Dm:A.frames=some (env :: outer))(hl:s.heap.FunFrames base (env :: outer))(hf:env.frame=some L)(x:je s.heap e cls iX vs)(h1:vs[1]? =some (.ref T))(ht:Li s.heap T .none)(XX:T≠e)
  (q: ∀h' T',nP ((env :: outer).filterMap (·.frame)) [T,e] s.heap h'->je h' e cls iX (vs.setIfInBounds 1 (.ref T'))->T'=s.heap.objs.size->Li h' T' (rawInt L)->Q () {s with heap:=h'}):
  wpAny M A (noteFrame (.ref e) env) Q E s:=by
 obtain⟨c,d,ts,xt,h3⟩:=ht
 unfold noteFrame
 simp only[hf]
 refine aB (rn x h1 ?_)
 rw[if_pos (show(Value.ref T != Value.none)=true from by simp)]
 refine aB (rn xt h3 ?_)
 rw[if_neg (show ¬ ((Value.none == rawInt L)=true) from by simp[rawInt])]
 refine aB (oO xt (fE h3) fun h' b xt' sz=>?_)
 refine entry (s:={s with heap:=h'}) Dm (hl.of_keeps fun a o z nf=>?_) hf (x.but b (by simpa using XX.symm)) (fE h1) fun h2 T' b2 x2 hT t2=>q h2 T' ?_ x2 (hT.trans sz) t2
 ·have na:a≠T:=fun w=>by
   obtain⟨_,z',_,_,hd⟩:=xt
   rw[w,z'] at z
   cases z
   exact nf _ hd
  obtain⟨_,sl,z'⟩:=b a o z (by simpa using na)
  exact⟨_,z',rfl⟩
 ·exact((b.mono (fun _ z=>absurd z (by simp)) (fun _ z=>z)).trans b2).mono (fun _ z=>z) (by simp)
theorem Pg (Dm:A.frames=some (env :: outer))(hl:s.heap.FunFrames base (env :: outer))(hf:env.frame=some L)(x:je s.heap e cls iX vs)(h1:vs[1]? =some (.ref T))(ht:Li s.heap T .none)(XX:T≠e)
  (q: ∀h' T',nP ((env :: outer).filterMap (·.frame)) [T,e] s.heap h'->je h' e cls iX (vs.setIfInBounds 1 (.ref T'))->T'=s.heap.objs.size->Li h' T' .none->Q () {s with heap:=h'}):
  wpAny M A (leaving env (.ref e)) Q E s:=by
 have ne:s.heap.objs.size≠e:=by
  obtain⟨_,z,_⟩:=x
  exact qG (aM z)
 unfold leaving
 refine aB (NM Dm hl hf x h1 ht XX fun h' T' b x' hT t=>?_)
 refine vA (s:={s with heap:=h'}) x' (qt (fE h1)) t fun h2 b2 t2 _=>q h2 T' ?_ (x'.but b2 (by rw[hT]; simpa using ne.symm)) hT t2
 intro c o z n
 have hc:c≠T':=fun w=>by rw[w,hT] at z; exact absurd (aM z) (i0 _)
 have n': ¬ (c=T∨c=e):=by simpa using n
 exact(b.trans (b2.mono (by simp) (fun _ z=>z))) c o z (by simp; exact⟨fun w=>n' (.inl w),fun w=>n' (.inr w),hc⟩)
end
def Lj {α:Type}(M:Model)(h:Heap)(t:Sem α)(r:α):Prop:=
 ∀(A:Around) (Q:α->Shared->Prop) (E:Value->Shared->Prop) (s:Shared),(∀b o,h.get? b=some o->s.heap.get? b=some o)->Q r s->wpAny M A t Q E s
section
variable {M:Model}{A:Around}{E:Value->Shared->Prop}{h:Heap}{g:Array GenState}{d:Drawn}{t:Nat}{os:OsState}
variable {nm q:Str}{C N:Addr}{bs bm Fn:List Value}{o8:Bool}{sn:List Str}{sub:List Value}{ab:Bool}{col:Option Bool}{dd:Option Addr}{k0 k1 k2 k3 k5:Option Value}{B newId ly:String}
theorem iQ {X:String}{r:Bool}(hb:bm.contains (.type X)=r):(Value.ref C :: bm).contains (.type X)=r:=by
 rw[List.contains_cons,hb]
 rfl
theorem Mf (F:ExcBaseFacts B newId ly Fn)(hB:bm.contains (.type B)=true){rest:List Value}{Q:Unit->Shared->Prop}
  (hC:h.get? C=some (excClassObj nm q C N bs bm o8 sn sub ab col dd k0 k1 k2 k3 k5 newId)) (hq:Q () ⟨h,g,d,t,os⟩):wpAny M A (checkBuiltinCall newId ⟨.ref C :: rest,[]⟩) Q E ⟨h,g,d,t,os⟩:=by
 have kX:=iQ (C:=C) hB; have st:=F.noStar
 simp only[checkBuiltinCall,F.newKind,F.newSplit,F.newRow]
 repeat (first
  |refine bz hC ?_
  |(refine cX hC ?_; rw[kX])
  |refine wpAny_staticBase_exc hC ?_
  |refine wpAny_madeBy_exc hC ?_
  |simp only[bne_self_eq_false,Bool.false_eq_true,if_false]
  |wp_step)
 exact hq
end
section
variable {prog:Program}{w:World}{A:Around}{E:Value->Shared->Prop}{R:Result->Shared->Prop}{h:Heap}{g:Array GenState}{d:Drawn}{t:Nat}{os:OsState}
variable {nm q:Str}{C N f:Addr}{bs bm Fn:List Value}{o8:Bool}{sn:List Str}{sub:List Value}{ab:Bool}{col:Option Bool}{dd:Option Addr}{k0 k1 k2 k3 k5:Option Value}{B newId ly:String}
abbrev mv (C t:Addr):Obj:={cls:= .ref C,data:= .fields #[.ref t,.none,.none,.none,.bool false,.none]}
abbrev jF (l:List Value):Obj:={cls:= .type "tuple",data:= .seq l.toArray}
theorem Mg (F:ExcBaseFacts B newId ly Fn)(hB:bm.contains (.type B)=true)(hA:bm.contains (.type "AttributeError")=false)(hN:bm.contains (.type "NameError")=false)
  (hC:h.get? C=some (excClassObj nm q C N bs bm o8 sn sub ab col dd k0 k1 k2 k3 k5 newId)) (hq:R (.ok (.ret (.ref (h.objs.size + 1)))) ⟨(h.push (jF [])).push (mv C h.objs.size),g,d,t,os⟩):
  codeAny (model prog w) A (.builtin newId ⟨[.ref C],[]⟩) R ⟨h,g,d,t,os⟩:=by
 have he:=F.ends
 have h1:=iQ (C:=C) hB; have h2:=iQ (C:=C) hA; have h3:=iQ (C:=C) hN
 refine codeAny_builtinAt F.entry ?_
 unfold Builtin.«BaseException.__new__»
 refine wpAt_bind ?_
 show wpAt _ _ _ (stack >>=_) _ _ _
 refine wpAt_bind (wpAt_stack fun p below=>wpAt_of_wpAny ?_)
 wp_walk
 refine wpAt_of_wpAny ?_
 rw[F.owner]
 repeat (first
  |with_reducible refine wpAny_madeHere_exc F.canon hC ?_
  |with_reducible refine bz hC ?_
  |(with_reducible refine cX hC ?_; first|rw[h1]|rw[h2]|rw[h3])
  |wp_step)
 show R _ _
 rw[oH]
 exact hq
theorem GZ (F:ExcBaseFacts B newId ly Fn)(hB:bm.contains (.type B)=true)(hA:bm.contains (.type "AttributeError")=false)(hN:bm.contains (.type "NameError")=false){oI:Obj}{Q:Fin->Shared->Prop}
  (hC:h.get? C=some (excClassObj nm q C N bs bm o8 sn sub ab col dd k0 k1 k2 k3 k5 newId)) (hi:Lj (model prog w) h (typeLookup (.ref C) "__init__") (some (.ref f))) (hf:h.get? f=some oI) (Tf:oI.cls= .type "function")
  (hq:wpAny (model prog w) A (call (.ref f) [.ref (h.objs.size + 1)]) (fun r s'=>r= .none/\Q (.done (.ret (.ref (h.objs.size + 1)))) s') E ⟨(h.push (jF [])).push (mv C h.objs.size),g,d,t,os⟩):
  wpAny (model prog w) A (Builtin.«type.__call__» ⟨[.ref C],[]⟩) Q E ⟨h,g,d,t,os⟩:=by
 repeat (first
  |with_reducible refine bz hC ?_
  |with_reducible refine wpAny_madeBy_exc hC ?_
  |wp_step)
 refine codeAny_call_builtin_code (Code.quiet_builtin _ F.quiet) (Mf F hB hC ?_)
 refine Mg F hB hA hN hC ?_
 show wpAny _ _ _ _ _ _
 have kp: ∀b o,h.get? b=some o->((h.push (jF [])).push (mv C h.objs.size)).get? b=some o:=fun b o z=>ay _ (ay _ z)
 have Jz:=kp _ _ hC
 have hg:((h.push (jF [])).push (mv C h.objs.size)).get? (h.objs.size + 1)=some (mv C h.objs.size):=by heap_get
 have Tg:(Value.ref C :: bm).contains (.ref C)=true:=by simp
 unfold isInstance
 repeat (first
  |with_reducible refine bz hg ?_
  |(with_reducible refine cX Jz ?_; rw[Tg])
  |wp_step)
 show wpAny _ _ (typeLookup (.ref C) _) _ _ _
 refine hi _ _ _ _ kp ?_
 refine iF (aB ?_)
 unfold bindSpecial
 refine aB (wpAny_typeOf (T:="function") ⟨_,kp _ _ hf,Tf⟩ ?_)
 rw[aY (by decide)]
 refine bF (aB (cm hq (fun r s' hr=>?_) fun _ _ x=>x))
 obtain⟨rfl,z⟩:=hr
 wp_walk
 exact z
theorem call_exc (F:ExcBaseFacts B newId ly Fn)(hB:bm.contains (.type B)=true)(hA:bm.contains (.type "AttributeError")=false)(hN:bm.contains (.type "NameError")=false){oI:Obj}{Q:Value->Shared->Prop}
  (hC:h.get? C=some (excClassObj nm q C N bs bm o8 sn sub ab col dd k0 k1 k2 k3 k5 newId)) (hi:Lj (model prog w) h (typeLookup (.ref C) "__init__") (some (.ref f))) (hf:h.get? f=some oI) (Tf:oI.cls= .type "function")
  (hq:wpAny (model prog w) (A.under (.builtin "type.__call__" ⟨[.ref C],[]⟩)) (call (.ref f) [.ref (h.objs.size + 1)]) (fun r s'=>r= .none/\Q (.ref (h.objs.size + 1)) s') E ⟨(h.push (jF [])).push (mv C h.objs.size),g,d,t,os⟩):
  wpAny (model prog w) A (call (.ref C) []) Q E ⟨h,g,d,t,os⟩:=by
 have f1:=tc_lookup; have f2:=tc_bind (.ref C)
 have hT:(⟨h,g,d,t,os⟩:Shared).TypeIs (.ref C) "type":=⟨_,hC,rfl⟩
 refine EL (codeAny_of_tree ?_)
 show wpAny _ _ (callAny (.ref C) _) _ _ _
 repeat (any_goals (first
  |assumption
  |with_reducible refine bz hC ?_
  |wp_step))
 refine⟨rfl,?_⟩
 exact codeAny_call_builtin_at (Code.quiet_builtin _ (by decide +kernel)) entry_typeCall (wpAny_check_type_call_sub hC (GZ F hB hA hN hC hi hf Tf hq))
end
def Stop (P:Prop):Prop:=P
theorem Stop.out {P:Prop}(h:Stop P):P:=h
theorem Stop.in {P:Prop}(h:P):Stop P:=h
section
variable {prog:Program}{w:World}{A:Around}{E:Value->Shared->Prop}{R:Result->Shared->Prop}{h:Heap}{g:Array GenState}{d:Drawn}{t:Nat}{os:OsState}
variable {nm q:Str}{C N e:Addr}{bs bm Fn:List Value}{o8:Bool}{sn:List Str}{sub:List Value}{ab:Bool}{col:Option Bool}{dd iX:Option Addr}{k0 k1 k2 k3 k5:Option Value}{B newId nid ly:String}{vs:Array Value}
theorem JA {M:Model}(F:ExcBaseFacts B nid ly Fn)(hB:bm.contains (.type B)=true){oe:Obj}{rest:List Value}{Q:Unit->Shared->Prop}
  (hC:h.get? C=some (excClassObj nm q C N bs bm o8 sn sub ab col dd k0 k1 k2 k3 k5 newId)) (he:h.get? e=some oe) (hc:oe.cls= .ref C) (hq:Q () ⟨h,g,d,t,os⟩):
  wpAny M A (checkBuiltinCall ly ⟨.ref e :: rest,[]⟩) Q E ⟨h,g,d,t,os⟩:=by
 have h1:=iQ (C:=C) hB; have h2:=F.noStar
 simp only[checkBuiltinCall,F.initKind,F.initSplit,F.initRow]
 repeat (first
  |(with_reducible refine bz he ?_; rw[hc])
  |with_reducible refine bz hC ?_
  |(with_reducible refine cX hC ?_; rw[h1])
  |wp_step)
 refine wpAny_onRaise ?_
 rw[show ∀(a b:String) (n:Nat),Bind.check ⟨.positional,"*",B,.self,[⟨"args",.varPos,false⟩]⟩ a b n (List.map (fun x=>x.fst) ({pos:=Value.ref e :: rest}:Args).kw)=pure () from fun a b n=>
  check_star_args _ _ _ _ _ _]
 exact bF hq
theorem G0 (F:ExcBaseFacts B nid ly Fn)(hB:bm.contains (.type B)=true){v:Value}{Q:Value->Shared->Prop}
  (hC:h.get? C=some (excClassObj nm q C N bs bm o8 sn sub ab col dd k0 k1 k2 k3 k5 newId)) (x:je h e (.ref C) iX vs) {t0:Addr} (h0:vs[0]? =some (.ref t0))
  (hq: ∀h',nP [] [e] h h'->je h' e (.ref C) iX (vs.setIfInBounds 0 (.ref h.objs.size))->Q .none ⟨h',g,d,t,os⟩):
  wpAny (model prog w) A (call (.builtin ly) [.ref e,v]) Q E ⟨h,g,d,t,os⟩:=by
 obtain⟨oe,he,hc,XY,hv⟩:=id x
 refine EL (Gh F.init.plain F.initEntry (JA F hB hC he hc ?_))
 unfold Builtin.«BaseException.__init__»
 have XZ:(h.push (jF [v])).get? e=some oe:=ay _ he
 have x1:je (h.push (jF [v])) e (.ref C) iX vs:=⟨oe,XZ,hc,XY,hv⟩
 have hs:=fE h0
 repeat (first
  |with_reducible refine IE XZ hv h0 ?_
  |with_reducible refine wpAny_setField XZ hv hs ?_
  |wp_step)
 have bt:nP [] [e] h ((h.push (jF [v])).update e (Obj.mapFields (·.setIfInBounds 0 (Value.ref h.objs.size)))):=(vz (fr:=[]) (own:=[]) (jF [v])).trans (zA _)
 exact hq _ bt (x1.set 0 _)
end
section
variable {M:Model}{A:Around}{E:Value->Shared->Prop}{s:Shared}{env:Env}
variable {nm q:Str}{C N e:Addr}{bs bm Fn:List Value}{o8:Bool}{sn:List Str}{sub:List Value}{ab:Bool}{col:Option Bool}{dd iX:Option Addr}{k0 k1 k2 k3 k5:Option Value}{newId:String}{vs:Array Value}
theorem D0 {x:Sem Value}{Q:Flow->Shared->Prop}(hB:bm.contains (.type "BaseException")=true)(hh:A.handled=none)
  (h:wpAny M A x (fun v s1=> ∃e iX vs,v= .ref e/\s1.heap.get? C=some (excClassObj nm q C N bs bm o8 sn sub ab col dd k0 k1 k2 k3 k5 newId)/\je s1.heap e (.ref C) iX vs/\vs[1]? =some .none/\E (.ref e) s1) E s):
  wpAny M A (raiseStmt env (some x) none) Q E s:=by
 have h1:=iQ (C:=C) hB
 unfold raiseStmt
 refine aB (cm h (fun v s1 z=>?_) fun _ _ x=>x)
 obtain⟨e,iX,vs,rfl,hC,⟨oe,he,hc,XY,hv⟩,v1,hE⟩:=z
 obtain⟨hp,g,d,tk,os⟩:=s1
 repeat (first
  |(with_reducible refine bz he ?_; rw[hc])
  |with_reducible refine bz hC ?_
  |(with_reducible refine cX hC ?_; rw[h1])
  |with_reducible refine IE he hv v1 ?_
  |wp_step)
 exact wpAny_raiseNew_none hh hE
theorem Mh {a:Addr}{cls:Value}{i:Nat}{v:Value}{Q:Unit->Shared->Prop}(x:je s.heap a cls iX vs)(h:i < vs.size)
  (q: ∀h',nP [] [a] s.heap h'->je h' a cls iX (vs.setIfInBounds i v)->Q () {s with heap:=h'}):wpAny M A (updateField a i v) Q E s:=
 oO (i:=i) (v:=v) x h fun h' b x' _=>q h' b x'
theorem xj:entryFor table "proto.unchain"=some Builtin.«proto.unchain»:=entryFor_of_tree (by kernel_rfl)
end
section
variable {prog:Program}{w:World}{A:Around}{E:Value->Shared->Prop}{s:Shared}{env:Env}
variable {nm q:Str}{C N e:Addr}{bs bm Fn:List Value}{o8:Bool}{sn:List Str}{sub:List Value}{ab:Bool}{col:Option Bool}{dd iX:Option Addr}{k0 k1 k2 k3 k5:Option Value}{newId:String}{vs:Array Value}
theorem D3 {x c:Sem Value}{Q:Flow->Shared->Prop}{e0:Addr}(hB:bm.contains (.type "BaseException")=true)(hh:A.handled=some (.ref e0))(hc: ∀(R:Value->Shared->Prop) (s:Shared),R .none s->wpAny (model prog w) A c R E s)
  (h:wpAny (model prog w) A x (fun v s1=> ∃e iX vs c0 d0 SE,v= .ref e/\e≠e0/\s1.heap.get? C=some (excClassObj nm q C N bs bm o8 sn sub ab col dd k0 k1 k2 k3 k5 newId)/\je s1.heap e (.ref C) iX vs/\vs[1]? =some .none/\vs.size=6/\
   je s1.heap e0 c0 d0 SE/\SE[2]? =some .none/\ ∀h',nP [] [e] s1.heap h'->je h' e (.ref C) iX (((vs.setIfInBounds 3 .none).setIfInBounds 4 (.bool true)).setIfInBounds 2 (.ref e0))->E (.ref e) {s1 with heap:=h'}) E s):
  wpAny (model prog w) A (raiseStmt env (some x) (some c)) Q E s:=by
 have h1:=iQ (C:=C) hB
 unfold raiseStmt
 refine aB (cm h (fun v s1 z=>?_) fun _ _ x=>x)
 obtain⟨e,iX,vs,c0,d0,SE,rfl,ne,hC,xe,v1,sz,x0,c2,hE⟩:=z
 obtain⟨oe,he,rq,XY,hv⟩:=id xe
 obtain⟨hp,g,d,tk,os⟩:=s1
 have eC:e≠C:=fun q=>by
  rw[q] at he
  rw[hC] at he
  cases he
  cases hv
 repeat (first
  |(with_reducible refine bz he ?_; rw[rq])
  |with_reducible refine bz hC ?_
  |(with_reducible refine cX hC ?_; rw[h1])
  |with_reducible refine oO xe (by rw[sz]; decide) fun h2 b2 x2 _=>Stop.out ?_
  |with_reducible refine hc _ _ ?_
  |wp_step)
 have b2':nP [] [e] hp h2:=b2
 refine Stop.in ?_
 refine aB (oO (s:=⟨h2,g,d,tk,os⟩) x2 (by rw[sy,sz]; decide) fun h3 b3 x3 _=>?_)
 have b3':nP [] [e] h2 h3:=b3
 have X0:nP [] [e] hp h3:=(b2'.trans b3').mono (fun _ z=>z) (by simp)
 have hC3:h3.get? C=_:=(X0 C _ hC (by simpa using eC.symm)).1 (by simp)
 have x03:je h3 e0 c0 d0 SE:=je.but x0 X0 (by simpa using ne.symm)
 obtain⟨o3,he3,hc3,_,hv3⟩:=id x3
 obtain⟨o0,he0,_,_,X1⟩:=id x03
 have v31:((vs.setIfInBounds 3 Value.none).setIfInBounds 4 (Value.bool true))[1]? =some Value.none:=by rw[rm (by decide),rm (by decide)]; exact v1
 repeat (first
  |(with_reducible refine bz he3 ?_; rw[hc3])
  |with_reducible refine bz hC3 ?_
  |(with_reducible refine cX hC3 ?_; rw[h1])
  |with_reducible refine IE he3 hv3 v31 ?_
  |wp_step)
 have sz3:((vs.setIfInBounds 3 Value.none).setIfInBounds 4 (Value.bool true)).size=6:=by rw[sy,sy,sz]
 unfold raiseNew
 refine aB (wpAny_handled ?_)
 rw[hh]
 dsimp only
 rw[if_pos (show(Value.ref e0 != Value.ref e)=true from by simpa using ne.symm)]
 refine aB (iF (wpAny_runValue (codeAny_builtin xj ?_)))
 unfold Builtin.«proto.unchain»
 repeat (first
  |with_reducible refine IE he0 X1 c2 ?_
  |with_reducible refine aB (Mh (s:=⟨h3,g,d,tk,os⟩) x3 (by rw[sz3]; decide) fun h4 b4 x4=>Stop.out ?_)
  |wp_step)
 refine Stop.in ?_
 refine wpAny_throw (hE h4 ?_ x4)
 have b4':nP [] [e] h3 h4:=b4
 exact(X0.trans b4').mono (fun _ z=>z) (by simp)
end
open PySem.Builtin PySem.Builtin.ObjectAttr
section
variable {prog:Program}{w:World}{A:Around}{E:Value->Shared->Prop}{h:Heap}{g:Array GenState}{d:Drawn}{t:Nat}{os:OsState}
variable {nm q:Str}{C N e:Addr}{bs bm:List Value}{sn:List Str}{sub:List Value}{ab:Bool}{col:Option Bool}{dd:Option Addr}{k0 k1 k2 k3 k5:Option Value}{newId:String}{vs:Array Value}{name:Str}{v:Value}
theorem G1 {tk:Tok}{Q:Fin->Shared->Prop}(hC:h.get? C=some (excClassObj nm q C N bs bm true sn sub ab col dd k0 k1 k2 k3 k5 newId))(hp: ∀self:Value,refuseLoop self "__setattr__" (.ref C :: bm)=pure ())
  (tx:Lj (model prog w) h (typeLookup (.ref C) name) none) (x:je h e (.ref C) none vs)
  (hq: ∀h' Ph,nP [] [e] h h'->je h' e (.ref C) (some h.objs.size) vs->h'.Ns1 h.objs.size (fun y=>if y=name then some v else none)->Q (.done (.ret .none)) ⟨h',g,d,Ph,os⟩):
  wpAny (model prog w) A (Builtin.«object.__setattr__» ⟨[.ref e,.str name tk,v],[]⟩) Q E ⟨h,g,d,t,os⟩:=by
 obtain⟨o,hx,hc,X2,hv⟩:=id x
 have Th:=hp (.ref e)
 have X3: ∀{A':Around} {Q':Option Value->Shared->Prop} {E':Value->Shared->Prop},Q' none ⟨h,g,d,t,os⟩->wpAny (model prog w) A' (typeLookup (.ref C) name) Q' E' ⟨h,g,d,t,os⟩:=fun z=>tx _ _ _ _ (fun _ _ y=>y) z
 have hnc: ∀c,o.data≠ .cls c:=fun c z=>by rw[hv] at z; cases z
 unfold Builtin.«object.__setattr__»
 repeat (first
  |rw[refuse_eq]
  |rw[Th]
  |(with_reducible refine bz hx ?_; rw[hc])
  |with_reducible refine wpAny_mroOf_exc hC ?_
  |with_reducible refine X3 ?_
  |wp_step)
 rw[X2,if_neg (by simp[typeHasDict])]
 rw[hv]
 dsimp only
 have lt:=aM hx
 have ne:e≠h.objs.size:=a7 lt
 generalize hD:({cls:= .type "dict",data:= .dict #[]}:Obj)=D
 have BK:(h.push D).get? e=some o:=ay _ hx
 refine aB (wpAny_alloc' (aB (wpAny_update' BK (bF ?_))))
 generalize hU:(h.push D).update e (fun o=>{cls:=o.cls,dict:=some h.objs.size,data:=o.data,slots:=o.slots})=U
 have b1:nP [] [e] h U:=by
  rw[← hU]
  exact(vz (fr:=[]) (own:=[]) D).trans (zA _)
 have x1:je U e (.ref C) (some h.objs.size) vs:=by
  refine⟨{cls:=o.cls,dict:=some h.objs.size,data:=o.data,slots:=o.slots},?_,hc,rfl,hv⟩
  rw[← hU]
  exact Dx _ BK (Obj.isFreed_of_fields (vs:=vs) hv)
 have gd:U.get? h.objs.size=some {cls:= .type "dict",data:= .dict #[]}:=by
  rw[← hU,← hD]
  exact(ID _ _ _ _ ne.symm).trans (Heap.get?_push_at rfl rfl)
 have nd:U.Ns h.objs.size (fun _=>none):=⟨_,#[],_,gd,rfl,fun _ he=>absurd he (by simp),fun _=>rfl⟩
 show wpAny _ _ (storeInDict h.objs.size (.str name tk) name v) _ _ _
 unfold storeInDict newKeyGuard
 refine aB (bF (aB (wpAny_nsSet1 (s:=⟨U,g,d,t,os⟩) (Heap.Ns1.of_empty nd) fun h' hn hs=>?_)))
 obtain⟨oD,esD,epD,Xf,Xg,Xh⟩:=hn.count (Within.cons name v Within.nil)
 refine aB (wpAny_lookBehind Xf (by rw[Xg]; exact pastItsLine_dict (aV Xh (by rw[bO,wV,eU]; lia))) ?_)
 wp_walk
 have lt': ∀b o',h.get? b=some o'->h'.get? b=U.get? b:=fun b o' z=>hs.2 b (a7 (aM z))
 refine hq h' _ (fun b ob z n=>?_) (x1.same fun ob z=>(hs.2 e ne).trans z) hn
 obtain⟨z1,sl,z2⟩:=b1 b ob z n
 exact⟨fun n'=>(lt' b ob z).trans (z1 n'),sl,(lt' b ob z).trans z2⟩
theorem Pj {M:Model}{B sa owner:String}{Fn:List Value}{o:Obj}{vB:Value}{Q:Unit->Shared->Prop}(SF:StoreFacts B Fn sa owner)(ho:bm.contains (.type owner)=true)
  (hC:h.get? C=some (excClassObj nm q C N bs bm true sn sub ab col dd k0 k1 k2 k3 k5 newId)) (hx:h.get? e=some o) (hc:o.cls= .ref C) (hq:Q () ⟨h,g,d,t,os⟩):
  wpAny M A (checkBuiltinCall sa ⟨[.ref e,vB,v],[]⟩) Q E ⟨h,g,d,t,os⟩:=by
 have h1:=iQ (C:=C) ho; have ha:=SF.args (.ref e) vB v
 simp only[checkBuiltinCall,SF.kind,SF.split]
 refine aB ?_
 unfold isInstance
 repeat (first
  |(with_reducible refine bz hx ?_; rw[hc])
  |(with_reducible refine cX hC ?_; rw[h1])
  |wp_step)
 cases hs:Manifest.signature? sa with
 |none=>exact bF hq
 |some sg=>
  simp only[argsOk,hs] at ha
  have h2:Bind.checkArgs sa sg ⟨[.ref e,vB,v],[]⟩=pure ():=ha
  show wpAny M A (Bind.checkArgs sa sg ⟨[.ref e,vB,v],[]⟩) Q E _
  rw[h2]
  exact bF hq
theorem Mi {B sa owner:String}{Fn:List Value}{Q:Unit->Shared->Prop}(SF:StoreFacts B Fn sa owner)(ho:bm.contains (.type owner)=true)(hC:h.get? C=some (excClassObj nm q C N bs bm true sn sub ab col dd k0 k1 k2 k3 k5 newId))
  (hp: ∀self:Value,refuseLoop self "__setattr__" (.ref C :: bm)=pure ()) (sL:Lj (model prog w) h (typeLookup (.ref C) "__setattr__") (some (.builtin sa))) (tx:Lj (model prog w) h (typeLookup (.ref C) name) none) (x:je h e (.ref C) none vs)
  (hq: ∀h' Ph,nP [] [e] h h'->je h' e (.ref C) (some h.objs.size) vs->h'.Ns1 h.objs.size (fun y=>if y=name then some v else none)->Q () ⟨h',g,d,Ph,os⟩):
  wpAny (model prog w) A (setAttr (.ref e) name v) Q E ⟨h,g,d,t,os⟩:=by
 obtain⟨o,hx,hc,_⟩:=id x
 have f3:=SF.slot.bind (.ref e)
 have sL': ∀{tk:Nat} {A':Around} {Q':Option Value->Shared->Prop} {E':Value->Shared->Prop},Q' (some (.builtin sa)) ⟨h,g,d,tk,os⟩->wpAny (model prog w) A' (typeLookup (.ref C) "__setattr__") Q' E' ⟨h,g,d,tk,os⟩:=fun z=>sL _ _ _ _ (fun _ _ y=>y) z
 unfold setAttr callSpecial? specialOf
 repeat (any_goals (first
  |assumption
  |(with_reducible refine bz hx ?_; rw[hc])
  |with_reducible refine sL' ?_
  |wp_step))
 refine Gh SF.slot.plain SF.entry (Pj SF ho hC hx hc (G1 hC hp tx x fun h' Ph b x' n=>?_))
 repeat (any_goals (first
  |assumption
  |wp_step))
 exact hq h' Ph b x' n
end
section
variable {prog:Program}{w:World}{A:Around}{E:Value->Shared->Prop}{h:Heap}{g:Array GenState}{d:Drawn}{t:Nat}{os:OsState}
variable {nm q:Str}{C N e dx:Addr}{bs bm:List Value}{sn:List Str}{sub:List Value}{ab:Bool}{col:Option Bool}{dd:Option Addr}{k0 k1 k2 k3 k5:Option Value}{newId:String}{vs:Array Value}{name:Str}{v:Value}{mA:Str->Option Value}
theorem G2 {tk:Tok}{Q:Fin->Shared->Prop}(hC:h.get? C=some (excClassObj nm q C N bs bm true sn sub ab col dd k0 k1 k2 k3 k5 newId))(tx:Lj (model prog w) h (typeLookup (.ref C) name) none)(x:je h e (.ref C) (some dx) vs)
  (n:h.Ns dx mA) (hm:mA name=some v) (hq:Q (.done (.ret v)) ⟨h,g,d,t,os⟩):wpAny (model prog w) A (Builtin.«object.__getattribute__» ⟨[.ref e,.str name tk],[]⟩) Q E ⟨h,g,d,t,os⟩:=by
 obtain⟨o,hx,hc,X2,hv⟩:=id x
 have X3: ∀{A':Around} {Q':Option Value->Shared->Prop} {E':Value->Shared->Prop},Q' none ⟨h,g,d,t,os⟩->wpAny (model prog w) A' (typeLookup (.ref C) name) Q' E' ⟨h,g,d,t,os⟩:=fun z=>tx _ _ _ _ (fun _ _ y=>y) z
 repeat (any_goals (first
  |assumption
  |(with_reducible refine bz hx ?_; rw[hc])
  |with_reducible refine X3 ?_
  |wp_step))
 rw[hv]
 show wpAny _ _ (instanceDict e false) _ _ _
 unfold instanceDict
 refine aB (bz hx ?_)
 rw[hc]
 dsimp only
 unfold classData
 refine aB (aB (bz hC (bF ?_)))
 rw[if_neg (by simp)]
 rw[X2]
 refine bF ?_
 show wpAny _ _ (nsGet dx name) _ _ _
 refine wpAny_nsGet n ?_
 rw[hm]
 repeat (first
  |exact hq
  |wp_step)
theorem Pk {M:Model}{vB:Value}{o:Obj}{Q:Unit->Shared->Prop}(hB:bm.contains (.type "BaseException")=true)(hC:h.get? C=some (excClassObj nm q C N bs bm true sn sub ab col dd k0 k1 k2 k3 k5 newId))
  (hx:h.get? e=some o) (hc:o.cls= .ref C) (hq:Q () ⟨h,g,d,t,os⟩):wpAny M A (checkBuiltinCall "BaseException.__getattribute__" ⟨[.ref e,vB],[]⟩) Q E ⟨h,g,d,t,os⟩:=by
 have hk:builtinKind "BaseException.__getattribute__"=some .slot:=by decide +kernel
 have hs:splitId "BaseException.__getattribute__"=some ("BaseException","__getattribute__"):=by decide +kernel
 have h1:=iQ (C:=C) hB; have ha:=F.args_bexc_ga (.ref e) vB
 simp only[checkBuiltinCall,hk,hs]
 refine aB ?_
 unfold isInstance
 repeat (first
  |(with_reducible refine bz hx ?_; rw[hc])
  |(with_reducible refine cX hC ?_; rw[h1])
  |wp_step)
 exact hq
theorem Mj {T:String}{expr:Bool}{Q:Value->Shared->Prop}(FB:Slot T "__getattribute__" "BaseException.__getattribute__")(hB:bm.contains (.type "BaseException")=true)(hC:h.get? C=some (excClassObj nm q C N bs bm true sn sub ab col dd k0 k1 k2 k3 k5 newId))
  (gL:Lj (model prog w) h (typeLookup (.ref C) "__getattribute__") (some (.builtin "BaseException.__getattribute__"))) (kL:Lj (model prog w) h (typeLookup (.ref C) "__getattr__") none) (tx:Lj (model prog w) h (typeLookup (.ref C) name) none)
  (x:je h e (.ref C) (some dx) vs) (n:h.Ns dx mA) (hm:mA name=some v) (hv:handedOut v=pure v) (hq:Q v ⟨h,g,d,t + 1,os⟩):wpAny (model prog w) A (getAttr (.ref e) name expr) Q E ⟨h,g,d,t,os⟩:=by
 obtain⟨o,hx,hc,_⟩:=id x
 have f3:=FB.bind (.ref e)
 have x0:(expr && onTheHeap (Value.builtin "BaseException.__getattribute__"))=false:=by cases expr <;> rfl
 have x2:(Value.builtin "BaseException.__getattribute__" == Value.builtin "object.__getattribute__")=false:=by decide +kernel
 have x1:(onTheHeap (Value.ref C) && Value.builtin "BaseException.__getattribute__" == Value.builtin "object.__getattribute__")=false:=by rw[x2]; rfl
 have gL': ∀{tk:Nat} {A':Around} {Q':Option Value->Shared->Prop} {E':Value->Shared->Prop},Q' (some (.builtin "BaseException.__getattribute__")) ⟨h,g,d,tk,os⟩->wpAny (model prog w) A' (typeLookup (.ref C) "__getattribute__") Q' E' ⟨h,g,d,tk,os⟩:=
  fun z=>gL _ _ _ _ (fun _ _ y=>y) z
 have kL': ∀{tk:Nat} {A':Around} {Q':Option Value->Shared->Prop} {E':Value->Shared->Prop},Q' none ⟨h,g,d,tk,os⟩->wpAny (model prog w) A' (typeLookup (.ref C) "__getattr__") Q' E' ⟨h,g,d,tk,os⟩:=fun z=>kL _ _ _ _ (fun _ _ y=>y) z
 unfold getAttr
 repeat (any_goals (first
  |assumption
  |(with_reducible refine bz hx ?_; rw[hc])
  |with_reducible refine gL' ?_
  |with_reducible refine kL' ?_
  |wp_step))
 refine Gh FB.plain F.entry_bexc_ga (Pk hB hC hx hc (G2 hC tx x n hm ?_))
 repeat (any_goals (first
  |assumption
  |wp_step))
end
section
variable {M:Model}{A:Around}{E:Value->Shared->Prop}
variable {nm q:Str}{C N:Addr}{bs bm:List Value}{o8:Bool}{sn:List Str}{sub:List Value}{ab:Bool}{col:Option Bool}{dd:Option Addr}{k0 k1 k2 k3 k5:Option Value}{newId:String}
variable {nm' q':Str}{R N':Addr}{bs' X4:List Value}{Ti:Bool}{sn':List Str}{X5:List Value}{ab':Bool}{X6:Option Bool}{E6:Option Addr}{j0 j1 j2 j3 j5:Option Value}{Pl:String}
theorem yB {h:Heap}{g:Array GenState}{d:Drawn}{t:Nat}{os:OsState}{e:Addr}{iX:Option Addr}{vs:Array Value}{b:Bool}{Q:Bool->Shared->Prop}
  (hC:h.get? C=some (excClassObj nm q C N bs bm o8 sn sub ab col dd k0 k1 k2 k3 k5 newId)) (hR:h.get? R=some (excClassObj nm' q' R N' bs' X4 Ti sn' X5 ab' X6 E6 j0 j1 j2 j3 j5 Pl))
  (x:je h e (.ref C) iX vs) (qY:X4.contains (.type "BaseException")=true) (up:(Value.ref C :: bm).contains (.ref R)=b)
  (hq:Q b ⟨h,g,d,t,os⟩):wpAny M A (excMatches (.ref e) (.ref R)) Q E ⟨h,g,d,t,os⟩:=by
 obtain⟨oe,he,Oy,_⟩:=x
 have X7:(Value.ref R :: X4).contains (.type "BaseException")=true:=by rw[List.contains_cons,qY,Bool.or_true]
 have f:=tc_notTuple
 unfold excMatches
 repeat (first|(with_reducible refine cX hR ?_; rw[X7])|(with_reducible refine cX hC ?_; rw[up])|(with_reducible refine bz he ?_; rw[Oy])|with_reducible refine bz hR ?_|wp_step)
 cases b <;> (wp_walk; exact hq)
end
end Lh
namespace L2
open PySem PySem.Spec PyProof.Rows Lh
structure hX (K:Frag)(C R:Addr):Prop where
 obj: ∃(nm q:Str) (N:Addr) (bs bm:List Value) (sn:List Str) (sub:List Value) (ab:Bool) (col:Option Bool) (dd:Option Addr) (k0 k1 k2 k3 k5:Option Value),
  K.lookup C=some (excClassObj nm q C N bs bm true sn sub ab col dd k0 k1 k2 k3 k5 "Exception.__new__")/\
   (bm=[.type "Exception",.type "BaseException",.type "object"]/\C=R∨bm=[.ref R,.type "Exception",.type "BaseException",.type "object"])
 sa:findIn K (.ref C) "__setattr__"=some (some (.builtin "object.__setattr__"))
 ga:findIn K (.ref C) "__getattribute__"=some (some (.builtin "BaseException.__getattribute__"))
 gk:findIn K (.ref C) "__getattr__"=some none
 tx:findIn K (.ref C) "text"=some none
structure X8 (h:Heap)(C R:Addr)(nm q:Str)(N:Addr)(bs bm:List Value)(sn:List Str)(sub:List Value)(ab:Bool)(col:Option Bool)(dd:Option Addr)(k0 k1 k2 k3 k5:Option Value):Prop where
 at_:h.get? C=some (excClassObj nm q C N bs bm true sn sub ab col dd k0 k1 k2 k3 k5 "Exception.__new__")
 e:bm.contains (.type "Exception")=true
 b:bm.contains (.type "BaseException")=true
 o:bm.contains (.type "object")=true
 na:bm.contains (.type "AttributeError")=false
 nn:bm.contains (.type "NameError")=false
 rf: ∀self:Value,refuseLoop self "__setattr__" (.ref C :: bm)=pure ()
 up:(Value.ref C :: bm).contains (.ref R)=true
theorem hX.on {K:Frag}{C R:Addr}(k:hX K C R): ∃nm q N bs bm sn sub ab col dd k0 k1 k2 k3 k5,∀h:Heap,K.In h->X8 h C R nm q N bs bm sn sub ab col dd k0 k1 k2 k3 k5:=by
 obtain⟨nm,q,N,bs,bm,sn,sub,ab,col,dd,k0,k1,k2,k3,k5,l,hb⟩:=k.obj
 have pass: ∀self:Value,refuseLoop self "__setattr__" [.type "Exception",.type "BaseException",.type "object"]=pure ():=F.store_Exception.passes
 refine⟨nm,q,N,bs,bm,sn,sub,ab,col,dd,k0,k1,k2,k3,k5,fun h X=>?_⟩
 rcases hb with⟨rfl,rfl⟩|rfl
 ·exact⟨X _ _ l,by decide +kernel,by decide +kernel,by decide +kernel,by decide +kernel,by decide +kernel,fun self=>by rw[refuseLoop_ref]; exact pass self,by simp⟩
 ·exact⟨X _ _ l,iQ (by decide +kernel),iQ (by decide +kernel),iQ (by decide +kernel),iQ (by decide +kernel),iQ (by decide +kernel),fun self=>by rw[refuseLoop_ref,refuseLoop_ref]; exact pass self,by simp⟩
theorem lP {K:Frag}{M:Model}{h:Heap}(X:K.In h){t:Value}{name:Str}{r:Option Value}(e:findIn K t name=some r):Lj M h (typeLookup t name) r:=PySem.W.looks_findIn X e
abbrev xo (e C:Addr)(iX:Option Addr)(vs:Array Value):HO:= .ext fun h=>je h e (.ref C) iX vs
theorem JB {P:Program}{w:World}{H:Hp}{h:Heap}{e C:Addr}{iX:Option Addr}{vs:Array Value}(x:je h e (.ref C) iX vs):dH P w H h e (xo e C iX vs):=by
 refine⟨x,?_,fun h1 h2 z k=>je.same z k⟩
 obtain⟨o,z,_⟩:=x
 exact⟨o,z⟩
abbrev v0 (t:Addr):Array Value:= #[.ref t,.none,.none,.none,.bool false,.none]
section
variable {X:Cx}{pins:List (Addr×Obj)}{σ:St}{H:Hp}{s:Shared}{e C R dx:Addr}{iX:Option Addr}{vs X9:Array Value}{h':Heap}{t':Nat}
theorem Inv.D4 (I:Inv X pins σ H s)(h:H e=some (xo e C iX vs)):je s.heap e (.ref C) iX vs:=(I.cE e _ h).1
theorem Inv.Pm (I:Inv X pins σ H s)(h:H e=some (xo e C iX vs))(b:nP [] [e] s.heap h')(x:je h' e (.ref C) iX X9):Inv X pins σ (upd H e (xo e C iX X9)) {s with heap:=h',toks:=t'}:=by
 refine I.write (x:=e) (e:=e) (by rw[h]; exact True.intro) (.inl rfl) (fun c u n z=>(b c u z (by simpa using n)).1 (by simp)) ?_ (JB x)
 obtain⟨o,z,_⟩:=x
 exact⟨o,z⟩
theorem Inv.Ml {f:Str}{y:V}{u:Value}(I:Inv X pins σ H s)(h:H e=some (xo e C none vs))(b:nP [] [e] s.heap h')(x:je h' e (.ref C) (some s.heap.objs.size) vs)(n:h'.Ns1 s.heap.objs.size (fun z=>if z=f then some u else none))(r:RelV y u):
  Inv X pins σ (upd (upd H s.heap.objs.size (.xd [(f,y)])) e (xo e C (some s.heap.objs.size) vs)) {s with heap:=h',toks:=t'}:=by
 have hn:H s.heap.objs.size=none:=I.cE.fresh (aD _)
 have ne:e≠s.heap.objs.size:=aJ h hn
 have off: ∀c u,H c=some u->c≠s.heap.objs.size:=fun c u z=>aJ z hn
 have kp: ∀c o,c≠e->s.heap.get? c=some o->h'.get? c=some o:=fun c o n z=>(b c o z (by simpa using n)).1 (by simp)
 have low: ∀c o,s.heap.get? c=some o->c≠s.heap.objs.size:=fun c o z=>a7 (aM z)
 have same: ∀c,c≠e->c≠s.heap.objs.size->upd (upd H s.heap.objs.size (.xd [(f,y)])) e (xo e C (some s.heap.objs.size) vs) c=H c:=fun c n1 n2=>by rw[az n1,az n2]
 refine I.un ⟨fun c o z hc _ _=>kp c o (fun w=>by rw[w,h] at hc; cases hc) z,fun c o z hc _ _=>⟨o.slots,kp c o (fun w=>by rw[w,h] at hc; cases hc) z⟩,fun c o z hc _=>?_,fun c o z _=>?_,fun c xs z=>?_,fun c o u z=>?_,fun c ps z=>?_⟩ fun c u z=>?_
 ·rw[same c (fun w=>by rw[w,h] at hc; cases hc) (low c o z)]
  exact hc
 ·by_cases q:c=e
  ·rw[q]
   obtain⟨oe,w,_⟩:=x
   exact⟨oe,w⟩
  ·exact⟨o,kp c o q z⟩
 ·rw[same c (fun w=>by rw[w,h] at z; cases z) (off c _ z)]
  exact z
 ·rw[same c (fun w=>by rw[w,h] at z; cases z) (off c _ z)]
  exact z
 ·refine⟨#[],?_⟩
  rw[same c (fun w=>by rw[w,h] at z; cases z) (off c _ z),z]
  simp
 ·by_cases q:c=e
  ·subst q
   rw[ag] at z
   cases z
   exact JB x
  ·rw[az q] at z
   by_cases q2:c=s.heap.objs.size
   ·subst q2
    rw[ag] at z
    cases z
    refine⟨_,n,fun g=>?_⟩
    show lH (List.lookup g [(f,y)]) (if g=f then some u else none)
    by_cases w:g=f
    ·subst w
     rw[aY rfl]
     simpa[List.lookup,lH] using r
    ·rw[aN w]
     have:(g == f)=false:=by simpa using w
     simp[List.lookup,this,lH]
   ·rw[az q2] at z
    refine(I.cE c u z).uh (fun d o hd w=>?_) (fun d w=>?_) fun d xs w=>?_
    ·refine kp d o (fun w2=>?_) w
     rcases hd with hd|hd
     ·exact q (hd▸w2)
     ·rw[w2,h] at hd
      cases hd
    ·rw[same d (fun w2=>by rw[w2,h] at w; cases w) (off d _ w)]
     exact w
    ·rw[same d (fun w2=>by rw[w2,h] at w; cases w) (off d _ w)]
     exact w
def gone (H:Hp)(a:Addr):Hp:=fun b=>if b=a then none else H b
theorem yC {a:Addr}:gone H a a=none:=by unfold gone; rw[if_pos rfl]
theorem iR {a b:Addr}(h:b≠a):gone H a b=H b:=by unfold gone; rw[if_neg h]
theorem Inv.drop {H0:Hp}{s0:Shared}{φ:Heap->Prop}(I0:Inv X pins σ H0 s0)(h0:H0 e=none)(I:Inv X pins σ H s)(h:H e=some (.ext φ)):Inv X pins σ (gone H e) s:=by
 have off: ∀c u,H c=some u->u≠ .ext φ->c≠e:=fun c u z n w=>by
  rw[w,h] at z
  cases z
  exact n rfl
 refine⟨I.ok,I.os,I.bare,⟨I.base.keep,I.base.slot,fun c o z hc hx=>?_,I.base.there,fun c xs z=>?_,fun c o u z=>?_,fun c ps z=>?_⟩,I.loc,I.cell,?_,fun x c z=>?_,fun p hp=>?_,fun c u z=>?_,I.len⟩
 ·have w:=I.base.free c o z hc hx
  rw[iR (fun q=>by rw[q,h] at w; cases w)]
  exact w
 ·rw[iR (aJ (I0.base.qQ c xs z) h0)]
  exact I.base.qQ c xs z
 ·rw[iR (aJ (I0.base.pZ c o u z) h0)]
  exact I.base.pZ c o u z
 ·obtain⟨m,w⟩:=I0.base.qa c ps z
  obtain⟨m',w'⟩:=I.base.qa c ps z
  exact⟨m',by rw[iR (aJ w h0)]; exact w'⟩
 ·rw[iR (fun q=>by have w:=I.free; rw[q,h] at w; cases w)]
  exact I.free
 ·have w:=I.iY x c z
  rw[iR (fun q=>by rw[q,h] at w; cases w)]
  exact w
 ·obtain⟨w1,w2,w3⟩:=I.pin p hp
  refine⟨w1,?_,w3⟩
  rw[iR (fun q=>by rw[q,h] at w2; cases w2)]
  exact w2
 ·by_cases q:c=e
  ·rw[q,yC] at z
   cases z
  ·rw[iR q] at z
   refine(I.cE c u z).uh (fun d o _ w=>w) (fun d w=>?_) fun d xs w=>?_
   ·rw[iR (off d _ w (by intro z; cases z))]
    exact w
   ·rw[iR (off d _ w (by intro z; cases z))]
    exact w
end
structure iB (k:Nat)(A:Around):Prop where
 dp:A.depth + 3 * k + 5 < recursionLimit
 un:A.units + 16 * k + 200 < cLine
theorem fu.h {k:Nat}{A:Around}(r:fu k A):iB k A:=⟨r.dp,r.un⟩
theorem iB.mono {j k:Nat}{A:Around}(r:iB k A)(h:j<=k):iB j A:=⟨by have:=r.dp; lia,by have:=r.un; lia⟩
theorem iB.deeper {k:Nat}{A:Around}(r:iB (k + 1) A)(env:Env):iB k (A.deeper env):=
 ⟨by have:=r.dp; show A.depth + 1 + 3 * k + 5 < _; lia,by have:=r.un; show A.units + 3 + 16 * k + 200 < _; lia⟩
theorem iB.make {k:Nat}{A:Around}(r:iB (k + 1) A)(C:Addr)(us:List Value)(kw:List (Str×Value)):iB k (A.under (.builtin "type.__call__" ⟨.ref C :: us,kw⟩)):=
 ⟨by have:=r.dp; rw[uV]; lia,by have:=r.un; rw[uW]; lia⟩
theorem iB.mark {k:Nat}{A:Around}(r:iB k A)(e:Option Value):iB k (A.mark e):=⟨r.dp,r.un⟩
structure Tj (P:Program)(w:World)(K:Frag)(mg:Str->Option Value)(base:Heap)(k:Nat)(f:Addr)(fd:FuncData)(ps:List Str)(sp:Sp):Prop where
 len: ∀vs H Q E,sp vs H Q E->vs.length=ps.length
 run: ∀(A:Around) (outer:List Env) (s:Shared) (H:Hp) (args:Args) (us:List Value) (vs:List V) (Q:VK) (E:XK),iB k A->qV P w K mg base A outer s H->BindsTo s fd args (ps.zip us)->Vals vs us->sp vs H Q E->
  codeAny (model P w) A (.call (.ref f) args) (CR sG outer P w H s Q E) s
abbrev vC (P:Program)(w:World)(K:Frag)(mg:Str->Option Value)(base:Heap)(N:List Str)(qual:Str)(scope:Scope)(f:Addr)(cd:Value)(A:Around)(outer:List Env)(s:Shared)(H:Hp)(E:XK):Cx:=
 {lJ sG P w K mg base N qual scope f cd A outer s H E with calm:=false}
theorem vD {P:Program}{w:World}{K:Frag}{mg:Str->Option Value}{base:Heap}{N ps:List Str}{qual:Str}{scope:Scope}{f:Addr}{cd:Value}{A:Around}{outer:List Env}{s s1:Shared}{H:Hp}{E:XK}{us:List Value}{vs:List V}
  (S:aU N ps scope) (e0:qV P w K mg base A outer s H) (hl:vs.length=ps.length) (r:Vals vs us)
  (x:InCallC s s.heap.objs.size (bindL (envOfC qual scope s.heap.objs.size f cd).kindOf (ps.zip us) fun _=>none) (cellsFrom (s.heap.objs.size + 1) scope.names []) (bindC (envOfC qual scope s.heap.objs.size f cd).kindOf (ps.zip us) fun _=>none) s1):
  Inv (vC P w K mg base N qual scope f cd A outer s H E) [] (start N vs) H s1:=by
 have I:=yl (CX:=sG) (E:=E) (A:={A with handled:=none}) (K:=K) (base:=base) (P:=P) (w:=w) (mg:=mg) (N:=N) S rfl ⟨e0.frames,e0.mod,e0.bs,e0.Bg,e0.me,e0.EM,e0.cE,e0.bare⟩ hl r x
 have ok:=I.ok
 exact⟨⟨ok.mod,ok.kind,ok.glob,ok.blt,ok.above,ok.inj,ok.has,ok.La,(fun z=>by cases z),Around.frames_deeper e0.frames,ok.Iu,ok.LF,ok.bs,ok.Bg,ok.wY,ok.wZ,ok.me,ok.EM⟩,I.os,I.bare,I.base,I.loc,I.cell,I.free,I.iY,I.pin,I.cE,I.len⟩
theorem mx {P:Program}{w:World}{K:Frag}{mg:Str->Option Value}{base:Heap}{k:Nat}{f:Addr}{x qual:Str}{st:Stmt}{fd:FuncData}{N ps:List Str}{sp:Sp}(F:gE K x qual st f fd)(S:aU N ps (aA st))
  (len: ∀vs H Q E,sp vs H Q E->vs.length=ps.length)
  (gp: ∀(cY:Value) (A:Around) (outer:List Env) (s:Shared) (H:Hp) (vs:List V) (Q:VK) (E:XK),iB k (A.deeper (envOfC qual (aA st) s.heap.objs.size f cY))->sp vs H Q E->
   ∃t,pB (vC P w K mg base N qual (aA st) f cY A outer s H E).ER (dI st) t/\t {nx:=fun _ H'=>Q .eF H',rt:=Q} (start N vs) H):Tj P w K mg base (k + 1) f fd ps sp:=by
 obtain⟨oc,od,kV,doc,pm,an,cY,ct,GA,rfl,lk,sf⟩:=F.ex
 refine⟨len,fun A outer s H args us vs Q E hr e0 hb r y6=>?_⟩
 have hl:=len _ _ _ _ y6
 have KX:K.In s.heap:=e0.mod.LD.keeps fun b o e=>(e0.bs b o e).1
 have lim:s.heap.NoLimit:=e0.mod.nolimit.keeps fun b o e=>(e0.bs b o e).1
 have nE: ∀y∈ps.zip us,(aA st).names.lookup y.1=some .local∨((aA st).names.lookup y.1=some .cell/\((cellsFrom (s.heap.objs.size + 1) (aA st).names []).lookup y.1).isSome=true):=fun⟨n,v⟩ hy=>by
  rcases S.par n (oX hy).1 with q|q
  ·exact .inl q
  ·exact .inr ⟨q,lF _ _ _ (.inl q)⟩
 have dp:A.depth < recursionLimit:=by have:=hr.dp; lia
 refine codeAny_call_function dp (KX _ _ lk) rfl S.co S.gen rfl (PySem.W.codeRec_of KX sf) (hb _ _ _ _ ?_)
 refine uf S.kind nE fun env he s1 y=>?_
 subst he
 refine⟨lim.keeps y.toInCall.keep,codeAny_func ?_⟩
 obtain⟨t,ht,hq⟩:=gp cY A outer s H vs Q E (hr.deeper _) y6
 have I:Inv (vC P w K mg base N qual (aA st) f cY A outer s H E) [] (start N vs) H s1:=vD S e0 hl r y
 refine cm (ht.ER [] s1 (start N vs) H _ I hq) (fun fl s' hs=>?_) fun e s' hs=>hs
 have fin: ∀{σ':St} {H':Hp} {v:V} {u:Value},Inv (vC P w K mg base N qual (aA st) f cY A outer s H E) [] σ' H' s'->RelV v u->Q v H'->CE outer P w H s Q u s':=
  fun{σ' H' v u} J rv q=>⟨v,H',J.os,J.bare,J.base,J.cE,rv,q⟩
 cases fl with
 |ret u=>
  obtain⟨v,σ',H',J,rv,q⟩:=hs
  exact fin J rv q
 |next=>
  obtain⟨σ',H',J,q⟩:=hs
  exact fin (v:=V.eF) (u:=Value.none) J rfl q
 |brk=>
  obtain⟨_,_,_,q⟩:=hs
  exact False.elim q
 |cont=>
  obtain⟨_,_,_,q⟩:=hs
  exact False.elim q
section
variable {X:Cx}{k:Nat}{f C R:Addr}{fd:FuncData}{ps:List Str}{sp:Sp}{x:Str}{p pos apos pos':Pos}{a b o value e:Expr}{es:List Expr}{ta tb tv:TE}{t:TA}
theorem Fo {A:Around}{xe:Value->Shared->Prop}{pins:List (Addr×Obj)}{σ:St}{H:Hp}{s:Shared}{Q:VK}{us:List Value}{vs:List V}(F:Tj X.prog X.w X.K X.mg X.base k f fd ps sp)(hr:iB k A)(e0:qV X.prog X.w X.K X.mg X.base A X.stack s H)(hb:Binds X.K fd ps [])
  (I:Inv X pins σ H s) (r:Vals vs us) (h:sp vs H Q E0):wpAny (model X.prog X.w) A (call (.ref f) us) (EP X pins σ Q) xe s:=by
 have hl:(us ++ []).length=ps.length:=by rw[cg,← r.length]; exact F.len _ _ _ _ h
 have bd:=hb s us I.g6 hl
 rw[cg] at bd
 refine EL (Dw (F.run A X.stack s H ⟨us,[]⟩ us vs Q E0 hr e0 bd r h) fun r s' hq=>?_)
 cases r with
 |error e=>exact False.elim hq
 |ok fl=>
  cases fl with
  |ret u=>exact I.after hq
  |next=>exact False.elim hq
  |brk=>exact False.elim hq
  |cont=>exact False.elim hq
def Pn (K:Frag)(t:TA):TE:=fun σ H Q=>t σ H fun xs H2=> ∃(e C R t0:Addr) (iX:Option Addr) (vs:Array Value) (y:V),xs=[.ref e,y]/\H2 e=some (xo e C iX vs)/\hX K C R/\vs[0]? =some (.ref t0)/\ ∀t',Q .eF (upd H2 e (xo e C iX (vs.setIfInBounds 0 (.ref t'))))
theorem JC {pl:Sem Bool}(hg:Gl X "Exception")(hm:X.mg "Exception"=none)(ha:PA X (e :: es) t)
  (hs:starEach (e :: es) X.env=(false,eval e X.env) :: starEach es X.env:=by rfl) (jb:(backTo pos (starEach es X.env)).any (·.1)=false:=by rfl)
  (ht:eval (.Call (.Attribute (.Name "Exception" p) "__init__" apos) (e :: es) [] pos) X.env=(do
   let ov ← eval (.Name "Exception" p) X.env
   standAt apos.atName
   let(f,first) ← holding [ov] (getMethod ov "__init__" pl)
   callWith pos f first (backTo pos (starEach (e :: es) X.env)) (backToKw pos (keywordEach [] X.env))):=by rfl):
  PE X (.Call (.Attribute (.Name "Exception" p) "__init__" apos) (e :: es) [] pos) (Pn X.K t):=by
 intro pins s σ H Q I h
 obtain⟨m,F⟩:=I.fr
 refine wR (pl:=pl) (qb I hg hm (u:= .type "Exception") (by rfl) ?_) ht
 refine PySem.W.method_type (v:= .builtin "Exception.__init__") F I.mod.LD (by rfl) (by decide +kernel) (by rfl) (by rfl) ?_
 have hA:=ha pos pins {s with toks:=s.toks + 1} σ H _ (I.tok _) h
 rw[hs] at hA ⊢
 refine i6 (by show(false || (backTo pos (starEach es X.env)).any (·.1))=false; rw[jb] <;> rfl) (Gd ?_)
 refine d9 hA fun us s2 ⟨vs,H2,I2,r2,e,C,R,t0,iX,ws,y,e1,e2,k,e3,q⟩=>?_
 subst e1
 obtain⟨u1,u2,rfl,ru,_⟩:=vals2 r2
 obtain rfl:u1=Value.ref e:=ru
 obtain⟨nm,qn,N,bs,bm,sn,sub,ab,col,dd,k0,k1,k2,k3,k5,c⟩:=k.on
 have c:=c _ I2.g6
 obtain⟨hp,g,d,tk,os⟩:=s2
 exact G0 Oo c.e c.at_ (I2.D4 e2) e3 fun h' b x'=>⟨.eF,_,I2.Pm (t':=tk) e2 b x',rfl,q _⟩
def Tn (K:Frag)(ta tv:TE):TS:=fun D σ H=>tv σ H fun y H1=>ta σ H1 fun x H2=> ∃(e C R:Addr) (vs:Array Value),x= .ref e/\H2 e=some (xo e C none vs)/\hX K C R/\
 ∀dx,H2 dx=none->D.nx σ (upd (upd H2 dx (.xd [("text",y)])) e (xo e C (some dx) vs))
theorem Mm (ha:PE X o ta)(hv:PE X value tv)(hs:swapsWith value (some (.Attribute o "text" pos')) pos.line X.env=pure false):PS X (.Assign [.Attribute o "text" pos'] value pos) (Tn X.K ta tv):=by
 intro pins s σ H D I h
 refine Oj (d9 (hv pins s σ H _ I h) fun u s1 ⟨y,H1,I1,ry,q⟩=>d9 (ha pins s1 σ H1 _ I1 q) fun ov s2 ⟨x,H2,I2,rx,e,C,R,vs,e1,e2,k,q2⟩=>?_) hs
 subst e1
 obtain rfl:ov=Value.ref e:=rx
 obtain⟨nm,qn,N,bs,bm,sn,sub,ab,col,dd,k0,k1,k2,k3,k5,c⟩:=k.on
 have c:=c _ I2.g6
 have hn:=I2.cE.fresh (aD s2.heap.objs.size)
 obtain⟨hp,g,d,tk,os⟩:=s2
 refine Mi PySem.F.store_Exception c.o c.at_ c.rf (lP I2.g6 k.sa) (lP I2.g6 k.tx) (I2.D4 e2) fun h' Ph b x' n=>?_
 exact⟨σ,_,I2.Ml (t':=Ph) e2 b x' n ry,q2 _ hn⟩
structure Fp (K:Frag)(R f:Addr):Prop where
 rd:readsIn K R (.type "type")=true
 sp:specialIn K (.ref R) "__getattribute__"=some (some (.builtin "type.__getattribute__"))
 fd:findCls K (.ref R) (.type "type") "__init__"=some (.val (.ref f))
 kp:keepIn K (.ref f)=true
theorem js {pl:Sem Bool}(i:Fp X.K R f)(F:Tj X.prog X.w X.K X.mg X.base k f fd ps sp)(hr:iB k X.A)(hb:Binds X.K fd ps [])(hg:Gl X x)(hm:X.mg x=some (.ref R))(ha:PA X (e :: es) t)(qW:(x == ("__debug__":Str))=false:=by decide)
  (hs:starEach (e :: es) X.env=(false,eval e X.env) :: starEach es X.env:=by rfl) (jb:(backTo pos (starEach es X.env)).any (·.1)=false:=by rfl)
  (ht:eval (.Call (.Attribute (.Name x p) "__init__" apos) (e :: es) [] pos) X.env=(do
   let ov ← eval (.Name x p) X.env
   standAt apos.atName
   let(f,first) ← holding [ov] (getMethod ov "__init__" pl)
   callWith pos f first (backTo pos (starEach (e :: es) X.env)) (backToKw pos (keywordEach [] X.env))):=by rfl):
  PE X (.Call (.Attribute (.Name x p) "__init__" apos) (e :: es) [] pos) (uX sp [] E0 t):=by
 intro pins s σ H Q I h
 refine wR (pl:=pl) (jL I hg hm ?_ qW) ht
 refine PySem.W.method_cls I.g6 i.sp (PySem.W.cls_value I.g6 i.rd i.fd rfl ?_)
 refine kG (h₀:=X.base) I.ok.mod.LD i.kp (d9 (ha pos pins _ σ H _ (I.tok _) h) fun us s1 ⟨vs,H1,I1,r,q⟩=>⟨I1.g6,?_⟩) hs jb
 have q2:sp (vs ++ []) H1 Q E0:=q
 rw[cg] at q2
 exact Fo F hr I1.IV hb I1 r q2
end
def Fly (mg:Str->Option Value)(n0:Nat)(H:Hp)(h:Heap)(a C dx:Addr):Prop:=
 ∃(vs:Array Value) (T:Addr),je h a (.ref C) (some dx) vs/\vs[1]? =some (.ref T)/\Li h T .none/\T≠a/\n0<=a/\n0<=T/\H a=none/\H T=none/\(vs[2]? =some .none∨mg "Needed"=some (.ref C))
def mY (P:Program)(w:World)(mg:Str->Option Value):Gz:=fun outer H s E e s'=>
 ∃(a C dx:Addr) (H':Hp),e= .ref a/\s'.os=s.os/\AllBare s'.gens/\Un (Dz outer) [] H H' s.heap s'.heap/\o5 P w H' s'.heap/\Fly mg s.heap.objs.size H' s'.heap a C dx/\E (.ref C) (some dx) H'
theorem Fq {fs fr own:List Addr}{H H2:Hp}{h h2 h3:Heap}(u:Un fs [] H H2 h h2)(b:nP fr own h2 h3)(ho: ∀c∈own,h.objs.size<=c)(hf: ∀c∈fr,c∈fs∨h.objs.size<=c):Un fs [] H H2 h h3 where
 keep:=fun c o z n hc hx=>(b c o (u.keep c o z n hc hx) (fun w=>absurd (aM z) (yc.mpr (ho c w)))).1 (fun w=>(hf c w).elim hc (fun q=>absurd (aM z) (yc.mpr q)))
 slot:=fun c o z n hc hx=>by
  obtain⟨sl,e⟩:=u.slot c o z n hc hx
  obtain⟨_,V3,e2⟩:=b c _ e (fun w=>absurd (aM z) (yc.mpr (ho c w)))
  exact⟨V3,e2⟩
 free:=u.free
 there:=fun c o z hx=>by
  obtain⟨o',e⟩:=u.there c o z hx
  obtain⟨_,V3,e2⟩:=b c _ e (fun w=>absurd (aM z) (yc.mpr (ho c w)))
  exact⟨_,e2⟩
 qQ:=u.qQ
 pZ:=u.pZ
 qa:=u.qa
theorem zB {P:Program}{w:World}{fr own:List Addr}{H:Hp}{h h':Heap}(k:o5 P w H h)(b:nP fr own h h')(hf: ∀c∈fr,H c=none)(ho: ∀c∈own,H c=none):o5 P w H h':=fun c u z=>by
 refine(k c u z).uh (fun d o hd w=>?_) (fun _ q=>q) fun _ _ q=>q
 have t: ∃u',H d=some u':=hd.elim (fun q=>⟨u,by rw[q]; exact z⟩) (fun q=>⟨_,q⟩)
 obtain⟨u',y⟩:=t
 exact(b d o w (fun q=>by rw[ho d q] at y; cases y)).1 (fun q=>by rw[hf d q] at y; cases y)
section
variable {X:Cx}{pins:List (Addr×Obj)}{σ:St}{H:Hp}{s:Shared}{h':Heap}{own:List Addr}
theorem Inv.kg {c:Addr}(I:Inv X pins σ H s)(h:s.heap.objs.size<=c):(c∈X.ex∨X.s₀.heap.objs.size<=c)/\c≠X.env.locals/\(∀x k,X.env.cells.lookup x=some k->k≠c)/\ ∀p∈X.pn ++ pins,p.1≠c:=by
 refine⟨.inr (aV I.sz h),(a7 (bo I.lt h)).symm,fun x k z=>?_,fun p hp=>?_⟩
 ·obtain⟨v,w⟩:=I.cell x k z
  exact a7 (bo w.lt h)
 ·exact a7 (bo (aM (I.pin p hp).1) h)
theorem Inv.but (I:Inv X pins σ H s)(b:nP (Dz X.stack) own s.heap h')
  (ho: ∀c∈own,H c=none/\(c∈X.ex∨X.s₀.heap.objs.size<=c)/\c≠X.env.locals/\(∀x k,X.env.cells.lookup x=some k->k≠c)/\ ∀p∈X.pn ++ pins,p.1≠c):Inv X pins σ H {s with heap:=h'}:=by
 refine I.EN (s':={s with heap:=h'}) (ch:=own) rfl ⟨fun c o z n hc hx=>(b c o z hx).1 hc,fun c o z n hc hx=>(b c o z hx).2,fun c o z n hx=>n,fun c o z hx=>?_,fun _ _ z=>z,fun _ _ _ z=>z,fun c ps z=>⟨#[],by rw[z]; simp⟩⟩ ?_ I.bare fun c hc=>(ho c hc).2
 ·obtain⟨_,sl,e⟩:=b c o z hx
  exact⟨_,e⟩
 ·exact zB I.cE b I.qR fun c hc=>(ho c hc).1
end
structure Rl (X:Cx)(E:XK):Prop where
 pass:Passes (mY X.prog X.w X.mg) X E
 mP: ∀{pins:List (Addr×Obj)} {σ:St} {H:Hp} {s:Shared} {a C dx:Addr} {vs:Array Value},Inv X pins σ H s->je s.heap a (.ref C) (some dx) vs->vs[1]? =some .none->(vs[2]? =some .none∨X.mg "Needed"=some (.ref C))->
  X.s₀.heap.objs.size<=a->H a=none->E (.ref C) (some dx) H->X.xe (.ref a) s
 own:PassesOwn (model X.prog X.w) X.A X.env X.xe
 ownAt: ∀hd:Option Value,PassesOwnAt (model X.prog X.w) (X.A.mark hd) X.A X.env X.xe
 Iu:X.stack=X.env :: X.outer
 frm:X.env.frame=some X.env.locals
section
variable {P:Program}{w:World}{K:Frag}{mg:Str->Option Value}{base:Heap}{N:List Str}{qual:Str}{scope:Scope}{f:Addr}{cd:Value}{A:Around}{outer:List Env}{s:Shared}{H:Hp}{E:XK}
theorem To:Passes (mY P w mg) (lJ (mY P w mg) P w K mg base N qual scope f cd A outer s H E) E:=by
 rintro pins σ H1 s1 e s2 I ⟨a,C,dx,H2,rfl,ho,hg,u,cE,⟨vs,T,x,h1,ft,ne,na,nT,Ha,HT,h2⟩,q⟩
 have I2:=I.EN (ch:=[]) ho u cE hg (fun b z=>absurd z (by simp))
 have sz:s.heap.objs.size<=s1.heap.objs.size:=I.sz
 have Rm:a < s2.heap.objs.size:=by
  obtain⟨o,z,_⟩:=x
  exact aM z
 show wpAny _ _ (leaving (envOfC qual scope s.heap.objs.size f cd) (.ref a)) _ _ s2
 refine Pg (base:=base) (outer:=outer) (L:=s.heap.objs.size) I.ok.frames I2.stack rfl x h1 ft ne fun h3 T' b x' hT t'=>?_
 have Rn:T'≠a:=by
  rw[hT]
  exact(a7 Rm).symm
 refine⟨a,C,dx,H2,rfl,I2.os,I2.bare,Fq I2.base b ?_ ?_,zB cE b I2.qR ?_,⟨_,T',x',qt (fE h1),t',Rn,aV sz na,?_,Ha,I2.cE.fresh (iV hT.symm),?_⟩,q⟩
 ·intro c hc
  rcases au.mp hc with rfl|hc
  ·exact aV sz nT
  ·rw[ao.mp hc]
   exact aV sz na
 ·intro c hc
  rcases au.mp (I2.uQ c hc) with hc|hc
  ·rw[hc]
   exact .inr (aD _)
  ·exact .inl hc
 ·intro c hc
  rcases au.mp hc with rfl|hc
  ·exact HT
  ·rw[ao.mp hc]
   exact Ha
 ·rw[hT]
  exact I2.sz
 ·rw[rm (by decide)]
  exact h2
theorem Pp:Rl (lJ (mY P w mg) P w K mg base N qual scope f cd A outer s H E) E where
 pass:=To
 mP:=by
  intro pins σ H1 s1 a C dx vs I x h1 h2 na Ha q
  have Rm:a < s1.heap.objs.size:=by
   obtain⟨o,z,_⟩:=x
   exact aM z
  show wpAny _ _ (leaving (envOfC qual scope s.heap.objs.size f cd) (.ref a)) _ _ s1
  refine Pf (base:=base) (outer:=outer) (L:=s.heap.objs.size) I.ok.frames I.stack rfl x h1 fun h3 T' b x' hT t'=>?_
  have Rn:T'≠a:=by
   rw[hT]
   exact(a7 Rm).symm
  refine⟨a,C,dx,H1,rfl,I.os,I.bare,Fq I.base b ?_ ?_,zB I.cE b I.qR ?_,⟨_,T',x',qt (fE h1),t',Rn,na,?_,Ha,I.cE.fresh (iV hT.symm),?_⟩,q⟩
  ·intro c hc
   rw[ao.mp hc]
   exact na
  ·intro c hc
   rcases au.mp (I.uQ c hc) with hc|hc
   ·rw[hc]
    exact .inr (aD _)
   ·exact .inl hc
  ·intro c hc
   rw[ao.mp hc]
   exact Ha
  ·rw[hT]
   exact I.sz
  ·rw[rm (by decide)]
   exact h2
 own:=PassesOwn.leaving
 ownAt:=fun _=>PassesOwnAt.leaving
 Iu:=rfl
 frm:=rfl
theorem gE.okX {x qual:Str}{st:Stmt}{f:Addr}{fd:FuncData}{N ps:List Str}{k:Nat}{sp:Sp}(F:gE K x qual st f fd)(S:aU N ps (aA st))(len: ∀vs H Q E,sp vs H Q E->vs.length=ps.length)
  (gp: ∀(cY:Value) (A:Around) (outer:List Env) (s:Shared) (H:Hp) (vs:List V) (Q:VK) (E:XK),fu k (A.deeper (envOfC qual (aA st) s.heap.objs.size f cY))->Rl (lJ (mY P w mg) P w K mg base N qual (aA st) f cY A outer s H E) E->sp vs H Q E->
   ∃t,pB (lJ (mY P w mg) P w K mg base N qual (aA st) f cY A outer s H E) (dI st) t/\t {nx:=fun _ H'=>Q .eF H',rt:=Q} (start N vs) H):mf P w K mg base (mY P w mg) (k + 1) f fd ps sp:=by
 obtain⟨oc,od,kV,doc,pm,an,cY,ct,GA,rfl,lk,sf⟩:=F.ex
 exact IZ lk sf S len fun A outer s H vs Q E hr y6=>gp cY A outer s H vs Q E hr Pp y6
end
def Pq (K:Frag)(txt:Str):Sp:=fun vs H Q _=> ∃(e C R t0:Addr),vs=[.ref e]/\H e=some (xo e C none (v0 t0))/\hX K C R/\ ∀dx t',H dx=none->Q .eF (upd (upd H dx (.xd [("text",.str txt)])) e (xo e C (some dx) (v0 t')))
def Pr (E:XK)(C:Addr)(txt:Str):TS:=fun _ _ H=> ∀dx,H dx=none->E (.ref C) (some dx) (upd H dx (.xd [("text",.str txt)]))
structure JD (P:Program)(w:World)(K:Frag)(mg:Str->Option Value)(base:Heap)(k:Nat)(x:Str)(C R:Addr)(txt:Str):Prop where
 mgC:mg x=some (.ref C)
 ek:hX K C R
 kp:keepIn K (.ref C)=true
 init: ∃(f:Addr) (fd:FuncData),findIn K (.ref C) "__init__"=some (some (.ref f))/\typeIn K (.ref f)=some (.type "function")/\Tj P w K mg base k f fd ["self"] (Pq K txt)/\Binds K fd ["self"] []
section
variable {X:Cx}{k:Nat}{C R:Addr}{x txt:Str}{p pos gQ:Pos}{E:XK}
theorem JE (M:JD X.prog X.w X.K X.mg X.base k x C R txt)(hr:iB (k + 1) X.A)(hg:Gl X x)(qW:(x == ("__debug__":Str))=false){pins:List (Addr×Obj)}{σ:St}{H:Hp}{s:Shared}{Q:Value->Shared->Prop}{xe:Value->Shared->Prop}(I:Inv X pins σ H s)
  (q: ∀(s2:Shared) (e dx t':Addr),s.heap.objs.size<=e->H dx=none->H e=none->dx≠e->Inv X pins σ (upd H dx (.xd [("text",.str txt)])) s2->je s2.heap e (.ref C) (some dx) (v0 t')->Q (.ref e) s2):
  wpAny (model X.prog X.w) X.A (eval (.Call (.Name x p) [] [] gQ) X.env) Q xe s:=by
 obtain⟨f,fd,hi,hf,F,hb⟩:=M.init
 refine eV (jL I hg M.mgC ?_ qW)
 refine Bc I.g6 M.kp ?_
 obtain⟨nm,qn,N,bs,bm,sn,sub,ab,col,dd,k0,k1,k2,k3,k5,c⟩:=M.ek.on
 have c:=c _ I.g6
 have hz:=I.cE.fresh (c8 s.heap.objs.size)
 have I1:=I.kept (t':=s.toks) (h':=s.heap.push (jF [])) (fun b u z=>ay _ z)
 have ex:je ((s.heap.push (jF [])).push (mv C s.heap.objs.size)) (s.heap.objs.size + 1) (.ref C) none (v0 s.heap.objs.size):=⟨mv C s.heap.objs.size,by heap_get,rfl,rfl,rfl⟩
 have I2:=I1.laid (a:=s.heap.objs.size + 1) (o:=xo (s.heap.objs.size + 1) C none (v0 s.heap.objs.size)) (t':=s.toks) (h':=(s.heap.push (jF [])).push (mv C s.heap.objs.size)) (fun b u z=>ay _ z) (iV (oH _ _)) (JB ex)
 have VP:=PySem.W.looks_typeIn (M:=model X.prog X.w) I.g6 hf
 have Pt: ∃oI,s.heap.get? f=some oI/\oI.cls= .type "function":=by
  have z:=hf
  unfold typeIn at z
  dsimp only at z
  cases w:X.K.lookup f with
  |none=>rw[w] at z; cases z
  |some o=>
   rw[w] at z
   exact⟨o,I.g6 _ _ w,aG z⟩
 obtain⟨oI,Pt,Tf⟩:=Pt
 have e0:=I2.IV.make C [] []
 obtain⟨hp,g,d,tk,os⟩:=s
 refine call_exc Oo c.e c.na c.nn c.at_ (lP I.g6 hi) Pt Tf ?_
 refine d9 (Fo (X:=X) F (hr.make C [] []) e0 hb I2 (us:=[.ref (hp.objs.size + 1)]) (vs:=[.ref (hp.objs.size + 1)]) (Q:=fun v H'=>v= .eF/\ ∃dx t',H dx=none/\dx≠hp.objs.size + 1/\H'=upd (upd (upd H (hp.objs.size + 1) (xo (hp.objs.size + 1) C none (v0 hp.objs.size))) dx (.xd [("text",.str txt)])) (hp.objs.size + 1) (xo (hp.objs.size + 1) C (some dx) (v0 t'))) (.cons rfl .nil) ?_) fun u s2 h2=>?_
 ·refine⟨_,C,R,_,rfl,ag,M.ek,fun dx t' Dn=>⟨rfl,dx,t',?_⟩⟩
  have ne:dx≠hp.objs.size + 1:=fun z=>by
   rw[z,ag] at Dn
   cases Dn
  rw[az ne] at Dn
  exact⟨Dn,ne,rfl⟩
 ·obtain⟨v,H',I3,rv,rfl,dx,t',Dn,ne,rfl⟩:=h2
  refine⟨rv,?_⟩
  have I4:=Inv.drop I hz I3 ag
  have eH:gone (upd (upd (upd H (hp.objs.size + 1) (xo (hp.objs.size + 1) C none (v0 hp.objs.size))) dx (.xd [("text",.str txt)])) (hp.objs.size + 1) (xo (hp.objs.size + 1) C (some dx) (v0 t'))) (hp.objs.size + 1)=upd H dx (.xd [("text",.str txt)]):=by
   funext b
   by_cases h1:b=hp.objs.size + 1
   ·rw[h1,yC,az ne.symm,hz]
   ·rw[iR h1,az h1]
    by_cases h2:b=dx
    ·rw[h2,ag,ag]
    ·rw[az h2,az h2,az h1]
  rw[eH] at I4
  exact q s2 _ dx t' (c8 _) Dn hz ne I4 (I3.D4 ag)
theorem kh (T:Rl X E)(M:JD X.prog X.w X.K X.mg X.base k x C R txt)(hr:iB (k + 1) X.A)(hg:Gl X x)(hc:X.calm=true)(qW:(x == ("__debug__":Str))=false:=by decide):
  PS X (.Raise (some (.Call (.Name x p) [] [] gQ)) none pos) (Pr E C txt):=by
 intro pins s σ H D I h
 rw[arm_exec_Raise]
 obtain⟨nm,qn,N,bs,bm,sn,sub,ab,col,dd,k0,k1,k2,k3,k5,c⟩:=M.ek.on
 refine aB (iG (D0 (C:=C) (nm:=nm) (q:=qn) (N:=N) (bs:=bs) (bm:=bm) (o8:=true) (sn:=sn) (sub:=sub) (ab:=ab) (col:=col) (dd:=dd) (k0:=k0) (k1:=k1) (k2:=k2) (k3:=k3) (k5:=k5) (newId:="Exception.__new__") (c _ I.g6).b (I.ok.hd hc) (aB (JE M hr hg qW I fun s2 e dx t' he Dn hz ne I2 x2=>aB (iG (bF ?_))))))
 exact⟨e,some dx,v0 t',rfl,(c _ I2.g6).at_,x2,rfl,T.mP I2 x2 rfl (.inl rfl) (aV I.sz he) (by rw[az ne.symm]; exact hz) (h dx Dn)⟩
end
abbrev Cx.xk (X:Cx)(xe:Value->Shared->Prop)(pn:List (Addr×Obj)):Cx:={X with xe:=xe,pn:=pn}
abbrev Cx.Lk (X:Cx)(e:Value)(pn:List (Addr×Obj))(xe:Value->Shared->Prop):Cx:={X with A:=X.A.mark (some e),calm:=false,pn:=pn,xe:=xe}
section
variable {X:Cx}{pins Bi l:List (Addr×Obj)}{σ:St}{H:Hp}{s:Shared}{xe:Value->Shared->Prop}{E:XK}
theorem Inv.xk (I:Inv X pins σ H s)(xe:Value->Shared->Prop):Inv (X.xk xe (X.pn ++ pins)) [] σ H s:=
 have ok:=I.ok
 ⟨⟨ok.mod,ok.kind,ok.glob,ok.blt,ok.above,ok.inj,ok.has,ok.La,ok.hd,ok.frames,ok.Iu,ok.LF,ok.bs,ok.Bg,ok.wY,ok.wZ,ok.me,ok.EM⟩,I.os,I.bare,I.base,I.loc,I.cell,I.free,I.iY,fun p hp=>I.pin p (by simpa using hp),I.cE,I.len⟩
theorem Inv.kj (I:Inv (X.xk xe (X.pn ++ pins)) Bi σ H s):Inv X pins σ H s:=
 have ok:=I.ok
 ⟨⟨ok.mod,ok.kind,ok.glob,ok.blt,ok.above,ok.inj,ok.has,ok.La,ok.hd,ok.frames,ok.Iu,ok.LF,ok.bs,ok.Bg,ok.wY,ok.wZ,ok.me,ok.EM⟩,I.os,I.bare,I.base,I.loc,I.cell,I.free,I.iY,fun p hp=>I.pin p (cZ _ hp),I.cE,I.len⟩
theorem Inv.Lk (I:Inv X pins σ H s)(e:Value)(xe:Value->Shared->Prop)(h: ∀p∈l,s.heap.get? p.1=some p.2/\H p.1=none/\p.1≠X.env.locals/\p.1∉X.fs/\ ∀v,p.2.data≠ .cell v):Inv (X.Lk e (X.pn ++ pins ++ l) xe) [] σ H s:=
 have ok:=I.ok
 ⟨⟨ok.mod,ok.kind,ok.glob,ok.blt,ok.above,ok.inj,ok.has,ok.La,(fun z=>by cases z),ok.frames,ok.Iu,ok.LF,ok.bs,ok.Bg,ok.wY,ok.wZ,ok.me,ok.EM⟩,I.os,I.bare,I.base,I.loc,I.cell,I.free,I.iY,
  fun p hp=>by
   rw[cg] at hp
   exact(bc.mp hp).elim (fun z=>I.pin p z) (h p),I.cE,I.len⟩
theorem Inv.Tp (I0:Inv X pins σ H s){e:Value}{σ':St}{H':Hp}{s':Shared}(I:Inv (X.Lk e (X.pn ++ pins ++ l) xe) Bi σ' H' s'):Inv X pins σ' H' s':=
 have ok:=I.ok
 ⟨⟨ok.mod,ok.kind,ok.glob,ok.blt,ok.above,ok.inj,ok.has,ok.La,I0.ok.hd,ok.frames,ok.Iu,ok.LF,ok.bs,ok.Bg,ok.wY,ok.wZ,ok.me,ok.EM⟩,I.os,I.bare,I.base,I.loc,I.cell,I.free,I.iY,
  fun p hp=>I.pin p (cZ _ (cZ _ hp)),I.cE,I.len⟩
theorem SP.kj {D:Ends}{f:Flow}{s':Shared}(h:SP (X.xk xe (X.pn ++ pins)) [] D f s'):SP X pins D f s':=by
 cases f with
 |next=>obtain⟨σ',H',I,q⟩:=h; exact⟨σ',H',I.kj,q⟩
 |brk=>obtain⟨σ',H',I,q⟩:=h; exact⟨σ',H',I.kj,q⟩
 |cont=>obtain⟨σ',H',I,q⟩:=h; exact⟨σ',H',I.kj,q⟩
 |ret u=>obtain⟨v,σ',H',I,r,q⟩:=h; exact⟨v,σ',H',I.kj,r,q⟩
theorem Inv.renamed {h5:Heap}{m5:Str->Option Value}{t':Nat}(I:Inv X pins σ H s)(n5:h5.Ns X.env.locals m5)(sb:Heap.SameBut X.env.locals s.heap h5):Inv X pins (List.replicate X.N.length none) H {s with heap:=h5,toks:=t'}:=by
 have low: ∀c o,X.s₀.heap.get? c=some o->c≠X.env.locals:=fun c o z=>a7 (bo (aM z) I.ok.above)
 refine⟨I.ok,I.os,I.bare,⟨fun c o z n hc hx=>(sb.2 c (low c o z)).trans (I.base.keep c o z n hc hx),fun c o z n hc hx=>?_,I.base.free,fun c o z hx=>?_,I.base.qQ,I.base.pZ,I.base.qa⟩,⟨m5,n5,fun i x v h1 h2 _=>?_⟩,fun x c z=>?_,I.free,I.iY,fun p hp=>?_,fun c u z=>?_,?_⟩
 ·obtain⟨sl,e⟩:=I.base.slot c o z n hc hx
  exact⟨sl,(sb.2 c (low c o z)).trans e⟩
 ·obtain⟨o',e⟩:=I.base.there c o z hx
  exact⟨o',(sb.2 c (low c o z)).trans e⟩
 ·rw[List.getElem?_replicate] at h2
  split at h2 <;> cases h2
 ·obtain⟨v,w⟩:=I.cell x c z
  exact⟨v,w.sameBut sb (I.Ny x c z)⟩
 ·obtain⟨w1,w2,w3,w4⟩:=I.pin p hp
  exact⟨(sb.2 _ w3).trans w1,w2,w3,w4⟩
 ·refine(I.cE c u z).uh (fun d o hd w=>(sb.2 d (fun q=>?_)).trans w) (fun _ q=>q) fun _ _ q=>q
  rcases hd with hd|hd
  ·rw[← hd,q,I.free] at z
   cases z
  ·rw[q,I.free] at hd
   cases hd
 ·rw[iW]
theorem land (tG:X.stack=X.env :: X.outer)(Dm:X.env.frame=some X.env.locals){e:Value}{s':Shared}(I:Inv X pins σ H s)(c:mY X.prog X.w X.mg X.stack H s E e s'){hs:List ExceptHandler}{Q:Flow->Shared->Prop}
  (q: ∀(a C dx T:Addr) (vs:Array Value) (H':Hp) (s3:Shared),e= .ref a->Inv X pins σ H' s3->je s3.heap a (.ref C) (some dx) vs->vs[1]? =some (.ref T)->Li s3.heap T .none->T≠a->s.heap.objs.size<=a->s.heap.objs.size<=T->H' a=none->H' T=none->
   (vs[2]? =some .none∨X.mg "Needed"=some (.ref C))->E (.ref C) (some dx) H'->wpAny (model X.prog X.w) X.A (handleBy e X.env hs) Q xe s3):
  wpAny (model X.prog X.w) X.A (noteFrame e X.env) (fun _ s2=>wpAny (model X.prog X.w) X.A (setFlight e none) (fun _ s3=>wpAny (model X.prog X.w) X.A (handleBy e X.env hs) Q xe s3) xe s2) xe s':=by
 obtain⟨a,C,dx,H2,rfl,ho,hg,u,cE,⟨vs,T,x,h1,ft,ne,na,nT,Ha,HT,h2⟩,z⟩:=c
 have I2:=I.EN (ch:=[]) ho u cE hg (fun b z=>absurd z (by simp))
 have st:=I2.stack
 rw[tG] at st
 have Rm:a < s'.heap.objs.size:=by
  obtain⟨o,z,_⟩:=x
  exact aM z
 have Ya:s.heap.objs.size<=s'.heap.objs.size:=aV na (cL Rm)
 refine NM (base:=X.base) (outer:=X.outer) (by rw[I.ok.frames,tG]) st Dm x h1 ft ne fun h3 T' b x3 hT t3=>?_
 have Rn:T'≠a:=by
  rw[hT]
  exact(a7 Rm).symm
 have HT':H2 T'=none:=I2.cE.fresh (iV hT.symm)
 have nT':=I2.kg (iV hT.symm)
 have b':nP (Dz X.stack) [T,a] s'.heap h3:=by
  rw[tG]
  exact b
 have I3:=I2.but b' (fun c hc=>by
  rcases au.mp hc with rfl|hc
  ·exact⟨HT,I.kg nT⟩
  ·rw[ao.mp hc]
   exact⟨Ha,I.kg na⟩)
 refine vA (s:={s' with heap:=h3}) x3 (qt (fE h1)) t3 fun h4 b4 t4 _=>?_
 have I4:=I3.but (h':=h4) (own:=[T']) (b4.mono (fun _ z=>absurd z (by simp)) (fun _ z=>z)) (fun c hc=>by
  rw[ao.mp hc]
  exact⟨HT',nT'⟩)
 refine q a C dx T' _ H2 _ rfl I4 (x3.but b4 (by simpa using Rn.symm)) (qt (fE h1)) t4 Rn na (by rw[hT]; exact Ya) Ha HT' ?_ z
 rw[rm (by decide)]
 exact h2
end
section
variable {X:Cx}{R:Addr}{n x:Str}{i k:Nat}{p1 p2 p3 p4 p5 pos gQ:Pos}{body:List Stmt}{t:XK->TS}{E:XK}{CN:Addr}{txt:Str}
def Tq (K:Frag)(R:Addr)(D:Ends):XK:=fun c d H'=> ∃(C dx:Addr) (txt:Str),c= .ref C/\d=some dx/\hX K C R/\H' dx=some (.xd [("text",.str txt)])/\D.rt (.str txt) H'
def Mn (K:Frag)(R:Addr)(t:XK->TS):TS:=fun D σ H=>t (Tq K R D) D σ H
theorem G3 (tG:X.stack=X.env :: X.outer)(Dm:X.env.frame=some X.env.locals)(hc:X.calm=true)(hN:X.N.Nodup)(hi:X.N[i]? =some n)(hl:X.env.scope.names.lookup n=some .local)(hg:Gl X x)(hm:X.mg x=some (.ref R))(kR:hX X.K R R)
  (hb: ∀(xe:Value->Shared->Prop) (pn:List (Addr×Obj)) (E:XK),Passes (mY X.prog X.w X.mg) (X.xk xe pn) E->pB (X.xk xe pn) body (t E)) (hd:(n == ("__debug__":Str))=false:=by decide) (sf:(n == ("__classdict__":Str))=false:=by decide) (hx:(x == ("__debug__":Str))=false:=by decide):
  PS X (.Try body [.ExceptHandler (some (.Name x p1)) (some n) [.Return (some (.Attribute (.Name n p2) "text" p3)) p4] p5] [] [] pos) (Mn X.K R t):=by
 intro pins s σ H D I h
 refine wpAny_Try_except (cm (hb (fun e s1=>wpAny (model X.prog X.w) X.A (noteFrame e X.env) (fun _ s2=>wpAny (model X.prog X.w) X.A (setFlight e none) (fun _ s3=>
  wpAny (model X.prog X.w) X.A (handleBy e X.env [.ExceptHandler (some (.Name x p1)) (some n) [.Return (some (.Attribute (.Name n p2) "text" p3)) p4] p5]) (SP X pins D) X.xe s3) X.xe s2) X.xe s1) (X.pn ++ pins) (Tq X.K R D) ?_ [] s σ H D (I.xk _) h) (fun f s1 q=>?_) fun _ _ z=>z)
 ·rintro Tr σ1 H1 s1 e s2 I1 cx
  refine land tG Dm I1.kj cx fun a C dx T vs H2 s3 he I3 x3 h1 ft ne na nT Ha HT h2 z=>?_
  subst he
  obtain⟨C',dx',txt,e1,e2,ek,ed,q⟩:=z
  cases e1
  cases e2
  obtain⟨oe,Yb,Q8,Pu,Ts⟩:=id x3
  have cC:=ek.on
  have cR:=kR.on
  obtain⟨_,_,_,_,_,_,_,_,_,_,_,_,_,_,_,cC⟩:=cC
  obtain⟨_,_,_,_,_,_,_,_,_,_,_,_,_,_,_,cR⟩:=cR
  have nw:=I1.kj.kg na
  have Im:=I3.Lk (l:=[(a,oe)]) (.ref a) (fun _ _=>False) (fun p hp=>by
   rw[ao.mp hp]
   exact⟨Yb,Ha,nw.2.1,I1.kj.Gn na,fun v z=>by rw[Ts] at z; cases z⟩)
  refine wpAny_handleBy_cons (codeAny_handlers_test (jL Im hg hm ?_ hx)) (by intro q; cases q)
  obtain⟨hp,g,d,tk,os⟩:=s3
  refine yB (cC _ I3.g6).at_ (cR _ I3.g6).at_ x3 (cR _ I3.g6).b (cC _ I3.g6).up ?_
  refine codeAny_handlers_suite_as ?_
  refine vA x3 h1 ft fun h4 b4 t4 _=>?_
  have Mo:=I1.kj.kg nT
  have I4:=Im.but (h':=h4) (own:=[T]) (b4.mono (fun _ z=>absurd z (by simp)) (fun _ z=>z)) (fun c hc=>by
   rw[ao.mp hc]
   refine⟨HT,Mo.1,Mo.2.1,Mo.2.2.1,fun p hp=>?_⟩
   rw[cg] at hp
   rcases bc.mp hp with hp|hp
   ·exact Mo.2.2.2 p hp
   ·rw[ao.mp hp]
    exact ne.symm)
  refine uR (X:=X.Lk (.ref a) (X.pn ++ pins ++ [(a,oe)]) (fun _ _=>False)) (v:= .ref a) I4 hN hi (.inl hl) rfl (fun s5 I5=>?_) (.inr hl)
  have pe:PE (X.Lk (.ref a) (X.pn ++ pins ++ [(a,oe)]) (fun _ _=>False)) (.Attribute (.Name n p2) "text" p3) (fun σ H Q=>σ[i]? =some (some (.ref a))/\H dx=some (.xd [("text",.str txt)])/\Q (.str txt) H):=by
   rintro NN s6 σ6 H6 Q6 J ⟨e1,e2,q6⟩
   refine EW rfl (d9 (DA (X:=X.Lk (.ref a) (X.pn ++ pins ++ [(a,oe)]) (fun _ _=>False)) hi (.inl hl) hd sf NN s6 σ6 H6 (fun v H'=>v= .ref a/\H'=H6) J ⟨_,e1,rfl,rfl⟩) ?_)
   rintro u s7 ⟨v,H7,J7,rv,rfl,rfl⟩
   obtain rfl:u=Value.ref a:=rv
   obtain⟨w1,_⟩:=J7.pin (a,oe) (cZ _ (bw _ (ao.mpr rfl)))
   obtain⟨mA,n1,rl⟩:=J7.cE dx _ e2
   have rt:=rl "text"
   have lk:List.lookup ("text":Str) [("text",V.str txt)]=some (V.str txt):=by simp[List.lookup]
   rw[lk] at rt
   cases Yc:mA "text" with
   |none=>rw[Yc] at rt; exact False.elim rt
   |some u7=>
    rw[Yc] at rt
    obtain⟨tk7,rfl⟩: ∃tk,u7=Value.str txt tk:=rt
    obtain⟨hp7,g7,d7,t7,os7⟩:=s7
    refine Mj PySem.F.attr_Exception.ga (cC _ J7.g6).b (cC _ J7.g6).at_ (lP J7.g6 ek.ga) (lP J7.g6 ek.gk) (lP J7.g6 ek.tx) ⟨oe,w1,Q8,Pu,Ts⟩ n1.ns Yc rfl ?_
    exact⟨.str txt,H7,J7.tok _,⟨_,rfl⟩,q6⟩
  have hlen:i < σ1.length:=by
   rw[I1.len]
   exact(ah.mp hi).1
  refine wpAny_mono (av (a9 pe) [] s5 _ H2 {nx:=fun _ _=>False,rt:=fun v H'=>v= .str txt/\H'=H2} I5 ⟨by simp[hlen],ed,rfl,rfl⟩) (fun f s6 q6=>?_) fun _ _ z=>z.elim
  cases f with
  |next=>obtain⟨_,_,_,z⟩:=q6; exact z.elim
  |brk=>obtain⟨_,_,_,z⟩:=q6; exact z.elim
  |cont=>obtain⟨_,_,_,z⟩:=q6; exact z.elim
  |ret u=>
   obtain⟨v,σ6,H6,I6,rv,rfl,rfl⟩:=q6
   have I7:Inv X pins σ6 H6 s6:=Inv.Tp I3 I6
   obtain⟨m6,n6,_⟩:=id I7.loc
   have kd:(X.env.scope.kind == .class || (X.env.scope.kind == .module && X.env.locals != X.env.globals))=false:=by
    rw[I.ok.kind]
    rfl
   refine wpAny_nameGoes hl n6 kd fun h7 m7 n7 sb=>?_
   exact⟨.str txt,_,H6,I7.renamed n7 sb,rv,q⟩
 ·have q':=SP.kj q
  cases f with
  |next=>exact jz q'
  |brk=>exact q'
  |cont=>exact q'
  |ret u=>exact q'
def JF (CT CN:Addr)(txt:Str)(E:XK):XK:=fun c d H'=>c= .ref CT/\ ∀dx,H' dx=none->E (.ref CN) (some dx) (upd H' dx (.xd [("text",.str txt)]))
def G4 (CT CN:Addr)(txt:Str)(E:XK)(t:XK->TS):TS:=fun D σ H=>t (JF CT CN txt E) D σ H
theorem BL {CT:Addr}{kk:_}(T:Rl X E)(hc:X.calm=true)(hg:Gl X x)(hm:X.mg x=some (.ref CT))(kT:hX X.K CT R)(jE:X.mg "Needed"≠some (.ref CT))(M:JD X.prog X.w X.K X.mg X.base k "Needed" CN R txt)(hr:iB (k + 1) X.A)(hgN:Gl X "Needed")
  (hb: ∀(xe:Value->Shared->Prop) (pn:List (Addr×Obj)) (E:XK),Passes (mY X.prog X.w X.mg) (X.xk xe pn) E->pB (X.xk xe pn) body (t E)) (hx:(x == ("__debug__":Str))=false:=by decide):
  PS X (.Try body [.ExceptHandler (some (.Name x p1)) none [.Raise (some (.Call (.Name "Needed" p2) [] [] gQ)) (some (.Constant .none kk p3)) p4] p5] [] [] pos) (G4 CT CN txt E t):=by
 intro pins s σ H D I h
 refine wpAny_Try_except (cm (hb (fun e s1=>wpAny (model X.prog X.w) X.A (noteFrame e X.env) (fun _ s2=>wpAny (model X.prog X.w) X.A (setFlight e none) (fun _ s3=>
  wpAny (model X.prog X.w) X.A (handleBy e X.env [.ExceptHandler (some (.Name x p1)) none [.Raise (some (.Call (.Name "Needed" p2) [] [] gQ)) (some (.Constant .none kk p3)) p4] p5]) (SP X pins D) X.xe s3) X.xe s2) X.xe s1) (X.pn ++ pins) (JF CT CN txt E) ?_ [] s σ H D (I.xk _) h) (fun f s1 q=>?_) fun _ _ z=>z)
 ·rintro Tr σ1 H1 s1 e s2 I1 cx
  refine land T.Iu T.frm I1.kj cx fun a C dx T0 vs H2 s3 he I3 x3 h1 ft ne na nT Ha HT h2 z=>?_
  subst he
  obtain⟨e1,q⟩:=z
  cases e1
  have v2:vs[2]? =some .none:=h2.elim id (fun z=>absurd z jE)
  obtain⟨oe,Yb,Q8,Pu,Ts⟩:=id x3
  obtain⟨_,_,_,_,_,_,_,_,_,_,_,_,_,_,_,cT⟩:=kT.on
  obtain⟨nm,qn,N,bs,bm,sn,sub,ab,col,dd,k0,k1,k2,k3,k5,cN⟩:=M.ek.on
  have nw:=I1.kj.kg na
  have Yd: ∀p∈[(a,oe)],s3.heap.get? p.1=some p.2/\H2 p.1=none/\p.1≠X.env.locals/\p.1∉X.fs/\ ∀v,p.2.data≠ .cell v:=fun p hp=>by
   rw[ao.mp hp]
   exact⟨Yb,Ha,nw.2.1,I1.kj.Gn na,fun v z=>by rw[Ts] at z; cases z⟩
  have Im:=I3.Lk (l:=[(a,oe)]) (.ref a) X.xe Yd
  refine wpAny_handleBy_cons (codeAny_handlers_test (jL Im hg hm ?_ hx)) (by intro q; cases q)
  obtain⟨hp,g,d,tk,os⟩:=s3
  refine yB (b:=true) (cT _ I3.g6).at_ (cT _ I3.g6).at_ x3 (cT _ I3.g6).b (by simp) ?_
  refine codeAny_handlers_suite ?_
  refine vA x3 h1 ft fun h4 b4 t4 _=>?_
  have Mo:=I1.kj.kg nT
  have I4:=Im.but (h':=h4) (own:=[T0]) (b4.mono (fun _ z=>absurd z (by simp)) (fun _ z=>z)) (fun c hc=>by
   rw[ao.mp hc]
   refine⟨HT,Mo.1,Mo.2.1,Mo.2.2.1,fun p hp=>?_⟩
   rw[cg] at hp
   rcases bc.mp hp with hp|hp
   ·exact Mo.2.2.2 p hp
   ·rw[ao.mp hp]
    exact ne.symm)
  refine wpAny_passesOwnAt (T.ownAt (some (.ref a))) ?_
  have ps:PS (X.Lk (.ref a) (X.pn ++ pins ++ [(a,oe)]) X.xe) (.Raise (some (.Call (.Name "Needed" p2) [] [] gQ)) (some (.Constant .none kk p3)) p4) (fun _ _ H=> ∀dx,H dx=none->E (.ref CN) (some dx) (upd H dx (.xd [("text",.str txt)]))):=by
   intro NN s6 σ6 H6 D6 J h6
   rw[arm_exec_Raise]
   refine aB (iG (D3 (C:=CN) (e0:=a) (nm:=nm) (q:=qn) (N:=N) (bs:=bs) (bm:=bm) (o8:=true) (sn:=sn) (sub:=sub) (ab:=ab) (col:=col) (dd:=dd) (k0:=k0) (k1:=k1) (k2:=k2) (k3:=k3) (k5:=k5) (newId:="Exception.__new__") (cN _ J.g6).b rfl (fun Rr s7 z=>aB (Constant_none (aB (iG (bF z))))) (aB (JE (X:=X.Lk (.ref a) (X.pn ++ pins ++ [(a,oe)]) X.xe) M (hr.mark _) hgN (by decide) J fun s7 e Ye t' he Dn hz ne7 I7 x7=>aB (iG (bF ?_))))))
   obtain⟨w1,_⟩:=I7.pin (a,oe) (cZ _ (bw _ (ao.mpr rfl)))
   have w0:=(J.pin (a,oe) (cZ _ (bw _ (ao.mpr rfl)))).1
   have nea:e≠a:=fun q=>by
    rw[q] at he
    exact absurd (aM w0) (yc.mpr he)
   refine⟨e,some Ye,v0 t',.ref CT,some dx,vs,rfl,nea,(cN _ I7.g6).at_,x7,rfl,rfl,⟨oe,w1,Q8,Pu,Ts⟩,v2,fun h8 b8 x8=>?_⟩
   have Hz:upd H6 Ye (.xd [("text",.str txt)]) e=none:=by
    rw[az ne7.symm]
    exact hz
   have I8:=I7.but (h':=h8) (own:=[e]) (b8.mono (fun _ z=>absurd z (by simp)) (fun _ z=>z)) (fun c hc=>by
    rw[ao.mp hc]
    exact⟨Hz,J.kg he⟩)
   exact T.mP (Inv.Tp I3 I8) x8 rfl (.inr M.mgC) (aV J.sz he) Hz (h6 Ye Dn)
  refine cm (av ps [] _ _ H2 {nx:=fun _ _=>False,rt:=fun _ _=>False} I4 q) (fun f s9 z=>?_) fun _ _ z=>z
  cases f with
  |next=>obtain⟨_,_,_,z⟩:=z; exact z.elim
  |brk=>obtain⟨_,_,_,z⟩:=z; exact z.elim
  |cont=>obtain⟨_,_,_,z⟩:=z; exact z.elim
  |ret u=>obtain⟨_,_,_,_,_,z⟩:=z; exact z.elim
 ·have q':=SP.kj q
  cases f with
  |next=>exact jz q'
  |brk=>exact q'
  |cont=>exact q'
  |ret u=>exact q'
end
open PySem.W
def BMain (mg:Str->Option Value)(h:Heap):Prop:= ∃bm o,mg "__builtins__"=some (.ref bm)/\bm≠builtinsNs/\bm≠mainGlobals/\h.get? bm=some o/\o.cls= .type "module"/\o.dict=some builtinsNs/\o.data= .plain
abbrev yD (c:Addr)(qual:Str):HO:= .ext fun h=>h.CodeRec (.ref c) qual
theorem JG {P:Program}{w:World}{H:Hp}{h:Heap}{c:Addr}{qual:Str}(x:h.CodeRec (.ref c) qual):dH P w H h c (yD c qual):=by
 refine⟨x,?_,fun h1 h2 z k=>?_⟩
 ·obtain⟨c',o,vs,t,e,g,_⟩:=x
  cases e
  exact⟨o,g⟩
 ·obtain⟨c',o,vs,t,e,g,r⟩:=z
  cases e
  exact⟨c,o,vs,t,rfl,k o g,r⟩
def Tb (H:Hp)(P:Addr)(pos:Pos)(qual:Str):Prop:= ∃ps:Array Value,H P=some (.ng ps)/\TriplesOk ps.toList/\(codeAmong pos ps.toList=none∨ ∃c',codeAmong pos ps.toList=some (.ref c')/\H c'=some (yD c' qual))
section
variable {X:Cx}{pins:List (Addr×Obj)}{σ:St}{H:Hp}{s:Shared}{c P:Addr}{params:Arguments}{body:Expr}{scope:Scope}{pos:Pos}{Q:Value->Shared->Prop}{xe:Value->Shared->Prop}
theorem BMain.at {mg:Str->Option Value}{h h':Heap}(B:BMain mg h)(k: ∀b o,h.get? b=some o->h'.get? b=some o){ps:Array Value}(hP:h'.get? P=some (tabObj ps)):h'.BuiltinsAt mg P:=by
 obtain⟨bm,o,b1,b2,b3,b4,b5,b6,b7⟩:=B
 refine⟨bm,o,b1,b2,b3,fun z=>?_,k _ _ b4,b5,b6,b7⟩
 have e:=k _ _ b4
 rw[z,hP] at e
 cases e
 cases b5
theorem JH (I:Inv X pins σ H s)(B:BMain X.mg X.base)(Fs:X.env.code= .ref c)(C:CodeHd X.base c P)(tb:Tb H P pos (X.env.qual ++ "<lambda>"))(Pw:defaultsOf params X.env=([],[]))(rq:closureFor scope X.env=pure [])
  (q: ∀(f c':Addr) (Ft:Value) (H':Hp) (s':Shared),Inv X pins σ H' s'->Frame [P] H H'->Tb H' P pos (X.env.qual ++ "<lambda>")->H' f=none->s'.heap.get? f=some (kla_obj "<lambda>" (X.env.qual ++ "<lambda>") params body scope [] ((X.mg "__name__").getD .none) c' Ft)->
   H' c'=some (yD c' (X.env.qual ++ "<lambda>"))->s.heap.objs.size<=f->Q (.ref f) s'):wpAny (model X.prog X.w) X.A (eval (.Lambda params body scope pos) X.env) Q xe s:=by
 obtain⟨ps,hP,ht,hc⟩:=tb
 have V5:s.heap.get? P=some (tabObj ps):=I.cE P _ hP
 have hg:s.heap.Ns mainGlobals X.mg:=I.mod.glob.keeps I.bk
 have hgP:mainGlobals≠P:=fun z=>by
  obtain⟨o,es,ep,e,hd,_⟩:=hg
  rw[z,V5] at e
  cases e
  cases hd
 have hB:=B.at I.bk V5
 refine kla_eval Pw ?_
 rcases hc with hn|⟨c',hf,V6⟩
 ·refine kla_makeFunction rq I.ok.glob hg Fs (C.keeps I.bk) V5 ht hn hgP hB fun c' Ft h' tk hx O8 iI Yf Ro=>?_
  have Yg:H c'=none:=I.cE.fresh O8
  have cP:c'≠P:=fun z=>by rw[z,hP] at Yg; cases Yg
  have lt: ∀b o,s.heap.get? b=some o->b≠c':=fun b o z=>a7 (bo (aM z) O8)
  have same: ∀b,b≠P->b≠c'->upd (upd H P (.ng (ps ++ #[rawInt pos.line,rawInt pos.col,.ref c']))) c' (yD c' (X.env.qual ++ "<lambda>")) b=H b:=fun b n1 n2=>by rw[az n2,az n1]
  have Mp: ∀b u,H b=some u->u≠ .ng ps->b≠P:=fun b u z n w=>by
   rw[w,hP] at z
   cases z
   exact n rfl
  have G5: ∀b u,H b=some u->b≠c':=fun b u z=>aJ z Yg
  generalize V4:kla_obj "<lambda>" (X.env.qual ++ "<lambda>") params body scope [] ((X.mg "__name__").getD .none) c' Ft=ob
  have hf:(h'.push ob).get? h'.objs.size=some ob:=by
   rw[← V4]
   exact bR _ rfl
  have kp: ∀b o,b≠P->s.heap.get? b=some o->(h'.push ob).get? b=some o:=fun b o n z=>ay _ (hx b o n z)
  have Tt:(h'.push ob).get? P=some (tabObj (ps ++ #[rawInt pos.line,rawInt pos.col,.ref c'])):=ay _ Ro
  have I2:Inv X pins σ (upd (upd H P (.ng (ps ++ #[rawInt pos.line,rawInt pos.col,.ref c']))) c' (yD c' (X.env.qual ++ "<lambda>"))) {s with heap:=h'.push ob,toks:=tk}:=by
   refine I.un ⟨fun b o z n _ _=>kp b o (fun w=>by rw[w,hP] at n; cases n) z,fun b o z n _ _=>⟨o.slots,kp b o (fun w=>by rw[w,hP] at n; cases n) z⟩,fun b o z n _=>?_,fun b o z _=>?_,fun b xs z=>?_,fun b o u z=>?_,fun b qs z=>?_⟩ fun b u z=>?_
   ·rw[same b (fun w=>by rw[w,hP] at n; cases n) (lt b o z)]
    exact n
   ·by_cases w:b=P
    ·rw[w]
     exact⟨_,Tt⟩
    ·exact⟨o,kp b o w z⟩
   ·rw[same b (Mp b _ z (by intro w; cases w)) (G5 b _ z)]
    exact z
   ·rw[same b (Mp b _ z (by intro w; cases w)) (G5 b _ z)]
    exact z
   ·by_cases w:b=P
    ·rw[w] at z ⊢
     rw[hP] at z
     cases z
     exact⟨_,by rw[az cP.symm,ag]⟩
    ·exact⟨#[],by rw[same b w (G5 b _ z),z]; simp⟩
   ·by_cases w:b=c'
    ·subst w
     rw[ag] at z
     cases z
     exact JG (Yf.push ob)
    ·rw[az w] at z
     by_cases w2:b=P
     ·subst w2
      rw[ag] at z
      cases z
      exact Tt
     ·rw[az w2] at z
      refine(I.cE b u z).uh (fun d o hd y=>kp d o (fun w3=>?_) y) (fun d y=>?_) fun d xs y=>?_
      ·rcases hd with hd|hd
       ·exact w2 (hd▸w3)
       ·rw[w3,hP] at hd
        cases hd
      ·rw[same d (Mp d _ y (by intro w; cases w)) (G5 d _ y)]
       exact y
      ·rw[same d (Mp d _ y (by intro w; cases w)) (G5 d _ y)]
       exact y
  have LH:H h'.objs.size=none:=I.cE.fresh (aV O8 (cL iI))
  refine q h'.objs.size c' Ft _ _ I2 (fun b o nb z=>?_) ⟨ps ++ #[rawInt pos.line,rawInt pos.col,.ref c'],by rw[az cP.symm,ag],?_,.inr ⟨c',?_,ag⟩⟩ ?_ (by rw[V4]; exact hf) ag (aV O8 (cL iI))
  ·rw[same b (fun w=>nb (by rw[w]; exact ao.mpr rfl)) (G5 b _ z)]
   exact z
  ·rw[Array.toList_append]
   exact TriplesOk_snoc _ _ _ _ ht
  ·rw[Array.toList_append]
   exact codeAmong_snoc _ ht hn
  ·rw[same _ (fun w=>by rw[w,hP] at LH; cases LH) (qG iI)]
   exact LH
 ·refine kla_makeFunctionHit rq I.ok.glob hg Fs (C.keeps I.bk) V5 ht hf hB fun Ft h' tk hk hsz=>?_
  have I2:=(I.kept (t':=tk) (h':=h'.push (kla_obj "<lambda>" (X.env.qual ++ "<lambda>") params body scope [] ((X.mg "__name__").getD .none) c' Ft)) fun b u z=>ay _ (hk b u z))
  exact q h'.objs.size c' Ft H _ I2 Frame.refl ⟨ps,hP,ht,.inr ⟨c',hf,V6⟩⟩ (I.cE.fresh hsz) (bR _ rfl) V6 hsz
theorem JI {A:Around}{name qual:Str}{pm Ft:Value}{f c':Addr}{N ps:List Str}{us:List Value}{vs:List V}{t:TE}{R:VK}(I:Inv X pins σ H s)(e0:qV X.prog X.w X.K X.mg X.base A X.stack s H)(V7:A.depth < recursionLimit)
  (ho:s.heap.get? f=some (kla_obj name qual params body scope [] pm c' Ft)) (sf:s.heap.CodeRec (.ref c') qual) (S:aU N ps scope) (hb:bindArgs (kla_fn name qual params body scope [] pm (.ref c') Ft) ⟨us,[]⟩=pure (ps.zip us)) (hl:vs.length=ps.length) (r:Vals vs us)
  (gp:PE (vC X.prog X.w X.K X.mg X.base N qual scope f (.ref c') A X.stack s H E0).ER body t) (h:t (start N vs) H R):wpAny (model X.prog X.w) A (call (.ref f) us) (EP X pins σ R) xe s:=by
 have lim:s.heap.NoLimit:=I.nolimit
 have nE: ∀y∈ps.zip us,scope.names.lookup y.1=some .local∨(scope.names.lookup y.1=some .cell/\((cellsFrom (s.heap.objs.size + 1) scope.names []).lookup y.1).isSome=true):=fun⟨n,v⟩ hy=>by
  rcases S.par n (oX hy).1 with q|q
  ·exact .inl q
  ·exact .inr ⟨q,lF _ _ _ (.inl q)⟩
 refine EL (kla_callFunE V7 ho rfl S.co S.gen rfl sf ?_)
 rw[hb]
 refine bF ?_
 refine uf S.kind nE fun env he s1 y=>?_
 subst he
 refine⟨lim.keeps y.toInCall.keep,kla_codeExpr ?_⟩
 have J:Inv (vC X.prog X.w X.K X.mg X.base N qual scope f (.ref c') A X.stack s H E0) [] (start N vs) H s1:=vD S e0 hl r y
 refine cm (gp [] s1 (start N vs) H R (J.uS _) h) (fun v s' hs=>?_) fun e s' hs=>hs.elim
 obtain⟨v',H',J',rv,q'⟩:=hs
 exact I.after ⟨v',H',J'.os,J'.bare,J'.base,J'.cE,rv,q'⟩
end
section
variable {X:Cx}{pins:List (Addr×Obj)}{σ:St}{H:Hp}{s:Shared}
theorem Inv.Tu {D:Addr}{o:HO}(I:Inv X pins σ H s)(hn:H D=none)(ok:dH X.prog X.w (upd H D o) s.heap D o)(nw:(D∈X.ex∨X.s₀.heap.objs.size<=D)/\D≠X.env.locals/\(∀x k,X.env.cells.lookup x=some k->k≠D)/\ ∀p∈X.pn ++ pins,p.1≠D)
  (hx:X.s₀.heap.objs.size<=D):Inv X pins σ (upd H D o) s:=by
 have off: ∀b u,H b=some u->b≠D:=fun b u z=>aJ z hn
 have low: ∀b ob,X.s₀.heap.get? b=some ob->b≠D:=fun b ob z=>a7 (bo (aM z) hx)
 refine⟨I.ok,I.os,I.bare,⟨I.base.keep,I.base.slot,fun b ob z n hb=>?_,I.base.there,fun b xs z=>?_,fun b ob u z=>?_,fun b ps z=>?_⟩,I.loc,I.cell,?_,fun x k z=>?_,fun p hp=>?_,fun b u z=>?_,I.len⟩
 ·rw[az (low b ob z)]
  exact I.base.free b ob z n hb
 ·have w:=I.base.qQ b xs z
  rw[az (off b _ w)]
  exact w
 ·have w:=I.base.pZ b ob u z
  rw[az (off b _ w)]
  exact w
 ·obtain⟨m,w⟩:=I.base.qa b ps z
  exact⟨m,by rw[az (off b _ w)]; exact w⟩
 ·rw[az nw.2.1.symm]
  exact I.free
 ·rw[az (nw.2.2.1 x k z)]
  exact I.iY x k z
 ·obtain⟨w1,w2,w3⟩:=I.pin p hp
  exact⟨w1,by rw[az (nw.2.2.2 p hp)]; exact w2,w3⟩
 ·by_cases q:b=D
  ·subst q
   rw[ag] at z
   cases z
   exact ok
  ·rw[az q] at z
   exact(I.cE b u z).uh (fun _ _ _ w=>w) (fun d w=>by rw[az (off d _ w)]; exact w) fun d xs w=>by rw[az (off d _ w)]; exact w
theorem Frame.sql {K:Frag}{fp:List Addr}{H H':Hp}{a:Addr}{xs:List V}(f:Frame fp H H')(h:bG K H a xs)(ha: ∀o,H a=some o->a∉fp):bG K H' a xs:=by
 rcases h with(h|⟨o,h⟩)|h
 ·exact .inl (.inl (f _ _ (ha _ h) h))
 ·exact .inl (.inr ⟨o,f _ _ (ha _ h) h⟩)
 ·exact .inr h
theorem Tb.upd {P:Addr}{pos:Pos}{qual:Str}{p:Addr}{o:HO}(t:Tb H P pos qual)(hp:H p=none):Tb (upd H p o) P pos qual:=by
 obtain⟨ps,h1,h2,h3⟩:=t
 refine⟨ps,by rw[az (aJ h1 hp)]; exact h1,h2,?_⟩
 rcases h3 with h3|⟨c',h3,h4⟩
 ·exact .inl h3
 ·exact .inr ⟨c',h3,by rw[az (aJ h4 hp)]; exact h4⟩
theorem Frame.new {fp:List Addr}{H H':Hp}{p:Addr}{o:HO}(f:Frame fp H H')(hp:H' p=none):Frame fp H (L2.upd H' p o):=fun b u hb z=>by
 have w:=f b u hb z
 rw[az (aJ w hp)]
 exact w
end
def NO (K:Frag)(P:Addr)(pos:Pos)(qual:Str)(N:List Str)(tb:TE)(Q:VK)(x:V)(H1:Hp):Prop:= ∃(a:Addr) (xs:List V) (ts:List (List Int)) (key:List Int->Int),x= .ref a/\bG K H1 a xs/\xs.length < 64/\ts.length=xs.length/\Tb H1 P pos qual/\
 (∀t∈ts,t≠[])/\(∀t∈ts,∀u∈ts,HT.lexLt t u=decide (key t < key u))/\
 (∀i,i < xs.length-> ∀H2,Frame [P] H1 H2-> ∀R:VK,(∀p,H2 p=none->R (.ref p) (upd H2 p (.tup ((ts.getD i []).map V.int))))->tb (start N [xs.getD i .eF]) H2 R)/\
 ∀(D:Addr) (p:List Nat) (H2:Hp),p.Perm (List.range xs.length)->p.Pairwise (fun i j=>key (ts.getD i [])<=key (ts.getD j []))->Frame [P] H1 H2->Tb H2 P pos qual->H1 D=none->H2 D=some (.lst (p.map fun i=>xs.getD i .eF))->Q (.ref D) H2
def JJ (K:Frag)(P:Addr)(pos:Pos)(qual:Str)(N:List Str)(ta tb:TE):TE:=fun σ H Q=>ta σ H (NO K P pos qual N tb Q)
theorem ix.snoc {H:Hp}: ∀{ts:List (List Int)} {xs:List V} {t:List Int} {p:Addr},ix H ts xs->H p=some (.tup (t.map V.int))->ix H (ts ++ [t]) (xs ++ [.ref p])
 |_,_,_,p,.nil,h=> .cons ⟨p,rfl,h⟩ .nil
 |_,_,_,p,.cons a r,h=> .cons a (ix.snoc r h)
theorem take_succ_getD {α:Type}{l:List α}{i:Nat}{d:α}(h:i < l.length):l.take (i + 1)=l.take i ++ [l.getD i d]:=by
 rw[A5,af h,ak,af h]
 rfl
section
variable {X:Cx}{c P:Addr}{params:Arguments}{body e:Expr}{scope:Scope}{p pos JK Sm:Pos}{ta tb:TE}{N:List Str}{y:Str}
theorem vE (hg:Gl X "sorted")(hm:X.mg "sorted"=none)(B:BMain X.mg X.base)(Fs:X.env.code= .ref c)(C:CodeHd X.base c P)(hr:fu 1 X.A)(S:aU N [y] scope)
  (gp: ∀(f c':Addr) (A:Around) (s:Shared) (H:Hp),PE (vC X.prog X.w X.K X.mg X.base N (X.env.qual ++ "<lambda>") scope f (.ref c') A X.stack s H E0).ER body tb) (ha:PE X e ta)
  (hb: ∀(pm Ft u:Value) (c':Addr),bindArgs (kla_fn "<lambda>" (X.env.qual ++ "<lambda>") params body scope [] pm (.ref c') Ft) ⟨[u],[]⟩=pure ([y].zip [u]):=by intros; rfl)
  (Pw:defaultsOf params X.env=([],[]):=by rfl) (rq:closureFor scope X.env=pure []:=by rfl)
  (he:backTo pos (starEach [e] X.env)=(false,eval e X.env) :: backTo pos (starEach [] X.env):=by rfl)
  (hs:starEach [e] X.env=(false,eval e X.env) :: starEach [] X.env:=by rfl) (u0:(backTo pos (starEach [e] X.env)).any (·.1)=false:=by rfl):
  PE X (.Call (.Name "sorted" p) [e] [⟨some "key",.Lambda params body scope JK,Sm⟩] pos) (JJ X.K P JK (X.env.qual ++ "<lambda>") N ta tb):=by
 intro pins s σ H Q I h
 refine eV (qb I hg hm (u:= .builtin "sorted") (by rfl) ?_)
 refine PyProof.Rows.callWith_kw (d9 ((aa ha aw hs) pos pins s σ H (fun vs H1=>match vs with|[x]=>NO X.K P JK (X.env.qual ++ "<lambda>") N tb Q x H1|_=>False) I h) fun us s1 h1=>?_) he u0 rfl rfl
 obtain⟨vs,H1,I1,rv,q1⟩:=h1
 cases vs with
 |nil=>exact q1.elim
 |cons x vs=>
 cases vs with
 |cons _ _=>exact q1.elim
 |nil=>
 obtain⟨a,xs,ts,key,rfl,hS,Dl,iI,tb1,jE,IQ,hbd,fin⟩:=q1
 obtain⟨u,rfl,ru⟩:=vals1 rv
 obtain rfl:u=Value.ref a:=ru
 show wpAny _ _ (evalAll [(do let v ← eval (.Lambda params body scope JK) X.env; standAt pos; pure v)]) _ _ s1
 refine wpAny_evalAll_cons (aB (JH I1 B Fs C tb1 Pw rq fun f c' Ft H2 s2 I2 fr2 tb2 LH Pt V6 hle=>aB (iG (bF (wpAny_evalAll_nil ?_)))))
 show wpAny _ _ (call (.builtin "sorted") [.ref a] [(Str.ofString "key",.ref f)]) _ _ s2
 have aP: ∀o,H1 a=some o->a∉[P]:=fun o z w=>by
  obtain⟨ps,hP,_⟩:=tb1
  have w':=ao.mp w
  rcases hS with(hS|⟨_,hS⟩)|⟨ob,_,_,hK,rq,_⟩
  ·rw[w',hP] at hS; cases hS
  ·rw[w',hP] at hS; cases hS
  ·have e1:=I1.g6 _ _ hK
   have e2:s1.heap.get? P=some _:=I1.cE P _ hP
   rw[w',e2] at e1
   cases e1
   cases rq
 have Px:=fr2.sql hS aP
 obtain⟨b9,Yh,pl,hz⟩:=I2.list Px
 have hl:=Yh.length
 have lf:f < s2.heap.objs.size:=aM Pt
 have Ya:s1.heap.objs.size<=s2.heap.objs.size:=aV hle (cL lf)
 refine sortedK pl.isList (by lia) fun D kS e1 h' kp d1 k1 neD Rq V8=>?_
 have I3:=I2.kept (t':=s2.toks) kp
 have HD:H2 D=none:=I2.cE.fresh Rq
 have HK:H2 kS=none:=I2.cE.fresh V8
 have NP:=I2.kg Rq
 have Py:=I2.kg V8
 have nwf:=I1.kg hle
 have fD:f≠D:=a7 (bo lf Rq)
 have fK:f≠kS:=a7 (bo lf V8)
 have dp:X.A.in1.in1.depth < recursionLimit:=hr.depth
 generalize Tv:kla_obj "<lambda>" (X.env.qual ++ "<lambda>") params body scope [] ((X.mg "__name__").getD .none) c' Ft=Rt at Pt
 have loop: ∀(r:List Value) (i:Nat) (ks:List Value) (bh:List V) (Hi:Hp) (si:Shared),r=b9.drop i->i<=xs.length->Inv X (pins ++ [(f,Rt),(D,seqObj "list" #[] e1)]) σ Hi si->(∃e,si.heap.get? kS=some (seqObj "list" ks.toArray e))->Hi kS=none->
   Frame [P] H1 Hi->Tb Hi P JK (X.env.qual ++ "<lambda>")->Hi c'=some (yD c' (X.env.qual ++ "<lambda>"))->ix Hi (ts.take i) bh->Vals bh ks->
   tQ X.prog X.w X.A.in1.in1 kS (.ref f) (GX X.prog X.w X.A.in1.in1 D kS e1 b9 (fun s'=>EP X pins σ Q (.ref D) s')) r ks si:=by
  intro r
  induction r with
  |nil=>
   intro i ks bh Hi si hr hi Ii hk Mq V9 Yi Wa hT rk
   have ei:i=xs.length:=by
    have:=cV List.length hr
    rw[wV,ig] at this
    lia
   have Pz:ix Hi ts bh:=by rwa [ei,← iI,aZ] at hT
   have lk:bh.length=xs.length:=by have:=Pz.length; lia
   have lk2:=rk.length
   obtain⟨w1,w2,_⟩:=Ii.pin (D,seqObj "list" #[] e1) (List.mem_append_right _ (List.mem_append_right _ (by simp)))
   refine⟨tuples' true,fun i=>key (ts.getD i []),neD,w1,fun h2 Q' q'=>?_,fun a b C ha hb q'=>?_,fun pr h5 n Tw hUp hsz hD5 NQ=>?_⟩
   ·obtain⟨fs,f1,f2,f3⟩:=sJ Ii (fun _ _ z=>z) Pz rk jE
    refine kat_kind (T:= .type "int") f1 (by lia) (fun v hv=>?_) rfl q'
    obtain⟨n,t,rfl⟩:=f3 v hv
    exact Looks.of_pure rfl
   ·obtain⟨p1,g1,g2⟩:=Pz.get (i:=a) (by lia)
    obtain⟨p2,g3,g4⟩:=Pz.get (i:=b) (by lia)
    have v1:=jV rk a
    have v2:=jV rk b
    rw[g1] at v1
    rw[g3] at v2
    have v1':ks.getD a Value.none= .ref p1:=v1
    have v2':ks.getD b Value.none= .ref p2:=v2
    rw[v1',v2']
    obtain⟨o1,XO,n1,GR,hc1,mj,SX⟩:=Ii.tupI g2
    obtain⟨o2,GC,n2,Ri,Ma,hd2,SY⟩:=Ii.tupI g4
    refine kat_lt GR mj Ri hd2 ?_
    have l1:=SX.length
    have l2:=SY.length
    have m1:ts.getD a []∈ts:=by rw[ak,af (show a < ts.length by lia)]; exact bH _
    have m2:ts.getD b []∈ts:=by rw[ak,af (show b < ts.length by lia)]; exact bH _
    have kx:=nK (prog:=X.prog) (w:=X.w) (A:=X.A.in1.in1) (b:=true) (Q:=C) (s:=si) 0 SX SY (by rw[IQ _ m1 _ m2]; exact q')
    rw[bA,bA,l1,l2]
    exact kx
   ·have In:=Ii.jm
    have bt:nP (Dz X.stack) [D,kS] si.heap h5:=fun b o z nb=>by
     have n1:b≠D:=fun w=>nb (by simp[w])
     have n2:b≠kS:=fun w=>nb (by simp[w])
     have e:=(NQ b n1 n2).trans z
     exact⟨fun _=>e,o.slots,e⟩
    have I5:=In.but bt (fun cc hc=>by
     rcases au.mp hc with rfl|hc
     ·exact⟨w2,NP⟩
     ·rw[ao.mp hc]
      exact⟨Mq,Py⟩)
    have ni:=Tw.size
    have I6:=I5.Tu (D:=D) (o:= .lst (pr.toList.map fun i=>xs.getD i .eF)) w2 ⟨by rw[ae,oZ,ni]; exact aV (iV hl.symm) hz,_,n,sI Yh pr.toList,hD5⟩ NP (aV I2.sz Rq)
    refine⟨.ref D,_,I6,rfl,fin D pr.toList _ ?_ ?_ (V9.new w2) (Yi.upd w2) (I1.cE.fresh (aV Ya Rq)) ag⟩
    ·have:=Tw.list
     rwa [← hl] at this
    ·exact tL ni hUp
  |cons v r ih=>
   intro i ks bh Hi si hr hi Ii hk Mq V9 Yi Wa hT rk
   have zt:i < xs.length:=by
    have:=cV List.length hr
    rw[bO,ig] at this
    lia
   have hv:v=b9.getD i Value.none/\r=b9.drop (i + 1):=by
    rw[jB (by lia)] at hr
    injection hr with h1 h2
    refine⟨?_,h2⟩
    rw[h1,ak,af (by lia)]
    rfl
   obtain⟨hv,Yj⟩:=hv
   obtain⟨ek,hk⟩:=hk
   have Ip:Inv X (pins ++ [(f,Rt),(D,seqObj "list" #[] e1)] ++ [(kS,seqObj "list" ks.toArray ek)]) σ Hi si:=Ii.uy fun p hp=>by
    rcases bc.mp hp with hp|hp
    ·exact Ii.pin p (bw _ hp)
    ·rw[ao.mp hp]
     exact⟨hk,Mq,Py.2.1,I2.Gn V8,fun v z=>by cases z⟩
   have Yk:si.heap.get? f=some Rt:=(Ip.pin (f,Rt) (List.mem_append_right _ (List.mem_append_left _ (List.mem_append_right _ (by simp))))).1
   have sf:si.heap.CodeRec (.ref c') (X.env.qual ++ "<lambda>"):=(Ip.cE c' _ Wa).1
   have rvi:=jV Yh i
   rw[← hv] at rvi
   show wpAny _ _ (call (.ref f) [v]) _ _ si
   refine cm (JI (us:=[v]) (vs:=[xs.getD i .eF]) (R:=fun y H'=> ∃p,y= .ref p/\Hi p=none/\H'=upd Hi p (.tup ((ts.getD i []).map V.int))) (xe:=fun _ _=>False) Ip Ip.IV.in1.in1 dp (by rw[Yk,← Tv]) sf S (hb _ _ _ _) rfl (.cons rvi .nil) (gp _ _ _ _ _)
    (hbd i zt Hi V9 _ fun p hp=>⟨p,rfl,hp,rfl⟩)) (fun u s5 h5=>?_) fun _ _ z=>z
   obtain⟨y,H5,I5,ry,pp,rfl,Ll,rfl⟩:=h5
   obtain rfl:u=Value.ref pp:=ry
   obtain⟨z1,z2,_⟩:=I5.pin (kS,seqObj "list" ks.toArray ek) (List.mem_append_right _ (List.mem_append_right _ (by simp)))
   refine⟨ek,z1,fun h6 cc sb hk6=>?_⟩
   have I6:Inv X (pins ++ [(f,Rt),(D,seqObj "list" #[] e1)]) σ _ _:=Inv.jm I5
   have I7:=I6.turned (t':=s5.toks) (it:=kS) (h':=h6) (fun b o n z=>(sb.2 b n).trans z) z2 Py.2.1 Py.1 Py.2.2.1 (fun p hp=>by
    rcases bc.mp hp with hp|hp
    ·exact Py.2.2.2 p (cZ _ hp)
    ·rcases bc.mp hp with hp|hp
     ·exact Py.2.2.2 p (bw _ hp)
     ·rcases au.mp hp with rfl|hp
      ·exact fK
      ·rw[ao.mp hp]
       exact neD)
   have cpp:c'≠pp:=aJ Wa Ll
   refine ih (i + 1) (ks ++ [.ref pp]) (bh ++ [.ref pp]) _ _ Yj zt I7 ⟨cc,hk6⟩ z2 (V9.new Ll) (Yi.upd Ll) (by rw[az cpp]; exact Wa) ?_ (rk.append (show Vals [V.ref pp] [Value.ref pp] from .cons rfl .nil))
   rw[take_succ_getD (d:=[]) (by lia)]
   exact ix.snoc (hT.mono fun b xs z=>by rw[az (aJ z Ll)]; exact z) ag
 have Ip:Inv X (pins ++ [(f,Rt),(D,seqObj "list" #[] e1)]) σ H2 {s2 with heap:=h'}:=I3.uy fun p hp=>by
  rcases bc.mp hp with hp|hp
  ·exact I3.pin p (bw _ hp)
  ·rcases au.mp hp with rfl|hp
   ·exact⟨kp _ _ Pt,LH,nwf.2.1,I1.Gn hle,fun v z=>by rw[← Tv] at z; cases z⟩
   ·rw[ao.mp hp]
    exact⟨d1,HD,NP.2.1,I2.Gn Rq,fun v z=>by cases z⟩
 exact loop b9 0 [] [] H2 _ rfl (bq _) Ip ⟨0,k1⟩ HK fr2 tb2 V6 .nil .nil
end
theorem G6 {P:Program}{w:World}{K:Frag}{mg mb:Str->Option Value}{CX:Gz}{k:Nat}{fa a:Addr}{fd:FuncData}{x:Str}{sp:Sp}{s₁:Shared}{vs:List Value}{ns:List Int}{cps:List (Addr×Addr)}
  (KX:K.In s₁.heap) (hns:s₁.heap.Ns mainGlobals mg) (hb:s₁.heap.Ns builtinsNs mb) (Mr: ∀x:Str,x≠"__name__"->mb x=bootBuiltins x) (Yl:s₁.heap.NoLimit) (hg:s₁.gens= #[])
  (ha:s₁.heap.get? a=some {cls:= .type "list",data:= .seq vs.toArray}) (hi:IntsAre vs ns) (hl:ns.length<=sizeLine) (hr:fu k callerA)
  (bm:BMain mg s₁.heap) (Ro: ∀cp∈cps,s₁.heap.get? cp.2=some (tabObj #[])) (Tx: ∀cp∈cps,codeHdIn K cp.1 cp.2=true/\K.lookup cp.2=none)
  (F: ∀base:Heap,K.In base->base.Ns mainGlobals mg->BMain mg base->mf P w K mg base CX k fa fd [x] sp) (Tz: ∀(s:Shared) (u:Value),BindsTo s fd ⟨[u],[]⟩ [(x,u)])
  (y6: ∀H:Hp,(∀cp∈cps,H cp.2=some (.ng #[]))->bG K H a (ns.map V.int)->sp [.ref a] H (fun v _=>v= .bl true) fun _ _ _=>False)
  (hCX: ∀H e s',CX [] H s₁ (fun _ _ _=>False) e s'->False):
  codeAny (model P w) callerA (.call (.ref fa) ⟨[.ref a],[]⟩) (fun r s'=>r= .ok (.ret (.bool true))/\OldK s₁.heap s'.heap/\s'.os=s₁.os/\AllBare s'.gens) s₁:=by
 have rv:=yt hi
 have TB:=hi.length
 have aT: ∀cp∈cps,cp.2≠a:=fun cp hc z=>by
  have e:=Ro cp hc
  rw[z,ha] at e
  cases e
 have core: ∀H:Hp,(∀b,H b=none∨(b=a/\H b=some (.Dj {cls:= .type "list",data:= .seq vs.toArray} (.lst (ns.map V.int)))/\K.lookup a=none)∨ ∃cp∈cps,b=cp.2/\H b=some (.ng #[]))->(∀cp∈cps,H cp.2=some (.ng #[]))->bG K H a (ns.map V.int)->
   codeAny (model P w) callerA (.call (.ref fa) ⟨[.ref a],[]⟩) (fun r s'=>r= .ok (.ret (.bool true))/\OldK s₁.heap s'.heap/\s'.os=s₁.os/\AllBare s'.gens) s₁:=by
  intro H hO hT hS
  have cE:o5 P w H s₁.heap:=fun b u z=>by
   rcases hO b with w|⟨rfl,w,_⟩|⟨cp,hc,rfl,w⟩
   ·rw[z] at w; cases w
   ·rw[z] at w
    cases w
    exact⟨ha,by rw[ae]; exact hl,vs,_,rv,ha⟩
   ·rw[z] at w
    cases w
    exact Ro cp hc
  have zC: ∀{b:Addr} {o:Obj},s₁.heap.get? b=some o->H b=none->(wX s₁.heap H).get? b=some o:=fun e n=>IG e n
  have noD: ∀{b:Addr} {o:Obj},s₁.heap.get? b=some o->((∃es ep,o.data= .dict es ep)∨o.data= .plain)->H b=none:=fun{b o} e d=>by
   rcases hO b with w|⟨rfl,w,_⟩|⟨cp,hc,rfl,w⟩
   ·exact w
   ·rw[ha] at e
    cases e
    rcases d with⟨es,ep,d⟩|d <;> cases d
   ·rw[Ro cp hc] at e
    cases e
    rcases d with⟨es,ep,d⟩|d <;> cases d
  have Wb: ∀{b:Addr} {m:Str->Option Value},s₁.heap.Ns b m->(wX s₁.heap H).Ns b m:=fun{b m} ⟨o,es,ep,e,d,r⟩=>⟨o,es,ep,zC e (noD e (.inl ⟨es,ep,d⟩)),d,r⟩
  have hKb:K.In (wX s₁.heap H):=fun b o e=>zC (KX b o e) (by
   rcases hO b with w|⟨rfl,w,hk⟩|⟨cp,hc,rfl,w⟩
   ·exact w
   ·rw[hk] at e; cases e
   ·rw[(Tx cp hc).2] at e; cases e)
  have hBb:BMain mg (wX s₁.heap H):=by
   obtain⟨b,o,b1,b2,b3,b4,b5,b6,b7⟩:=bm
   exact⟨b,o,b1,b2,b3,zC b4 (noD b4 (.inr b7)),b5,b6,b7⟩
  have hM:Mod K mg (wX s₁.heap H):=⟨hKb,Wb hns,⟨mb,Wb hb,Mr⟩,let⟨mc,h1,h2⟩:=Yl; ⟨mc,Wb h1,h2⟩⟩
  have e0:qV P w K mg (wX s₁.heap H) callerA [] s₁ H:=⟨rfl,hM,fun b o e=>LC e,Nat.le_of_eq (Gm _ _),trivial,fun b hb=>absurd (show b∈([]:List Addr) from hb) (by simp),cE,.of_eq hg⟩
  refine Dw ((F _ hKb (Wb hns) hBb).run callerA [] s₁ H ⟨[.ref a],[]⟩ [.ref a] [.ref a] _ _ hr e0 (Tz s₁ (.ref a)) (.cons rfl .nil) (y6 H hT hS)) fun r s' h=>?_
  cases r with
  |error e=>exact(hCX H e s' h).elim
  |ok fl=>
   cases fl with
   |next=>exact False.elim h
   |brk=>exact False.elim h
   |cont=>exact False.elim h
   |ret u=>
    obtain⟨v,H',os,bare,un,TC,r',q⟩:=h
    have q':v= .bl true:=q
    subst q'
    obtain rfl:u=Value.bool true:=r'
    have old: ∀b o,s₁.heap.get? b=some o->asItWas s₁.heap s'.heap b o:=fun b o e=>by
     rcases hO b with z|⟨rfl,z,_⟩|⟨cp,hc,rfl,z⟩
     ·exact .inl (un.keep b o e z (by intro w; exact absurd (show b∈([]:List Addr) from w) (by simp)) (by simp))
     ·have z2:=un.pZ b _ _ z
      obtain⟨e2,_⟩:=TC b _ z2
      rw[ha] at e
      cases e
      exact .inl e2
     ·obtain⟨more,z2⟩:=un.qa _ _ z
      have e2:s'.heap.get? cp.2=some (tabObj (#[] ++ more)):=TC _ _ z2
      have e1:=Ro cp hc
      rw[e1] at e
      cases e
      obtain⟨oc,ws,_,_,_,_,_,_,_,c1,c2,c3,c4,_⟩:=codeHd_of_K KX (Tx cp hc).1
      exact .inr (.inl ⟨⟨cp.1,oc,ws,c1,c2,c3,c4⟩,rfl,#[],more,rfl,e2⟩)
    refine⟨rfl,⟨old,fun b o e=>?_⟩,os,bare⟩
    exact un.there b o e (by simp)
 cases hk:K.lookup a with
 |some o=>
  have e:=KX a o hk
  rw[ha] at e
  cases e
  refine core (fun b=>if b∈cps.map (·.2) then some (.ng #[]) else none) (fun b=>?_) (fun cp hc=>if_pos (List.mem_map.mpr ⟨cp,hc,rfl⟩)) (.inr ⟨_,vs.toArray,_,hk,rfl,rfl,rfl,by rw[List.size_toArray,TB]; exact hl,by simpa using rv⟩)
  by_cases hb:b∈cps.map (·.2)
  ·obtain⟨cp,hc,rfl⟩:=bJ.mp hb
   exact .inr (.inr ⟨cp,hc,rfl,aY hb⟩)
  ·exact .inl (aN hb)
 |none=>
  have na:a∉cps.map (·.2):=fun h=>by
   obtain⟨cp,hc,z⟩:=bJ.mp h
   exact aT cp hc z
  refine core (fun b=>if b=a then some (.Dj {cls:= .type "list",data:= .seq vs.toArray} (.lst (ns.map V.int))) else if b∈cps.map (·.2) then some (.ng #[]) else none) (fun b=>?_) (fun cp hc=>?_) (.inl (.inr ⟨{cls:= .type "list",data:= .seq vs.toArray},aY rfl⟩))
  ·by_cases h1:b=a
   ·exact .inr (.inl ⟨h1,by rw[aY h1],hk⟩)
   ·by_cases hb:b∈cps.map (·.2)
    ·obtain⟨cp,hc,rfl⟩:=bJ.mp hb
     exact .inr (.inr ⟨cp,hc,rfl,by rw[aN h1,aY hb]⟩)
    ·exact .inl (by rw[aN h1,aN hb])
  ·show(if cp.2=a then _ else if cp.2∈cps.map (·.2) then _ else _)=_
   rw[aN (aT cp hc),aY (bJ.mpr ⟨cp,hc,rfl⟩)]
theorem JL {l:PySem.W.OpenLaw}{n k:Nat}{q:Program}{loose:List Str}{XP:(Str->Option Value)->Heap->Prop}{YP:World->Heap->Prop}{d:DefRec}{K:Params->Frag}{ts:List Addr}{sp:Frag->List (Addr×Addr)->Sp}{x:Str}
  (hn:l.most=some n) (VO:n<=sizeLine) (XA:d.params.defaults=[]) (hr:fu k callerA)
  (hY: ∀(w:World) (h:Heap),YP w h->(K w.params).In h/\ ∀P∈ts,h.get? P=some (tabObj #[]))
  (F: ∀(w:World) (mg:Str->Option Value) (fa:Addr) (h:Heap),(K w.params).In h->h.Ns mainGlobals mg->mg d.name=some (.ref fa)->
   ∃(fd:FuncData) (cps:List (Addr×Addr)),(∀cp∈cps,cp.2∈ts)/\(∀cp∈cps,codeHdIn (K w.params) cp.1 cp.2=true/\(K w.params).lookup cp.2=none)/\(∀(s:Shared) (u:Value),BindsTo s fd ⟨[u],[]⟩ [(x,u)])/\
    ∀base:Heap,(K w.params).In base->base.Ns mainGlobals mg->BMain mg base->mf l.prog w (K w.params) mg base sG k fa fd [x] (sp (K w.params) cps))
  (y6: ∀(K:Frag) (cps:List (Addr×Addr)) (H:Hp) (a:Addr) (ns:List Int),ns.length<=n->(∀cp∈cps,H cp.2=some (.ng #[]))->bG K H a (ns.map V.int)->sp K cps [.ref a] H (fun v _=>v= .bl true) fun _ _ _=>False):
  PySem.W.WalkO q loose XP YP l.row.toRowW d [] (fun f vs=>PySem.call f vs):=by
 refine Att.BA hn XA fun w s₀ s₁ mg mb fa o pm cd doc a vs ns G Y ho hd sf SG O0 hints hlen hg=>?_
 obtain⟨KX,hT⟩:=hY w _ Y
 obtain⟨fd,cps,h1,h2,hb,hF⟩:=F w mg fa _ KX G.T.g SG
 obtain⟨bm,ob,b1,b2,b3,b4,b5,b6⟩:=G.T.bmain
 have b7:bm≠mainGlobals:=fun z=>by
  obtain⟨o',es,ep,e,Gp,_⟩:=G.T.g
  rw[z,e] at b3
  cases b3
  rw[Gp] at b6
  cases b6
 exact G6 KX G.T.g G.T.b G.T.builtins G.T.nolimit hg O0 hints (aV hlen VO) hr ⟨bm,ob,b1,b2,b7,b3,b4,b5,b6⟩ (fun cp hc=>hT _ (h1 cp hc)) h2 hF hb (fun H hO hS=>y6 _ cps H a ns hlen hO hS) fun H e s' z=>z
section
variable {X:Cx}{x:Str}{k n:Nat}{ps:List Str}{sp:Sp}{e:Expr}{es:List Expr}{t:TA}{p pos:Pos}
theorem fc (C:fC X.prog X.w X.K X.mg X.base x k ps sp)(hr:fu n X.A)(ha:PA X (e :: es) t)(hle:k<=n:=by decide)(hg:Gl X x:=by rfl)(qW:(x == ("__debug__":Str))=false:=by decide)
  (he:starEach (e :: es) X.env=(false,eval e X.env) :: starEach es X.env:=by rfl) (jb:(backTo pos (starEach es X.env)).any (·.1)=false:=by rfl):PE X (.Call (.Name x p) (e :: es) [] pos) (uX sp [] E0 t):=SO C (hr.mono hle) hg ha qW he jb
theorem sv (i:Nat){te:TE}{pos':Pos}(hN:X.N.Nodup)(he:PE X e te)(hi:X.N[i]? =some x:=by rfl)(hx:Loc X.env.scope x:=by first|exact Or.inl rfl|exact Or.inr rfl)(hs:swapsWith e (some (.Name x pos')) pos.line X.env=pure false:=by rfl)(hf:X.fn x=true∨X.env.scope.names.lookup x=some .local:=by first|exact .inl rfl|exact .inr rfl|assumption):
  PS X (.Assign [.Name x pos'] e pos) (LJ te (Bp i)):=OD hN hi hx he hs hf
theorem gn (i:Nat)(hN:X.N.Nodup)(hi:X.N[i]? =some x:=by rfl)(hx:Loc X.env.scope x:=by first|exact Or.inl rfl|exact Or.inr rfl)(hf:X.fn x=true∨X.env.scope.names.lookup x=some .local:=by first|exact .inl rfl|exact .inr rfl|assumption):PG X (.Name x pos) (Bp i):=eG hN hi hx hf
theorem xl {a b:Expr}{ta tb:TE}(ha:PE X a ta)(hb:PE X b tb)(hs:y7 b:=by exact fun _ _=>rfl):PE X (.Subscript a b pos) (Rc (OM X.K) ta tb):=kO zd ha hb hs
theorem xt {a b:Expr}{ta tb:TE}(ha:PE X a ta)(hb:PE X b tb)(hs:y7 b:=by exact fun _ _=>rfl):PE X (.Subscript a b pos) (Rc (ON X.K) ta tb):=kO DM ha hb hs
end
section
variable {X:Cx}{o e:Expr}{p pos apos gQ:Pos}{to te:TE}
theorem oP (hm:X.mg "len"=none)(h:PE X e te)(hg:Gl X "len":=by rfl)(he:starEach [e] X.env=(false,eval e X.env) :: starEach [] X.env:=by rfl)(jb:(backTo pos (starEach [] X.env)).any (·.1)=false:=by rfl):PE X (.Call (.Name "len" p) [e] [] pos) (Xm (fun xs H Q=> ∃p ys,xs=[.ref p]/\(bG X.K H p ys∨cF X.K H p ys)/\Q (.int ys.length) H) (IU te DK)):=
 dm zh hg hm PySem.boot_len (aa h aw he) (by decide) (by decide) he jb
theorem qu (ho:PE X o to)(h:PE X e te)(qY:attributeBase o "append" X.env (eval o X.env)=eval o X.env:=by rfl)
  (OR:((backTo gQ (starEach [e] X.env)).all (fun x=> !x.1) && (backToKw gQ (keywordEach [] X.env)).all (fun x=>x.1.isSome)
   && decide ([e].length + ([]:List Keyword).length + (if([]:List Keyword).isEmpty then 0 else 1) < 30))=true:=by rfl)
  (uZ:(apos.endLine == gQ.line)=true:=by rfl) (hs:starEach [e] X.env=(false,eval e X.env) :: starEach [] X.env:=by rfl) (u0:(backTo gQ (starEach [] X.env)).any (·.1)=false:=by rfl):PE X (.Call (.Attribute o "append" apos) [e] [] gQ) (tBM X.K "list" E4 to (IU te DK)):=
 Sq PySem.F.plainAttrs_list PySem.F.slot_list_append PySem.F.type_list_append ym ho (aa h aw hs) qY OR uZ hs u0
end
theorem Df.fV {P:Program}{w:World}{K:Frag}{mg:Str->Option Value}{base:Heap}{x:Str}{st:Stmt}{N ps:List Str}{k:Nat}{sp:Sp}(D:Df K mg x st)(S:aU N ps (aA st))
  (gp: ∀(f:Addr) (cY:Value) (A:Around) (outer:List Env) (s:Shared) (H:Hp) (vs:List V) (Q:VK) (E:XK),fu k (A.deeper (envOfC x (aA st) s.heap.objs.size f cY))->sp vs H Q E->
   ∃t,pB (lJ sG P w K mg base N x (aA st) f cY A outer s H E).ER (dI st) t/\t {nx:=fun _ H'=>Q .eF H',rt:=Q} (start N vs) H)
  (hb: ∀(kV doc pm:Value) (an:Option Addr) (cY ct:Value) (us:List Value),us.length=ps.length->bindArgs (fnOf x x (gR st) (dI st) (aA st) .none kV doc pm an cY ct) ⟨us,[]⟩=pure (ps.zip us):=by intro _ _ _ _ _ _ us hl; rcases us with _|⟨_,_|⟨_,_|⟨_,_|⟨_,_|⟨_,_|⟨_,_|⟨_,_⟩⟩⟩⟩⟩⟩⟩ <;> first|(cases hl; done)|rfl)
  (len: ∀vs H Q E,sp vs H Q E->vs.length=ps.length:=by intro _ _ _ _ h; first|(cases h; subst_vars; rfl)|(repeat (first|(obtain⟨rfl,_⟩:=h; rfl; done)|obtain⟨_,h⟩:=h))):fC P w K mg base x (k + 1) ps sp:=D.cal S hb len gp
end L2
namespace eZ
open PySem L2 PyProof.Rows Lh
seal L2.pB L2.PS L2.PE L2.PT L2.PW L2.PA L2.PC L2.PG L2.Lb L2.PI L2.LW L2.Ld L2.PO L2.o6 L2.NC L2.iZ L2.I9 L2.OL
def top (i:Nat):Stmt:=PySem.Challenge.pw_spikebook_k08_whole_sweeps_leave_nothing.main.body.getD i (.Pass ⟨0,0,0,0⟩)
structure Txt (K:Frag)(mg:Str->Option Value):Prop where
 D5:Df K mg "place_of" (top 1)
 PB:Df K mg "fits" (top 15)
 xm:Df K mg "counts_from" (top 16)
 G7:Df K mg "bills_in_order" (top 17)
 D7:Df K mg "credits_in_order" (top 18)
 Ms:Df K mg "alike" (top 20)
 xn:Df K mg "first_alike" (top 21)
 zD:Df K mg "shared_out" (top 22)
 D8:Df K mg "parts_of" (top 23)
 vF:Df K mg "check_amount" (top 26)
 xp:Df K mg "row_of_fits" (top 27)
 PD:Df K mg "done" (top 30)
 zE:Df K mg "done_again" (top 31)
 G8:Df K mg "answers" (top 33)
 zF:Df K mg "answers_in" (top 34)
 BN:Df K mg "answer_of" (top 35)
 G9:Df K mg "owed_at" (top 36)
 Hg:Df K mg "free_at" (top 37)
 vG:Df K mg "remaining_at" (top 38)
 xq:Df K mg "counting_at" (top 39)
 BO:Df K mg "counts_at" (top 40)
 Hh:Df K mg "ages_at" (top 41)
 BP:Df K mg "_law_room" (top 43)
 BQ:Df K mg "_law_draw" (top 44)
 zG:Df K mg "_law_whole" (top 45)
 zH:Df K mg "_law_alike" (top 46)
 xr:Df K mg "_law_people" (top 47)
 xu:Df K mg "_law_penned" (top 48)
 xv:Df K mg "_law_chosen" (top 49)
 zI:Df K mg "_law_hasty" (top 50)
 xx:Df K mg "_law_due_in" (top 51)
 zJ:Df K mg "_law_deeds" (top 52)
 zK:Df K mg "_law_begun" (top 53)
 BR:Df K mg "_law_goes" (top 54)
 D9:Df K mg "_law_put" (top 55)
 vH:Df K mg "_law_in_turn" (top 56)
 zL:Df K mg "_law_swept" (top 57)
 xy:Df K mg "_law_barred" (top 58)
 zM:Df K mg "_law_enter" (top 59)
 xA:Df K mg "_law_worked" (top 60)
 zN:Df K mg "_law_tells" (top 61)
 BS:Df K mg "_law_done" (top 62)
 o9:Df K mg "_law_gone_through" (top 63)
 aaS:Df K mg "law" (top 64)
 eJ:mg "len"=none
 dC:mg "isinstance"=none
 yE:mg "int"=none
 PF:mg "bool"=none
 Fu:mg "str"=none
 vI:mg "list"=none
 uC:mg "tuple"=none
 my:mg "range"=none
 JM:mg "min"=none
 TF:mg "max"=none
 JN:mg "sum"=none
 vJ:mg "sorted"=none
 jt:mg "enumerate"=none
 PH:mg "dict"=none
 BU:mg "Exception"=none
end eZ
namespace L2
open PySem PySem.Spec PySem.W PyProof.Rows Lh
structure Ym (P:Program)(w:World)(K:Frag)(mg:Str->Option Value)(base:Heap)(k:Nat)(fa:Addr)(sp:Sp):Prop where
 ex: ∃(fd:FuncData) (ps:List Str),mf P w K mg base sG k fa fd ps sp/\keepIn K (.ref fa)=true/\Binds K fd ps []
theorem fC.fnv {P:Program}{w:World}{K:Frag}{mg:Str->Option Value}{base:Heap}{x:Str}{k:Nat}{ps:List Str}{sp:Sp}(C:fC P w K mg base x k ps sp): ∃fa,mg x=some (.ref fa)/\Ym P w K mg base k fa sp:=by
 obtain⟨f,fd,F,hm,hk,hb⟩:=C.ex
 exact⟨f,hm,⟨fd,ps,F,hk,hb⟩⟩
section
variable {X:Cx}{x:Str}{i k:Nat}{e:Expr}{es:List Expr}{t:TA}{p pos:Pos}
def PJ (P:Program)(w:World)(K:Frag)(mg:Str->Option Value)(base:Heap)(k i:Nat)(t:TA):TE:=fun σ H Q=> ∃fa sp,σ[i]? =some (some (.ref fa))/\Ym P w K mg base k fa sp/\t σ H fun vs H1=>sp vs H1 Q E0
theorem PL (hr:fu k X.A)(hN:X.N[i]? =some x)(hv:RW X.env.scope x)(ha:PA X (e :: es) t)(hd:(x == ("__debug__":Str))=false:=by decide)(sf:(x == ("__classdict__":Str))=false:=by decide)
  (he:starEach (e :: es) X.env=(false,eval e X.env) :: starEach es X.env:=by rfl) (jb:(backTo pos (starEach es X.env)).any (·.1)=false:=by rfl):PE X (.Call (.Name x p) (e :: es) [] pos) (PJ X.prog X.w X.K X.mg X.base k i t):=by
 rintro pins s σ H Q I ⟨fa,sp,e1,⟨fd,ps,F,hk,hb⟩,h⟩
 refine eV (d9 (DA hN hv hd sf pins s σ H (fun v H'=>v= .ref fa/\H'=H) I ⟨_,e1,rfl,rfl⟩) ?_)
 rintro u s1 ⟨v,H1,I1,rv,rfl,rfl⟩
 obtain rfl:u=Value.ref fa:=rv
 refine kG (h₀:=X.base) I.ok.mod.LD hk (d9 (ha pos pins s1 σ H1 _ I1 h) fun us s2 ⟨vs,H2,I2,r,q⟩=>⟨I2.g6,?_⟩) he jb
 exact y4 F hr hb .nil nH I2 r (by rw[cg]; exact q)
end
theorem BV {X:Cx}:iZ X (.type "dict") (fun xs H Q=> ∃a bh,xs=[.ref a]/\H a=some (.dK bh)/\ ∀p,H p=none->Q (.ref p) (upd H p (.dK bh))):=by
 intro pins s σ H xs us Q I r h
 obtain⟨a,bh,rfl,e,q⟩:=h
 obtain⟨u,rfl,ru⟩:=vals1 r
 cases ru
 exact Ji I (.inl e) fun p s' hp I'=>⟨.ref p,_,I',rfl,q p hp⟩
def Fv (P:Program)(w:World)(d:Addr)(bh:List (Key×V))(φ:Heap->Prop):Prop:=(∀(H:Hp) (h:Heap),φ h->dH P w H h d (.dK bh))/\ ∀q:Str,φ≠fun h=>h.CodeRec (.ref d) q
def TH (P:Program)(w:World)(td:TE)(g:TG)(tb:TS):TS:=fun D σ H=>td σ H fun v H1=> ∃d bh,v= .ref d/\H1 d=some (.dK bh)/\ ∀φ,Fv P w d bh φ->
 ∃W:Nat->Nat->St->Hp->Prop,(∃m,W 0 m σ (upd H1 d (.ext φ)))/\ ∀i m σ' H',W i m σ' H'->H' d=some (.ext φ)/\((bh.length<=i/\D.nx σ' (upd H' d (.dK bh)))∨
  ∃x,(bh.map (·.2))[i]? =some x/\ ∃N:St->Hp->Prop,(∀L4 qk,N L4 qk-> ∃m',m' < m/\W (i + 1) m' L4 qk)/\g x σ' H' fun σ2 H2=>tb {D with nx:=N,ct:=N,bk:=fun _ _=>False} σ2 H2)
theorem Mt {X:Cx}{tg o:Expr}{apos gQ pos:Pos}{body:List Stmt}{td:TE}{g:TG}{tb:TS}(hp:PassesOwn (model X.prog X.w) X.A X.env X.xe)(hc:X.calm=true)(ho:PE X o td)(hg:PG X tg g)(hb:pB X body tb)
  (qY:attributeBase o "values" X.env (eval o X.env)=eval o X.env:=by rfl) (uZ:(apos.endLine == gQ.line)=true:=by rfl)
  (hs: ∀x,foldedSetIterable (.Call (.Attribute o "values" apos) [] [] gQ) X.env x=pure x:=by intro _; rfl):PS X (.For tg (.Call (.Attribute o "values" apos) [] [] gQ) body [] pos) (TH X.prog X.w td g tb):=by
 intro pins s σ H D I h
 refine wpAny_For (wpAny_Call_method0_late qY uZ (d9 (ho pins s σ H _ I h) ?_)) hs
 rintro u s1 ⟨v,H1,I1,rv,d,bh,rfl,ed,h⟩
 obtain rfl:u=Value.ref d:=rv
 obtain⟨hz,hd,vs,rel,dd⟩:=E5 I1.cE ed
 refine⟨"dict","dict.values",PySem.F.plainAttrs_dict,Q5,PySem.F.type_dict_values,dd.typeIs,dd.mapOf.noDict,i6 rfl (PySem.evalArgs_none ?_)⟩
 refine call_meetsIn Q5 dd.typeIs PySem.F.entry_dict_values (PySem.F.args_dict_values_1 _) (meets_dict_values (dZ X.prog X.w) d hd) ⟨⟨vs,dd⟩,?_⟩
 have I2:=I1.kept (t':=s1.toks) (h':=s1.heap.push {cls:= .type "dict_values",data:= .fields #[.ref d]}) (fun b ob e=>ay _ e)
 obtain⟨ep,da⟩:=dd.dictAt
 obtain⟨od,es,Pu,r⟩:=id da
 have Yn: ∀h:Heap,h.get? d=some od->h.DictAt (dZ X.prog X.w) d vs ep:=fun h e=>⟨od,es,e,r⟩
 have hKd:Fv X.prog X.w d bh (fun h=>h.get? d=some od):=⟨fun H h e=>⟨hz,hd,vs,rel,⟨od,es,ep,e,r⟩⟩,fun q z=>by
  have z1:(s1.heap.get? d=some od)=s1.heap.CodeRec (.ref d) q:=congrFun z s1.heap
  obtain⟨c,o,X9,t,e1,e2,e3,_⟩:=Eq.mp z1 Pu
  cases e1
  rw[Pu] at e2
  cases e2
  rw[r.2.1] at e3
  cases e3⟩
 obtain⟨W,⟨m0,w0⟩,turn⟩:=h _ hKd
 generalize hh2:s1.heap.push {cls:= .type "dict_values",data:= .fields #[.ref d]}=h2 at I2
 have hv2:h2.IsValuesView s1.heap.objs.size d:=by
  rw[← hh2]
  exact⟨_,bR _ rfl,rfl,rfl⟩
 have TJ:h2.get? d=some od:=by
  rw[← hh2]
  exact ay _ Pu
 refine wpAny_pyIter_values (knd:=dZ X.prog X.w) hv2 (Yn _ TJ) ?_
 have I3:=I2.kept (t':=s1.toks) (h':=h2.push {cls:= .type "dict_valueiterator",data:= .fields #[.ref d,.int 0 0,.int vs.length 0,.int ep 0]}) (fun b ob e=>ay _ e)
 have PM:(h2.push {cls:= .type "dict_valueiterator",data:= .fields #[.ref d,.int 0 0,.int vs.length 0,.int ep 0]}).IsValIter h2.objs.size d 0 vs.length ep:=⟨_,bR _ rfl,rfl,rfl⟩
 have Mu:(h2.push {cls:= .type "dict_valueiterator",data:= .fields #[.ref d,.int 0 0,.int vs.length 0,.int ep 0]}).get? d=some od:=ay _ TJ
 have Dm:H1 h2.objs.size=none:=I2.cE.fresh (aD _)
 have jE:d≠h2.objs.size:=aJ ed Dm
 have Yo:=I2.Gr (aD _) Dm
 generalize h2.push {cls:= .type "dict_valueiterator",data:= .fields #[.ref d,.int 0 0,.int vs.length 0,.int ep 0]}=h3 at I3 PM Mu
 generalize h2.objs.size=it at PM Dm jE Yo
 have I4:Inv X pins σ (upd H1 d (.ext fun h=>h.get? d=some od)) {s1 with heap:=h3}:=by
  refine I3.write (x:=d) (e:=d) (t':=s1.toks) (h':=h3) (by rw[ed]; exact True.intro) (.inl rfl) (fun _ _ _ q=>q) ⟨od,Mu⟩ ?_
  exact⟨Mu,⟨od,Mu⟩,fun h1 h2 q k=>k od q⟩
 have fit:upd H1 d (.ext fun h=>h.get? d=some od) it=none:=by
  rw[az jE.symm]
  exact Dm
 have TB:vs.length=bh.length:=(aO rel).symm
 refine codeAny_forLoop_any (fun n s'=> ∃i σ' H',Inv X pins σ' H' s'/\s'.heap.IsValIter it d i vs.length ep/\H' it=none/\W i n σ' H') ?_ m0 ⟨0,σ,_,I4,PM,fit,w0⟩
 rintro n s5 ⟨i,σ5,H5,I5,it5,Rb,w5⟩
 obtain⟨e5,tn⟩:=turn i n σ5 H5 w5
 have Yp:s5.heap.get? d=some od:=(I5.cE d _ e5).1
 have f5:uT X pins H5 it:=⟨Rb,Yo.2⟩
 obtain⟨f0,f1,f2,f3,f4,f6⟩:=f5
 rcases tn with⟨hle,qn⟩|⟨x,hx,N,hN,step⟩
 ·refine dW hp (wpAny_pyNext_values_end (knd:=dZ X.prog X.w) (I5.ok.hd hc) it5 (Yn _ Yp) (by rw[qO]; lia) fun h6 eb=>?_)
  have I6:Inv X pins σ5 H5 {s5 with heap:=h6}:=I5.turned (t':=s5.toks) (fun b o hb e=>eb b o hb e) f0 f1 f3 f4 f6
  have od6:h6.get? d=some od:=eb d od jE Yp
  have I7:=I6.write (x:=d) (e:=d) (t':=s5.toks) (h':=h6) (o:= .dK bh) (by rw[e5]; exact True.intro) (.inl rfl) (fun _ _ _ q=>q) ⟨od,od6⟩ (hKd.1 _ _ od6)
  exact jz ⟨σ5,_,I7,qn⟩
 ·rw[aC] at hx
  obtain⟨kv,Wc,rfl⟩:=a8.mp hx
  obtain⟨ku,hku,e1,ru⟩:=bK rel Wc
  obtain⟨k1,u⟩:=ku
  refine dW hp (wpAny_pyNext_values_item (knd:=dZ X.prog X.w) it5 (Yn _ Yp) hku fun h6 it6 sb=>?_)
  have I6:Inv X pins σ5 H5 {s5 with heap:=h6}:=I5.turned (t':=s5.toks) (fun b o hb e=>(sb.2 b hb).trans e) f0 f1 f3 f4 f6
  obtain⟨oi,GR,Ri,Yq⟩:=id it6
  refine dW hp (ES (s:={s5 with heap:=h6}) GR Ri Yq (by decide +kernel) ?_)
  have I6':Inv X (pins ++ qd [it] h6) σ5 H5 {s5 with heap:=h6}:=I6.pinned (fun b hb=>by rw[ao.mp hb]; exact⟨Rb,Yo.2⟩) (fun b hb=>by
   rw[ao.mp hb]
   exact⟨oi,GR,fun v z=>by rw[Yq] at z; cases z⟩)
  refine dW hp (d9 (hg _ _ σ5 H5 kv.2 u _ I6' ru step) fun _ s7 ⟨σ7,H7,I7,q7⟩=>?_)
  refine dW hp (d9 (hb _ s7 σ7 H7 _ I7 q7) fun f s8 q8=>?_)
  have again: ∀{σ8:St} {H8:Hp},Inv X (pins ++ qd [it] h6) σ8 H8 s8->N σ8 H8-> ∃m,m < n/\ ∃i σ' H',Inv X pins σ' H' s8/\s8.heap.IsValIter it d i vs.length ep/\H' it=none/\W i m σ' H':=fun{σ8 H8} I8 n8=>by
   obtain⟨m',hm,w8⟩:=hN σ8 H8 n8
   have pn:=I8.pin (it,oi) (List.mem_append_right _ (List.mem_append_right _ (j8 (by simp) GR)))
   exact⟨m',hm,i + 1,σ8,H8,I8.jm,⟨oi,pn.1,Ri,Yq⟩,pn.2.1,w8⟩
  cases f with
  |next=>obtain⟨σ8,H8,I8,n8⟩:=q8; exact again I8 n8
  |cont=>obtain⟨σ8,H8,I8,n8⟩:=q8; exact again I8 n8
  |brk=>obtain⟨σ8,H8,I8,q8⟩:=q8; exact q8.elim
  |ret v=>obtain⟨x8,σ8,H8,I8,r8,q8⟩:=q8; exact⟨x8,σ8,H8,I8.jm,r8,q8⟩
theorem JO {P:Program}{w:World}{td:TE}{g:TG}{tb:TS}{D:Ends}{σ:St}{H1:Hp}{d:Addr}{bh:List (Key×V)}(ed:H1 d=some (.dK bh))
  (h: ∀φ,Fv P w d bh φ-> ∃Pv:Nat->St->Hp->Prop,Pv 0 σ (upd H1 d (.ext φ))/\(∀i σ' H',Pv i σ' H'->H' d=some (.ext φ))/\(∀i x σ' H',(bh.map (·.2))[i]? =some x->Pv i σ' H'->g x σ' H' fun σ2 H2=>tb {D with nx:=Pv (i + 1),ct:=Pv (i + 1),bk:=fun _ _=>False} σ2 H2)/\
   ∀σ' H',Pv bh.length σ' H'->D.nx σ' (upd H' d (.dK bh))):
  ∃d' JP,V.ref d= .ref d'/\H1 d'=some (.dK JP)/\ ∀φ,Fv P w d' JP φ->
 ∃W:Nat->Nat->St->Hp->Prop,(∃m,W 0 m σ (upd H1 d' (.ext φ)))/\ ∀i m σ' H',W i m σ' H'->H' d'=some (.ext φ)/\((JP.length<=i/\D.nx σ' (upd H' d' (.dK JP)))∨
  ∃x,(JP.map (·.2))[i]? =some x/\ ∃N:St->Hp->Prop,(∀L4 qk,N L4 qk-> ∃m',m' < m/\W (i + 1) m' L4 qk)/\g x σ' H' fun σ2 H2=>tb {D with nx:=N,ct:=N,bk:=fun _ _=>False} σ2 H2):=by
 refine⟨d,bh,rfl,ed,fun φ hφ=>?_⟩
 obtain⟨Pv,p0,pk,ps,pe⟩:=h φ hφ
 refine⟨fun i m σ' H'=>m=bh.length - i/\i<=bh.length/\Pv i σ' H',⟨bh.length,by simp,Nat.zero_le _,p0⟩,?_⟩
 rintro i m σ' H' ⟨rfl,hi,p⟩
 refine⟨pk i σ' H' p,?_⟩
 by_cases iI:i < bh.length
 ·have hg:(bh.map (·.2))[i]? =some bh[i].2:=by rw[aC,af iI]; rfl
  exact .inr ⟨_,hg,Pv (i + 1),fun L4 qk p'=>⟨bh.length - (i + 1),by lia,rfl,iI,p'⟩,ps i _ σ' H' hg p⟩
 ·have e:i=bh.length:=by lia
  subst e
  exact .inl ⟨aD _,pe σ' H' p⟩
theorem nQ {α:Type}(f:α->Int): ∀(l2 l1:List α),l1.Perm l2->l1.Pairwise (fun a b=>f a<=f b)->l2.Pairwise (fun a b=>f a < f b)->l1=l2
 |[],l1,p,_,_=>List.Perm.eq_nil p
 |b :: l2,[],p,_,_=>absurd p.length_eq (by simp)
 |b :: l2,a :: l1,p,h1,h2=>by
  rw[fB] at h1 h2
  have hb:b∈a :: l1:=p.mem_iff.mpr aS
  have e:a=b:=by
   rcases au.mp (p.mem_iff.mp (aS (a:=a) (l:=l1))) with e|ha
   ·exact e
   ·rcases au.mp hb with e|hb
    ·exact e.symm
    ·have z1:=h1.1 b hb
     have z2:=h2.1 a ha
     lia
  subst e
  rw[nQ f l2 l1 (List.Perm.cons_inv p) h1.2 h2.2]
theorem Mv {x y:Int×Nat}(hx:x.2 < 1000)(hy:y.2 < 1000)(h:uk x=uk y):x.2=y.2:=by
 unfold uk at h
 lia
theorem BW {l:List (Int×Nat)}(h: ∀x∈l,x.2 < 1000)(nd:(l.map (·.2)).Nodup):(fO l).Pairwise (fun a b=>uk a < uk b):=by
 have p:=dE l
 have Wd:((fO l).map (·.2)).Nodup:=(p.map (·.2)).nodup_iff.mpr nd
 have h': ∀x∈fO l,x.2 < 1000:=fun x hx=>h x (p.mem_iff.mp hx)
 have le:=vn l
 generalize fO l=m at Wd h' le
 induction m with
 |nil=>exact .nil
 |cons a m ih=>
  rw[fB] at le ⊢
  rw[cO,dN] at Wd
  refine⟨fun b hb=>?_,ih Wd.2 (fun x hx=>h' x (aI _ hx)) le.2⟩
  have z:=le.1 b hb
  have n:uk a≠uk b:=fun e=>Wd.1 (by
   rw[Mv (h' a aS) (h' b (aI _ hb)) e]
   exact bJ.mpr ⟨b,hb,rfl⟩)
  lia
def vK (t:List Int):Int:=t.getD 0 0 * 1000 + t.getD 1 0
theorem vL {x y:Int×Nat}{u v:List Int}(hx:x.2 < 1000)(hy:y.2 < 1000)(h:x.2=y.2->u=v/\x=y)(hs:HT.lexLt u u=false):HT.lexLt (x.1 :: (x.2:Int) :: u) (y.1 :: (y.2:Int) :: v)=decide (vK (x.1 :: (x.2:Int) :: u) < vK (y.1 :: (y.2:Int) :: v)):=by
 show _ =decide (x.1 * 1000 + (x.2:Int) < y.1 * 1000 + (y.2:Int))
 rw[HT.qf]
 by_cases c:x.1=y.1
 ·rw[aY c,HT.qf]
  by_cases d:x.2=y.2
  ·rw[aY (by lia),← (h d).1,hs,bL (by lia)]
  ·rw[aN (by lia)]
   exact mV.mpr (by lia)
 ·rw[aN c]
  exact mV.mpr (by lia)
theorem BX {ks:List (Int×Nat)}{g:Int×Nat->List Int}{us:List (List Int)}(h: ∀x∈ks,x.2 < 1000)(nd:(ks.map (·.2)).Nodup)(hg: ∀x∈ks,vK (g x)=uk x)(p:us.Perm (ks.map g))(le:us.Pairwise (fun t u=>vK t<=vK u)):us=(fO ks).map g:=by
 refine nQ vK _ _ (p.trans ((dE ks).map g).symm) le ?_
 rw[sq]
 refine(BW h nd).imp_of_mem fun{a b} ha hb z=>?_
 rw[hg a ((dE ks).mem_iff.mp ha),hg b ((dE ks).mem_iff.mp hb)]
 exact z
theorem dA.tk {H H':Hp}{sd:Addr}{S:Bk}{f:fP}(h:dA H sd S f)(k:Frame f.fp H H'):cK H H':=fun b xs e=>k b _ (fun hb=>by
 obtain⟨ms,m1,_⟩:=h.hm
 unfold fP.fp at hb
 rcases au.mp hb with rfl|hb
 ·rw[h.hb] at e; cases e
 ·rcases au.mp hb with rfl|hb
  ·rw[h.hc] at e; cases e
  ·rcases au.mp hb with rfl|hb
   ·rw[m1] at e; cases e
   ·have rows: ∀(rs:List Rw) (ps:List Addr),fe H rs ps->b∈ps->False:=fun rs ps hr hp=>by
     obtain⟨i,hi⟩:=jl hp
     have iI:i < rs.length:=by
      rw[hr.length]
      exact(ah.mp hi).1
     obtain⟨q,e1,e2⟩:=hr.at iI
     rw[e1] at hi
     cases hi
     rw[e2] at e
     cases e
    rcases bc.mp hb with hb|hb
    ·exact rows _ _ h.rb hb
    ·exact rows _ _ h.rc hb) e
theorem Frame.mz {fp:List Addr}{H1 H2 H3:Hp}(a:aF H1 H2)(b:Frame fp H2 H3):Frame fp H1 H3:=fun x o hx e=>b x o hx (a x o e)
theorem Frame.cU {fp:List Addr}{H1 H2 H3:Hp}(a:Frame fp H1 H2)(b:aF H2 H3):Frame fp H1 H3:=fun x o hx e=>b x o (a x o hx e)
theorem Frame.tr {fp:List Addr}{H1 H2 H3:Hp}(a:Frame fp H1 H2)(b:Frame fp H2 H3):Frame fp H1 H3:=fun x o hx e=>b x o hx (a x o hx e)
def mO.dt:mO->Dt
 | .int i=> .int i
 | .txt s=> .str s
 | .sets l=> .lst (l.map fun t=> .tup [.int t.1,.int t.2.1,.int t.2.2])
 | .pairs l=> .lst (l.map fun t=> .tup [.int t.1,.int t.2])
 | .ints l=> .lst (l.map Dt.int)
theorem iz.Lm {H:Hp}: ∀{ms:List (Nat×Nat×Int)} {vs:List V},iz H ms vs->g9 H (ms.map fun t=> .tup [.int t.1,.int t.2.1,.int t.2.2]) vs
 |_,_,.nil=>cv.mpr rfl
 |_,_,.cons ⟨p,e,q⟩ t=>by
  subst e
  exact br.mpr ⟨_,_,rfl,eP q (br.mpr ⟨_,_,rfl,dD.mpr rfl,br.mpr ⟨_,_,rfl,dD.mpr rfl,br.mpr ⟨_,_,rfl,dD.mpr rfl,cv.mpr rfl⟩⟩⟩),iz.Lm t⟩
def fP.iD (f:fP)(p:Addr):fP:={f with iP:=f.iP ++ [p]}
def fP.f7 (f:fP)(p:Addr):fP:={f with cps:=f.cps ++ [p]}
theorem fP.JQ (f:fP)(p:Addr):(f.iD p).fp.Perm (p :: f.fp):=by
 show(f.pb :: f.pc :: f.pm :: ((f.iP ++ [p]) ++ f.cps)).Perm (p :: f.pb :: f.pc :: f.pm :: (f.iP ++ f.cps))
 have h:((f.iP ++ [p]) ++ f.cps).Perm (p :: (f.iP ++ f.cps)):=by
  rw[b0]
  exact List.perm_middle
 exact(((h.cons f.pm).trans (List.Perm.swap _ _ _)).cons f.pc |>.trans (List.Perm.swap _ _ _)).cons f.pb |>.trans (List.Perm.swap _ _ _)
theorem fP.Fw (f:fP)(p:Addr):(f.f7 p).fp.Perm (p :: f.fp):=by
 show(f.pb :: f.pc :: f.pm :: (f.iP ++ (f.cps ++ [p]))).Perm (p :: f.pb :: f.pc :: f.pm :: (f.iP ++ f.cps))
 have h:(f.iP ++ (f.cps ++ [p])).Perm (p :: (f.iP ++ f.cps)):=by
  rw[← b0]
  exact List.perm_append_singleton _ _
 exact(((h.cons f.pm).trans (List.Perm.swap _ _ _)).cons f.pc |>.trans (List.Perm.swap _ _ _)).cons f.pb |>.trans (List.Perm.swap _ _ _)
theorem dA.off {H:Hp}{sd D:Addr}{S:Bk}{f:fP}(h:dA H sd S f)(n:H D=none):D∉f.fp:=fun z=>by
 obtain⟨ms,m1,_⟩:=h.hm
 have rows: ∀(rs:List Rw) (ps:List Addr),fe H rs ps->D∈ps->False:=fun rs ps hr hp=>by
  obtain⟨i,hi⟩:=jl hp
  have iI:i < rs.length:=by
   rw[hr.length]
   exact(ah.mp hi).1
  obtain⟨q,e1,e2⟩:=hr.at iI
  rw[e1] at hi
  cases hi
  rw[n] at e2
  cases e2
 unfold fP.fp at z
 rcases au.mp z with rfl|z
 ·have:=h.hb; rw[n] at this; cases this
 rcases au.mp z with rfl|z
 ·have:=h.hc; rw[n] at this; cases this
 rcases au.mp z with rfl|z
 ·rw[n] at m1; cases m1
 rcases bc.mp z with z|z
 ·exact rows _ _ h.rb z
 ·exact rows _ _ h.rc z
section
variable {H:Hp}{sd pr:Addr}{S:Bk}{f:fP}{r:Rw}
theorem dA.iD (h:dA H sd S f)(n:H pr=none):dA (upd (upd H pr (.lst r.vs)) f.pb (.lst (f.iP.map V.ref ++ [.ref pr]))) sd (S.iD r) (f.iD pr):=by
 have s1:aF H (upd H pr (.lst r.vs)):=aF.new n
 have h1:=h.same s1
 have g1:upd H pr (.lst r.vs) pr=some (.lst r.vs):=ag
 have np:=h.off n
 have Mw:sd≠pr:=aJ h.dict n
 generalize upd H pr (.lst r.vs)=H1 at s1 h1 g1
 obtain⟨d1,d2,d3,d4,d5,d6,d7⟩:=fP.S7 h.nd
 obtain⟨ms,m1,m2⟩:=h1.hm
 have es:sd≠f.pb:=fun z=>h.ns (by rw[z]; simp[fP.fp])
 have ep:pr≠f.pb:=fun z=>np (by rw[z]; simp[fP.fp])
 refine⟨by rw[az es]; exact h1.dict,?_,by rw[show(f.iD pr).pc=f.pc from rfl,az d1.symm]; exact h1.hc,⟨ms,by rw[show(f.iD pr).pm=f.pm from rfl,az d2.symm]; exact m1,m2.mono (dY h1.hb)⟩,?_,?_,?_,?_⟩
 ·show upd H1 f.pb _ f.pb=some (.lst ((f.iP ++ [pr]).map V.ref))
  rw[ag,aL]; rfl
 ·exact cw (h1.rb.iA fun z=>(d4 _ z).1 rfl) (by rw[az ep]; exact g1)
 ·exact h1.rc.iA fun z=>(d5 _ z).1 rfl
 ·exact(f.JQ pr).nodup_iff.mpr (dN.mpr ⟨np,h.nd⟩)
 ·intro z
  rcases au.mp ((f.JQ pr).mem_iff.mp z) with z|z
  ·exact Mw z
  ·exact h.ns z
theorem dA.f7 (h:dA H sd S f)(n:H pr=none):dA (upd (upd H pr (.lst r.vs)) f.pc (.lst (f.cps.map V.ref ++ [.ref pr]))) sd (S.f7 r) (f.f7 pr):=by
 have s1:aF H (upd H pr (.lst r.vs)):=aF.new n
 have h1:=h.same s1
 have g1:upd H pr (.lst r.vs) pr=some (.lst r.vs):=ag
 have np:=h.off n
 have Mw:sd≠pr:=aJ h.dict n
 generalize upd H pr (.lst r.vs)=H1 at s1 h1 g1
 obtain⟨d1,d2,d3,d4,d5,d6,d7⟩:=fP.S7 h.nd
 obtain⟨ms,m1,m2⟩:=h1.hm
 have es:sd≠f.pc:=fun z=>h.ns (by rw[z]; simp[fP.fp])
 have ep:pr≠f.pc:=fun z=>np (by rw[z]; simp[fP.fp])
 refine⟨by rw[az es]; exact h1.dict,by rw[show(f.f7 pr).pb=f.pb from rfl,az d1]; exact h1.hb,?_,⟨ms,by rw[show(f.f7 pr).pm=f.pm from rfl,az d3.symm]; exact m1,m2.mono (dY h1.hc)⟩,?_,?_,?_,?_⟩
 ·show upd H1 f.pc _ f.pc=some (.lst ((f.cps ++ [pr]).map V.ref))
  rw[ag,aL]; rfl
 ·exact h1.rb.iA fun z=>(d4 _ z).2.1 rfl
 ·exact cw (h1.rc.iA fun z=>(d5 _ z).2.1 rfl) (by rw[az ep]; exact g1)
 ·exact(f.Fw pr).nodup_iff.mpr (dN.mpr ⟨np,h.nd⟩)
 ·intro z
  rcases au.mp ((f.Fw pr).mem_iff.mp z) with z|z
  ·exact Mw z
  ·exact h.ns z
end
structure ee where
 dP:Addr
 eh:Addr
 work:Addr
 book:Addr
 refusal:Addr
 km:Addr
 qv:Addr
 jY:Addr
 iS:Addr
 tooEarly:Addr
 tooMuch:Addr
 jZ:Addr
 jf:Addr
def eK (H:Hp)(p C:Addr)(fs:List (Str×V)):Prop:= ∃dx,H p=some (.ins C dx fs)
theorem eK.same {H H':Hp}{p C:Addr}{fs:List (Str×V)}(h:eK H p C fs)(s:aF H H'):eK H' p C fs:=let⟨dx,e⟩:=h; ⟨dx,s _ _ e⟩
theorem eK.frame {H H':Hp}{p C:Addr}{fs:List (Str×V)}{fp:List Addr}(h:eK H p C fs)(s:Frame fp H H')(n:p∉fp):eK H' p C fs:=let⟨dx,e⟩:=h; ⟨dx,s _ _ n e⟩
def tR (c:Int):V:=if c= -1 then .eF else .int c
def fL (i:Nat)(r:Rw):List (Str×V):=[("number",.int i),("who",.str r.aH),("day",.int r.a),("due",.int r.b),("amount",.int r.c)]
def fz (i:Nat)(r:Rw):List (Str×V):=[("number",.int i),("who",.str r.aH),("day",.int r.a),("amount",.int r.b),("only",tR r.c)]
section
variable (i:Nat)(r:Rw)
theorem lQ:(fL i r).lookup ("number":Str)=some (V.int i):=by rfl
theorem Ea:(fL i r).lookup ("who":Str)=some (V.str r.aH):=by rfl
theorem PN:(fL i r).lookup ("day":Str)=some (V.int r.a):=by rfl
theorem JR:(fL i r).lookup ("due":Str)=some (V.int r.b):=by rfl
theorem oQ:(fz i r).lookup ("number":Str)=some (V.int i):=by rfl
theorem JS:(fz i r).lookup ("who":Str)=some (V.str r.aH):=by rfl
theorem JT:(fz i r).lookup ("day":Str)=some (V.int r.a):=by rfl
theorem Mx:(fz i r).lookup ("only":Str)=some (tR r.c):=by rfl
end
structure eX where
 pb:Addr
 pc:Addr
 pl:Addr
 pf:Addr
 pm:Addr
 iP:List Addr
 cps:List Addr
def eX.fp (f:eX):List Addr:=[f.pb,f.pc,f.pl,f.pf,f.pm]
def lR (f:eX):List (Str×V):=[("bills",.ref f.pb),("all_credits",.ref f.pc),("lefts",.ref f.pl),("frees",.ref f.pf),("made",.ref f.pm)]
theorem ju (f:eX):(lR f).lookup ("bills":Str)=some (V.ref f.pb):=by rfl
theorem ir (f:eX):(lR f).lookup ("all_credits":Str)=some (V.ref f.pc):=by rfl
theorem lS (f:eX):(lR f).lookup ("lefts":Str)=some (V.ref f.pl):=by rfl
theorem lT (f:eX):(lR f).lookup ("frees":Str)=some (V.ref f.pf):=by rfl
theorem Fx (f:eX):(lR f).lookup ("made":Str)=some (V.ref f.pm):=by rfl
def gH (H:Hp)(C:Addr)(fs:Nat->Rw->List (Str×V))(rows:List Rw)(ps:List Addr):Prop:=ps.length=rows.length/\ ∀i p,ps[i]? =some p->eK H p C (fs i (rows.getD i default))
theorem gH.keep {H H':Hp}{C:Addr}{fs:Nat->Rw->List (Str×V)}{rows:List Rw}{ps:List Addr}(h:gH H C fs rows ps)(k: ∀p dx gs,H p=some (.ins C dx gs)->H' p=some (.ins C dx gs)):gH H' C fs rows ps:=
 ⟨h.1,fun i p e=>let⟨dx,z⟩:=h.2 i p e; ⟨dx,k _ _ _ z⟩⟩
theorem gH.get {H:Hp}{C:Addr}{fs:Nat->Rw->List (Str×V)}{rows:List Rw}{ps:List Addr}(h:gH H C fs rows ps){i:Nat}(hi:i < rows.length): ∃p,ps[i]? =some p/\eK H p C (fs i (rows.getD i default)):=by
 have iI:i < ps.length:=by rw[h.1]; exact hi
 exact⟨ps[i],af iI,h.2 i _ (af iI)⟩
theorem gH.rows {H:Hp}{C:Addr}{fs:Nat->Rw->List (Str×V)}{rows iN:List Rw}{ps:List Addr}(h:gH H C fs rows ps)(hl:iN.length=rows.length)(e: ∀i,fs i (iN.getD i default)=fs i (rows.getD i default)):gH H C fs iN ps:=
 ⟨h.1.trans hl.symm,fun i p z=>by rw[e]; exact h.2 i p z⟩
theorem gH.add {H:Hp}{C p:Addr}{fs:Nat->Rw->List (Str×V)}{rows:List Rw}{r:Rw}{ps:List Addr}(h:gH H C fs rows ps)(n:eK H p C (fs rows.length r)):gH H C fs (rows ++ [r]) (ps ++ [p]):=by
 refine⟨by rw[ax,ax,h.1]; rfl,fun i q e=>?_⟩
 by_cases hi:i < ps.length
 ·rw[jA hi] at e
  rw[getD_snoc (by rw[← h.1]; exact hi)]
  exact h.2 i q e
 ·rw[gj (by lia)] at e
  have e0:i - ps.length=0:=by
   have:=(ah.mp e).1
   simp at this
   lia
  rw[e0] at e
  obtain rfl:p=q:=by simpa using e
  obtain rfl:i=rows.length:=by have:=h.1; lia
  rw[getD_last]
  exact n
structure dJ (A:ee)(H:Hp)(pw:Addr)(S:Bk)(f:eX):Prop where
 obj:eK H pw A.work (lR f)
 hb:H f.pb=some (.lst (f.iP.map V.ref))
 hc:H f.pc=some (.lst (f.cps.map V.ref))
 hl:H f.pl=some (.lst (S.aE.map fun r=>V.int r.d))
 hf:H f.pf=some (.lst (S.credits.map fun r=>V.int r.d))
 hm: ∃ms,H f.pm=some (.lst ms)/\iz H S.made ms
 rb:gH H A.dP fL S.aE f.iP
 rc:gH H A.eh fz S.credits f.cps
 nd:f.fp.Nodup
section
variable {A:ee}{H H':Hp}{pw:Addr}{S:Bk}{f:eX}
theorem dJ.lists (h:dJ A H pw S f): ∀p∈f.fp,∃xs,H p=some (.lst xs):=fun p hp=>by
 obtain⟨ms,m1,_⟩:=h.hm
 simp only[eX.fp,List.mem_cons,List.not_mem_nil,or_false] at hp
 rcases hp with rfl|rfl|rfl|rfl|rfl
 ·exact⟨_,h.hb⟩
 ·exact⟨_,h.hc⟩
 ·exact⟨_,h.hl⟩
 ·exact⟨_,h.hf⟩
 ·exact⟨_,m1⟩
theorem dJ.off (h:dJ A H pw S f){p:Addr}(n: ∀xs,H p≠some (.lst xs)):p∉f.fp:=fun z=>by
 obtain⟨xs,e⟩:=h.lists p z
 exact n xs e
theorem dJ.new (h:dJ A H pw S f){p:Addr}(n:H p=none):p∉f.fp:=h.off fun xs e=>by rw[n] at e; cases e
theorem dJ.ins (h:dJ A H pw S f){p C:Addr}{fs:List (Str×V)}(n:eK H p C fs):p∉f.fp:=h.off fun xs e=>by
 obtain⟨dx,z⟩:=n
 rw[z] at e
 cases e
theorem dJ.tk (h:dJ A H pw S f)(k:Frame f.fp H H'):cK H H':=fun b xs e=>k b _ (h.off fun ys z=>by rw[e] at z; cases z) e
theorem dJ.objs (h:dJ A H pw S f)(k:Frame f.fp H H'):eK H' pw A.work (lR f)/\gH H' A.dP fL S.aE f.iP/\gH H' A.eh fz S.credits f.cps:=by
 have go: ∀{p C:Addr} {dx:Addr} {gs:List (Str×V)},H p=some (.ins C dx gs)->H' p=some (.ins C dx gs):=fun e=>k _ _ (h.off fun ys z=>by rw[e] at z; cases z) e
 exact⟨let⟨dx,e⟩:=h.obj; ⟨dx,go e⟩,h.rb.keep fun _ _ _ e=>go e,h.rc.keep fun _ _ _ e=>go e⟩
theorem dJ.same (h:dJ A H pw S f)(s:aF H H'):dJ A H' pw S f:=by
 obtain⟨o1,o2,o3⟩:=h.objs (s.frame (fp:=f.fp))
 obtain⟨ms,m1,m2⟩:=h.hm
 exact⟨o1,s _ _ h.hb,s _ _ h.hc,s _ _ h.hl,s _ _ h.hf,⟨ms,s _ _ m1,m2.mono s.tk⟩,o2,o3,h.nd⟩
theorem eX.ne (h:f.fp.Nodup):f.pb≠f.pc/\f.pb≠f.pl/\f.pb≠f.pf/\f.pb≠f.pm/\f.pc≠f.pl/\f.pc≠f.pf/\f.pc≠f.pm/\f.pl≠f.pf/\f.pl≠f.pm/\f.pf≠f.pm:=by
 simp only[eX.fp,List.nodup_cons,List.mem_cons,List.not_mem_nil,or_false,not_or] at h
 obtain⟨⟨h1,h2,h3,h4⟩,⟨h5,h6,h7⟩,⟨h8,h9⟩,Lg,_⟩:=h
 exact⟨h1,h2,h3,h4,h5,h6,h7,h8,h9,Lg⟩
theorem yF {rows:List Rw}{i:Nat}{x:Int}:(rows.set i ((rows.getD i default).less x)).map (fun r=>V.int r.d)=(rows.map fun r=>V.int r.d).set i (.int ((rows.getD i default).d - x)):=by
 rw[List.map_set]; rfl
theorem dJ.put (h:dJ A H pw S f){c b:Nat}{x:Int}{ms:List V}{p:Addr}(hc:c < S.credits.length)(hb:b < S.aE.length)(m1:H f.pm=some (.lst ms))(m2:iz H S.made ms)(np:H p=none):
  dJ A (upd (upd (upd (upd H f.pf (.lst ((S.credits.map fun r=>V.int r.d).set c (.int ((S.cr c).d - x))))) f.pl (.lst ((S.aE.map fun r=>V.int r.d).set b (.int ((S.bl b).d - x))))) p (.tup [.int c,.int b,.int x])) f.pm (.lst (ms ++ [.ref p]))) pw (S.put c b x) f/\
  Frame f.fp H (upd (upd (upd (upd H f.pf (.lst ((S.credits.map fun r=>V.int r.d).set c (.int ((S.cr c).d - x))))) f.pl (.lst ((S.aE.map fun r=>V.int r.d).set b (.int ((S.bl b).d - x))))) p (.tup [.int c,.int b,.int x])) f.pm (.lst (ms ++ [.ref p]))):=by
 obtain⟨e1,e2,e3,e4,e5,e6,e7,e8,e9,NR⟩:=eX.ne h.nd
 have pf: ∀q∈f.fp,q≠p:=fun q hq z=>h.new np (z▸hq)
 have i1:f.pb∈f.fp:=by simp[eX.fp]
 have i2:f.pc∈f.fp:=by simp[eX.fp]
 have i3:f.pl∈f.fp:=by simp[eX.fp]
 have i4:f.pf∈f.fp:=by simp[eX.fp]
 have i5:f.pm∈f.fp:=by simp[eX.fp]
 have t3: ∀(G:Hp) (q:Addr),q≠f.pf->q≠f.pl->q≠p->q≠f.pm-> ∀(a b c d:HO),upd (upd (upd (upd G f.pf a) f.pl b) p c) f.pm d q=G q:=fun G q h1 h2 h3 h4 a b c d=>by
  rw[az h4,az h3,az h2,az h1]
 have F:Frame f.fp H (upd (upd (upd (upd H f.pf (.lst ((S.credits.map fun r=>V.int r.d).set c (.int ((S.cr c).d - x))))) f.pl (.lst ((S.aE.map fun r=>V.int r.d).set b (.int ((S.bl b).d - x))))) p (.tup [.int c,.int b,.int x])) f.pm (.lst (ms ++ [.ref p]))):=fun q o hq e=>by
  rw[t3 H q (fun z=>hq (z▸i4)) (fun z=>hq (z▸i3)) (aJ e np) (fun z=>hq (z▸i5))]
  exact e
 refine⟨?_,F⟩
 obtain⟨o1,o2,o3⟩:=h.objs F
 have tk:=h.tk F
 refine⟨o1,by rw[t3 H _ e3 e2 (pf _ i1) e4]; exact h.hb,by rw[t3 H _ e6 e5 (pf _ i2) e7]; exact h.hc,?_,?_,⟨_,ag,?_⟩,?_,?_,h.nd⟩
 ·rw[az e9,az (pf _ i3),ag]
  show _ =some (HO.lst ((S.aE.set b ((S.aE.getD b default).less x)).map fun r=>V.int r.d))
  rw[yF]; rfl
 ·rw[az NR,az (pf _ i4),az e8.symm,ag]
  show _ =some (HO.lst ((S.credits.set c ((S.credits.getD c default).less x)).map fun r=>V.int r.d))
  rw[yF]; rfl
 ·refine cw (m2.mono tk) ⟨p,rfl,?_⟩
  rw[az (pf _ i5).symm,ag]
 ·refine o2.rows fm fun i=>?_
  show fL i ((S.put c b x).bl i)=fL i (S.bl i)
  rw[lu hb]
  split
  ·rename_i z; subst z; rfl
  ·rfl
 ·refine o3.rows fm fun i=>?_
  show fz i ((S.put c b x).cr i)=fz i (S.cr i)
  rw[nL hc]
  split
  ·rename_i z; subst z; rfl
  ·rfl
end
end L2
namespace eZ
open PySem L2 PyProof.Rows Lh
def My:Stmt->List Stmt
 | .ClassDef _ _ _ b _ _ _ _ _ _ _=>b
 |_=>[]
def mem (i j:Nat):Stmt:=(My (top i)).getD j (.Pass ⟨0,0,0,0⟩)
structure jO (K:Frag)(mg:Str->Option Value)(A:ee):Prop where
 gf:mg "Refusal"=some (.ref A.refusal)
 Eb:hX K A.refusal A.refusal
 PQ:keepIn K (.ref A.refusal)=true
 gI: ∃f fd,gE K "__init__" "Refusal.__init__" (mem 3 0) f fd/\Fp K A.refusal f
 BY:mg "NoCredit"=some (.ref A.km)
 tS:hX K A.km A.refusal
 BZ:keepIn K (.ref A.km)=true
 B0: ∃f fd,gE K "__init__" "NoCredit.__init__" (mem 4 0) f fd/\findIn K (.ref A.km) "__init__"=some (some (.ref f))/\typeIn K (.ref f)=some (.type "function")
 Hj:mg "NoBill"=some (.ref A.qv)
 yG:hX K A.qv A.refusal
 Hl:keepIn K (.ref A.qv)=true
 Hm: ∃f fd,gE K "__init__" "NoBill.__init__" (mem 5 0) f fd/\findIn K (.ref A.qv) "__init__"=some (some (.ref f))/\typeIn K (.ref f)=some (.type "function")
 zO:mg "NotTheirs"=some (.ref A.jY)
 rz:hX K A.jY A.refusal
 zP:keepIn K (.ref A.jY)=true
 zQ: ∃f fd,gE K "__init__" "NotTheirs.__init__" (mem 6 0) f fd/\findIn K (.ref A.jY) "__init__"=some (some (.ref f))/\typeIn K (.ref f)=some (.type "function")
 B4:mg "NoAmount"=some (.ref A.iS)
 kY:hX K A.iS A.refusal
 B6:keepIn K (.ref A.iS)=true
 B7: ∃f fd,gE K "__init__" "NoAmount.__init__" (mem 7 0) f fd/\findIn K (.ref A.iS) "__init__"=some (some (.ref f))/\typeIn K (.ref f)=some (.type "function")
 B8:mg "TooEarly"=some (.ref A.tooEarly)
 tT:hX K A.tooEarly A.refusal
 Ca:keepIn K (.ref A.tooEarly)=true
 Cb: ∃f fd,gE K "__init__" "TooEarly.__init__" (mem 8 0) f fd/\findIn K (.ref A.tooEarly) "__init__"=some (some (.ref f))/\typeIn K (.ref f)=some (.type "function")
 vM:mg "TooMuch"=some (.ref A.tooMuch)
 qw:hX K A.tooMuch A.refusal
 Ec:keepIn K (.ref A.tooMuch)=true
 Ed: ∃f fd,gE K "__init__" "TooMuch.__init__" (mem 9 0) f fd/\findIn K (.ref A.tooMuch) "__init__"=some (some (.ref f))/\typeIn K (.ref f)=some (.type "function")
 zR:mg "NoSetting"=some (.ref A.jZ)
 rA:hX K A.jZ A.refusal
 zS:keepIn K (.ref A.jZ)=true
 zT: ∃f fd,gE K "__init__" "NoSetting.__init__" (mem 10 0) f fd/\findIn K (.ref A.jZ) "__init__"=some (some (.ref f))/\typeIn K (.ref f)=some (.type "function")
 yH:mg "Needed"=some (.ref A.jf)
 yI:hX K A.jf A.refusal
 Hn:keepIn K (.ref A.jf)=true
 Ho: ∃f fd,gE K "__init__" "Needed.__init__" (mem 11 0) f fd/\findIn K (.ref A.jf) "__init__"=some (some (.ref f))/\typeIn K (.ref f)=some (.type "function")
 Mz:mg "Bill"=some (.ref A.dP)
 ej:w6 K A.dP
 ff:cf K A.dP "number"
 kZ:cf K A.dP "who"
 nR:cf K A.dP "day"
 nS:cf K A.dP "due"
 nU:cf K A.dP "amount"
 MA: ∃f fd,gE K "__init__" "Bill.__init__" (mem 13 0) f fd/\Mk K A.dP f
 Hq:mg "Credit"=some (.ref A.eh)
 dg:w6 K A.eh
 eY:cf K A.eh "number"
 lz:cf K A.eh "who"
 jj:cf K A.eh "day"
 lU:cf K A.eh "amount"
 ko:cf K A.eh "only"
 Hr: ∃f fd,gE K "__init__" "Credit.__init__" (mem 14 0) f fd/\Mk K A.eh f
 MB:mg "Work"=some (.ref A.work)
 bI:w6 K A.work
 d8:cf K A.work "bills"
 cG:cf K A.work "all_credits"
 fM:cf K A.work "lefts"
 fN:cf K A.work "frees"
 mB:cf K A.work "made"
 MC: ∃f fd,gE K "__init__" "Work.__init__" (mem 25 0) f fd/\Mk K A.work f
 rB: ∃f fd,gE K "tell_bill" "Work.tell_bill" (mem 25 1) f fd/\Meth K A.work "tell_bill" f
 nV: ∃f fd,gE K "tell_payment" "Work.tell_payment" (mem 25 2) f fd/\Meth K A.work "tell_payment" f
 rC: ∃f fd,gE K "tell_note" "Work.tell_note" (mem 25 3) f fd/\Meth K A.work "tell_note" f
 pj: ∃f fd,gE K "tell_credit" "Work.tell_credit" (mem 25 4) f fd/\Meth K A.work "tell_credit" f
 pq: ∃f fd,gE K "set_by_hand" "Work.set_by_hand" (mem 25 5) f fd/\Meth K A.work "set_by_hand" f
 xB: ∃f fd,gE K "sweep" "Work.sweep" (mem 25 6) f fd/\Meth K A.work "sweep" f
 rD: ∃f fd,gE K "one_round" "Work.one_round" (mem 25 7) f fd/\Meth K A.work "one_round" f
 Cc: ∃f fd,gE K "put" "Work.put" (mem 25 8) f fd/\Meth K A.work "put" f
 rE: ∃f fd,gE K "credit_at" "Work.credit_at" (mem 25 9) f fd/\Meth K A.work "credit_at" f
 um: ∃f fd,gE K "bill_at" "Work.bill_at" (mem 25 10) f fd/\Meth K A.work "bill_at" f
 MD:mg "Book"=some (.ref A.book)
 fh:w6 K A.book
 gU:cf K A.book "kept"
 gW:cf K A.book "work"
 ME: ∃f fd,gE K "__init__" "Book.__init__" (mem 29 0) f fd/\Mk K A.book f
 Ee: ∃f fd,gE K "do" "Book.do" (mem 29 1) f fd/\Meth K A.book "do" f
 zU: ∃f fd,gE K "undo" "Book.undo" (mem 29 2) f fd/\Meth K A.book "undo" f
 sP: ∃f fd,gE K "in_force" "Book.in_force" (mem 29 3) f fd/\Meth K A.book "in_force" f
end eZ
namespace L2
open PySem PySem.Spec PySem.W PyProof.Rows Lh
structure hZ (CX:Gz)(P:Program)(w:World)(K:Frag)(mg:Str->Option Value)(base:Heap)(C:Addr)(m:Str)(k:Nat)(ps:List Str)(sp:Sp):Prop where
 ex: ∃(f:Addr) (fd:FuncData),w6 K C/\Meth K C m f/\mf P w K mg base CX k f fd ps sp/\Binds K fd ps []
structure vN (P:Program)(w:World)(K:Frag)(mg:Str->Option Value)(base:Heap)(x:Str)(k:Nat)(ps:List Str)(sp:Sp):Prop where
 ex: ∃(f:Addr) (fd:FuncData),mf P w K mg base (mY P w mg) k f fd ps sp/\mg x=some (.ref f)/\keepIn K (.ref f)=true/\Binds K fd ps []
structure uo (P:Program)(w:World)(K:Frag)(mg:Str->Option Value)(base:Heap)(x:Str)(C:Addr)(k:Nat)(ps:List Str)(sp:Sp):Prop where
 ex: ∃(f:Addr) (fd:FuncData),Mk K C f/\mf P w K mg base sG k f fd ps sp/\Binds K fd ps []/\mg x=some (.ref C)
section
variable {X:Cx}{CX:Gz}{C:Addr}{x m:Str}{k:Nat}{ps:List Str}{sp:Sp}{o e:Expr}{es:List Expr}{ta:TE}{t:TA}{p pos apos:Pos}{E:XK}
theorem nW {pl:Sem Bool}(M:hZ CX X.prog X.w X.K X.mg X.base C m k ps sp)(hr:fu k X.A)(hx:Passes CX X E)(he:PE X o ta)(ha:PA X (e :: es) t)
  (tG:starEach (e :: es) X.env=(false,eval e X.env) :: starEach es X.env:=by rfl) (jb:(backTo pos (starEach es X.env)).any (·.1)=false:=by rfl)
  (ht:eval (.Call (.Attribute o m apos) (e :: es) [] pos) X.env=(do
   let ov ← eval o X.env
   standAt apos.atName
   let(f,first) ← holding [ov] (getMethod ov m pl)
   callWith pos f first (backTo pos (starEach (e :: es) X.env)) (backToKw pos (keywordEach [] X.env))):=by rfl):
  PE X (.Call (.Attribute o m apos) (e :: es) [] pos) (ND C m sp [] E ta t):=by
 obtain⟨f,fd,hc,hm,F,hb⟩:=M.ex
 exact LN he hc hm F hr hb .nil hx ha tG jb ht
theorem sQ (M:vN X.prog X.w X.K X.mg X.base x k ps sp)(hr:fu k X.A)(hg:Gl X x)(hx:Passes (mY X.prog X.w X.mg) X E)(ha:PA X (e :: es) t)(qW:(x == ("__debug__":Str))=false:=by decide)
  (he:starEach (e :: es) X.env=(false,eval e X.env) :: starEach es X.env:=by rfl) (jb:(backTo pos (starEach es X.env)).any (·.1)=false:=by rfl):PE X (.Call (.Name x p) (e :: es) [] pos) (uX sp [] E t):=by
 obtain⟨f,fd,F,hm,hk,hb⟩:=M.ex
 exact EZ F hr hg hm hk hb .nil hx ha qW he jb
theorem TK (M:uo X.prog X.w X.K X.mg X.base x C k ps sp)(hr:fu (k + 1) X.A)(hg:Gl X x)(ha:PA X (e :: es) t)(qW:(x == ("__debug__":Str))=false:=by decide)
  (he:starEach (e :: es) X.env=(false,eval e X.env) :: starEach es X.env:=by rfl) (jb:(backTo pos (starEach es X.env)).any (·.1)=false:=by rfl):PE X (.Call (.Name x p) (e :: es) [] pos) (EY C sp [] E0 t):=by
 obtain⟨f,fd,hk,F,hb,hm⟩:=M.ex
 exact LO hk F hr hg hm hb .nil nH ha qW he jb
theorem JU (M:uo X.prog X.w X.K X.mg X.base x C k ps sp)(hr:fu (k + 1) X.A)(hg:Gl X x)(qW:(x == ("__debug__":Str))=false:=by decide):PE X (.Call (.Name x p) [] [] pos) (EY C sp [] E0 DK):=by
 obtain⟨f,fd,hk,F,hb,hm⟩:=M.ex
 exact IX hk F hr hg hm hb .nil nH qW
end
section
variable {P:Program}{w:World}{K:Frag}{mg:Str->Option Value}{base:Heap}{C:Addr}{x m qual:Str}{st:Stmt}{N ps:List Str}{k:Nat}{sp:Sp}
theorem MF (D: ∃f fd,gE K m qual st f fd/\Meth K C m f)(hc:w6 K C)(S:aU N ps (aA st))
  (gp: ∀(f:Addr) (cY:Value) (A:Around) (outer:List Env) (s:Shared) (H:Hp) (vs:List V) (Q:VK) (E:XK),fu k (A.deeper (envOfC qual (aA st) s.heap.objs.size f cY))->sp vs H Q E->
   ∃t,pB (lJ sG P w K mg base N qual (aA st) f cY A outer s H E).ER (dI st) t/\t {nx:=fun _ H'=>Q .eF H',rt:=Q} (start N vs) H)
  (hb: ∀(kV doc pm:Value) (an:Option Addr) (cY ct:Value) (us:List Value),us.length=ps.length->bindArgs (fnOf m qual (gR st) (dI st) (aA st) .none kV doc pm an cY ct) ⟨us,[]⟩=pure (ps.zip us):=by intro _ _ _ _ _ _ us hl; rcases us with _|⟨_,_|⟨_,_|⟨_,_|⟨_,_|⟨_,_|⟨_,_|⟨_,_⟩⟩⟩⟩⟩⟩⟩ <;> first|(cases hl; done)|rfl)
  (len: ∀vs H Q E,sp vs H Q E->vs.length=ps.length:=by intro _ _ _ _ h; first|(cases h; subst_vars; rfl)|(repeat (first|(obtain⟨rfl,_⟩:=h; rfl; done)|obtain⟨_,h⟩:=h))):hZ sG P w K mg base C m (k + 1) ps sp:=by
 obtain⟨f,fd,F,hm⟩:=D
 exact⟨f,fd,hc,hm,F.ok S len (gp f),F.binds hb⟩
theorem rF (D: ∃f fd,gE K m qual st f fd/\Meth K C m f)(hc:w6 K C)(S:aU N ps (aA st))
  (gp: ∀(f:Addr) (cY:Value) (A:Around) (outer:List Env) (s:Shared) (H:Hp) (vs:List V) (Q:VK) (E:XK),fu k (A.deeper (envOfC qual (aA st) s.heap.objs.size f cY))->Rl (lJ (mY P w mg) P w K mg base N qual (aA st) f cY A outer s H E) E->sp vs H Q E->
   ∃t,pB (lJ (mY P w mg) P w K mg base N qual (aA st) f cY A outer s H E) (dI st) t/\t {nx:=fun _ H'=>Q .eF H',rt:=Q} (start N vs) H)
  (hb: ∀(kV doc pm:Value) (an:Option Addr) (cY ct:Value) (us:List Value),us.length=ps.length->bindArgs (fnOf m qual (gR st) (dI st) (aA st) .none kV doc pm an cY ct) ⟨us,[]⟩=pure (ps.zip us):=by intro _ _ _ _ _ _ us hl; rcases us with _|⟨_,_|⟨_,_|⟨_,_|⟨_,_|⟨_,_|⟨_,_|⟨_,_⟩⟩⟩⟩⟩⟩⟩ <;> first|(cases hl; done)|rfl)
  (len: ∀vs H Q E,sp vs H Q E->vs.length=ps.length:=by intro _ _ _ _ h; first|(cases h; subst_vars; rfl)|(repeat (first|(obtain⟨rfl,_⟩:=h; rfl; done)|obtain⟨_,h⟩:=h))):hZ (mY P w mg) P w K mg base C m (k + 1) ps sp:=by
 obtain⟨f,fd,F,hm⟩:=D
 exact⟨f,fd,hc,hm,F.okX S len (gp f),F.binds hb⟩
theorem PR (D:Df K mg x st)(S:aU N ps (aA st))
  (gp: ∀(f:Addr) (cY:Value) (A:Around) (outer:List Env) (s:Shared) (H:Hp) (vs:List V) (Q:VK) (E:XK),fu k (A.deeper (envOfC x (aA st) s.heap.objs.size f cY))->Rl (lJ (mY P w mg) P w K mg base N x (aA st) f cY A outer s H E) E->sp vs H Q E->
   ∃t,pB (lJ (mY P w mg) P w K mg base N x (aA st) f cY A outer s H E) (dI st) t/\t {nx:=fun _ H'=>Q .eF H',rt:=Q} (start N vs) H)
  (hb: ∀(kV doc pm:Value) (an:Option Addr) (cY ct:Value) (us:List Value),us.length=ps.length->bindArgs (fnOf x x (gR st) (dI st) (aA st) .none kV doc pm an cY ct) ⟨us,[]⟩=pure (ps.zip us):=by intro _ _ _ _ _ _ us hl; rcases us with _|⟨_,_|⟨_,_|⟨_,_|⟨_,_|⟨_,_|⟨_,_|⟨_,_⟩⟩⟩⟩⟩⟩⟩ <;> first|(cases hl; done)|rfl)
  (len: ∀vs H Q E,sp vs H Q E->vs.length=ps.length:=by intro _ _ _ _ h; first|(cases h; subst_vars; rfl)|(repeat (first|(obtain⟨rfl,_⟩:=h; rfl; done)|obtain⟨_,h⟩:=h))):vN P w K mg base x (k + 1) ps sp:=by
 obtain⟨f,fd,F,hm⟩:=D.ex
 exact⟨f,fd,F.okX S len (gp f),hm,F.kp,F.binds hb⟩
theorem MG (D: ∃f fd,gE K "__init__" qual st f fd/\Mk K C f)(hm:mg x=some (.ref C))(S:aU N ps (aA st))
  (gp: ∀(f:Addr) (cY:Value) (A:Around) (outer:List Env) (s:Shared) (H:Hp) (vs:List V) (Q:VK) (E:XK),fu k (A.deeper (envOfC qual (aA st) s.heap.objs.size f cY))->sp vs H Q E->
   ∃t,pB (lJ sG P w K mg base N qual (aA st) f cY A outer s H E).ER (dI st) t/\t {nx:=fun _ H'=>Q .eF H',rt:=Q} (start N vs) H)
  (hb: ∀(kV doc pm:Value) (an:Option Addr) (cY ct:Value) (us:List Value),us.length=ps.length->bindArgs (fnOf "__init__" qual (gR st) (dI st) (aA st) .none kV doc pm an cY ct) ⟨us,[]⟩=pure (ps.zip us):=by intro _ _ _ _ _ _ us hl; rcases us with _|⟨_,_|⟨_,_|⟨_,_|⟨_,_|⟨_,_|⟨_,_|⟨_,_⟩⟩⟩⟩⟩⟩⟩ <;> first|(cases hl; done)|rfl)
  (len: ∀vs H Q E,sp vs H Q E->vs.length=ps.length:=by intro _ _ _ _ h; first|(cases h; subst_vars; rfl)|(repeat (first|(obtain⟨rfl,_⟩:=h; rfl; done)|obtain⟨_,h⟩:=h))):uo P w K mg base x C (k + 1) ps sp:=by
 obtain⟨f,fd,F,hk⟩:=D
 exact⟨f,fd,hk,F.ok S len (gp f),F.binds hb,hm⟩
end
end L2
namespace eZ
open PySem L2 PyProof.Rows Lh
seal L2.pB L2.PS L2.PE L2.PT L2.PW L2.PA L2.PC L2.PG L2.Lb L2.PI L2.LW L2.Ld L2.PO L2.o6 L2.NC L2.iZ L2.I9 L2.OL
section
variable {P:Program}{w:World}{K:Frag}{mg:Str->Option Value}{base:Heap}
theorem Hs {H:Hp}{e dx:Addr}{a b c:HO}(h:dx≠e):upd (upd (upd H e a) dx b) e c=upd (upd H dx b) e c:=by
 funext q
 by_cases h1:q=e
 ·rw[h1,ag,ag]
 ·rw[az h1,az h1]
  by_cases h2:q=dx
  ·rw[h2,ag,ag]
  ·rw[az h2,az h2,az h1]
inductive NS (K:Frag)(vs:List V)(H:Hp)(Q:VK)(E':XK):Prop
 |mk (e C R t0:Addr)(txt:Str)(h1:vs=[.ref e,.str txt])(h2:H e=some (xo e C none (v0 t0)))(h3:hX K C R)(h4: ∀dx t',H dx=none->Q .eF (upd (upd H dx (.xd [("text",.str txt)])) e (xo e C (some dx) (v0 t')))):NS K vs H Q E'
theorem Ef:aU ["self","text"] ["self","text"] (aA (mem 3 0)):={}
theorem gJ (T:Txt K mg){f:Addr}{fd:FuncData}(F:gE K "__init__" "Refusal.__init__" (mem 3 0) f fd):Tj P w K mg base 1 f fd ["self","text"] (NS K):=by
 refine mx (k:=0) F Ef (fun vs H Q E h=>?_) (fun cY A outer s H vs Q E hr h=>?_)
 ·obtain⟨e,C,R,t0,txt,rfl,_⟩:=h
  rfl
 ·obtain⟨e,C,R,t0,txt,rfl,he,ek,k⟩:=h
  refine⟨_,(ai (bM (JC rfl T.BU (aa (pv 0) (aa (pv 1) aw)))) (av (Mm (pv 0) (pv 1) rfl))),?_⟩
  refine⟨_,rfl,_,rfl,e,C,R,t0,none,v0 t0,_,rfl,he,ek,rfl,fun t'=>?_⟩
  refine⟨_,rfl,_,rfl,e,C,R,v0 t',rfl,ag,ek,fun dx JV=>?_⟩
  have ne:dx≠e:=fun z=>by rw[z,ag] at JV; cases JV
  rw[az ne] at JV
  have q:=k dx t' JV
  rw[← Hs (a:=xo e C none (v0 t')) ne] at q
  exact q
theorem Cd:aU ["self"] ["self"] (aA (mem 4 0)):={}
theorem Ce (T:Txt K mg){A:ee}(G:jO K mg A):JD P w K mg base 2 "NoCredit" A.km A.refusal "no credit":=by
 obtain⟨f,fd,F,hi,ht⟩:=G.B0
 obtain⟨f0,PU,F0,ik⟩:=G.gI
 refine⟨G.BY,G.tS,G.BZ,f,fd,hi,ht,?_,F.binds (fun _ _ _ _ _ _ us hl=>match us,hl with|[_],_=>rfl)⟩
 refine mx (k:=1) F Cd (fun vs H Q E h=>?_) (fun cY A' outer s H vs Q E hr h=>?_)
 ·obtain⟨e,C,R,t0,rfl,_⟩:=h
  rfl
 ·obtain⟨e,C,R,t0,rfl,he,ek,k⟩:=h
  refine⟨_,(av (bM (js ik (gJ T F0) hr (F0.binds (fun _ _ _ _ _ _ us hl=>match us,hl with|[_,_],_=>rfl)) rfl G.gf (aa (pv 0) (aa aR aw))))),?_⟩
  exact⟨_,rfl,e,C,R,t0,_,rfl,he,ek,fun dx t' n=>k dx t' n⟩
theorem Ht:aU ["self"] ["self"] (aA (mem 5 0)):={}
theorem Hu (T:Txt K mg){A:ee}(G:jO K mg A):JD P w K mg base 2 "NoBill" A.qv A.refusal "no bill":=by
 obtain⟨f,fd,F,hi,ht⟩:=G.Hm
 obtain⟨f0,PU,F0,ik⟩:=G.gI
 refine⟨G.Hj,G.yG,G.Hl,f,fd,hi,ht,?_,F.binds (fun _ _ _ _ _ _ us hl=>match us,hl with|[_],_=>rfl)⟩
 refine mx (k:=1) F Ht (fun vs H Q E h=>?_) (fun cY A' outer s H vs Q E hr h=>?_)
 ·obtain⟨e,C,R,t0,rfl,_⟩:=h
  rfl
 ·obtain⟨e,C,R,t0,rfl,he,ek,k⟩:=h
  refine⟨_,(av (bM (js ik (gJ T F0) hr (F0.binds (fun _ _ _ _ _ _ us hl=>match us,hl with|[_,_],_=>rfl)) rfl G.gf (aa (pv 0) (aa aR aw))))),?_⟩
  exact⟨_,rfl,e,C,R,t0,_,rfl,he,ek,fun dx t' n=>k dx t' n⟩
theorem zV:aU ["self"] ["self"] (aA (mem 6 0)):={}
theorem zW (T:Txt K mg){A:ee}(G:jO K mg A):JD P w K mg base 2 "NotTheirs" A.jY A.refusal "not theirs":=by
 obtain⟨f,fd,F,hi,ht⟩:=G.zQ
 obtain⟨f0,PU,F0,ik⟩:=G.gI
 refine⟨G.zO,G.rz,G.zP,f,fd,hi,ht,?_,F.binds (fun _ _ _ _ _ _ us hl=>match us,hl with|[_],_=>rfl)⟩
 refine mx (k:=1) F zV (fun vs H Q E h=>?_) (fun cY A' outer s H vs Q E hr h=>?_)
 ·obtain⟨e,C,R,t0,rfl,_⟩:=h
  rfl
 ·obtain⟨e,C,R,t0,rfl,he,ek,k⟩:=h
  refine⟨_,(av (bM (js ik (gJ T F0) hr (F0.binds (fun _ _ _ _ _ _ us hl=>match us,hl with|[_,_],_=>rfl)) rfl G.gf (aa (pv 0) (aa aR aw))))),?_⟩
  exact⟨_,rfl,e,C,R,t0,_,rfl,he,ek,fun dx t' n=>k dx t' n⟩
theorem Cf:aU ["self"] ["self"] (aA (mem 7 0)):={}
theorem Cg (T:Txt K mg){A:ee}(G:jO K mg A):JD P w K mg base 2 "NoAmount" A.iS A.refusal "no amount":=by
 obtain⟨f,fd,F,hi,ht⟩:=G.B7
 obtain⟨f0,PU,F0,ik⟩:=G.gI
 refine⟨G.B4,G.kY,G.B6,f,fd,hi,ht,?_,F.binds (fun _ _ _ _ _ _ us hl=>match us,hl with|[_],_=>rfl)⟩
 refine mx (k:=1) F Cf (fun vs H Q E h=>?_) (fun cY A' outer s H vs Q E hr h=>?_)
 ·obtain⟨e,C,R,t0,rfl,_⟩:=h
  rfl
 ·obtain⟨e,C,R,t0,rfl,he,ek,k⟩:=h
  refine⟨_,(av (bM (js ik (gJ T F0) hr (F0.binds (fun _ _ _ _ _ _ us hl=>match us,hl with|[_,_],_=>rfl)) rfl G.gf (aa (pv 0) (aa aR aw))))),?_⟩
  exact⟨_,rfl,e,C,R,t0,_,rfl,he,ek,fun dx t' n=>k dx t' n⟩
theorem Ci:aU ["self"] ["self"] (aA (mem 8 0)):={}
theorem Cj (T:Txt K mg){A:ee}(G:jO K mg A):JD P w K mg base 2 "TooEarly" A.tooEarly A.refusal "too early":=by
 obtain⟨f,fd,F,hi,ht⟩:=G.Cb
 obtain⟨f0,PU,F0,ik⟩:=G.gI
 refine⟨G.B8,G.tT,G.Ca,f,fd,hi,ht,?_,F.binds (fun _ _ _ _ _ _ us hl=>match us,hl with|[_],_=>rfl)⟩
 refine mx (k:=1) F Ci (fun vs H Q E h=>?_) (fun cY A' outer s H vs Q E hr h=>?_)
 ·obtain⟨e,C,R,t0,rfl,_⟩:=h
  rfl
 ·obtain⟨e,C,R,t0,rfl,he,ek,k⟩:=h
  refine⟨_,(av (bM (js ik (gJ T F0) hr (F0.binds (fun _ _ _ _ _ _ us hl=>match us,hl with|[_,_],_=>rfl)) rfl G.gf (aa (pv 0) (aa aR aw))))),?_⟩
  exact⟨_,rfl,e,C,R,t0,_,rfl,he,ek,fun dx t' n=>k dx t' n⟩
theorem Eg:aU ["self"] ["self"] (aA (mem 9 0)):={}
theorem Eh (T:Txt K mg){A:ee}(G:jO K mg A):JD P w K mg base 2 "TooMuch" A.tooMuch A.refusal "too much":=by
 obtain⟨f,fd,F,hi,ht⟩:=G.Ed
 obtain⟨f0,PU,F0,ik⟩:=G.gI
 refine⟨G.vM,G.qw,G.Ec,f,fd,hi,ht,?_,F.binds (fun _ _ _ _ _ _ us hl=>match us,hl with|[_],_=>rfl)⟩
 refine mx (k:=1) F Eg (fun vs H Q E h=>?_) (fun cY A' outer s H vs Q E hr h=>?_)
 ·obtain⟨e,C,R,t0,rfl,_⟩:=h
  rfl
 ·obtain⟨e,C,R,t0,rfl,he,ek,k⟩:=h
  refine⟨_,(av (bM (js ik (gJ T F0) hr (F0.binds (fun _ _ _ _ _ _ us hl=>match us,hl with|[_,_],_=>rfl)) rfl G.gf (aa (pv 0) (aa aR aw))))),?_⟩
  exact⟨_,rfl,e,C,R,t0,_,rfl,he,ek,fun dx t' n=>k dx t' n⟩
theorem zX:aU ["self"] ["self"] (aA (mem 10 0)):={}
theorem zY (T:Txt K mg){A:ee}(G:jO K mg A):JD P w K mg base 2 "NoSetting" A.jZ A.refusal "no setting":=by
 obtain⟨f,fd,F,hi,ht⟩:=G.zT
 obtain⟨f0,PU,F0,ik⟩:=G.gI
 refine⟨G.zR,G.rA,G.zS,f,fd,hi,ht,?_,F.binds (fun _ _ _ _ _ _ us hl=>match us,hl with|[_],_=>rfl)⟩
 refine mx (k:=1) F zX (fun vs H Q E h=>?_) (fun cY A' outer s H vs Q E hr h=>?_)
 ·obtain⟨e,C,R,t0,rfl,_⟩:=h
  rfl
 ·obtain⟨e,C,R,t0,rfl,he,ek,k⟩:=h
  refine⟨_,(av (bM (js ik (gJ T F0) hr (F0.binds (fun _ _ _ _ _ _ us hl=>match us,hl with|[_,_],_=>rfl)) rfl G.gf (aa (pv 0) (aa aR aw))))),?_⟩
  exact⟨_,rfl,e,C,R,t0,_,rfl,he,ek,fun dx t' n=>k dx t' n⟩
theorem Hv:aU ["self"] ["self"] (aA (mem 11 0)):={}
theorem Hw (T:Txt K mg){A:ee}(G:jO K mg A):JD P w K mg base 2 "Needed" A.jf A.refusal "needed":=by
 obtain⟨f,fd,F,hi,ht⟩:=G.Ho
 obtain⟨f0,PU,F0,ik⟩:=G.gI
 refine⟨G.yH,G.yI,G.Hn,f,fd,hi,ht,?_,F.binds (fun _ _ _ _ _ _ us hl=>match us,hl with|[_],_=>rfl)⟩
 refine mx (k:=1) F Hv (fun vs H Q E h=>?_) (fun cY A' outer s H vs Q E hr h=>?_)
 ·obtain⟨e,C,R,t0,rfl,_⟩:=h
  rfl
 ·obtain⟨e,C,R,t0,rfl,he,ek,k⟩:=h
  refine⟨_,(av (bM (js ik (gJ T F0) hr (F0.binds (fun _ _ _ _ _ _ us hl=>match us,hl with|[_,_],_=>rfl)) rfl G.gf (aa (pv 0) (aa aR aw))))),?_⟩
  exact⟨_,rfl,e,C,R,t0,_,rfl,he,ek,fun dx t' n=>k dx t' n⟩
def pG (rc rb:Rw)(b:Nat):Bool:=if rc.c= -1 then decide (rc.aH=rb.aH) else decide (rc.c=(b:Int))
def EX (E:XK)(C:Addr)(txt:Str)(H:Hp):Prop:= ∀(dx:Addr) (H':Hp),aF H H'->H dx=none->H' dx=some (.xd [("text",.str txt)])->E (.ref C) (some dx) H'
theorem EX.at {E:XK}{C dx:Addr}{txt:Str}{H:Hp}(h:EX E C txt H)(n:H dx=none):E (.ref C) (some dx) (upd H dx (.xd [("text",.str txt)])):=h dx _ (aF.new n) n ag
inductive rG (A:ee)(vs:List V)(H:Hp)(Q:VK)(E:XK):Prop
 |mk (a:Int)(h1:vs=[.int a])(h2:(1<=a->Q .eF H))(h3:(a < 1->EX E A.iS "no amount" H)):rG A vs H Q E
theorem uq:aU ["amount"] ["amount"] (aA (top 26)):={}
theorem kq (T:Txt K mg){A:ee}(G:jO K mg A):vN P w K mg base "check_amount" 4 ["amount"] (rG A):=by
 refine PR (k:=3) T.vF uq (fun f cY A' outer s H vs Q E hr mP h=>?_)
 ·obtain⟨a,rfl,k1,k2⟩:=h
  refine⟨_,(av (bT (a0 kN (pv 0) aj (bb _)) (av (kh mP (Cg T G) hr.h rfl rfl)) bp)),?_⟩
  refine⟨_,rfl,_,_,rfl,rfl,_,rfl,cH (fun z=>?_) (fun z=>?_)⟩
  ·exact fun dx n=>(k2 (a6 z)).at n
  ·exact k1 (by have: ¬ a < 1:=fun q=>z (aK q); lia)
inductive zZ (A:ee)(vs:List V)(H:Hp)(Q:VK)(E':XK):Prop
 |mk (p q:Addr)(c b:Nat)(rc rb:Rw)(h1:vs=[.ref p,.ref q])(h2:eK H p A.eh (fz c rc))(h3:eK H q A.dP (fL b rb))(h4:Q (.bl (pG rc rb b)) H):zZ A vs H Q E'
theorem MH:aU ["credit","bill"] ["credit","bill"] (aA (top 15)):={}
theorem JW (T:Txt K mg){A:ee}(G:jO K mg A):fC P w K mg base "fits" 1 ["credit","bill"] (zZ A):=by
 refine T.PB.fV (k:=0) MH (fun f cY A' outer s H vs Q E hr h=>?_)
 ·obtain⟨p,q,c,b,rc,rb,rfl,⟨dp,hp⟩,⟨dq,hq⟩,k⟩:=h
  refine⟨_,(ai (bT (y2 (IH (bZ (pv 0) rfl)))
(av (a9 (fQ dh (bZ (pv 0) rfl) (bZ (pv 1) rfl) (bb _))))
bp)
(av (a9 (fQ dh (bZ (pv 0) rfl) (bZ (pv 1) rfl) (bb _))))),?_⟩
  have fo:=Mx c rc
  refine⟨_,rfl,p,_,dp,_,_,rfl,hp,G.dg,G.ko,fo,?_⟩
  by_cases z:rc.c= -1
  ·have e:tR rc.c= .eF:=aY z
   refine⟨true,by rw[e]; rfl,fU ?_⟩
   refine⟨_,rfl,p,_,dp,_,_,rfl,hp,G.dg,G.lz,JS c rc,_,rfl,q,_,dq,_,_,rfl,hq,G.ej,G.kZ,Ea b rb,rfl,?_⟩
   have e2:pG rc rb b=decide (V.str rc.aH=V.str rb.aH):=by
    unfold pG
    rw[aY z]
    exact mV.mpr ⟨fun h=>by rw[h],fun h=>by injection h⟩
   rw[e2] at k
   exact k
  ·have e:tR rc.c= .int rc.c:=aN z
   refine⟨false,by rw[e]; rfl,bX ?_⟩
   rw[e] at fo
   refine⟨_,rfl,p,_,dp,_,_,rfl,hp,G.dg,G.ko,fo,_,rfl,q,_,dq,_,_,rfl,hq,G.ej,G.ff,lQ b rb,rfl,?_⟩
   have e2:pG rc rb b=decide (V.int rc.c=V.int (b:Int)):=by
    unfold pG
    rw[aN z]
    exact mV.mpr ⟨fun h=>by rw[h],fun h=>by injection h⟩
   rw[e2] at k
   exact k
inductive Ei (A:ee)(vs:List V)(H:Hp)(Q:VK)(E':XK):Prop
 |mk (p q:Addr)(c b:Nat)(rc rb:Rw)(h1:vs=[.ref p,.ref q])(h2:eK H p A.eh (fz c rc))(h3:eK H q A.dP (fL b rb))(h4:Q (.int (if rb.a > rc.a then rb.a else rc.a)) H):Ei A vs H Q E'
theorem vO:aU ["credit","bill"] ["credit","bill"] (aA (top 16)):={}
theorem xC (T:Txt K mg){A:ee}(G:jO K mg A):fC P w K mg base "counts_from" 1 ["credit","bill"] (Ei A):=by
 refine T.xm.fV (k:=0) vO (fun f cY A' outer s H vs Q E hr h=>?_)
 ·obtain⟨p,q,c,b,rc,rb,rfl,⟨dp,hp⟩,⟨dq,hq⟩,k⟩:=h
  refine⟨_,(av (a9 (dm (Gv rfl) (by rfl) T.TF boot_max (aa (bZ (pv 0) rfl) (aa (bZ (pv 1) rfl) aw))))),?_⟩
  exact⟨_,rfl,p,_,dp,_,_,rfl,hp,G.dg,G.jj,JT c rc,_,rfl,q,_,dq,_,_,rfl,hq,G.ej,G.nR,PN b rb,_,_,rfl,k⟩
theorem getD_at {α:Type}{xs:List α}{d:α}{i:Nat}(h:i < xs.length):xs.getD i d=xs[i]:=by rw[ak,af h]; rfl
theorem sR {g:Int->V}{xs:List Int}{i:Nat}(h:i < xs.length):uz (xs.map g) (i:Int)=some (g (xs.getD i 0)):=by
 rw[getD_at h]
 exact cA (by rw[aC,af h]; rfl)
theorem uD {n j:Nat}(h:j < n):LQ n (j:Int)=some j:=by
 unfold LQ
 rw[if_pos (by lia),if_pos (by lia)]; simp
theorem gu {H H':Hp}(s:aF H H'): ∀b xs,H b=some (.tup xs)->H' b=some (.tup xs):=fun b xs e=>s _ _ e
theorem gZ {α:Type}{xs:List α}{m:Nat}(h:m < xs.length):xs.take (m + 1)=xs.take m ++ [xs[m]]:=by
 rw[A5,af h]; rfl
theorem TL (cs:List Int)(lo hi:Option Int): ∃ds:List Int,mW (cs.map V.int) lo hi=ds.map V.int/\ds.length<=cs.length:=by
 unfold mW
 refine⟨_,by rw[← List.map_drop,← List.map_take],?_⟩
 rw[ba,ig]
 lia
theorem z5 (x m:Int)(h:0 < m): ∃n:Nat,x % m=(n:Int)/\(n:Int) < m:=by
 have h1:=kI x (show m≠0 by lia)
 have h2:=qK x h
 exact⟨(x % m).toNat,by lia,by lia⟩
theorem k4 {α:Type}{g:α->V}{xs:List α}{m:Int}{x:Int}(hm:m=(xs.length:Int))(h:0 < m): ∃y∈xs,uz (xs.map g) (x % m)=some (g y):=by
 obtain⟨n,e,hn⟩:=z5 x m h
 have hl:n < xs.length:=by lia
 exact⟨xs[n],bH _,by rw[e]; exact cA (by rw[aC,af hl]; rfl)⟩
inductive Ej (vs:List V)(H:Hp)(Q:VK)(E':XK):Prop
 |mk (n p m:Int)(h1:vs=[.int n,.int p,.int m])(h2:0 < p)(h3:0 < m)(h4: ∀r,0<=r->r < m->Q (.int r) H):Ej vs H Q E'
theorem z6:aU ["_law_number","_law_prime","_law_many"] ["_law_number","_law_prime","_law_many"] (aA (top 44)):={}
theorem Ck (T:Txt K mg):fC P w K mg base "_law_draw" 1 ["_law_number","_law_prime","_law_many"] Ej:=by
 refine T.BQ.fV (k:=0) z6 (fun f cY A outer s H vs Q E hr h=>?_)
 ·obtain⟨n,p,m,rfl,hp,hm,k⟩:=h
  refine⟨_,(av (a9 (aQ cq (aQ cq (aQ jD (pv 0) aj) (pv 1)) (pv 2)))),?_⟩
  refine⟨_,rfl,_,_,rfl,rfl,.inr ⟨by decide,by decide⟩,_,rfl,_,_,rfl,rfl,hp,_,rfl,_,_,rfl,rfl,hm,?_⟩
  exact k _ (kI _ (by lia)) (qK _ hm)
inductive vP (K:Frag)(vs:List V)(H:Hp)(Q:VK)(E':XK):Prop
 |mk (a:Addr)(cs:List Int)(h1:vs=[.ref a])(h2:bG K H a (cs.map V.int))(h3: ∀(pn:Addr) (names:List Str) (H':Hp),aF H H'->H' pn=some (.lst (names.map V.str))->names≠[]->names.length<=6->Q (.ref pn) H'):vP K vs H Q E'
theorem nX:aU ["_law_cells","_law_spot","_law_made"] ["_law_cells"] (aA (top 47)):={}
theorem pH (T:Txt K mg):fC P w K mg base "_law_people" 1 ["_law_cells"] (vP K):=by
 refine T.xr.fV (k:=0) nX (fun f cY A outer s H vs Q E hr h=>?_)
 ·obtain⟨a,cs,rfl,hS,k⟩:=h
  have nd:=nX.nd
  refine⟨_,(ai (sv 1 nd (aQ cq (aQ jM (dm (sM rfl) (by rfl) T.JN boot_sum (aa (jn kP (pv 0) oK (jh aj)) aw)) aj) aj))
(ai (sv 2 nd (bS (aa (bS (aa aR (aa aR (aa aR aw)))) (aa (bS (aa aR (aa aR (aa aR aw)))) aw))))
(ai (bM (qu (pv 2) (bS (aa (aQ zv aR aj) (aa (aQ uU (aQ uU (aQ zv aR (pv 1)) aR) (aQ zv aR (aQ fS aj (pv 1)))) (aa aR aw))))))
(av (a9 (xl (aQ lp (pv 2) (bS (aa (bS (aa aR (aa aR (aa aR (aa aR (aa aR (aa aR aw))))))) aw))) (aQ cq (aQ jM (dm (sM rfl) (by rfl) T.JN boot_sum (aa (jn kP (pv 0) oK (jh aj)) aw)) aj) aj))))))),?_⟩
  refine⟨_,rfl,_,rfl,a,_,rfl,hS,fun p1 n1=>?_⟩
  obtain⟨ds,ed,_⟩:=TL cs none (some 1)
  rw[ed]
  have s1:aF H (upd H p1 (.lst (ds.map V.int))):=aF.new n1
  refine⟨p1,ds,rfl,bG.of ag,_,_,rfl,rfl,⟨by decide,by decide⟩,_,_,rfl,rfl,(by show(0:Int) < 60; decide),?_⟩
  obtain⟨sp,We,y6⟩:=z5 (ds.sum / 28) 60 (by decide)
  show _
  generalize upd H p1 (.lst (ds.map V.int))=H1 at s1 ⊢
  refine⟨(by show 3<=sizeLine; decide),fun p2 n2=>⟨(by show 3<=sizeLine; decide),fun p3 n3=>⟨(by show 2<=sizeLine; decide),fun p4 n4=>?_⟩⟩⟩
  have t2:=aF.new (o:= .lst [V.str "ann",.str "",.str "bo"]) n2
  have t3:=aF.new (o:= .lst [V.str "ann",.str "ann lee",.str "Ann"]) n3
  have t4:=aF.new (o:= .lst [V.ref p2,.ref p3]) n4
  have s4:=((s1.trans t2).trans t3).trans t4
  have g2:=(t3.trans t4) _ _ (ag (H:=H1) (a:=p2) (o:= .lst [V.str "ann",.str "",.str "bo"]))
  have g3:=t4 _ _ (ag (H:=upd H1 p2 (.lst [V.str "ann",.str "",.str "bo"])) (a:=p3) (o:= .lst [V.str "ann",.str "ann lee",.str "Ann"]))
  have g4:=ag (H:=upd (upd H1 p2 (.lst [V.str "ann",.str "",.str "bo"])) p3 (.lst [V.str "ann",.str "ann lee",.str "Ann"])) (a:=p4) (o:= .lst [V.ref p2,.ref p3])
  have m4:H p4=none:=((s1.trans t2).trans t3).free n4
  generalize upd (upd (upd H1 p2 (.lst [V.str "ann",.str "",.str "bo"])) p3 (.lst [V.str "ann",.str "ann lee",.str "Ann"])) p4 (.lst [V.ref p2,.ref p3])=H4 at s4 g2 g3 g4 ⊢
  clear t2 t3 t4
  refine⟨_,rfl,.inl ⟨rfl,_,bG.of g4⟩,?_⟩
  refine⟨_,_,rfl,rfl,rfl,(by decide),(by decide),fun z1 hz1=>?_⟩
  refine⟨_,rfl,_,_,rfl,rfl,rfl,(by rw[We]; lia),(by rw[We]; lia),fun z2 hz2=>?_⟩
  refine⟨_,_,rfl,rfl,cL (ji (by show z2.length + 1<=_; lia)),?_⟩
  refine⟨_,rfl,_,_,rfl,rfl,_,_,rfl,rfl,rfl,(by rw[We]; lia),(by rw[We]; lia),fun z3 hz3=>?_⟩
  refine⟨_,_,rfl,rfl,cL (ji (by
   have:(z2 ++ ("y":Str)).length=z2.length + 1:=by
    show(z2.cps ++ _).size=_
    rw[Array.size_append]; rfl
   rw[this]; lia)),?_⟩
  refine⟨(by show 3<=sizeLine; decide),fun p5 n5=>?_⟩
  generalize (z2 ++ ("y":Str)) ++ z3=z4
  have t5:=aF.new (o:= .lst [V.str z1,.str z4,.str " ~"]) n5
  refine⟨p4,_,_,rfl,rfl,t5 _ _ g4,(by show 2 < sizeLine; decide),?_⟩
  have s5:aF H (upd (upd H4 p5 (.lst [V.str z1,.str z4,.str " ~"])) p4 (.lst ([V.ref p2,.ref p3] ++ [.ref p5]))):=(s4.trans t5).dr m4
  have Yr:p2≠p4:=fun e=>by rw[e,g4] at g2; cases g2
  have Ys:p3≠p4:=fun e=>by rw[e,g4] at g3; cases g3
  have Yt:p5≠p4:=(aJ g4 n5).symm
  have j2:upd (upd H4 p5 (.lst [V.str z1,.str z4,.str " ~"])) p4 (.lst ([V.ref p2,.ref p3] ++ [.ref p5])) p2=some (.lst [V.str "ann",.str "",.str "bo"]):=by rw[az Yr]; exact t5 _ _ g2
  have j3:upd (upd H4 p5 (.lst [V.str z1,.str z4,.str " ~"])) p4 (.lst ([V.ref p2,.ref p3] ++ [.ref p5])) p3=some (.lst [V.str "ann",.str "ann lee",.str "Ann"]):=by rw[az Ys]; exact t5 _ _ g3
  have j5:upd (upd H4 p5 (.lst [V.str z1,.str z4,.str " ~"])) p4 (.lst ([V.ref p2,.ref p3] ++ [.ref p5])) p5=some (.lst [V.str z1,.str z4,.str " ~"]):=by rw[az Yt]; exact ag
  have j4:upd (upd H4 p5 (.lst [V.str z1,.str z4,.str " ~"])) p4 (.lst ([V.ref p2,.ref p3] ++ [.ref p5])) p4=some (.lst ([V.ref p2,.ref p3] ++ [.ref p5])):=ag
  generalize upd (upd H4 p5 (.lst [V.str z1,.str z4,.str " ~"])) p4 (.lst ([V.ref p2,.ref p3] ++ [.ref p5]))=H5 at s5 j2 j3 j4 j5 ⊢
  clear t5
  refine⟨_,rfl,?_⟩
  refine⟨(by show 6<=sizeLine; decide),fun p6 n6=>⟨(by show 1<=sizeLine; decide),fun p7 n7=>?_⟩⟩
  have t6:=aF.new (o:= .lst [V.str "ann",.str "",.str "bo",.str "Cy ~",.str "ann ",.str "dee"]) n6
  have t7:=aF.new (o:= .lst [V.ref p6]) n7
  have t67:=t6.trans t7
  have j6:=t7 _ _ (ag (H:=H5) (a:=p6) (o:= .lst [V.str "ann",.str "",.str "bo",.str "Cy ~",.str "ann ",.str "dee"]))
  refine⟨p4,p7,_,_,rfl,rfl,t67 _ _ j4,ag,(by show 4<=sizeLine; decide),fun p8 n8=>?_⟩
  have t8:=aF.new (o:= .lst (([V.ref p2,.ref p3] ++ [.ref p5]) ++ [.ref p6])) n8
  have Ru:=t67.trans t8
  have s8:=s5.trans Ru
  refine⟨_,rfl,_,rfl,a,_,rfl,s8.seq hS,fun p9 n9=>?_⟩
  rw[ed]
  have t9:=aF.new (o:= .lst (ds.map V.int)) n9
  refine⟨p9,ds,rfl,bG.of ag,_,_,rfl,rfl,⟨by decide,by decide⟩,_,_,rfl,rfl,(by show(0:Int) < 4; decide),?_⟩
  obtain⟨r,er,Yu⟩:=z5 (ds.sum / 7) 4 (by decide)
  have Yv:r < 4:=by lia
  have fin: ∀(pn:Addr) (names:List Str),H5 pn=some (.lst (names.map V.str))∨upd (upd H5 p6 (.lst [V.str "ann",.str "",.str "bo",.str "Cy ~",.str "ann ",.str "dee"])) p7 (.lst [V.ref p6]) pn=some (.lst (names.map V.str))->names≠[]->names.length<=6->Q (.ref pn) _:=fun pn names h h1 h2=>
   k pn names _ (s8.trans t9) (by
    rcases h with h|h
    ·exact(Ru.trans t9) _ _ h
    ·exact(t8.trans t9) _ _ h) h1 h2
  have Wf:=t9 _ _ (ag (H:=upd (upd H5 p6 (.lst [V.str "ann",.str "",.str "bo",.str "Cy ~",.str "ann ",.str "dee"])) p7 (.lst [V.ref p6])) (a:=p8) (o:= .lst (([V.ref p2,.ref p3] ++ [.ref p5]) ++ [.ref p6])))
  match r,Yv,er with
  |0,_,er=>exact⟨p8,_,_,.ref p2,rfl,rfl,bG.of Wf,by show uz _ (ds.sum / 7 % 4)=_; rw[er]; rfl,fin p2 [_,_,_] (.inl j2) (by simp) (by simp)⟩
  |1,_,er=>exact⟨p8,_,_,.ref p3,rfl,rfl,bG.of Wf,by show uz _ (ds.sum / 7 % 4)=_; rw[er]; rfl,fin p3 [_,_,_] (.inl j3) (by simp) (by simp)⟩
  |2,_,er=>exact⟨p8,_,_,.ref p5,rfl,rfl,bG.of Wf,by show uz _ (ds.sum / 7 % 4)=_; rw[er]; rfl,fin p5 [_,_,_] (.inl j5) (by simp) (by simp)⟩
  |3,_,er=>exact⟨p8,_,_,.ref p6,rfl,rfl,bG.of Wf,by show uz _ (ds.sum / 7 % 4)=_; rw[er]; rfl,fin p6 [_,_,_,_,_,_] (.inr j6) (by simp) (by simp)⟩
  |r + 4,h,_=>lia
theorem at4 (a b c d x:Int): ∃y,uz [V.int a,V.int b,V.int c,V.int d] (x % 4)=some (V.int y):=by
 obtain⟨y,_,h⟩:=k4 (g:=V.int) (xs:=[a,b,c,d]) (m:=4) (x:=x) rfl (by decide)
 exact⟨y,h⟩
theorem at3 (a b c x:Int): ∃y,(y=a∨y=b∨y=c)/\uz [V.int a,V.int b,V.int c] (x % 3)=some (V.int y):=by
 obtain⟨y,hy,h⟩:=k4 (g:=V.int) (xs:=[a,b,c]) (m:=3) (x:=x) rfl (by decide)
 exact⟨y,by simpa using hy,h⟩
theorem Cm {x:Int}(h:x<=1000000000):x<=eB:=Fj (md h (by decide +kernel))
theorem Yw (a b x:Int): ∃y,(y=a∨y=b)/\uz [V.int a,V.int b] (x % 2)=some (V.int y):=by
 obtain⟨y,hy,h⟩:=k4 (g:=V.int) (xs:=[a,b]) (m:=2) (x:=x) rfl (by decide)
 exact⟨y,by simpa using hy,h⟩
inductive vQ (K:Frag)(vs:List V)(H:Hp)(Q:VK)(E':XK):Prop
 |mk (a:Addr)(cs:List Int)(i:Nat)(h1:vs=[.ref a,.int i])(h2:bG K H a (cs.map V.int))(h3:i < cs.length)(h4: ∀(p:Addr) (aH:Str) (day dS:Int) (H':Hp),aF H H'->H' p=some (.tup [.str aH,.int day,.int dS])->day<=eB->Q (.ref p) H'):vQ K vs H Q E'
theorem nY:aU ["_law_cells","_law_k","_law_cell","_law_rest","_law_names","_law_who","_law_day","_law_amount"] ["_law_cells","_law_k"] (aA (top 48)):={}
theorem xD (T:Txt K mg):fC P w K mg base "_law_penned" 2 ["_law_cells","_law_k"] (vQ K):=by
 have lA:fC P w K mg base "_law_people" 1 ["_law_cells"] (vP K):=pH T
 have nZ:fC P w K mg base "_law_draw" 1 ["_law_number","_law_prime","_law_many"] Ej:=Ck T
 refine T.xu.fV (k:=1) nY (fun f cY A outer s H vs Q E hr h=>?_)
 ·obtain⟨a,cs,i,rfl,hS,hi,k⟩:=h
  have nd:=nY.nd
  refine⟨_,(ai (sv 2 nd (xl (pv 0) (pv 1)))
(ai (sv 3 nd (aQ jM (pv 2) aj))
(ai (sv 4 nd (fc lA hr (aa (pv 0) aw)))
(ai (sv 5 nd (xl (pv 4) (aQ cq (aQ dk (pv 3) (pv 1)) (oP T.eJ (pv 4)))))
(ai (sv 6 nd (aQ fS (fc nZ hr (aa (aQ dk (pv 2) (aQ jD aj (pv 1))) (aa aj (aa aj aw)))) aj))
(ai (sv 7 nd (aQ dk aj (fc nZ hr (aa (aQ dk (pv 2) (aQ jD aj (pv 1))) (aa aj (aa aj aw))))))
(jN (bT (a0 dh (aQ cq (pv 2) aj) aj (bb _))
(av (sv 7 nd (aQ dk aj (aQ jD (fc nZ hr (aa (aQ dk (pv 2) (aQ jD aj (pv 1))) (aa aj (aa aj aw)))) aj))))
bp)
(jN (bT (a0 dh (aQ cq (pv 2) aj) aj (bb _))
(av (sv 7 nd (aQ dk aj (aQ cq (pv 2) (aQ fS (aQ L6 (aQ iJ aj aj) (aQ iJ aj aj)) aj)))))
bp)
(jN (bT (a0 dh (aQ cq (pv 2) aj) aj (bb _))
(av (sv 7 nd (xl (bS (aa aj (aa (pC lj aj) (aa (aQ iJ aj aj) (aa (aQ fS aj (aQ cq (pv 2) (aQ iJ aj aj))) aw))))) (aQ cq (pv 3) aj))))
bp)
(jN (bT (a0 dh (aQ cq (pv 2) aj) aj (bb _))
(av (sv 6 nd (xl (bS (aa (aQ iJ aj aj) (aa (pC lj (aQ iJ aj aj)) (aa (aQ fS (aQ cq (pv 2) aj) aj) aw)))) (aQ cq (pv 3) aj))))
bp)
(jN (bT (a0 dh (aQ cq (pv 2) aj) aj (bb _))
(av (sv 6 nd (aQ jD (aQ cq (pv 2) (aQ iJ aj aj)) (xl (bS (aa aj (aa (pC lj aj) aw))) (aQ cq (pv 1) aj)))))
bp)
(av (a9 (cM (aa (pv 5) (aa (pv 6) (aa (pv 7) aw))))))))))))))))),?_⟩
  refine⟨_,rfl,_,rfl,a,_,_,.int (cs.getD i 0),rfl,rfl,hS,sR hi,?_⟩
  generalize cs.getD i 0=cell
  refine⟨_,rfl,_,_,rfl,rfl,⟨by decide,by decide⟩,?_⟩
  refine⟨_,rfl,a,cs,rfl,hS,fun pn names H1 s1 Hx hn0 hn6=>?_⟩
  have TM:0 < names.length:=List.length_pos_iff.mpr hn0
  obtain⟨aH,_,TN⟩:=k4 (g:=V.str) (xs:=names) (m:=((names.map V.str).length:Int)) (x:=cell / 16 + (i:Int)) (by rw[ae]) (by rw[ae]; lia)
  refine⟨_,rfl,_,rfl,_,rfl,_,_,rfl,rfl,_,rfl,pn,_,rfl,.inl (bG.of Hx),_,_,rfl,rfl,(by rw[ae]; show(0:Int) < _; lia),pn,_,_,.str aH,rfl,rfl,bG.of Hx,TN,?_⟩
  refine⟨_,rfl,_,rfl,_,_,rfl,rfl,.inl ⟨by decide,by decide⟩,_,_,rfl,rfl,_,_,_,rfl,by decide,by decide,fun r1 _ NT=>⟨_,_,rfl,rfl,?_⟩⟩
  refine⟨_,rfl,_,rfl,_,_,rfl,rfl,.inl ⟨by decide,by decide⟩,_,_,rfl,rfl,_,_,_,rfl,by decide,by decide,fun r2 _ _=>⟨_,_,rfl,rfl,?_⟩⟩
  refine⟨fun σ' H'=> ∃day dS:Int,σ'=[some (.ref a),some (.int i),some (.int cell),some (.int (cell / 16)),some (.ref pn),some (.str aH),some (.int day),some (.int dS)]/\aF H H'/\day<=eB,?_,?_⟩
  ·refine⟨_,rfl,_,_,rfl,rfl,(by show(0:Int) < 7; decide),rfl,_,rfl,cH (fun c=>?_) (fun c=>⟨_,_,rfl,s1,Cm (by lia)⟩)⟩
   refine⟨_,rfl,_,rfl,_,_,rfl,rfl,.inl ⟨by decide,by decide⟩,_,_,rfl,rfl,_,_,_,rfl,by decide,by decide,fun r3 _ _=>⟨_,_,rfl,rfl,.inr ⟨by decide,by decide⟩,_,_,rfl,rfl,?_⟩⟩
   exact⟨_,_,rfl,s1,Cm (by lia)⟩
  rintro σ' H2 ⟨day,dS,rfl,s2,lV⟩
  clear Hx TN s1
  refine⟨fun σ' H'=> ∃day dS:Int,σ'=[some (.ref a),some (.int i),some (.int cell),some (.int (cell / 16)),some (.ref pn),some (.str aH),some (.int day),some (.int dS)]/\aF H H'/\day<=eB,?_,?_⟩
  ·refine⟨_,rfl,_,_,rfl,rfl,(by show(0:Int) < 41; decide),rfl,_,rfl,cH (fun c=>?_) (fun c=>⟨_,_,rfl,s2,lV⟩)⟩
   refine⟨_,rfl,_,_,rfl,rfl,⟨by decide,by decide,by decide⟩,_,_,rfl,rfl,⟨by decide,by decide,by decide⟩,_,_,rfl,rfl,⟨by decide +kernel,by decide +kernel⟩,_,_,rfl,rfl,_,_,rfl,rfl,(by show(0:Int) < _; decide +kernel),_,_,rfl,rfl,?_⟩
   exact⟨_,_,rfl,s2,lV⟩
  rintro σ' H3 ⟨day,dS,rfl,s3,lV⟩
  refine⟨fun σ' H'=> ∃day dS:Int,σ'=[some (.ref a),some (.int i),some (.int cell),some (.int (cell / 16)),some (.ref pn),some (.str aH),some (.int day),some (.int dS)]/\aF H H'/\day<=eB,?_,?_⟩
  ·refine⟨_,rfl,_,_,rfl,rfl,(by show(0:Int) < 41; decide),rfl,_,rfl,cH (fun c=>?_) (fun c=>⟨_,_,rfl,s3,lV⟩)⟩
   refine⟨_,rfl,_,_,rfl,rfl,⟨by decide,by decide,by decide⟩,_,rfl,_,_,rfl,rfl,⟨by decide,by decide,by decide⟩,_,_,rfl,rfl,(by show(0:Int) < _; decide +kernel),_,_,rfl,rfl,(by show 4<=sizeLine; decide),fun p4 n4=>?_⟩
   obtain⟨y,hy⟩:=at4 0 (-1) (10 ^ (12:Int).toNat) (0 - cell % 10 ^ (60:Int).toNat) (cell / 16)
   refine⟨_,rfl,_,_,rfl,rfl,(by show(0:Int) < 4; decide),p4,_,_,.int y,rfl,rfl,bG.of ag,hy,?_⟩
   exact⟨_,_,rfl,s3.trans (aF.new n4),lV⟩
  rintro σ' H4 ⟨day,dS,rfl,s4,lV⟩
  refine⟨fun σ' H'=> ∃day dS:Int,σ'=[some (.ref a),some (.int i),some (.int cell),some (.int (cell / 16)),some (.ref pn),some (.str aH),some (.int day),some (.int dS)]/\aF H H'/\day<=eB,?_,?_⟩
  ·refine⟨_,rfl,_,_,rfl,rfl,(by show(0:Int) < 43; decide),rfl,_,rfl,cH (fun c=>?_) (fun c=>⟨_,_,rfl,s4,lV⟩)⟩
   refine⟨_,_,rfl,rfl,⟨by decide,by decide,by decide⟩,_,_,rfl,rfl,⟨by decide,by decide,by decide⟩,_,rfl,_,rfl,_,_,rfl,rfl,(by show(0:Int) < 2001; decide),_,_,rfl,rfl,(by show 3<=sizeLine; decide),fun p4 n4=>?_⟩
   obtain⟨y,hy3,hy⟩:=at3 (10 ^ (9:Int).toNat) (-(10 ^ (9:Int).toNat)) (cell % 2001 - 1000) (cell / 16)
   refine⟨_,rfl,_,_,rfl,rfl,(by show(0:Int) < 3; decide),p4,_,_,.int y,rfl,rfl,bG.of ag,hy,?_⟩
   refine⟨_,_,rfl,s4.trans (aF.new n4),?_⟩
   rcases hy3 with rfl|rfl|rfl
   ·exact Cm (by decide +kernel)
   ·exact Cm (by decide +kernel)
   ·exact Cm (by lia)
  rintro σ' H5 ⟨day,dS,rfl,s5,lV⟩
  refine⟨fun σ' H'=> ∃day dS:Int,σ'=[some (.ref a),some (.int i),some (.int cell),some (.int (cell / 16)),some (.ref pn),some (.str aH),some (.int day),some (.int dS)]/\aF H H'/\day<=eB,?_,?_⟩
  ·refine⟨_,rfl,_,_,rfl,rfl,(by show(0:Int) < 43; decide),rfl,_,rfl,cH (fun c=>?_) (fun c=>⟨_,_,rfl,s5,lV⟩)⟩
   refine⟨_,rfl,_,_,rfl,rfl,⟨by decide,by decide,by decide⟩,_,_,rfl,rfl,(by show(0:Int) < _; decide +kernel),_,rfl,(by show 2<=sizeLine; decide),fun p4 n4=>?_⟩
   obtain⟨y,Yx,hy⟩:=Yw 1 (-1) (i:Int)
   refine⟨_,rfl,_,_,rfl,rfl,(by show(0:Int) < 2; decide),p4,_,_,.int y,rfl,rfl,bG.of ag,hy,_,_,rfl,rfl,.inr (by rcases Yx with rfl|rfl <;> exact⟨by decide,by decide⟩),?_⟩
   refine⟨_,_,rfl,s5.trans (aF.new n4),?_⟩
   have m1:0<=cell % 10 ^ (60:Int).toNat:=kI _ (by decide +kernel)
   have m2:cell % 10 ^ (60:Int).toNat < 10 ^ 60:=qK _ (by decide +kernel)
   have m3:(0:Int)<=10 ^ 60:=by decide +kernel
   refine Fj ?_
   generalize (10:Int) ^ 60=b60 at m2 m3 ⊢
   rcases Yx with rfl|rfl <;> lia
  rintro σ' H6 ⟨day,dS,rfl,s6,lV⟩
  refine⟨_,rfl,_,rfl,_,rfl,(by show 3<=sizeLine; decide),fun p n=>?_⟩
  exact k p aH day dS _ (s6.trans (aF.new n)) ag lV
theorem gv {H:Hp}{a:Addr}{o o':HO}:upd (upd H a o) a o'=upd H a o':=by
 funext b
 by_cases h:b=a
 ·rw[h,ag,ag]
 ·rw[az h,az h,az h]
theorem pl {f:Str}{v:V}{fs:List (Str×V)}{n:Nat}(h:fs.length<=n):(eO f v fs).length<=n + 1:=aV (nz f v fs) (Nat.add_le_add_right h 1)
theorem Cn:([]:List (Str×V)).length<=0:=aD _
theorem lt1000 {fs:List (Str×V)}{n:Nat}(h:fs.length<=n)(k:n < 1000):fs.length < 1000:=qI h k
theorem JX (n:Nat)(r:Rw):eO "amount" (.int r.c) (eO "due" (.int r.b) (eO "day" (.int r.a) (eO "who" (.str r.aH) (eO "number" (.int n) []))))=fL n r:=by rfl
theorem JY (n:Nat)(r:Rw):eO "only" (tR r.c) (eO "amount" (.int r.b) (eO "day" (.int r.a) (eO "who" (.str r.aH) (eO "number" (.int n) []))))=fz n r:=by rfl
inductive z7 (A:ee)(vs:List V)(H:Hp)(Q:VK)(E':XK):Prop
 |mk (x dx:Addr)(n:Nat)(r:Rw)(h1:vs=[.ref x,.int n,.str r.aH,.int r.a,.int r.b,.int r.c])(h2:H x=some (.ins A.dP dx []))(h3:Q .eF (upd H x (.ins A.dP dx (fL n r)))):z7 A vs H Q E'
theorem MI:aU ["self","number","who","day","due","amount"] ["self","number","who","day","due","amount"] (aA (mem 13 0)):={}
theorem PV {A:ee}(G:jO K mg A):uo P w K mg base "Bill" A.dP 1 ["self","number","who","day","due","amount"] (z7 A):=by
 refine MG (k:=0) G.MA G.Mz MI (fun f cY A' outer s H vs Q E hr h=>?_)
 ·obtain⟨x,dx,n,r,rfl,hx,k⟩:=h
  refine⟨_,(ai (fZ (pv 0) (pv 1) rfl)
(ai (fZ (pv 0) (pv 2) rfl)
(ai (fZ (pv 0) (pv 3) rfl)
(ai (fZ (pv 0) (pv 4) rfl)
(av (fZ (pv 0) (pv 5) rfl)))))),?_⟩
  refine⟨_,rfl,_,rfl,x,_,dx,_,rfl,hx,G.ej,G.ff,lt1000 Cn (by decide),?_⟩
  refine⟨_,rfl,_,rfl,x,_,dx,_,rfl,ag,G.ej,G.kZ,lt1000 (pl Cn) (by decide),?_⟩
  refine⟨_,rfl,_,rfl,x,_,dx,_,rfl,ag,G.ej,G.nR,lt1000 (pl (pl Cn)) (by decide),?_⟩
  refine⟨_,rfl,_,rfl,x,_,dx,_,rfl,ag,G.ej,G.nS,lt1000 (pl (pl (pl Cn))) (by decide),?_⟩
  refine⟨_,rfl,_,rfl,x,_,dx,_,rfl,ag,G.ej,G.nU,lt1000 (pl (pl (pl (pl Cn)))) (by decide),?_⟩
  rw[gv,gv,gv,gv,JX]
  exact k
inductive z8 (A:ee)(vs:List V)(H:Hp)(Q:VK)(E':XK):Prop
 |mk (x dx:Addr)(n:Nat)(r:Rw)(h1:vs=[.ref x,.int n,.str r.aH,.int r.a,.int r.b,tR r.c])(h2:H x=some (.ins A.eh dx []))(h3:Q .eF (upd H x (.ins A.eh dx (fz n r)))):z8 A vs H Q E'
theorem Hy:aU ["self","number","who","day","amount","only"] ["self","number","who","day","amount","only"] (aA (mem 14 0)):={}
theorem JZ {A:ee}(G:jO K mg A):uo P w K mg base "Credit" A.eh 1 ["self","number","who","day","amount","only"] (z8 A):=by
 refine MG (k:=0) G.Hr G.Hq Hy (fun f cY A' outer s H vs Q E hr h=>?_)
 ·obtain⟨x,dx,n,r,rfl,hx,k⟩:=h
  refine⟨_,(ai (fZ (pv 0) (pv 1) rfl)
(ai (fZ (pv 0) (pv 2) rfl)
(ai (fZ (pv 0) (pv 3) rfl)
(ai (fZ (pv 0) (pv 4) rfl)
(av (fZ (pv 0) (pv 5) rfl)))))),?_⟩
  refine⟨_,rfl,_,rfl,x,_,dx,_,rfl,hx,G.dg,G.eY,lt1000 Cn (by decide),?_⟩
  refine⟨_,rfl,_,rfl,x,_,dx,_,rfl,ag,G.dg,G.lz,lt1000 (pl Cn) (by decide),?_⟩
  refine⟨_,rfl,_,rfl,x,_,dx,_,rfl,ag,G.dg,G.jj,lt1000 (pl (pl Cn)) (by decide),?_⟩
  refine⟨_,rfl,_,rfl,x,_,dx,_,rfl,ag,G.dg,G.lU,lt1000 (pl (pl (pl Cn))) (by decide),?_⟩
  refine⟨_,rfl,_,rfl,x,_,dx,_,rfl,ag,G.dg,G.ko,lt1000 (pl (pl (pl (pl Cn)))) (by decide),?_⟩
  rw[gv,gv,gv,gv,JY]
  exact k
inductive z9 (A:ee)(vs:List V)(H:Hp)(Q:VK)(E':XK):Prop
 |mk (pw:Addr)(S:Bk)(f:eX)(c b:Nat)(x:Int)(h1:vs=[.ref pw,.int c,.int b,.int x])(h2:dJ A H pw S f)(h3:c < S.credits.length)(h4:b < S.aE.length)(h5:S.made.length < sizeLine)(h6: ∀H',Frame f.fp H H'->dJ A H' pw (S.put c b x) f->Q .eF H'):z9 A vs H Q E'
theorem Co:aU ["self","credit_number","bill_number","amount"] ["self","credit_number","bill_number","amount"] (aA (mem 25 8)):={}
theorem MJ {rows:List Rw}{i:Nat}(h:i < rows.length):uz (rows.map fun r=>V.int r.d) (i:Int)=some (.int (rows.getD i default).d):=cA (by
 rw[aC,ak,af h]; rfl)
theorem NU {A:ee}(G:jO K mg A):hZ sG P w K mg base A.work "put" 1 ["self","credit_number","bill_number","amount"] (z9 A):=by
 refine MF (k:=0) G.Cc G.bI Co (fun f cY A' outer s H vs Q E hr h=>?_)
 ·obtain⟨pw,S,g,c,b,x,rfl,hW,hc,hb,hz,k⟩:=h
  obtain⟨dw,hw⟩:=hW.obj
  obtain⟨ms,m1,m2⟩:=hW.hm
  obtain⟨e1,e2,e3,e4,e5,e6,e7,e8,e9,NR⟩:=eX.ne hW.nd
  have nw: ∀q∈g.fp,pw≠q:=fun q hq z=>hW.ins hW.obj (z▸hq)
  have w3:=nw g.pl (by simp[eX.fp])
  have w4:=nw g.pf (by simp[eX.fp])
  refine⟨_,(ai (nv (aQ fS (xl (bZ (pv 0) rfl) (pv 1)) (pv 3)) (sD (bZ (pv 0) rfl) (pv 1) set_list))
(ai (nv (aQ fS (xl (bZ (pv 0) rfl) (pv 2)) (pv 3)) (sD (bZ (pv 0) rfl) (pv 2) set_list))
(av (bM (qu (bZ (pv 0) rfl) (cM (aa (pv 1) (aa (pv 2) (aa (pv 3) aw))))))))),?_⟩
  refine⟨_,rfl,pw,_,dw,_,_,rfl,hw,G.bI,G.fN,lT g,_,rfl,g.pf,_,_,_,rfl,rfl,bG.of hW.hf,MJ hc,_,rfl,_,_,rfl,rfl,?_⟩
  refine⟨_,rfl,pw,_,dw,_,_,rfl,hw,G.bI,G.fN,lT g,_,rfl,g.pf,_,_,c,rfl,rfl,hW.hf,uD (by rw[ae]; exact hc),?_⟩
  have TQ:upd H g.pf (.lst ((S.credits.map fun r=>V.int r.d).set c (.int ((S.cr c).d - x)))) pw=some (.ins A.work dw (lR g)):=by rw[az w4]; exact hw
  have MK:upd H g.pf (.lst ((S.credits.map fun r=>V.int r.d).set c (.int ((S.cr c).d - x)))) g.pl=some (.lst (S.aE.map fun r=>V.int r.d)):=by rw[az e8]; exact hW.hl
  refine⟨_,rfl,pw,_,dw,_,_,rfl,TQ,G.bI,G.fM,lS g,_,rfl,g.pl,_,_,_,rfl,rfl,bG.of MK,MJ hb,_,rfl,_,_,rfl,rfl,?_⟩
  refine⟨_,rfl,pw,_,dw,_,_,rfl,TQ,G.bI,G.fM,lS g,_,rfl,g.pl,_,_,b,rfl,rfl,MK,uD (by rw[ae]; exact hb),?_⟩
  have Rv:upd (upd H g.pf (.lst ((S.credits.map fun r=>V.int r.d).set c (.int ((S.cr c).d - x))))) g.pl (.lst ((S.aE.map fun r=>V.int r.d).set b (.int ((S.bl b).d - x)))) pw=some (.ins A.work dw (lR g)):=by rw[az w3]; exact TQ
  have Yy:upd (upd H g.pf (.lst ((S.credits.map fun r=>V.int r.d).set c (.int ((S.cr c).d - x))))) g.pl (.lst ((S.aE.map fun r=>V.int r.d).set b (.int ((S.bl b).d - x)))) g.pm=some (.lst ms):=by rw[az e9.symm,az NR.symm]; exact m1
  refine⟨_,rfl,pw,_,dw,_,_,rfl,Rv,G.bI,G.mB,Fx g,.inl ⟨rfl,_,bG.of Yy⟩,_,rfl,_,rfl,_,rfl,(by show 3<=sizeLine; decide),fun p8 n8=>?_⟩
  have n8':H p8=none:=by
   by_cases z1:p8=g.pl
   ·rw[z1,ag] at n8; cases n8
   ·rw[az z1] at n8
    by_cases z2:p8=g.pf
    ·rw[z2,ag] at n8; cases n8
    ·rw[az z2] at n8; exact n8
  refine⟨g.pm,ms,_,rfl,rfl,aF.new n8 _ _ Yy,by rw[← aO m2]; exact hz,?_⟩
  obtain⟨W,F⟩:=hW.put (x:=x) hc hb m1 m2 n8'
  exact k _ F W
end
end eZ
namespace L2
open PySem PySem.Spec PySem.W PyProof.Rows
section
variable {A:ee}{H H':Hp}{pw x:Addr}{S:Bk}{f:eX}{r:Rw}
def eX.iD (f:eX)(p:Addr):eX:={f with iP:=f.iP ++ [p]}
def eX.f7 (f:eX)(p:Addr):eX:={f with cps:=f.cps ++ [p]}
theorem dJ.iD (h:dJ A H pw S f)(hx:eK H x A.dP (fL S.aE.length r)):
  dJ A (upd (upd H f.pb (.lst (f.iP.map V.ref ++ [.ref x]))) f.pl (.lst ((S.aE.map fun r=>V.int r.d) ++ [.int r.d]))) pw (S.iD r) (f.iD x)/\Frame f.fp H (upd (upd H f.pb (.lst (f.iP.map V.ref ++ [.ref x]))) f.pl (.lst ((S.aE.map fun r=>V.int r.d) ++ [.int r.d]))):=by
 obtain⟨e1,e2,e3,e4,e5,e6,e7,e8,e9,NR⟩:=eX.ne h.nd
 have F:Frame f.fp H (upd (upd H f.pb (.lst (f.iP.map V.ref ++ [.ref x]))) f.pl (.lst ((S.aE.map fun r=>V.int r.d) ++ [.int r.d]))):=(Frame.upd (by simp[eX.fp])).tr (Frame.upd (by simp[eX.fp]))
 refine⟨?_,F⟩
 obtain⟨o1,o2,o3⟩:=h.objs F
 have tk:=h.tk F
 obtain⟨ms,m1,m2⟩:=h.hm
 have t: ∀q,q≠f.pb->q≠f.pl->upd (upd H f.pb (.lst (f.iP.map V.ref ++ [.ref x]))) f.pl (.lst ((S.aE.map fun r=>V.int r.d) ++ [.int r.d])) q=H q:=fun q z1 z2=>by rw[az z2,az z1]
 refine⟨o1,?_,?_,?_,?_,⟨ms,?_,m2.mono tk⟩,o2.add (hx.frame F (h.ins hx)),o3,h.nd⟩
 ·show upd (upd H f.pb _) f.pl _ f.pb=some (.lst ((f.iP ++ [x]).map V.ref))
  rw[az e2,ag,aL]; rfl
 ·exact(t f.pc e1.symm e5).trans h.hc
 ·show upd (upd H f.pb _) f.pl _ f.pl=some (.lst ((S.aE ++ [r]).map fun r=>V.int r.d))
  rw[ag,aL]; rfl
 ·exact(t f.pf e3.symm e8.symm).trans h.hf
 ·exact(t f.pm e4.symm e9.symm).trans m1
theorem dJ.f7 (h:dJ A H pw S f)(hx:eK H x A.eh (fz S.credits.length r)):
  dJ A (upd (upd H f.pc (.lst (f.cps.map V.ref ++ [.ref x]))) f.pf (.lst ((S.credits.map fun r=>V.int r.d) ++ [.int r.d]))) pw (S.f7 r) (f.f7 x)/\Frame f.fp H (upd (upd H f.pc (.lst (f.cps.map V.ref ++ [.ref x]))) f.pf (.lst ((S.credits.map fun r=>V.int r.d) ++ [.int r.d]))):=by
 obtain⟨e1,e2,e3,e4,e5,e6,e7,e8,e9,NR⟩:=eX.ne h.nd
 have F:Frame f.fp H (upd (upd H f.pc (.lst (f.cps.map V.ref ++ [.ref x]))) f.pf (.lst ((S.credits.map fun r=>V.int r.d) ++ [.int r.d]))):=(Frame.upd (by simp[eX.fp])).tr (Frame.upd (by simp[eX.fp]))
 refine⟨?_,F⟩
 obtain⟨o1,o2,o3⟩:=h.objs F
 have tk:=h.tk F
 obtain⟨ms,m1,m2⟩:=h.hm
 have t: ∀q,q≠f.pc->q≠f.pf->upd (upd H f.pc (.lst (f.cps.map V.ref ++ [.ref x]))) f.pf (.lst ((S.credits.map fun r=>V.int r.d) ++ [.int r.d])) q=H q:=fun q z1 z2=>by rw[az z2,az z1]
 refine⟨o1,?_,?_,?_,?_,⟨ms,?_,m2.mono tk⟩,o2,o3.add (hx.frame F (h.ins hx)),h.nd⟩
 ·exact(t f.pb e1 e3).trans h.hb
 ·show upd (upd H f.pc _) f.pf _ f.pc=some (.lst ((f.cps ++ [x]).map V.ref))
  rw[az e6,ag,aL]; rfl
 ·exact(t f.pl e5.symm e8).trans h.hl
 ·show upd (upd H f.pc _) f.pf _ f.pf=some (.lst ((S.credits ++ [r]).map fun r=>V.int r.d))
  rw[ag,aL]; rfl
 ·exact(t f.pm e7.symm NR.symm).trans m1
end
end L2
namespace eZ
open PySem L2 PyProof.Rows Lh
seal L2.pB L2.PS L2.PE L2.PT L2.PW L2.PA L2.PC L2.PG L2.Lb L2.PI L2.LW L2.Ld L2.PO L2.o6 L2.NC L2.iZ L2.I9 L2.OL
section
variable {P:Program}{w:World}{K:Frag}{mg:Str->Option Value}{base:Heap}
def ML (A:ee)(K:Frag)(E:XK)(t:Str)(H:Hp):Prop:= ∀C,hX K C A.refusal->(t="too much"->C=A.tooMuch)->EX E C t H
inductive J0 (A:ee)(K:Frag)(vs:List V)(H:Hp)(Q:VK)(E:XK):Prop
 |mk (pw:Addr)(S:Bk)(f:eX)(n:Int)(h1:vs=[.ref pw,.int n])(h2:dJ A H pw S f)(h3:(qL n S.credits.length-> ∀p,eK H p A.eh (fz n.toNat (S.cr n.toNat))->Q (.ref p) H))(h4:(¬ qL n S.credits.length->ML A K E "no credit" H)):J0 A K vs H Q E
inductive Fy (A:ee)(K:Frag)(vs:List V)(H:Hp)(Q:VK)(E:XK):Prop
 |mk (pw:Addr)(S:Bk)(f:eX)(n:Int)(h1:vs=[.ref pw,.int n])(h2:dJ A H pw S f)(h3:(qL n S.aE.length-> ∀p,eK H p A.dP (fL n.toNat (S.bl n.toNat))->Q (.ref p) H))(h4:(¬ qL n S.aE.length->ML A K E "no bill" H)):Fy A K vs H Q E
theorem rH:aU ["self","number"] ["self","number"] (aA (mem 25 9)):={}
theorem Cp (T:Txt K mg){A:ee}(G:jO K mg A):hZ (mY P w mg) P w K mg base A.work "credit_at" 4 ["self","number"] (J0 A K):=by
 refine rF (k:=3) G.rE G.bI rH (fun f cY A' outer s H vs Q E hr mP h=>?_)
 ·obtain⟨pw,S,g,n,rfl,hW,k1,k2⟩:=h
  obtain⟨dw,hw⟩:=hW.obj
  have hlen:(g.cps.map V.ref).length=S.credits.length:=by rw[ae]; exact hW.rc.1
  refine⟨_,(ai (bT (PW.pt (pw_or (a0 kN (pv 1) aj (bb _)) (pw_or1 (a0 IL (pv 1) (oP T.eJ (bZ (pv 0) rfl)) (bb _)))))
(av (kh mP (Ce T G) (hr.h.mono (by decide)) rfl rfl))
bp)
(av (a9 (xl (bZ (pv 0) rfl) (pv 1))))),?_⟩
  have no: ¬ qL n S.credits.length-> ∀dx,H dx=none->E (.ref A.km) (some dx) (upd H dx (.xd [("text",.str "no credit")])):=fun z dx hd=>(k2 z A.km G.tS (fun q=>absurd q (by decide +kernel))).at hd
  refine⟨_,rfl,_,_,rfl,rfl,_,rfl,cH (fun z=>fU (no fun q=>?_)) (fun z=>?_)⟩
  ·have z':n < 0:=a6 z
   have:=q.1
   lia
  have z1: ¬ n < 0:=fun q=>z (aK q)
  refine⟨_,rfl,_,rfl,pw,_,dw,_,_,rfl,hw,G.bI,G.cG,ir g,g.pc,_,rfl,.inl (bG.of hW.hc),_,_,rfl,rfl,_,rfl,cH (fun z=>no fun q=>?_) (fun z=>?_)⟩
  ·have z':((g.cps.map V.ref).length:Int)<=n:=a6 z
   have:=q.2
   lia
  have z2: ¬ ((g.cps.map V.ref).length:Int)<=n:=fun q=>z (aK q)
  have kX:qL n S.credits.length:=⟨by lia,by lia⟩
  obtain⟨c,rfl⟩:=cD kX.1
  have hc:c < S.credits.length:=by have:=kX.2; lia
  obtain⟨p,Yz,yq⟩:=hW.rc.get hc
  refine⟨_,rfl,pw,_,dw,_,_,rfl,hw,G.bI,G.cG,ir g,_,rfl,g.pc,_,_,.ref p,rfl,rfl,bG.of hW.hc,cA (by rw[aC,Yz]; rfl),?_⟩
  exact k1 kX p yq
theorem ur:aU ["self","number"] ["self","number"] (aA (mem 25 10)):={}
theorem yJ (T:Txt K mg){A:ee}(G:jO K mg A):hZ (mY P w mg) P w K mg base A.work "bill_at" 4 ["self","number"] (Fy A K):=by
 refine rF (k:=3) G.um G.bI ur (fun f cY A' outer s H vs Q E hr mP h=>?_)
 ·obtain⟨pw,S,g,n,rfl,hW,k1,k2⟩:=h
  obtain⟨dw,hw⟩:=hW.obj
  have hlen:(g.iP.map V.ref).length=S.aE.length:=by rw[ae]; exact hW.rb.1
  refine⟨_,(ai (bT (PW.pt (pw_or (a0 kN (pv 1) aj (bb _)) (pw_or1 (a0 IL (pv 1) (oP T.eJ (bZ (pv 0) rfl)) (bb _)))))
(av (kh mP (Hu T G) (hr.h.mono (by decide)) rfl rfl))
bp)
(av (a9 (xl (bZ (pv 0) rfl) (pv 1))))),?_⟩
  have no: ¬ qL n S.aE.length-> ∀dx,H dx=none->E (.ref A.qv) (some dx) (upd H dx (.xd [("text",.str "no bill")])):=fun z dx hd=>(k2 z A.qv G.yG (fun q=>absurd q (by decide +kernel))).at hd
  refine⟨_,rfl,_,_,rfl,rfl,_,rfl,cH (fun z=>fU (no fun q=>?_)) (fun z=>?_)⟩
  ·have z':n < 0:=a6 z
   have:=q.1
   lia
  have z1: ¬ n < 0:=fun q=>z (aK q)
  refine⟨_,rfl,_,rfl,pw,_,dw,_,_,rfl,hw,G.bI,G.d8,ju g,g.pb,_,rfl,.inl (bG.of hW.hb),_,_,rfl,rfl,_,rfl,cH (fun z=>no fun q=>?_) (fun z=>?_)⟩
  ·have z':((g.iP.map V.ref).length:Int)<=n:=a6 z
   have:=q.2
   lia
  have z2: ¬ ((g.iP.map V.ref).length:Int)<=n:=fun q=>z (aK q)
  have kX:qL n S.aE.length:=⟨by lia,by lia⟩
  obtain⟨c,rfl⟩:=cD kX.1
  have hc:c < S.aE.length:=by have:=kX.2; lia
  obtain⟨p,Yz,yq⟩:=hW.rb.get hc
  refine⟨_,rfl,pw,_,dw,_,_,rfl,hw,G.bI,G.d8,ju g,_,rfl,g.pb,_,_,.ref p,rfl,rfl,bG.of hW.hb,cA (by rw[aC,Yz]; rfl),?_⟩
  exact k1 kX p yq
def TR (A:ee)(Q:VK)(H:Hp)(pw:Addr)(f:eX)(S':Bk)(v:V):Prop:= ∀f' H',f'.fp=f.fp->Frame f.fp H H'->dJ A H' pw S' f'->Q v H'
inductive uE (A:ee)(K:Frag)(vs:List V)(H:Hp)(Q:VK)(E:XK):Prop
 |mk (pw:Addr)(S:Bk)(f:eX)(aH:Str)(day dS only:Int)(h1:vs=[.ref pw,.str aH,.int day,.int dS,tR only])(h2:dJ A H pw S f)(h3:S.credits.length<=900)(h4:(1<=dS->TR A Q H pw f (S.f7 ⟨aH,day,dS,only,dS⟩) (.int S.credits.length)))(h5:(dS < 1->ML A K E "no amount" H)):uE A K vs H Q E
theorem jI:aU ["self","who","day","amount","only","number"] ["self","who","day","amount","only"] (aA (mem 25 4)):={}
theorem lW {H:Hp}{x dx C:Addr}{fs:List (Str×V)}(nx:H x=none)(nd:H dx=none)(ne:dx≠x):aF H (upd (upd H dx (.own x)) x (.ins C dx fs)):=(aF.new nd).trans (aF.new (by rw[az ne.symm]; exact nx))
theorem pI (T:Txt K mg){A:ee}(G:jO K mg A):hZ (mY P w mg) P w K mg base A.work "tell_credit" 5 ["self","who","day","amount","only"] (uE A K):=by
 have gK:vN P w K mg base "check_amount" 4 ["amount"] (rG A):=kq T G
 have J1:uo P w K mg base "Credit" A.eh 1 ["self","number","who","day","amount","only"] (z8 A):=JZ G
 refine rF (k:=4) G.pj G.bI jI (fun f cY A' outer s H vs Q E hr mP h=>?_)
 ·obtain⟨pw,S,g,aH,day,dS,only,rfl,hW,hl,k1,k2⟩:=h
  have nd:=jI.nd
  obtain⟨dw,hw⟩:=hW.obj
  have hlen:(g.cps.map V.ref).length=S.credits.length:=by rw[ae]; exact hW.rc.1
  refine⟨_,(ai (bM (sQ gK (hr.mono (by decide)) rfl mP.pass (aa (pv 3) aw)))
(ai (sv 5 nd (oP T.eJ (bZ (pv 0) rfl)))
(ai (bM (qu (bZ (pv 0) rfl) (TK J1 (hr.mono (by decide)) rfl (aa (pv 5) (aa (pv 1) (aa (pv 2) (aa (pv 3) (aa (pv 4) aw))))))))
(ai (bM (qu (bZ (pv 0) rfl) (pv 3)))
(av (a9 (pv 5))))))),?_⟩
  refine⟨_,rfl,dS,rfl,fun h1=>?_,fun h2=>k2 h2 A.iS G.kY (fun q=>absurd q (by decide +kernel))⟩
  refine⟨_,rfl,pw,_,dw,_,_,rfl,hw,G.bI,G.cG,ir g,g.pc,_,rfl,.inl (bG.of hW.hc),?_⟩
  refine⟨_,rfl,pw,_,dw,_,_,rfl,hw,G.bI,G.cG,ir g,.inl ⟨rfl,_,bG.of hW.hc⟩,_,rfl,_,rfl,_,rfl,_,rfl,_,rfl,fun x dx nx JV ne=>?_⟩
  refine⟨x,dx,(g.cps.map V.ref).length,⟨aH,day,dS,only,dS⟩,rfl,ag,rfl,?_⟩
  rw[gv,hlen]
  have s1:=lW (C:=A.eh) (fs:=fz S.credits.length ⟨aH,day,dS,only,dS⟩) nx JV ne
  have hx:eK (upd (upd H dx (.own x)) x (.ins A.eh dx (fz S.credits.length ⟨aH,day,dS,only,dS⟩))) x A.eh (fz S.credits.length ⟨aH,day,dS,only,dS⟩):=⟨dx,ag⟩
  generalize upd (upd H dx (.own x)) x (.ins A.eh dx (fz S.credits.length ⟨aH,day,dS,only,dS⟩))=H3 at s1 hx
  have Aa:=hW.same s1
  obtain⟨W4,F4⟩:=Aa.f7 hx
  refine⟨g.pc,_,_,rfl,rfl,Aa.hc,bf (by lia),?_⟩
  have ew:pw≠g.pc:=fun z=>Aa.ins Aa.obj (z▸(by simp[eX.fp]))
  obtain⟨e1,e2,e3,e4,e5,e6,e7,e8,e9,NR⟩:=eX.ne Aa.nd
  refine⟨_,rfl,pw,_,dw,_,_,rfl,(by rw[az ew]; exact s1 _ _ hw),G.bI,G.fN,lT g,.inl ⟨rfl,_,bG.of (by rw[az e6.symm]; exact Aa.hf)⟩,_,rfl,g.pf,_,_,rfl,rfl,(by rw[az e6.symm]; exact Aa.hf),bf (by rw[ae]; lia),?_⟩
  refine⟨_,rfl,?_⟩
  exact k1 h1 (g.f7 x) _ rfl (F4.mz s1) W4
inductive Ab (A:ee)(K:Frag)(vs:List V)(H:Hp)(Q:VK)(E:XK):Prop
 |mk (pw:Addr)(S:Bk)(f:eX)(aH:Str)(day A7 dS:Int)(h1:vs=[.ref pw,.str aH,.int day,.int A7,.int dS])(h2:dJ A H pw S f)(h3:S.aE.length<=900)(h4:(S.bar (.dP aH day A7 dS)=""->TR A Q H pw f (S.enter (.dP aH day A7 dS)) (.int S.aE.length)))(h5:(S.bar (.dP aH day A7 dS)≠""->ML A K E (S.bar (.dP aH day A7 dS)) H)):Ab A K vs H Q E
theorem k6:aU ["self","who","day","due","amount","number"] ["self","who","day","due","amount"] (aA (mem 25 1)):={}
theorem Cq (T:Txt K mg){A:ee}(G:jO K mg A):hZ (mY P w mg) P w K mg base A.work "tell_bill" 5 ["self","who","day","due","amount"] (Ab A K):=by
 have gK:vN P w K mg base "check_amount" 4 ["amount"] (rG A):=kq T G
 have PX:uo P w K mg base "Bill" A.dP 1 ["self","number","who","day","due","amount"] (z7 A):=PV G
 refine rF (k:=4) G.rB G.bI k6 (fun f cY A' outer s H vs Q E hr mP h=>?_)
 ·obtain⟨pw,S,g,aH,day,A7,dS,rfl,hW,hl,k1,k2⟩:=h
  have nd:=k6.nd
  obtain⟨dw,hw⟩:=hW.obj
  have px:S.bar (.dP aH day A7 dS)=(if dS < 1 then("no amount":Str) else if A7 < day then("too early":Str) else("":Str)):=rfl
  rw[px] at k1 k2
  have hlen:(g.iP.map V.ref).length=S.aE.length:=by rw[ae]; exact hW.rb.1
  refine⟨_,(ai (bM (sQ gK (hr.mono (by decide)) rfl mP.pass (aa (pv 4) aw)))
(ai (bT (a0 kN (pv 3) (pv 2) (bb _))
(av (kh mP (Cj T G) (hr.h.mono (by decide)) rfl rfl))
bp)
(ai (sv 5 nd (oP T.eJ (bZ (pv 0) rfl)))
(ai (bM (qu (bZ (pv 0) rfl) (TK PX (hr.mono (by decide)) rfl (aa (pv 5) (aa (pv 1) (aa (pv 2) (aa (pv 3) (aa (pv 4) aw))))))))
(ai (bM (qu (bZ (pv 0) rfl) (pv 4)))
(av (a9 (pv 5)))))))),?_⟩
  refine⟨_,rfl,dS,rfl,fun h1=>?_,fun h2=>?_⟩
  ·have n1': ¬ dS < 1:=by lia
   rw[aN n1'] at k1 k2
   refine⟨_,rfl,_,rfl,_,_,rfl,rfl,_,rfl,cH (fun z=>?_) (fun z=>?_)⟩
   ·have z':A7 < day:=a6 z
    rw[aY z'] at k2
    exact fun dx n=>(k2 (by decide +kernel) A.tooEarly G.tT (fun q=>absurd q (by decide +kernel))).at n
   have z': ¬ A7 < day:=fun q=>z (aK q)
   rw[aN z'] at k1
   refine⟨_,rfl,pw,_,dw,_,_,rfl,hw,G.bI,G.d8,ju g,g.pb,_,rfl,.inl (bG.of hW.hb),?_⟩
   refine⟨_,rfl,pw,_,dw,_,_,rfl,hw,G.bI,G.d8,ju g,.inl ⟨rfl,_,bG.of hW.hb⟩,_,rfl,_,rfl,_,rfl,_,rfl,_,rfl,fun x dx nx JV ne=>?_⟩
   refine⟨x,dx,(g.iP.map V.ref).length,⟨aH,day,A7,dS,dS⟩,rfl,ag,rfl,?_⟩
   rw[gv,hlen]
   have s1:=lW (C:=A.dP) (fs:=fL S.aE.length ⟨aH,day,A7,dS,dS⟩) nx JV ne
   have hx:eK (upd (upd H dx (.own x)) x (.ins A.dP dx (fL S.aE.length ⟨aH,day,A7,dS,dS⟩))) x A.dP (fL S.aE.length ⟨aH,day,A7,dS,dS⟩):=⟨dx,ag⟩
   generalize upd (upd H dx (.own x)) x (.ins A.dP dx (fL S.aE.length ⟨aH,day,A7,dS,dS⟩))=H3 at s1 hx
   have Aa:=hW.same s1
   obtain⟨W4,F4⟩:=Aa.iD hx
   refine⟨g.pb,_,_,rfl,rfl,Aa.hb,bf (by lia),?_⟩
   have ew:pw≠g.pb:=fun z=>Aa.ins Aa.obj (z▸(by simp[eX.fp]))
   obtain⟨e1,e2,e3,e4,e5,e6,e7,e8,e9,NR⟩:=eX.ne Aa.nd
   refine⟨_,rfl,pw,_,dw,_,_,rfl,(by rw[az ew]; exact s1 _ _ hw),G.bI,G.fM,lS g,.inl ⟨rfl,_,bG.of (by rw[az e2.symm]; exact Aa.hl)⟩,_,rfl,g.pl,_,_,rfl,rfl,(by rw[az e2.symm]; exact Aa.hl),bf (by rw[ae]; lia),?_⟩
   refine⟨_,rfl,?_⟩
   exact k1 rfl (g.iD x) _ rfl (F4.mz s1) W4
  ·rw[aY h2] at k2
   exact k2 (by decide +kernel) A.iS G.kY (fun q=>absurd q (by decide +kernel))
theorem oa (g:eX):(lR g).lookup ("tell_credit":Str)=none:=by rfl
theorem vR (g:eX):(lR g).lookup ("bill_at":Str)=none:=by rfl
theorem Ac (g:eX):(lR g).lookup ("credit_at":Str)=none:=by rfl
theorem J2 (g:eX):(lR g).lookup ("put":Str)=none:=by rfl
inductive Ad (A:ee)(K:Frag)(vs:List V)(H:Hp)(Q:VK)(E:XK):Prop
 |mk (pw:Addr)(S:Bk)(f:eX)(aH:Str)(day dS:Int)(h1:vs=[.ref pw,.str aH,.int day,.int dS])(h2:dJ A H pw S f)(h3:S.credits.length<=900)(h4:(S.bar (.pF aH day dS)=""->TR A Q H pw f (S.enter (.pF aH day dS)) (.int S.credits.length)))(h5:(S.bar (.pF aH day dS)≠""->ML A K E (S.bar (.pF aH day dS)) H)):Ad A K vs H Q E
theorem og:aU ["self","who","day","amount"] ["self","who","day","amount"] (aA (mem 25 2)):={}
theorem vS (T:Txt K mg){A:ee}(G:jO K mg A):hZ (mY P w mg) P w K mg base A.work "tell_payment" 6 ["self","who","day","amount"] (Ad A K):=by
 have lB:hZ (mY P w mg) P w K mg base A.work "tell_credit" 5 ["self","who","day","amount","only"] (uE A K):=pI T G
 refine rF (k:=5) G.nV G.bI og (fun f cY A' outer s H vs Q E hr mP h=>?_)
 ·obtain⟨pw,S,g,aH,day,dS,rfl,hW,hl,k1,k2⟩:=h
  obtain⟨dw,hw⟩:=hW.obj
  have px:S.bar (.pF aH day dS)=(if dS < 1 then("no amount":Str) else("":Str)):=rfl
  rw[px] at k1 k2
  refine⟨_,(av (a9 (nW lB (hr.mono (by decide)) mP.pass (pv 0) (aa (pv 1) (aa (pv 2) (aa (pv 3) (aa DD aw))))))),?_⟩
  refine⟨_,rfl,pw,dw,_,rfl,hw,oa g,_,rfl,_,rfl,_,rfl,pw,S,g,aH,day,dS,-1,rfl,hW,hl,fun h1=>?_,fun h2=>?_⟩
  ·rw[aN (by lia)] at k1
   exact k1 rfl
  ·rw[aY h2] at k2
   exact k2 (by decide +kernel)
inductive Ae (A:ee)(K:Frag)(vs:List V)(H:Hp)(Q:VK)(E:XK):Prop
 |mk (pw:Addr)(S:Bk)(f:eX)(b day dS:Int)(h1:vs=[.ref pw,.int b,.int day,.int dS])(h2:dJ A H pw S f)(h3:S.credits.length<=900)(h4:(S.bar (.note b day dS)=""->TR A Q H pw f (S.enter (.note b day dS)) (.int S.credits.length)))(h5:(S.bar (.note b day dS)≠""->ML A K E (S.bar (.note b day dS)) H)):Ae A K vs H Q E
theorem k7:aU ["self","bill_number","day","amount","bill"] ["self","bill_number","day","amount"] (aA (mem 25 3)):={}
theorem Cr (T:Txt K mg){A:ee}(G:jO K mg A):hZ (mY P w mg) P w K mg base A.work "tell_note" 6 ["self","bill_number","day","amount"] (Ae A K):=by
 have lB:hZ (mY P w mg) P w K mg base A.work "tell_credit" 5 ["self","who","day","amount","only"] (uE A K):=pI T G
 have sS:hZ (mY P w mg) P w K mg base A.work "bill_at" 4 ["self","number"] (Fy A K):=yJ T G
 refine rF (k:=5) G.rC G.bI k7 (fun f cY A' outer s H vs Q E hr mP h=>?_)
 ·obtain⟨pw,S,g,b,day,dS,rfl,hW,hl,k1,k2⟩:=h
  have nd:=k7.nd
  obtain⟨dw,hw⟩:=hW.obj
  rw[vw] at k1 k2
  refine⟨_,(ai (sv 4 nd (nW sS (hr.mono (by decide)) mP.pass (pv 0) (aa (pv 1) aw)))
(av (a9 (nW lB (hr.mono (by decide)) mP.pass (pv 0) (aa (bZ (pv 4) rfl) (aa (pv 2) (aa (pv 3) (aa (pv 1) aw)))))))),?_⟩
  refine⟨_,rfl,pw,dw,_,rfl,hw,vR g,_,rfl,pw,S,g,b,rfl,hW,fun kX p hp=>?_,fun hn=>?_⟩
  ·obtain⟨dp,NV⟩:=hp
   have zb: ¬ ¬ qL b S.aE.length:=fun z=>z kX
   rw[aN zb] at k1 k2
   have ho:tR b=V.int b:=aN (fun z=>by have:=kX.1; lia)
   refine⟨_,rfl,pw,dw,_,rfl,hw,oa g,_,rfl,p,_,dp,_,_,rfl,NV,G.ej,G.kZ,Ea _ _,_,rfl,_,rfl,_,rfl,pw,S,g,(S.bl b.toNat).aH,day,dS,b,(by rw[ho]; rfl),hW,hl,fun h1=>?_,fun h2=>?_⟩
   ·rw[aN (by lia)] at k1
    exact k1 rfl
   ·rw[aY h2] at k2
    exact k2 (by decide +kernel)
  ·rw[aY hn] at k2
   exact k2 (by decide +kernel)
theorem yK {S:Bk}{n c b:Nat}(wf:WF S n)(hc:c < S.credits.length)(hb:b < S.aE.length):pG (S.cr c) (S.bl b) b=S.df c b:=by
 unfold pG Bk.df
 by_cases z:(S.cr c).c= -1
 ·rw[aY z,aK z,Bool.true_or,Bool.and_true]
 ·rw[aN z,bL z,Bool.false_or]
  rcases wf.o c hc with q|⟨b',e1,e2,e3⟩
  ·exact absurd q z
  ·by_cases y:(S.cr c).c=(b:Int)
   ·have:b'=b:=by lia
    subst this
    rw[aK y,aK e3]; rfl
   ·rw[bL y,Bool.and_false]
inductive Ka (A:ee)(K:Frag)(vs:List V)(H:Hp)(Q:VK)(E:XK):Prop
 |mk (pw:Addr)(S:Bk)(f:eX)(n:Nat)(ci bi dS:Int)(h1:vs=[.ref pw,.int ci,.int bi,.int dS])(h2:dJ A H pw S f)(h3:WF S n)(h4:S.made.length < sizeLine)(h5:(S.bar (.set ci bi dS)=""->TR A Q H pw f (S.enter (.set ci bi dS)) (.int dS)))(h6:(S.bar (.set ci bi dS)≠""->ML A K E (S.bar (.set ci bi dS)) H)):Ka A K vs H Q E
theorem jJ:aU ["self","credit_number","bill_number","amount","credit","bill"] ["self","credit_number","bill_number","amount"] (aA (mem 25 5)):={}
theorem xE (T:Txt K mg){A:ee}(G:jO K mg A):hZ (mY P w mg) P w K mg base A.work "set_by_hand" 5 ["self","credit_number","bill_number","amount"] (Ka A K):=by
 have Cs:hZ (mY P w mg) P w K mg base A.work "credit_at" 4 ["self","number"] (J0 A K):=Cp T G
 have sS:hZ (mY P w mg) P w K mg base A.work "bill_at" 4 ["self","number"] (Fy A K):=yJ T G
 have Kb:hZ sG P w K mg base A.work "put" 1 ["self","credit_number","bill_number","amount"] (z9 A):=NU G
 have Ek:fC P w K mg base "fits" 1 ["credit","bill"] (zZ A):=JW T G
 have gK:vN P w K mg base "check_amount" 4 ["amount"] (rG A):=kq T G
 refine rF (k:=4) G.pq G.bI jJ (fun f cY A' outer s H vs Q E hr mP h=>?_)
 ·obtain⟨pw,S,g,n,ci,bi,dS,rfl,hW,wf,hz,k1,k2⟩:=h
  have nd:=jJ.nd
  obtain⟨dw,hw⟩:=hW.obj
  rw[zz] at k1 k2
  refine⟨_,(ai (sv 4 nd (nW Cs (hr.mono (by decide)) mP.pass (pv 0) (aa (pv 1) aw)))
(ai (sv 5 nd (nW sS (hr.mono (by decide)) mP.pass (pv 0) (aa (pv 2) aw)))
(ai (bT (jC (fR (fc Ek hr (aa (pv 4) (aa (pv 5) aw)))))
(av (kh mP (zW T G) (hr.h.mono (by decide)) rfl rfl))
bp)
(ai (bM (sQ gK (hr.mono (by decide)) rfl mP.pass (aa (pv 3) aw)))
(ai (bT (PW.pt (pw_or (a0 jH (pv 3) (xl (bZ (pv 0) rfl) (pv 1)) (bb _)) (pw_or1 (a0 jH (pv 3) (xl (bZ (pv 0) rfl) (pv 2)) (bb _)))))
(av (kh mP (Eh T G) (hr.h.mono (by decide)) rfl rfl))
bp)
(ai (bM (nW Kb (hr.mono (by decide)) nH (pv 0) (aa (pv 1) (aa (pv 2) (aa (pv 3) aw)))))
(av (a9 (pv 3))))))))),?_⟩
  refine⟨_,rfl,pw,dw,_,rfl,hw,Ac g,_,rfl,pw,S,g,ci,rfl,hW,fun ic p hp=>?_,fun hn=>?_⟩
  case refine_2=>
   rw[aY hn] at k2
   exact k2 (by decide +kernel)
  have zc: ¬ ¬ qL ci S.credits.length:=fun z=>z ic
  rw[aN zc] at k1 k2
  refine⟨_,rfl,pw,dw,_,rfl,hw,vR g,_,rfl,pw,S,g,bi,rfl,hW,fun ib q hq=>?_,fun hn=>?_⟩
  case refine_2=>
   rw[aY hn] at k2
   exact k2 (by decide +kernel)
  have zb: ¬ ¬ qL bi S.aE.length:=fun z=>z ib
  rw[aN zb] at k1 k2
  obtain⟨c,rfl⟩:=cD ic.1
  obtain⟨b,rfl⟩:=cD ib.1
  have hc:c < S.credits.length:=by have:=ic.2; lia
  have hb:b < S.aE.length:=by have:=ib.2; lia
  rw[cW] at hp hq k1 k2
  rw[cW] at k1 k2
  have hfg:=yK wf hc hb
  refine⟨_,rfl,_,rfl,p,q,c,b,_,_,rfl,hp,hq,_,rfl,?_⟩
  rw[hfg]
  refine cH (fun z=>?_) (fun z=>?_)
  ·have z':S.df c b=false:=by simpa using z
   rw[aY z'] at k2
   exact fun dx nn=>(k2 (by decide +kernel) A.jY G.rz (fun q=>absurd q (by decide +kernel))).at nn
  have zg: ¬ S.df c b=false:=by simpa using z
  rw[aN zg] at k1 k2
  refine⟨_,rfl,dS,rfl,fun h1=>?_,fun h2=>?_⟩
  case refine_2=>
   rw[aY h2] at k2
   exact k2 (by decide +kernel) A.iS G.kY (fun q=>absurd q (by decide +kernel))
  rw[aN (by lia: ¬ dS < 1)] at k1 k2
  have TU:eW (S.cr c).d (S.bl b).d < dS-> ∀dx,H dx=none->E (.ref A.tooMuch) (some dx) (upd H dx (.xd [("text",.str "too much")])):=fun z dx nn=>by
   rw[aY z] at k2
   exact(k2 (by decide +kernel) A.tooMuch G.qw (fun _=>rfl)).at nn
  refine⟨_,rfl,_,rfl,pw,_,dw,_,_,rfl,hw,G.bI,G.fN,lT g,_,rfl,g.pf,_,_,_,rfl,rfl,bG.of hW.hf,MJ hc,_,_,rfl,rfl,_,rfl,cH (fun z=>fU (TU ?_)) (fun z=>?_)⟩
  ·have z':(S.cr c).d < dS:=a6 z
   unfold eW
   split <;> lia
  have z1: ¬ (S.cr c).d < dS:=fun q=>z (aK q)
  refine⟨_,rfl,_,rfl,pw,_,dw,_,_,rfl,hw,G.bI,G.fM,lS g,_,rfl,g.pl,_,_,_,rfl,rfl,bG.of hW.hl,MJ hb,_,_,rfl,rfl,_,rfl,cH (fun z=>TU ?_) (fun z=>?_)⟩
  ·have z':(S.bl b).d < dS:=a6 z
   unfold eW
   split <;> lia
  have z2: ¬ (S.bl b).d < dS:=fun q=>z (aK q)
  have zm: ¬ eW (S.cr c).d (S.bl b).d < dS:=by
   unfold eW
   split <;> lia
  rw[aN zm] at k1
  refine⟨_,rfl,pw,dw,_,rfl,hw,J2 g,_,rfl,_,rfl,_,rfl,pw,S,g,c,b,dS,rfl,hW,hc,hb,hz,fun H2 F2 W2=>?_⟩
  exact⟨_,rfl,k1 rfl g H2 rfl F2 W2⟩
def Fz:Sp:=fun vs H Q _=>vs=[]/\ ∀(sd:Addr) (f:fP) (H':Hp),aF H H'->dA H' sd Bk.new f->H sd=none->(∀b∈f.fp,H b=none)->Q (.ref sd) H'
theorem xF:aU [] [] (aA (top 53)):={}
theorem rJ (T:Txt K mg):fC P w K mg base "_law_begun" 1 [] Fz:=by
 refine T.zK.fV (k:=0) xF (fun f cY A outer s H vs Q E hr h=>?_)
 ·obtain⟨rfl,k⟩:=h
  refine⟨_,(av (a9 (LZ (vd aR (bS aw) (vd aR (bS aw) (vd aR (bS aw) LY))) (by rfl) rfl (by simp) (by decide)))),?_⟩
  intro sd Mw
  refine⟨bq _,fun pb nb=>⟨bq _,fun pc nc=>⟨bq _,fun pm nm=>?_⟩⟩⟩
  have t0:=aF.new (o:= .dK []) Mw
  have t1:=aF.new (o:= .lst []) nb
  have t2:=aF.new (o:= .lst []) nc
  have t3:=aF.new (o:= .lst []) nm
  have g0:=((t1.trans t2).trans t3) _ _ (ag (H:=H) (a:=sd) (o:= .dK []))
  have gb:=(t2.trans t3) _ _ (ag (H:=upd H sd (.dK [])) (a:=pb) (o:= .lst []))
  have gc:=t3 _ _ (ag (H:=upd (upd H sd (.dK [])) pb (.lst [])) (a:=pc) (o:= .lst []))
  have gm:=ag (H:=upd (upd (upd H sd (.dK [])) pb (.lst [])) pc (.lst [])) (a:=pm) (o:= .lst [])
  have nb0:=t0.free nb
  have nc0:=(t0.trans t1).free nc
  have YA:=((t0.trans t1).trans t2).free nm
  have e1:sd≠pb:=aJ ag nb
  have e2:sd≠pc:=aJ (t1 _ _ ag) nc
  have e3:sd≠pm:=aJ ((t1.trans t2) _ _ ag) nm
  have e4:pb≠pc:=aJ ag nc
  have e5:pb≠pm:=aJ (t2 _ _ ag) nm
  have e6:pc≠pm:=aJ ag nm
  have s3:=((t0.trans t1).trans t2).trans t3
  generalize upd (upd (upd (upd H sd (.dK [])) pb (.lst [])) pc (.lst [])) pm (.lst [])=H3 at g0 gb gc gm s3 ⊢
  refine⟨g0,[(Sum.inr "bills",.ref pb),(Sum.inr "credits",.ref pc),(Sum.inr "made",.ref pm)],rfl,(by show 3<=15; lia),?_⟩
  refine k sd ⟨pb,pc,pm,[],[]⟩ _ (s3.dr Mw) ⟨?_,by rw[az e1.symm]; exact gb,by rw[az e2.symm]; exact gc,⟨[],by rw[az e3.symm]; exact gm,.nil⟩,.nil,.nil,?_,?_⟩ Mw ?_
  ·rw[ag,Pd]; rfl
  ·simp[fP.fp,e4,e5,e6]
  ·simp[fP.fp,e1,e2,e3]
  ·intro b hb
   simp only[fP.fp,List.append_nil,List.mem_cons,List.not_mem_nil,or_false] at hb
   rcases hb with rfl|rfl|rfl
   ·exact nb0
   ·exact nc0
   ·exact YA
inductive Af (vs:List V)(H:Hp)(Q:VK)(E':XK):Prop
 |mk (sd:Addr)(S:Bk)(f:fP)(c b:Nat)(h1:vs=[.ref sd,.int c,.int b])(h2:dA H sd S f)(h3:c < S.credits.length)(h4:b < S.aE.length)(h5: ∀H',aF H H'->Q (.bl (S.df c b)) H'):Af vs H Q E'
theorem rK:aU ["_law_state","_law_credit","_law_bill","_law_one"] ["_law_state","_law_credit","_law_bill"] (aA (top 54)):={}
theorem oh (T:Txt K mg):fC P w K mg base "_law_goes" 1 ["_law_state","_law_credit","_law_bill"] Af:=by
 refine T.BR.fV (k:=0) rK (fun f cY A outer s H vs Q E hr h=>?_)
 ·obtain⟨sd,S,g,c,b,rfl,hB,hc,hb,k⟩:=h
  have hu:=kW hr
  have nd:=rK.nd
  obtain⟨p,_,ap,hp⟩:=hB.lc hc
  obtain⟨q,_,aq,hq⟩:=hB.lb hb
  refine⟨_,(ai (sv 3 nd (xl (cJ hu (pv 0) aR (fun _ _=>rfl)) (pv 1)))
(av (a9 (sC (fQ dh (xl (pv 3) aj) (xl (xl (cJ hu (pv 0) aR (fun _ _=>rfl)) (pv 2)) aj) (bb _)) (qc (fQ oM (xl (pv 3) aj) (bS (aa (pC lj aj) (aa (pv 2) aw))) (by rfl))))))),?_⟩
  refine⟨_,rfl,sd,_,rfl,hB.gC,_,rfl,g.pc,_,_,.ref p,rfl,rfl,bG.of hB.hc,ap,?_⟩
  refine⟨_,rfl,p,_,_,.str (S.cr c).aH,rfl,rfl,bG.of hp,rfl,_,rfl,sd,_,rfl,hB.gB,_,rfl,g.pb,_,_,.ref q,rfl,rfl,bG.of hB.hb,aq,q,_,_,.str (S.bl b).aH,rfl,rfl,bG.of hq,rfl,rfl,_,rfl,cH (fun d=>?_) (fun d=>?_)⟩
  ·have d':(S.cr c).aH=(S.bl b).aH:=by have:=a6 d; injection this
   refine⟨_,rfl,p,_,_,.int (S.cr c).c,rfl,rfl,bG.of hp,rfl,_,rfl,_,rfl,(by show 2<=sizeLine; decide),fun p9 n9=>?_⟩
   refine⟨p9,_,rfl,.inl (bG.of ag),rfl,rfl,?_⟩
   have e:S.df c b=xa (V.int (S.cr c).c) [V.int (-1),V.int (b:Int)]:=by
    unfold Bk.df
    rw[aK d',Dy]
    rw[oW]
    simp[xa,LR]
    lia
   have q9:=k _ (aF.new (o:= .lst [V.int (-1),V.int (b:Int)]) n9)
   rw[e] at q9
   exact q9
  ·have d': ¬ (S.cr c).aH=(S.bl b).aH:=fun z=>d (aK (by rw[z]))
   have e:S.df c b=false:=by
    unfold Bk.df
    rw[bL d',Oi]
   have q9:=k H (aF.refl _)
   rw[e] at q9
   exact q9
theorem jP {A:Hp->Prop}{H H':Hp}(e:H=H')(h:A H'):A H:=e▸h
inductive Ct (vs:List V)(H:Hp)(Q:VK)(E':XK):Prop
 |mk (sd:Addr)(S:Bk)(f:fP)(c b:Nat)(x:Int)(h1:vs=[.ref sd,.int c,.int b,.int x])(h2:dA H sd S f)(h3:c < S.credits.length)(h4:b < S.aE.length)(h5:S.made.length < sizeLine)(h6: ∀H',Frame f.fp H H'->dA H' sd (S.put c b x) f->Q .eF H'):Ct vs H Q E'
theorem tU:aU ["_law_state","_law_credit","_law_bill","_law_amount"] ["_law_state","_law_credit","_law_bill","_law_amount"] (aA (top 55)):={}
theorem vT (T:Txt K mg):fC P w K mg base "_law_put" 1 ["_law_state","_law_credit","_law_bill","_law_amount"] Ct:=by
 refine T.D9.fV (k:=0) tU (fun f cY A outer s H vs Q E hr h=>?_)
 ·obtain⟨sd,S,g,c,b,x,rfl,hB,hc,hb,hz,k⟩:=h
  have hu:=kW hr
  have nd:=tU.nd
  obtain⟨p,pi,ap,hp⟩:=hB.lc hc
  refine⟨_,(ai (nv (aQ fS (xl (xl (cJ hu (pv 0) aR (fun _ _=>rfl)) (pv 1)) aj) (pv 3)) (sD (xl (cJ hu (pv 0) aR (fun _ _=>rfl)) (pv 1)) aj set_list))
(ai (nv (aQ fS (xl (xl (cJ hu (pv 0) aR (fun _ _=>rfl)) (pv 2)) aj) (pv 3)) (sD (xl (cJ hu (pv 0) aR (fun _ _=>rfl)) (pv 2)) aj set_list))
(av (bM (qu (cJ hu (pv 0) aR (fun _ _=>rfl)) (cM (aa (pv 1) (aa (pv 2) (aa (pv 3) aw))))))))),?_⟩
  refine⟨_,rfl,sd,_,rfl,hB.gC,_,rfl,g.pc,_,_,.ref p,rfl,rfl,bG.of hB.hc,ap,p,_,_,.int (S.cr c).d,rfl,rfl,bG.of hp,rfl,_,rfl,_,_,rfl,rfl,?_⟩
  refine⟨_,rfl,sd,_,rfl,hB.gC,_,rfl,g.pc,_,_,.ref p,rfl,rfl,bG.of hB.hc,ap,p,_,4,4,rfl,rfl,hp,rfl,?_⟩
  have B1:=hB.setC (r:=(S.cr c).less x) pi ⟨_,hp⟩
  have F1:Frame g.fp H (upd H p (.lst ((S.cr c).less x).vs)):=Frame.upd (by have:=List.mem_of_getElem? pi; simp[fP.fp,this])
  refine jP (H':=upd H p (.lst ((S.cr c).less x).vs)) rfl ?_
  generalize upd H p (.lst ((S.cr c).less x).vs)=H1 at B1 F1 ⊢
  obtain⟨q,qi,aq,hq⟩:=B1.lb (b:=b) hb
  change H1 q=some (.lst (S.bl b).vs) at hq
  refine⟨_,rfl,sd,_,rfl,B1.gB,_,rfl,g.pb,_,_,.ref q,rfl,rfl,bG.of B1.hb,aq,q,_,_,.int (S.bl b).d,rfl,rfl,bG.of hq,rfl,_,rfl,_,_,rfl,rfl,?_⟩
  refine⟨_,rfl,sd,_,rfl,B1.gB,_,rfl,g.pb,_,_,.ref q,rfl,rfl,bG.of B1.hb,aq,q,_,4,4,rfl,rfl,hq,rfl,?_⟩
  have B2:=B1.setB (r:=(S.bl b).less x) qi ⟨_,hq⟩
  have F2:Frame g.fp H1 (upd H1 q (.lst ((S.bl b).less x).vs)):=Frame.upd (by have:=List.mem_of_getElem? qi; simp[fP.fp,this])
  refine jP (H':=upd H1 q (.lst ((S.bl b).less x).vs)) rfl ?_
  generalize upd H1 q (.lst ((S.bl b).less x).vs)=H2 at B2 F2 ⊢
  obtain⟨ms,m1,m2⟩:=B2.hm
  refine⟨_,rfl,sd,_,rfl,B2.gM,.inl ⟨rfl,_,bG.of m1⟩,_,rfl,_,rfl,_,rfl,(by show 3<=sizeLine; decide),fun p8 n8=>?_⟩
  have t8:=aF.new (o:= .tup [V.int c,.int b,.int x]) n8
  refine⟨g.pm,ms,_,rfl,rfl,t8 _ _ m1,?_,?_⟩
  ·rw[← aO m2]
   exact hz
  ·refine k _ ((F1.tr F2).tr ((t8.frame).tr (Frame.upd (by simp[fP.fp])))) ?_
   exact(B2.same t8).XU (t:=(c,b,x)) (t8 _ _ m1) (m2.mono t8.tk) ag
def FA (x:Int×Nat):List Int:=[x.1,(x.2:Int)]
def Cu (rows:List Rw)(aH:Str)(key:Rw->Int)(i:Nat):List (Int×Nat):=
 ((List.range i).filter fun k=>decide ((rows.getD k default).aH=aH) && decide (0 < (rows.getD k default).d)).map fun k=>(key (rows.getD k default),k)
theorem MM {rows:List Rw}{aH:Str}{key:Rw->Int}{i:Nat}(h:(rows.getD i default).aH=aH)(h2:0 < (rows.getD i default).d):Cu rows aH key (i + 1)=Cu rows aH key i ++ [(key (rows.getD i default),i)]:=by
 unfold Cu
 rw[wW,gw,aL]
 congr 1
 rw[cQ (by rw[aK h,aK h2]; rfl)]
 rfl
theorem PY {rows:List Rw}{aH:Str}{key:Rw->Int}{i:Nat}(h: ¬ ((rows.getD i default).aH=aH/\0 < (rows.getD i default).d)):Cu rows aH key (i + 1)=Cu rows aH key i:=by
 unfold Cu
 rw[List.range_succ,List.filter_append,List.map_append,List.filter_cons_of_neg (by simpa using h)]
 simp
theorem PZ {rows:List Rw}{aH:Str}{key:Rw->Int}{i:Nat}: ∀x∈Cu rows aH key i,x.2 < i:=by
 intro x hx
 obtain⟨k,hk,rfl⟩:=bJ.mp hx
 exact dO.mp (en.mp hk).1
theorem P0 {rows:List Rw}{aH:Str}{key:Rw->Int}{i:Nat}:((Cu rows aH key i).map (·.2)).Nodup:=by
 unfold Cu
 rw[fq]
 have e:((fun x:Int×Nat=>x.2) ∘ fun k=>(key (rows.getD k default),k))=id:=rfl
 rw[e,LA]
 exact ux.filter _
theorem Ag {rows:List Rw}{aH:Str}{key:Rw->Int}{i:Nat}:(Cu rows aH key i).length<=i:=by
 unfold Cu
 rw[ae]
 exact aV (aW _ _) (by rw[dF]; exact aD _)
theorem Ah {x y:Str}(d:decide (V.str x=V.str y)=true):x=y:=by
 have:=a6 d
 injection this
theorem vU {x y:Str}(d: ¬ decide (V.str x=V.str y)=true): ¬ x=y:=fun z=>d (aK (by rw[z]))
theorem oR: ∀{l:List (Int×Nat)} {x y:Int×Nat},(l.map (·.2)).Nodup->x∈l->y∈l->x.2=y.2->x=y
 |[],_,_,_,h,_,_=>by cases h
 |z :: l,x,y,nd,hx,hy,e=>by
  rw[cO,dN] at nd
  rcases au.mp hx with BK|BK
  ·rcases au.mp hy with Dp|Dp
   ·rw[BK,Dp]
   ·exact absurd (bJ.mpr ⟨y,Dp,by rw[← e,BK]⟩) nd.1
  ·rcases au.mp hy with Dp|Dp
   ·exact absurd (bJ.mpr ⟨x,BK,by rw[e,Dp]⟩) nd.1
   ·exact oR nd.2 BK Dp e
inductive vV (vs:List V)(H:Hp)(Q:VK)(E':XK):Prop
 |mk (p:Addr)(ps:List Addr)(rows:List Rw)(aH:Str)(rL:Int)(key:Rw->Int)(h1:vs=[.ref p,.str aH,.int rL])(h2:H p=some (.lst (ps.map V.ref)))(h3:fe H rows ps)(h4:rows.length < 64)(h5:(∀r:Rw,uz r.vs rL=some (.int (key r))))(h6: ∀D H',aF H H'->H D=none->H' D=some (.lst ((inTurn rows aH key).map fun(k:Nat)=>V.int (k:Int)))->Q (.ref D) H'):vV vs H Q E'
theorem mQ:aU ["_law_rows","_law_who","_law_spot","_law_keys","_law_k"] ["_law_rows","_law_who","_law_spot"] (aA (top 56)):={}
theorem oj (T:Txt K mg):fC P w K mg base "_law_in_turn" 1 ["_law_rows","_law_who","_law_spot"] vV:=by
 refine T.vH.fV (k:=0) mQ (fun f cY A outer s H vs Q E hr h=>?_)
 ·obtain⟨p,ps,rows,aH,rL,key,rfl,hp,hR,hl,hk,k⟩:=h
  have nd:=mQ.nd
  have hlen:=hR.length
  refine⟨_,(ai (sv 3 nd (bS aw))
(ai (eN bB rfl (ja rfl T.my (aa (oP T.eJ (pv 0)) aw)) (gn 4 nd)
(av (bT (PW.pt (pw_and (a0 dh (xl (xl (pv 0) (pv 4)) aj) (pv 1) (bb _)) (pw_and1 (a0 jH (xl (xl (pv 0) (pv 4)) aj) aj (bb _)))))
(av (bM (qu (pv 3) (cM (aa (xl (xl (pv 0) (pv 4)) (pv 2)) (aa (pv 4) aw))))))
bp)))
(av (a9 (iK (tn:=["_law_key"]) (cn:=[]) (cj:=[]) rfl zl (cI (dm zu (by rfl) T.vJ boot_sorted (aa (pv 3) aw))) (fun _ _ _ _=>(eG (i:=0) (show(["_law_key"]:List Str).Nodup by decide +kernel) rfl (Or.inl rfl))) (fun _ _ _ _=>lq) (fun _ _ _ _=>(kO (uB (K:=K) rfl) (pv 0) aj (fun _ _=>rfl)))))))),?_⟩
  refine⟨bq _,fun pk nk=>?_⟩
  have s1:aF H (upd H pk (.lst [])):=aF.new nk
  refine⟨_,rfl,p,_,rfl,.inl (bG.of (s1 _ _ hp)),((ps.map V.ref).length:Int),rfl,by lia,by rw[ae]; lia,?_⟩
  rw[cW]
  refine jU (lo:=0) (n:=(ps.map V.ref).length) (fun i σ H2=> ∃(xs:List V) (x4:Option V),σ=[some (.ref p),some (.str aH),some (.int rL),some (.ref pk),x4]/\aF H H2/\H2 pk=some (.lst xs)/\ix H2 ((Cu rows aH key i).map FA) xs)
   ⟨[],none,rfl,s1,ag,.nil⟩ ?_ ?_
  ·rintro i σ H2 hi ⟨xs,x4,rfl,s2,hx,hT⟩
   rw[jT]
   have zt:i < rows.length:=by rw[ae] at hi; lia
   obtain⟨r,ri,NT⟩:=hR.at zt
   have ar:uz (ps.map V.ref) (i:Int)=some (.ref r):=cA (by rw[aC,ri]; rfl)
   have yq:=s2 _ _ hp
   have FC:=s2 _ _ NT
   have YB:xs.length<=i:=by
    have:=aO hT
    rw[ae] at this
    have:=Ag (rows:=rows) (aH:=aH) (key:=key) (i:=i)
    lia
   have no: ¬ ((rows.getD i default).aH=aH/\0 < (rows.getD i default).d)-> ∃(xs:List V) (x4:Option V),[some (V.ref p),some (.str aH),some (.int rL),some (.ref pk),some (.int (i:Int))]=[some (.ref p),some (.str aH),some (.int rL),some (.ref pk),x4]/\aF H H2/\H2 pk=some (.lst xs)/\ix H2 ((Cu rows aH key (i + 1)).map FA) xs:=fun n=>
    ⟨xs,_,rfl,s2,hx,by rw[PY n]; exact hT⟩
   generalize P1:rows.getD i default=row at FC no
   refine⟨_,rfl,_,rfl,p,_,_,.ref r,rfl,rfl,bG.of yq,ar,r,_,_,.str row.aH,rfl,rfl,bG.of FC,rfl,_,rfl,rfl,_,rfl,cH (fun d1=>?_) (fun d1=>bX (no fun z=>vU d1 z.1))⟩
   refine⟨_,rfl,_,rfl,p,_,_,.ref r,rfl,rfl,bG.of yq,ar,r,_,_,.int row.d,rfl,rfl,bG.of FC,rfl,_,_,rfl,rfl,_,rfl,cH (fun d2=>?_) (fun d2=>no fun z=>d2 (aK z.2))⟩
   have TV:=Ah d1
   have YC:0 < row.d:=a6 d2
   refine⟨_,rfl,.inl ⟨rfl,_,bG.of hx⟩,_,rfl,_,rfl,p,_,_,.ref r,rfl,rfl,bG.of yq,ar,_,rfl,r,_,_,.int (key row),rfl,rfl,bG.of FC,hk row,_,rfl,(by show 2<=sizeLine; decide),fun p8 n8=>?_⟩
   have t8:=aF.new (o:= .tup [V.int (key row),.int (i:Int)]) n8
   refine⟨pk,xs,_,rfl,rfl,t8 _ _ hx,bf (by lia),xs ++ [.ref p8],_,rfl,(s2.trans t8).dr nk,ag,?_⟩
   rw[MM (by rw[P1]; exact TV) (by rw[P1]; exact YC),aL,P1]
   exact ix.snoc (hT.mono (t8.tk.trans (dY (t8 _ _ hx)))) (dU (t8 _ _ hx) _ _ ag)
  ·rintro σ H2 ⟨xs,x4,rfl,s2,hx,hT⟩
   have YB:=aO hT
   have hks:=Ag (rows:=rows) (aH:=aH) (key:=key) (i:=(ps.map V.ref).length)
   have Iw:=PZ (rows:=rows) (aH:=aH) (key:=key) (i:=(ps.map V.ref).length)
   have ni:(ps.map V.ref).length=rows.length:=by rw[ae]; lia
   have hle: ∀x∈Cu rows aH key (ps.map V.ref).length,x.2 < 1000:=fun x hx=>by have:=Iw x hx; lia
   have kX:inTurn rows aH key=(fO (Cu rows aH key (ps.map V.ref).length)).map (·.2):=by rw[ni]; rfl
   have hnd:=P0 (rows:=rows) (aH:=aH) (key:=key) (i:=(ps.map V.ref).length)
   generalize Cu rows aH key (ps.map V.ref).length=ks at hT YB hks hle kX hnd
   rw[ae] at YB
   refine⟨_,rfl,pk,xs,_,vK,rfl,bG.of hx,(by lia),hT,(fun t ht=>?_),(fun t ht u hu=>?_),fun D ys us nD Pz perm le=>?_⟩
   ·obtain⟨x,_,rfl⟩:=bJ.mp ht
    simp[FA]
   ·obtain⟨x,BK,rfl⟩:=bJ.mp ht
    obtain⟨y,Dp,rfl⟩:=bJ.mp hu
    refine vL (hle x BK) (hle y Dp) (fun e=>⟨rfl,?_⟩) rfl
    exact oR hnd BK Dp e
   ·have Xt:=BX hle hnd (fun x _=>rfl) perm le
    subst Xt
    have tD:=aF.new (o:= .lst ys) nD
    refine⟨D,rfl,⟨_,bG.of ag⟩,?_⟩
    have Ln:=Pz.mono tD.tk
    generalize Rx:upd H2 D (.lst ys)=H3 at tD Ln
    have hD3:H3 D=some (.lst ys):=by rw[← Rx]; exact ag
    have s3:=s2.trans tD
    clear Rx Pz perm le hT
    have hyl:=aO Ln
    refine dX (K:=K) (a:=D) (xs:=ys) (fun D' i σ H6=>H3 D'=none/\ ∃v,σ=[v]/\aF H3 H6/\H6 D'=some (.lst (((fO ks).take i).map fun x=>V.int (x.2:Int)))) (fun D' El=>⟨El,none,rfl,aF.new El,ag⟩) (fun D' i σ H6 _ ⟨_,_,_,t3,_⟩=>bG.of (t3 _ _ hD3)) ?_ ?_
    ·rintro D' i x σ H6 NW ⟨El,v,rfl,t3,iE⟩
     have hi:i < (fO ks).length:=by
      have:=(ah.mp NW).1
      rw[ae] at hyl
      lia
     have g0:((fO ks).map FA)[i]? =some (FA (fO ks)[i]):=by rw[aC,af hi]; rfl
     obtain⟨v',hv,pp,e1,Ll⟩:=bK Ln g0
     rw[NW] at hv
     obtain rfl:x=v':=aG hv
     subst e1
     have qe:=gZ hi
     have TX:=t3 _ _ Ll
     generalize (fO ks)[i]=z at TX qe
     have Kc:((fO ks).take i).length<=100:=by
      rw[ba]
      have:=(dE ks).length_eq
      lia
     refine⟨_,rfl,pp,_,_,.int (z.2:Int),rfl,rfl,cF.of TX,rfl,_,iE,bf (by rw[ae]; lia),El,_,rfl,t3.dr El,?_⟩
     rw[ag,qe,aL]
     rfl
    ·rintro D' σ H6 El ⟨_,v,rfl,t3,iE⟩
     refine k D' H6 (s3.trans t3) (s3.free El) ?_
     rw[iE,kX,fq,hyl.symm,ae,aZ]
     rfl
theorem k8 {α β:Type}{F:α->β->Prop}: ∀{l₁:List α} {l₂:List β} (n:Nat),Paired F l₁ l₂->Paired F (l₁.drop n) (l₂.drop n)
 |_,_,0,h=>by rwa [Oq,Oq]
 |_,_,_ + 1,.nil=> .nil
 |_,_,n + 1,.cons _ t=>by rw[List.drop_succ_cons,List.drop_succ_cons]; exact k8 n t
theorem sT (xs:List V)(n:Nat)(h:n<=xs.length):mW xs (some (n:Int)) none=xs.drop n:=by
 unfold mW
 rw[HT.Bu,HT.oJ,o4 h,List.take_of_length_le]
 rw[ig]
 exact aD _
structure Ai (H0:Hp)(sd:Addr)(S:Bk)(f:fP)(H2:Hp)(S2:Bk)(m:Nat):Prop where
 fr:Frame f.fp H0 H2
 bk:dA H2 sd S2 f
 bl:S2.aE.length=S.aE.length
 cl:S2.credits.length=S.credits.length
 ml:S2.made.length<=S.made.length + m
theorem Ai.put {H0:Hp}{sd:Addr}{S:Bk}{f:fP}{H2 H':Hp}{S2:Bk}{m c b:Nat}{x:Int}(I:Ai H0 sd S f H2 S2 m)(fr:Frame f.fp H2 H')(bk:dA H' sd (S2.put c b x) f):Ai H0 sd S f H' (S2.put c b x) (m + 1):=by
 refine⟨I.fr.tr fr,bk,?_,?_,?_⟩
 ·show(S2.aE.set _ _).length=_
  rw[fm]; exact I.bl
 ·show(S2.credits.set _ _).length=_
  rw[fm]; exact I.cl
 ·show(S2.made ++ [_]).length<=_
  rw[ax]
  have:=I.ml
  simp
  lia
theorem Ai.up {H0:Hp}{sd:Addr}{S:Bk}{f:fP}{H2:Hp}{S2:Bk}{m n:Nat}(I:Ai H0 sd S f H2 S2 m)(h:m<=n):Ai H0 sd S f H2 S2 n:=⟨I.fr,I.bk,I.bl,I.cl,aV I.ml (by lia)⟩
theorem Ai.from {H0 H1:Hp}{sd:Addr}{S:Bk}{f:fP}{H2:Hp}{S2:Bk}{m:Nat}(I:Ai H0 sd S f H2 S2 m)(s:aF H2 H1):Ai H1 sd S f H1 S2 m:=⟨Frame.refl,I.bk.same s,I.bl,I.cl,I.ml⟩
theorem Ai.back {H0 H1:Hp}{sd:Addr}{S:Bk}{f:fP}{H2 H3:Hp}{S2 S3:Bk}{m n:Nat}(I:Ai H0 sd S f H2 S2 m)(s:aF H2 H1)(J:Ai H1 sd S f H3 S3 n):Ai H0 sd S f H3 S3 n:=⟨(I.fr.cU s).tr J.fr,J.bk,J.bl,J.cl,J.ml⟩
theorem _root_.L2.dA.uF {H:Hp}{sd D:Addr}{S:Bk}{f:fP}(h:dA H sd S f)(n:H D=none):D∉f.fp:=fun z=>by
 obtain⟨ms,m1,_⟩:=h.hm
 have rows: ∀(rs:List Rw) (ps:List Addr),fe H rs ps->D∈ps->False:=fun rs ps hr hp=>by
  obtain⟨i,hi⟩:=jl hp
  have iI:i < rs.length:=by
   rw[hr.length]
   exact(ah.mp hi).1
  obtain⟨q,e1,e2⟩:=hr.at iI
  rw[e1] at hi
  cases hi
  rw[n] at e2
  cases e2
 unfold fP.fp at z
 rcases au.mp z with rfl|z
 ·have:=h.hb; rw[n] at this; cases this
 rcases au.mp z with rfl|z
 ·have:=h.hc; rw[n] at this; cases this
 rcases au.mp z with rfl|z
 ·rw[n] at m1; cases m1
 rcases bc.mp z with z|z
 ·exact rows _ _ h.rb z
 ·exact rows _ _ h.rc z
theorem iq (rows:List Rw)(aH:Str)(key:Rw->Int):(inTurn rows aH key).length<=rows.length:=by
 have e:inTurn rows aH key=(fO (Cu rows aH key rows.length)).map (·.2):=rfl
 rw[e,ae,(dE _).length_eq]
 exact Ag
theorem lX {α β:Type}(g:β->α->β)(l:List α)(s:β){i:Nat}{x:α}(h:l[i]? =some x):(l.take (i + 1)).foldl g s=g ((l.take i).foldl g s) x:=by
 rw[Gf,h,lG]
 rfl
theorem _root_.L2.Frame.free {fp:List Addr}{H H':Hp}{p:Addr}(a:Frame fp H H')(h:p∉fp)(n:H' p=none):H p=none:=by
 cases e:H p with
 |none=>rfl
 |some o=>have:=a p o h e; rw[n] at this; cases this
inductive Aj (vs:List V)(H:Hp)(Q:VK)(E':XK):Prop
 |mk (sd:Addr)(S:Bk)(f:fP)(aH:Str)(h1:vs=[.ref sd,.str aH])(h2:dA H sd S f)(h3:S.credits.length < 64)(h4:S.aE.length < 64)(h5:S.made.length + 10000 < sizeLine)(h6: ∀D ms H',Frame f.fp H H'->dA H' sd (S.dv aH) f->H D=none->H' D=some (.lst ms)->iz H' ((S.dv aH).made.drop S.made.length) ms->Q (.ref D) H'):Aj vs H Q E'
theorem pJ:aU ["_law_state","_law_who","_law_many","_law_exact","_law_credit","_law_bill","_law_free","_law_left"] ["_law_state","_law_who"] (aA (top 57)):={}
theorem rM (T:Txt K mg):fC P w K mg base "_law_swept" 2 ["_law_state","_law_who"] Aj:=by
 have gN:fC P w K mg base "_law_in_turn" 1 ["_law_rows","_law_who","_law_spot"] vV:=oj T
 have jv:fC P w K mg base "_law_goes" 1 ["_law_state","_law_credit","_law_bill"] Af:=oh T
 have qx:fC P w K mg base "_law_put" 1 ["_law_state","_law_credit","_law_bill","_law_amount"] Ct:=vT T
 refine T.zL.fV (k:=1) pJ (fun f cY A outer s H vs Q E hr h=>?_)
 ·obtain⟨sd,S,g,aH,rfl,hB,rq,HA,Iy,k⟩:=h
  have hu:=kW hr
  have nd:=pJ.nd
  obtain⟨ms,m1,m2⟩:=hB.hm
  have YD:S.made.length=ms.length:=aO m2
  refine⟨_,(ai (sv 2 nd (oP T.eJ (cJ hu (pv 0) aR (fun _ _=>rfl))))
(ai (eN bB rfl (cI (bS (aa kM (aa kM aw)))) (gn 3 nd)
(av (eN bB rfl (cI (fc gN hr (aa (cJ hu (pv 0) aR (fun _ _=>rfl)) (aa (pv 1) (aa aj aw))))) (gn 4 nd)
(av (eN bB rfl (cI (fc gN hr (aa (cJ hu (pv 0) aR (fun _ _=>rfl)) (aa (pv 1) (aa aj aw))))) (gn 5 nd)
(ai (sv 6 nd (xl (xl (cJ hu (pv 0) aR (fun _ _=>rfl)) (pv 4)) aj))
(ai (sv 7 nd (xl (xl (cJ hu (pv 0) aR (fun _ _=>rfl)) (pv 5)) aj))
(av (bT (PW.pt (pw_and (a0 jH (pv 6) aj (bb _)) (pw_and1 (fR (fc jv hr (aa (pv 0) (aa (pv 4) (aa (pv 5) aw))))))))
(av (bT (PW.pt (pw_or (a0 dh (pv 6) (pv 7) (bb _)) (pw_or1 (jC (fR (pv 3))))))
(av (bM (fc qx hr (aa (pv 0) (aa (pv 4) (aa (pv 5) (aa (dm (sE rfl) (by rfl) T.JM boot_min (aa (pv 6) (aa (pv 7) aw))) aw)))))))
bp))
bp)))))))))
(av (a9 (jn kP (cJ hu (pv 0) aR (fun _ _=>rfl)) (jh (pv 2)) oK))))),?_⟩
  refine⟨_,rfl,sd,_,rfl,hB.gM,g.pm,_,rfl,.inl (bG.of m1),?_⟩
  refine⟨(by show 2<=sizeLine; decide),fun pl nl=>⟨pl,rfl,⟨_,bG.of ag⟩,?_⟩⟩
  have s1:aF H (upd H pl (.lst ([true,false].map V.bl))):=aF.new nl
  have nlf:=hB.uF nl
  have jb:upd H pl (.lst ([true,false].map V.bl)) pl=some (.lst ([true,false].map V.bl)):=ag
  have NX:=hB.same s1
  refine jP (H':=upd H pl (.lst ([true,false].map V.bl))) rfl ?_
  generalize upd H pl (.lst ([true,false].map V.bl))=H1 at s1 jb NX
  refine fG (K:=K) (a:=pl) (xs:=[true,false].map V.bl) (fun i σ H2=> ∃x3 x4 x5 x6 x7:Option V,σ=[some (.ref sd),some (.str aH),some (.int (ms.length:Int)),x3,x4,x5,x6,x7]/\Ai H1 sd S g H2 (([true,false].take i).foldl (bN aH) S) (i * 4096))
   ⟨none,none,none,none,none,rfl,Frame.refl,NX,rfl,rfl,Nat.le_add_right _ _⟩ (fun i σ H2 _ ⟨_,_,_,_,_,_,I⟩=>bG.of (I.fr _ _ nlf jb)) ?_ ?_
  ·rintro i x σ H2 hx ⟨x3,x4,x5,x6,x7,rfl,I⟩
   rw[aC] at hx
   obtain⟨ex,hex,rfl⟩:=a8.mp hx
   have hi:i < 2:=(ah.mp hex).1
   rw[lX (bN aH) [true,false] S hex]
   generalize ([true,false].take i).foldl (bN aH) S=S1 at I ⊢
   have c1:=I.cl
   have b1:=I.bl
   refine⟨_,rfl,sd,_,rfl,I.bk.gC,_,rfl,g.pc,g.cps,S1.credits,aH,1,(·.a),rfl,I.bk.hc,I.bk.rc,by lia,(fun _=>rfl),fun D1 H3 t3 n3 HB=>?_⟩
   have D1f:=I.bk.uF n3
   have I3:=I.from t3
   refine⟨D1,rfl,⟨_,bG.of HB⟩,?_⟩
   have hcs:(inTurn S1.credits aH (·.a)).length<=63:=by have:=iq S1.credits aH (·.a); lia
   have hcm: ∀c∈inTurn S1.credits aH (·.a),c < S.credits.length:=fun c hc=>by have:=(bP.mp hc).1; lia
   have hrd:bN aH S1 ex=(inTurn S1.credits aH (·.a)).foldl (bC aH ex) S1:=rfl
   rw[hrd]
   generalize inTurn S1.credits aH (·.a)=cs at HB hcs hcm
   refine fG (K:=K) (a:=D1) (xs:=cs.map fun(k:Nat)=>V.int (k:Int)) (fun j σ H4=> ∃x4 x5 x6 x7:Option V,σ=[some (.ref sd),some (.str aH),some (.int (ms.length:Int)),some (.bl ex),x4,x5,x6,x7]/\Ai H3 sd S g H4 ((cs.take j).foldl (bC aH ex) S1) (i * 4096 + j * 64))
    ⟨_,_,_,_,rfl,I3.up (by lia)⟩ (fun j σ H4 _ ⟨_,_,_,_,_,J⟩=>bG.of (J.fr _ _ D1f HB)) ?_ ?_
   ·rintro j x σ H4 hx ⟨x4,x5,x6,x7,rfl,J⟩
    rw[aC] at hx
    obtain⟨c,hc,rfl⟩:=a8.mp hx
    have adF:=hcm c (eD hc)
    have hj:j < cs.length:=(ah.mp hc).1
    rw[lX (bC aH ex) cs S1 hc]
    generalize (cs.take j).foldl (bC aH ex) S1=S2 at J ⊢
    have b2:=J.bl
    refine⟨_,rfl,sd,_,rfl,J.bk.gB,_,rfl,g.pb,g.iP,S2.aE,aH,2,(·.b),rfl,J.bk.hb,J.bk.rb,by lia,(fun _=>rfl),fun D2 H5 t5 n5 Em=>?_⟩
    have D2f:=J.bk.uF n5
    have J5:=J.from t5
    refine⟨D2,rfl,⟨_,bG.of Em⟩,?_⟩
    have hbs:(inTurn S2.aE aH (·.b)).length<=63:=by have:=iq S2.aE aH (·.b); lia
    have L8: ∀b∈inTurn S2.aE aH (·.b),b < S.aE.length:=fun b hb=>by have:=(bP.mp hb).1; lia
    have sf:bC aH ex S2 c=(inTurn S2.aE aH (·.b)).foldl (bu ex c) S2:=rfl
    rw[sf]
    generalize inTurn S2.aE aH (·.b)=bs at Em hbs L8
    refine fG (K:=K) (a:=D2) (xs:=bs.map fun(k:Nat)=>V.int (k:Int)) (fun l σ H6=> ∃x5 x6 x7:Option V,σ=[some (.ref sd),some (.str aH),some (.int (ms.length:Int)),some (.bl ex),some (.int (c:Int)),x5,x6,x7]/\Ai H5 sd S g H6 ((bs.take l).foldl (bu ex c) S2) (i * 4096 + j * 64 + l))
     ⟨_,_,_,rfl,J5.up (by lia)⟩ (fun l σ H6 _ ⟨_,_,_,_,L⟩=>bG.of (L.fr _ _ D2f Em)) ?_ ?_
    ·rintro l x σ H6 hx ⟨x5,x6,x7,rfl,L⟩
     rw[aC] at hx
     obtain⟨b,hb,rfl⟩:=a8.mp hx
     have adI:=L8 b (eD hb)
     have hl:l < bs.length:=(ah.mp hb).1
     rw[lX (bu ex c) bs S2 hb]
     generalize (bs.take l).foldl (bu ex c) S2=S3 at L ⊢
     have b3:=L.bl
     have c3:=L.cl
     have m3:=L.ml
     obtain⟨p,_,ap,hp⟩:=L.bk.lc (b:=c) (by lia)
     obtain⟨q,_,aq,hq⟩:=L.bk.lb (b:=b) (by lia)
     have no: ¬ (0 < (S3.cr c).d/\S3.df c b=true/\((S3.cr c).d=(S3.bl b).d∨ex=false))-> ∀H7,aF H6 H7-> ∃x5 x6 x7:Option V,[some (V.ref sd),some (.str aH),some (.int (ms.length:Int)),some (.bl ex),some (.int (c:Int)),some (.int (b:Int)),some (.int (S3.cr c).d),some (.int (S3.bl b).d)]=[some (.ref sd),some (.str aH),some (.int (ms.length:Int)),some (.bl ex),some (.int (c:Int)),x5,x6,x7]/\Ai H5 sd S g H7 (bu ex c S3 b) (i * 4096 + j * 64 + (l + 1)):=fun n H7 t7=>by
      refine⟨_,_,_,rfl,?_⟩
      unfold bu
      rw[aN n]
      exact(L.back t7 (L.from t7)).up (by lia)
     refine⟨_,rfl,sd,_,rfl,L.bk.gC,_,rfl,g.pc,_,_,.ref p,rfl,rfl,bG.of L.bk.hc,ap,p,_,_,.int (S3.cr c).d,rfl,rfl,bG.of hp,rfl,?_⟩
     refine⟨_,rfl,sd,_,rfl,L.bk.gB,_,rfl,g.pb,_,_,.ref q,rfl,rfl,bG.of L.bk.hb,aq,q,_,_,.int (S3.bl b).d,rfl,rfl,bG.of hq,rfl,?_⟩
     refine⟨_,rfl,_,_,rfl,rfl,_,rfl,cH (fun d1=>?_) (fun d1=>bX (no (fun z=>d1 (aK z.1)) _ (aF.refl _)))⟩
     have TV:0 < (S3.cr c).d:=a6 d1
     refine⟨_,rfl,_,rfl,_,rfl,sd,S3,g,c,b,rfl,L.bk,by lia,by lia,fun H7 t7=>⟨_,rfl,cH (fun d2=>?_) (fun d2=>no (fun z=>d2 z.2.1) _ t7)⟩⟩
     have L7:=L.bk.same t7
     have TY:((S3.cr c).d=(S3.bl b).d∨ex=false)-> ∀H',Frame g.fp H7 H'->dA H' sd (S3.put c b (eW (S3.cr c).d (S3.bl b).d)) g-> ∃x5 x6 x7:Option V,[some (V.ref sd),some (.str aH),some (.int (ms.length:Int)),some (.bl ex),some (.int (c:Int)),some (.int (b:Int)),some (.int (S3.cr c).d),some (.int (S3.bl b).d)]=[some (.ref sd),some (.str aH),some (.int (ms.length:Int)),some (.bl ex),some (.int (c:Int)),x5,x6,x7]/\Ai H5 sd S g H' (bu ex c S3 b) (i * 4096 + j * 64 + (l + 1)):=fun z H' Rk YE=>by
      refine⟨_,_,_,rfl,?_⟩
      unfold bu
      rw[aY ⟨TV,d2,z⟩]
      exact(L.put (t7.frame.tr Rk) YE).up (by lia)
     have FD:((S3.cr c).d=(S3.bl b).d∨ex=false)->Ct [.ref sd,.int (c:Int),.int (b:Int),.int (if(S3.bl b).d < (S3.cr c).d then(S3.bl b).d else(S3.cr c).d)] H7 (fun _ H'=> ∃x5 x6 x7:Option V,[some (V.ref sd),some (.str aH),some (.int (ms.length:Int)),some (.bl ex),some (.int (c:Int)),some (.int (b:Int)),some (.int (S3.cr c).d),some (.int (S3.bl b).d)]=[some (.ref sd),some (.str aH),some (.int (ms.length:Int)),some (.bl ex),some (.int (c:Int)),x5,x6,x7]/\Ai H5 sd S g H' (bu ex c S3 b) (i * 4096 + j * 64 + (l + 1))) (fun _ _ _=>False):=fun z=>
      ⟨sd,S3,g,c,b,_,rfl,L7,by lia,by lia,by lia,fun H' Rk YE=>TY z H' Rk YE⟩
     refine⟨_,rfl,_,rfl,rfl,_,rfl,cH (fun d3=>fU ?_) (fun d3=>?_)⟩
     ·have d3':(S3.cr c).d=(S3.bl b).d:=by have:=a6 d3; injection this
      exact⟨_,rfl,_,rfl,_,rfl,_,rfl,_,rfl,_,_,rfl,FD (.inl d3')⟩
     ·refine⟨_,rfl,_,rfl,cH (fun d4=>?_) (fun d4=>no (fun z=>?_) _ t7)⟩
      ·have d4':ex=false:=by simpa using d4
       exact⟨_,rfl,_,rfl,_,rfl,_,rfl,_,rfl,_,_,rfl,FD (.inr d4')⟩
      ·rcases z.2.2 with z|z
       ·exact d3 (aK (by rw[z]))
       ·exact d4 (by rw[z]; rfl)
    ·rintro σ H6 ⟨x5,x6,x7,rfl,L⟩
     rw[ae,aZ] at L
     exact⟨_,_,_,_,rfl,(J.back t5 L).up (by lia)⟩
   ·rintro σ H4 ⟨x4,x5,x6,x7,rfl,J⟩
    rw[ae,aZ] at J
    exact⟨_,_,_,_,_,rfl,(I.back t3 J).up (by lia)⟩
  ·rintro σ H2 ⟨x3,x4,x5,x6,x7,rfl,I⟩
   have XD:([true,false].take ([true,false].map V.bl).length).foldl (bN aH) S=S.dv aH:=rfl
   rw[XD] at I
   obtain⟨Lo,k1,k2⟩:=I.bk.hm
   refine⟨_,rfl,sd,_,rfl,I.bk.gM,_,rfl,_,rfl,g.pm,Lo,rfl,bG.of k1,fun p np=>?_⟩
   have tp:=aF.new (o:= .lst (mW Lo (some (ms.length:Int)) none)) np
   have hle:ms.length<=Lo.length:=by
    have e0:=aO k2
    obtain⟨_,l,e1,_⟩:=nN S aH
    rw[e1,ax] at e0
    lia
   refine k p (Lo.drop ms.length) _ ((s1.frame.tr I.fr).cU tp) (I.bk.same tp) ?_ ?_ ?_
   ·exact s1.free (Frame.free I.fr (I.bk.uF np) np)
   ·rw[ag,sT _ _ hle]
   ·rw[YD]
    exact k8 _ (k2.mono tp.tk)
inductive uG (A:ee)(vs:List V)(H:Hp)(Q:VK)(E':XK):Prop
 |mk (x dx:Addr)(h1:vs=[.ref x])(h2:H x=some (.ins A.work dx []))(h3: ∀f H',Frame [x] H H'->dJ A H' x Bk.new f->(∀b∈f.fp,H b=none)->Q .eF H'):uG A vs H Q E'
theorem Kd (f:eX):eO "made" (.ref f.pm) (eO "frees" (.ref f.pf) (eO "lefts" (.ref f.pl) (eO "all_credits" (.ref f.pc) (eO "bills" (.ref f.pb) []))))=lR f:=by rfl
theorem Cv {H Hk:Hp}{x dx p C:Addr}{fs:List (Str×V)}{f:Str}(F:Frame [x] H Hk)(hx:Hk x=some (.ins C dx fs))(n:Hk p=none):p≠x/\H p=none/\Frame [x] H (upd (upd Hk p (.lst [])) x (.ins C dx (eO f (.ref p) fs)))/\
  upd (upd Hk p (.lst [])) x (.ins C dx (eO f (.ref p) fs)) x=some (.ins C dx (eO f (.ref p) fs))/\upd (upd Hk p (.lst [])) x (.ins C dx (eO f (.ref p) fs)) p=some (.lst [])/\
  (∀q o,q≠x->Hk q=some o->upd (upd Hk p (.lst [])) x (.ins C dx (eO f (.ref p) fs)) q=some o/\q≠p):=by
 have ne:p≠x:=(aJ hx n).symm
 refine⟨ne,F.free (by simpa using ne) n,(F.tr (aF.new n).frame).tr (Frame.upd (by simp)),ag,by rw[az ne,ag],fun q o hq e=>⟨?_,aJ e n⟩⟩
 rw[az hq]
 exact aF.new n _ _ e
theorem MN:aU ["self"] ["self"] (aA (mem 25 0)):={}
theorem Ke {A:ee}(G:jO K mg A):uo P w K mg base "Work" A.work 1 ["self"] (uG A):=by
 refine MG (k:=0) G.MC G.MB MN (fun f cY A' outer s H vs Q E hr h=>?_)
 ·obtain⟨x,dx,rfl,hx,k⟩:=h
  refine⟨_,(ai (fZ (pv 0) (bS aw) rfl)
(ai (fZ (pv 0) (bS aw) rfl)
(ai (fZ (pv 0) (bS aw) rfl)
(ai (fZ (pv 0) (bS aw) rfl)
(av (fZ (pv 0) (bS aw) rfl)))))),?_⟩
  have F0:Frame [x] H H:=Frame.refl
  refine⟨bq _,fun p1 n1=>⟨_,rfl,x,_,dx,_,rfl,aF.new n1 _ _ hx,G.bI,G.d8,lt1000 Cn (by decide),?_⟩⟩
  obtain⟨ne1,f1,F1,x1,g1,t1⟩:=Cv (f:="bills") F0 hx n1
  generalize hH1:upd (upd H p1 (.lst [])) x (.ins A.work dx (eO "bills" (.ref p1) _))=H1 at F1 x1 g1
  clear hH1 t1
  refine⟨bq _,fun p2 n2=>⟨_,rfl,x,_,dx,_,rfl,aF.new n2 _ _ x1,G.bI,G.cG,lt1000 (pl Cn) (by decide),?_⟩⟩
  obtain⟨ne2,f2,F2,x2,g2,t2⟩:=Cv (f:="all_credits") F1 x1 n2
  obtain⟨g1,TZ⟩:=t2 p1 _ ne1 g1
  generalize VR:upd (upd H1 p2 (.lst [])) x (.ins A.work dx (eO "all_credits" (.ref p2) _))=H2 at F2 x2 g1 g2
  clear VR t2
  refine⟨bq _,fun p3 n3=>⟨_,rfl,x,_,dx,_,rfl,aF.new n3 _ _ x2,G.bI,G.fM,lt1000 (pl (pl Cn)) (by decide),?_⟩⟩
  obtain⟨ne3,f3,F3,x3,g3,t3⟩:=Cv (f:="lefts") F2 x2 n3
  obtain⟨g1,T2⟩:=t3 p1 _ ne1 g1
  obtain⟨g2,T3⟩:=t3 p2 _ ne2 g2
  generalize Rx:upd (upd H2 p3 (.lst [])) x (.ins A.work dx (eO "lefts" (.ref p3) _))=H3 at F3 x3 g1 g2 g3
  clear Rx t3
  refine⟨bq _,fun p4 n4=>⟨_,rfl,x,_,dx,_,rfl,aF.new n4 _ _ x3,G.bI,G.fN,lt1000 (pl (pl (pl Cn))) (by decide),?_⟩⟩
  obtain⟨ne4,f4,F4,x4,g4,t4⟩:=Cv (f:="frees") F3 x3 n4
  obtain⟨g1,T4⟩:=t4 p1 _ ne1 g1
  obtain⟨g2,T5⟩:=t4 p2 _ ne2 g2
  obtain⟨g3,T6⟩:=t4 p3 _ ne3 g3
  generalize hH4:upd (upd H3 p4 (.lst [])) x (.ins A.work dx (eO "frees" (.ref p4) _))=H4 at F4 x4 g1 g2 g3 g4
  clear hH4 t4
  refine⟨bq _,fun p5 n5=>⟨_,rfl,x,_,dx,_,rfl,aF.new n5 _ _ x4,G.bI,G.mB,lt1000 (pl (pl (pl (pl Cn)))) (by decide),?_⟩⟩
  obtain⟨ne5,f5,F5,x5,g5,t5⟩:=Cv (f:="made") F4 x4 n5
  obtain⟨g1,T7⟩:=t5 p1 _ ne1 g1
  obtain⟨g2,T8⟩:=t5 p2 _ ne2 g2
  obtain⟨g3,T9⟩:=t5 p3 _ ne3 g3
  obtain⟨g4,Ua⟩:=t5 p4 _ ne4 g4
  refine k ⟨p1,p2,p3,p4,p5,[],[]⟩ _ F5 ⟨⟨dx,?_⟩,g1,g2,g3,g4,⟨[],g5,.nil⟩,⟨rfl,fun i p e=>by simp at e⟩,⟨rfl,fun i p e=>by simp at e⟩,?_⟩ ?_
  ·rw[x5]
   exact cV (fun z=>some (HO.ins A.work dx z)) (Kd ⟨p1,p2,p3,p4,p5,[],[]⟩)
  ·simp[eX.fp,TZ,T2,T4,T7,T3,T5,T8,T6,T9,Ua]
  ·intro b hb
   simp only[eX.fp,List.mem_cons,List.not_mem_nil,or_false] at hb
   rcases hb with rfl|rfl|rfl|rfl|rfl
   ·exact f1
   ·exact f2
   ·exact f3
   ·exact f4
   ·exact f5
def iT (A:ee)(H:Hp)(S:Bk)(bs:List Nat)(qs:List Addr):Prop:=Paired (fun(b:Nat) q=>eK H q A.dP (fL b (S.bl b))) bs qs
def gX (A:ee)(H:Hp)(S:Bk)(cs:List Nat)(qs:List Addr):Prop:=Paired (fun(c:Nat) q=>eK H q A.eh (fz c (S.cr c))) cs qs
theorem iT.same {A:ee}{H H':Hp}{S:Bk}{bs:List Nat}{qs:List Addr}(h:iT A H S bs qs)(s:aF H H'):iT A H' S bs qs:=Paired.g8 h fun _ _ z=>z.same s
theorem gX.same {A:ee}{H H':Hp}{S:Bk}{bs:List Nat}{qs:List Addr}(h:gX A H S bs qs)(s:aF H H'):gX A H' S bs qs:=Paired.g8 h fun _ _ z=>z.same s
inductive Kf (A:ee)(vs:List V)(H:Hp)(Q:VK)(E':XK):Prop
 |mk (p pt:Addr)(S:Bk)(c:Nat)(bs:List Nat)(qs:List Addr)(h1:vs=[.ref p,.ref pt])(h2:eK H p A.eh (fz c (S.cr c)))(h3:H pt=some (.lst (qs.map V.ref)))(h4:iT A H S bs qs)(h5:bs.length<=100)(h6: ∀D H',aF H H'->H D=none->H' D=some (.lst ((bs.map fun b=>pG (S.cr c) (S.bl b) b).map V.bl))->Q (.ref D) H'):Kf A vs H Q E'
theorem vW:aU ["credit","bills"] ["credit","bills"] (aA (top 27)):={}
theorem xG (T:Txt K mg){A:ee}(G:jO K mg A):fC P w K mg base "row_of_fits" 2 ["credit","bills"] (Kf A):=by
 have Ek:fC P w K mg base "fits" 1 ["credit","bill"] (zZ A):=JW T G
 refine T.xp.fV (k:=1) vW (fun f cY A' outer s H vs Q E hr h=>?_)
 ·obtain⟨p,pt,S,c,bs,qs,rfl,hp,wO,hB,hl,k⟩:=h
  have hlen:=aO hB
  refine⟨_,(av (a9 (iK (tn:=["bill"]) (cn:=["credit"]) (cj:=[0]) rfl (iL (zo:=[(".0",.local),("bill",.local),("fits",.globalImplicit),("credit",.cell)])) (cI (pv 1)) (fun _ _ _ _=>(eG (i:=0) (show(["bill","credit"]:List Str).Nodup by decide +kernel) rfl (Or.inl rfl))) (fun _ _ _ _=>lq) (fun _ _ _ _=>(fc Ek hr (aa (pv 1) (aa (pv 0) aw))))))),?_⟩
  refine⟨_,rfl,pt,rfl,⟨_,bG.of wO⟩,?_⟩
  refine dX (K:=K) (a:=pt) (xs:=qs.map V.ref) (fun D i σ H6=>H D=none/\ ∃v,σ=[v,some (.ref p)]/\aF H H6/\H6 D=some (.lst (((bs.take i).map fun b=>pG (S.cr c) (S.bl b) b).map V.bl))) (fun D hD=>⟨hD,none,rfl,aF.new hD,ag⟩) (fun D i σ H6 _ ⟨_,_,_,t3,_⟩=>bG.of (t3 _ _ wO)) ?_ ?_
  ·rintro D i x σ H6 hx ⟨hD,v,rfl,t3,iE⟩
   rw[aC] at hx
   obtain⟨q,hq,rfl⟩:=a8.mp hx
   have hi:i < bs.length:=by have:=(ah.mp hq).1; lia
   obtain⟨q',tI,lY⟩:=bK hB (af hi)
   rw[hq] at tI
   obtain rfl:q=q':=aG tI
   have qe:=gZ hi
   generalize bs[i]=b at lY qe
   refine⟨_,rfl,_,rfl,p,q,c,b,_,_,rfl,hp.same t3,lY.same t3,_,iE,bf (by rw[ae,ae,ba]; lia),hD,_,rfl,t3.dr hD,?_⟩
   rw[ag,qe,aL,aL]
   rfl
  ·rintro D σ H6 hD ⟨_,v,rfl,t3,iE⟩
   refine k D H6 t3 hD ?_
   rw[iE,ae,← hlen,aZ]
def bg.vs:bg->List V
 | .dP w d u a=>[.str "bill",.str w,.int d,.int u,.int a]
 | .pF w d a=>[.str "pay",.str w,.int d,.int a]
 | .note b d a=>[.str "note",.int b,.int d,.int a]
 | .set c b a=>[.str "set",.int c,.int b,.int a]
 | .bU w=>[.str "sweep",.str w]
 | .iC n=>[.str "undo",.int n]
 | .ask o w d=>[.str (if o then "owed" else "free"),.str w,.int d]
 | .il _ _ _=>[]
theorem jQ {x y:Str}(h:x≠y):V.bl (decide (V.str x=V.str y))=V.bl false:=cV V.bl (bL fun z=>h (by injection z))
theorem A8 (x:Str):V.bl (decide (V.str x=V.str x))=V.bl true:=cV V.bl (aK rfl)
theorem Ub {x y:Str}(h:x≠y):V.bl (!decide (V.str x=V.str y))=V.bl true:=by rw[show decide (V.str x=V.str y)=false from bL fun z=>h (by injection z)]; rfl
theorem btN (x:Str):V.bl (!decide (V.str x=V.str x))=V.bl false:=by rw[show decide (V.str x=V.str x)=true from aK rfl]; rfl
theorem vX {x:Int}{n:Nat}{ta tc:TE}{σ:L2.St}{H:Hp}{Q:Bool->Hp->Prop}(ha: ∀R:VK,R (.int x) H->ta σ H R)(hc: ∀R:VK,R (.int (n:Int)) H->tc σ H R)(q:Q (decide (qL x n)) H):
  IM (IP (Lc fun i j=> .bl (decide (i<=j))) (Lc fun i j=> .bl (decide (i < j))) (tC (.int 0)) ta tc) σ H Q:=by
 refine ha _ ⟨_,_,rfl,rfl,_,rfl,cH (fun d=>hc _ ⟨_,_,rfl,rfl,_,rfl,?_⟩) (fun d=>⟨_,rfl,?_⟩)⟩
 ·have d':(0:Int)<=x:=a6 d
  have e:decide (qL x n)=decide (x < (n:Int)):=mV.mpr ⟨fun z=>z.2,fun z=>⟨d',z⟩⟩
  rw[e] at q
  exact q
 ·have d': ¬ (0:Int)<=x:=fun z=>d (aK z)
  have e:decide (qL x n)=false:=bL fun z=>d' z.1
  rw[e] at q
  exact q
inductive vY (vs:List V)(H:Hp)(Q:VK)(E':XK):Prop
 |mk (sd pd:Addr)(S:Bk)(f:fP)(d:bg)(h1:vs=[.ref sd,.ref pd])(h2:dA H sd S f)(h3:H pd=some (.tup (bg.vs d)))(h4:d.tells=true)(h5: ∀H',aF H H'->Q (.str (S.bar d)) H'):vY vs H Q E'
theorem om:aU ["_law_state","_law_deed","_law_word","_law_spot"] ["_law_state","_law_deed"] (aA (top 58)):={}
theorem xH (T:Txt K mg):fC P w K mg base "_law_barred" 2 ["_law_state","_law_deed"] vY:=by
 have jv:fC P w K mg base "_law_goes" 1 ["_law_state","_law_credit","_law_bill"] Af:=oh T
 refine T.xy.fV (k:=1) om (fun f cY A outer s H vs Q E hr h=>?_)
 ·obtain⟨sd,pd,S,g,d,rfl,hB,hd,ht,k⟩:=h
  have hu:=kW hr
  have nd:=om.nd
  refine⟨_,(ai (sv 2 nd (xt (pv 1) aj))
(ai (sv 3 nd (iw lI (by rfl) T.yE boot_int (aa (fQ dh (pv 2) aR (bb _)) aw)))
(ai (bT (PW.pt (pw_and (a0 dh (pv 3) aj (bb _)) (pw_and1 (jC (Bq yg kN aj (xt (pv 1) aj) (oP T.eJ (cJ hu (pv 0) aR (fun _ _=>rfl))))))))
(av (a9 aR))
bp)
(ai (bT (PW.pt (pw_and (a0 oM (pv 2) (bS (aa aR (aa aR aw))) (by rfl)) (pw_and1 (jC (Bq yg kN aj (xt (pv 1) (aQ dk aj (pv 3))) (oP T.eJ (cJ hu (pv 0) aR (fun _ _=>rfl))))))))
(av (a9 aR))
bp)
(ai (bT (PW.pt (pw_and (a0 dh (pv 2) aR (bb _)) (pw_and1 (jC (fR (fc jv hr (aa (pv 0) (aa (xt (pv 1) aj) (aa (xt (pv 1) aj) aw)))))))))
(av (a9 aR))
bp)
(ai (bT (PW.pt (pw_and (a0 qT (pv 2) aR (bb _)) (pw_and1 (a0 kN (xt (pv 1) (pC lj aj)) aj (bb _)))))
(av (a9 aR))
bp)
(ai (bT (PW.pt (pw_and (a0 dh (pv 2) aR (bb _)) (pw_and1 (a0 kN (xt (pv 1) aj) (xt (pv 1) aj) (bb _)))))
(av (a9 aR))
bp)
(ai (bT (a0 dh (pv 2) aR (bb _))
(av (bT (a0 jH (xt (pv 1) aj) (dm (sE rfl) (by rfl) T.JM boot_min (aa (xl (xl (cJ hu (pv 0) aR (fun _ _=>rfl)) (xt (pv 1) aj)) aj) (aa (xl (xl (cJ hu (pv 0) aR (fun _ _=>rfl)) (xt (pv 1) aj)) aj) aw))) (bb _))
(av (a9 aR))
bp))
bp)
(av (a9 aR)))))))))),?_⟩
  have kk: ∀(t:Str) (H':Hp),S.bar d=t->aF H H'->Q (.str t) H':=fun t H' e z=>e▸k H' z
  clear k
  cases d with
  |iC n=>cases ht
  |ask o w d=>cases ht
  |il w d l=>cases ht
  |dP wh dy du am=>
   refine⟨_,rfl,pd,_,_,.str "bill",rfl,rfl,cF.of hd,rfl,_,rfl,rfl,.inr ⟨false,(by rw[jQ (show("bill":Str)≠"set" by decide +kernel)]),?_⟩⟩
   refine⟨_,rfl,rfl,false,cV V.bl (by decide +kernel),bX (bX ?_)⟩
   refine⟨_,rfl,(by show 2<=sizeLine; decide),fun p9 n9=>⟨p9,_,rfl,.inl (bG.of ag),rfl,rfl,false,cV V.bl (by decide +kernel),bX (bX ?_)⟩⟩
   have s9:=aF.new (o:= .lst [V.str "set",.str "note"]) n9
   have Cw:=s9 _ _ hd
   refine jP (H':=upd H p9 (.lst [V.str "set",.str "note"])) rfl ?_
   generalize upd H p9 (.lst [V.str "set",.str "note"])=H9 at s9 Cw
   refine⟨_,rfl,rfl,false,jQ (show("bill":Str)≠"set" by decide +kernel),bX (bX ?_)⟩
   refine⟨_,rfl,rfl,true,Ub (show("bill":Str)≠"sweep" by decide +kernel),fU ⟨_,rfl,_,rfl,pd,_,_,.int am,rfl,rfl,cF.of Cw,rfl,_,_,rfl,rfl,_,rfl,cH (fun z=>?_) (fun z=>?_)⟩⟩
   ·have z':am < 1:=a6 z
    exact kk _ _ (aY z') s9
   have z1: ¬ am < 1:=fun q=>z (aK q)
   refine⟨_,rfl,rfl,true,A8 _,fU ⟨_,rfl,pd,_,_,.int du,rfl,rfl,cF.of Cw,rfl,_,rfl,pd,_,_,.int dy,rfl,rfl,cF.of Cw,rfl,_,_,rfl,rfl,_,rfl,cH (fun z=>?_) (fun z=>?_)⟩⟩
   ·have z':du < dy:=a6 z
    exact kk _ _ ((aN z1).trans (aY z')) s9
   have z2: ¬ du < dy:=fun q=>z (aK q)
   refine⟨_,rfl,rfl,false,jQ (show("bill":Str)≠"set" by decide +kernel),bX ?_⟩
   exact kk _ _ ((aN z1).trans (aN z2)) s9
  |pF wh dy am=>
   refine⟨_,rfl,pd,_,_,.str "pay",rfl,rfl,cF.of hd,rfl,_,rfl,rfl,.inr ⟨false,(by rw[jQ (show("pay":Str)≠"set" by decide +kernel)]),?_⟩⟩
   refine⟨_,rfl,rfl,false,cV V.bl (by decide +kernel),bX (bX ?_)⟩
   refine⟨_,rfl,(by show 2<=sizeLine; decide),fun p9 n9=>⟨p9,_,rfl,.inl (bG.of ag),rfl,rfl,false,cV V.bl (by decide +kernel),bX (bX ?_)⟩⟩
   have s9:=aF.new (o:= .lst [V.str "set",.str "note"]) n9
   have Cw:=s9 _ _ hd
   refine jP (H':=upd H p9 (.lst [V.str "set",.str "note"])) rfl ?_
   generalize upd H p9 (.lst [V.str "set",.str "note"])=H9 at s9 Cw
   refine⟨_,rfl,rfl,false,jQ (show("pay":Str)≠"set" by decide +kernel),bX (bX ?_)⟩
   refine⟨_,rfl,rfl,true,Ub (show("pay":Str)≠"sweep" by decide +kernel),fU ⟨_,rfl,_,rfl,pd,_,_,.int am,rfl,rfl,cF.of Cw,rfl,_,_,rfl,rfl,_,rfl,cH (fun z=>?_) (fun z=>?_)⟩⟩
   ·have z':am < 1:=a6 z
    exact kk _ _ (aY z') s9
   have z1: ¬ am < 1:=fun q=>z (aK q)
   refine⟨_,rfl,rfl,false,jQ (show("pay":Str)≠"bill" by decide +kernel),bX (bX ?_)⟩
   refine⟨_,rfl,rfl,false,jQ (show("pay":Str)≠"set" by decide +kernel),bX ?_⟩
   exact kk _ _ (aN z1) s9
  |bU wh=>
   refine⟨_,rfl,pd,_,_,.str "sweep",rfl,rfl,cF.of hd,rfl,_,rfl,rfl,.inr ⟨false,(by rw[jQ (show("sweep":Str)≠"set" by decide +kernel)]),?_⟩⟩
   refine⟨_,rfl,rfl,false,cV V.bl (by decide +kernel),bX (bX ?_)⟩
   refine⟨_,rfl,(by show 2<=sizeLine; decide),fun p9 n9=>⟨p9,_,rfl,.inl (bG.of ag),rfl,rfl,false,cV V.bl (by decide +kernel),bX (bX ?_)⟩⟩
   have s9:=aF.new (o:= .lst [V.str "set",.str "note"]) n9
   refine jP (H':=upd H p9 (.lst [V.str "set",.str "note"])) rfl ?_
   generalize upd H p9 (.lst [V.str "set",.str "note"])=H9 at s9
   refine⟨_,rfl,rfl,false,jQ (show("sweep":Str)≠"set" by decide +kernel),bX (bX ?_)⟩
   refine⟨_,rfl,rfl,false,btN _,bX (bX ?_)⟩
   refine⟨_,rfl,rfl,false,jQ (show("sweep":Str)≠"bill" by decide +kernel),bX (bX ?_)⟩
   refine⟨_,rfl,rfl,false,jQ (show("sweep":Str)≠"set" by decide +kernel),bX ?_⟩
   exact kk _ _ rfl s9
  |note bi dy am=>
   refine⟨_,rfl,pd,_,_,.str "note",rfl,rfl,cF.of hd,rfl,_,rfl,rfl,.inr ⟨false,(by rw[jQ (show("note":Str)≠"set" by decide +kernel)]),?_⟩⟩
   refine⟨_,rfl,rfl,false,cV V.bl (by decide +kernel),bX (bX ?_)⟩
   refine⟨_,rfl,(by show 2<=sizeLine; decide),fun p9 n9=>⟨p9,_,rfl,.inl (bG.of ag),rfl,rfl,true,cV V.bl (by decide +kernel),fU ?_⟩⟩
   have s9:=aF.new (o:= .lst [V.str "set",.str "note"]) n9
   have Cw:=s9 _ _ hd
   have B9:=hB.same s9
   generalize upd H p9 (.lst [V.str "set",.str "note"])=H9 at s9 Cw B9
   have hlen:g.iP.length=S.aE.length:=B9.rb.length.symm
   refine vX (x:=bi) (n:=S.aE.length) (fun R q=>⟨_,rfl,_,rfl,_,_,rfl,rfl,pd,_,_,.int bi,rfl,rfl,cF.of Cw,rfl,q⟩) (fun R q=>⟨_,rfl,sd,_,rfl,B9.gB,g.pb,_,rfl,.inl (bG.of B9.hb),by rw[ae,hlen]; exact q⟩) (cH (fun z=>?_) (fun z=>?_))
   ·have z': ¬ qL bi S.aE.length:=by simpa using z
    exact kk _ _ (aY z') s9
   have z0: ¬ ¬ qL bi S.aE.length:=by simpa using z
   refine⟨_,rfl,rfl,false,jQ (show("note":Str)≠"set" by decide +kernel),bX (bX ?_)⟩
   refine⟨_,rfl,rfl,true,Ub (show("note":Str)≠"sweep" by decide +kernel),fU ⟨_,rfl,_,rfl,pd,_,_,.int am,rfl,rfl,cF.of Cw,rfl,_,_,rfl,rfl,_,rfl,cH (fun z=>?_) (fun z=>?_)⟩⟩
   ·have z':am < 1:=a6 z
    exact kk _ _ ((aN z0).trans (aY z')) s9
   have z1: ¬ am < 1:=fun q=>z (aK q)
   refine⟨_,rfl,rfl,false,jQ (show("note":Str)≠"bill" by decide +kernel),bX (bX ?_)⟩
   refine⟨_,rfl,rfl,false,jQ (show("note":Str)≠"set" by decide +kernel),bX ?_⟩
   exact kk _ _ ((aN z0).trans (aN z1)) s9
  |set ci bi am=>
   have YF:g.cps.length=S.credits.length:=hB.rc.length.symm
   refine⟨_,rfl,pd,_,_,.str "set",rfl,rfl,cF.of hd,rfl,_,rfl,rfl,.inr ⟨true,(by rw[A8]),?_⟩⟩
   refine⟨_,rfl,rfl,true,cV V.bl (by decide +kernel),fU ?_⟩
   refine vX (x:=ci) (n:=S.credits.length) (fun R q=>⟨_,rfl,pd,_,_,.int ci,rfl,rfl,cF.of hd,rfl,q⟩) (fun R q=>⟨_,rfl,sd,_,rfl,hB.gC,g.pc,_,rfl,.inl (bG.of hB.hc),by rw[ae,YF]; exact q⟩) (cH (fun z=>?_) (fun z=>?_))
   ·have z': ¬ qL ci S.credits.length:=by simpa using z
    exact kk _ _ (aY z') (aF.refl _)
   have zc: ¬ ¬ qL ci S.credits.length:=by simpa using z
   refine⟨_,rfl,(by show 2<=sizeLine; decide),fun p9 n9=>⟨p9,_,rfl,.inl (bG.of ag),rfl,rfl,true,cV V.bl (by decide +kernel),fU ?_⟩⟩
   have s9:=aF.new (o:= .lst [V.str "set",.str "note"]) n9
   have Cw:=s9 _ _ hd
   have B9:=hB.same s9
   generalize upd H p9 (.lst [V.str "set",.str "note"])=H9 at s9 Cw B9
   have hlen:g.iP.length=S.aE.length:=B9.rb.length.symm
   refine vX (x:=bi) (n:=S.aE.length) (fun R q=>⟨_,rfl,_,rfl,_,_,rfl,rfl,pd,_,_,.int bi,rfl,rfl,cF.of Cw,rfl,q⟩) (fun R q=>⟨_,rfl,sd,_,rfl,B9.gB,g.pb,_,rfl,.inl (bG.of B9.hb),by rw[ae,hlen]; exact q⟩) (cH (fun z=>?_) (fun z=>?_))
   ·have z': ¬ qL bi S.aE.length:=by simpa using z
    exact kk _ _ ((aN zc).trans (aY z')) s9
   have zb: ¬ ¬ qL bi S.aE.length:=by simpa using z
   have ic:=Gg.mp zc
   have ib:=Gg.mp zb
   obtain⟨c,rfl⟩:=cD ic.1
   obtain⟨b,rfl⟩:=cD ib.1
   have hc:c < S.credits.length:=by have:=ic.2; lia
   have hb:b < S.aE.length:=by have:=ib.2; lia
   refine⟨_,rfl,rfl,true,A8 _,fU ⟨_,rfl,_,rfl,pd,_,_,.int (c:Int),rfl,rfl,cF.of Cw,rfl,_,rfl,pd,_,_,.int (b:Int),rfl,rfl,cF.of Cw,rfl,sd,S,g,c,b,rfl,B9,hc,hb,fun Uc Kg=>⟨_,rfl,cH (fun z=>?_) (fun z=>?_)⟩⟩⟩
   ·have z':S.df c b=false:=by simpa using z
    exact kk _ _ ((if_neg zc).trans ((if_neg zb).trans (if_pos (by simpa using z')))) (s9.trans Kg)
   have zg: ¬ S.df (c:Int).toNat (b:Int).toNat=false:=by simpa using z
   have MO:=Kg _ _ Cw
   have Ry:=B9.same Kg
   have Cy:=s9.trans Kg
   refine⟨_,rfl,rfl,true,Ub (show("set":Str)≠"sweep" by decide +kernel),fU ⟨_,rfl,_,rfl,pd,_,_,.int am,rfl,rfl,cF.of MO,rfl,_,_,rfl,rfl,_,rfl,cH (fun z=>?_) (fun z=>?_)⟩⟩
   ·have z':am < 1:=a6 z
    exact kk _ _ ((aN zc).trans ((aN zb).trans ((aN zg).trans (aY z')))) Cy
   have z1: ¬ am < 1:=fun q=>z (aK q)
   refine⟨_,rfl,rfl,false,jQ (show("set":Str)≠"bill" by decide +kernel),bX (bX ?_)⟩
   obtain⟨p,_,ap,hp⟩:=Ry.lc hc
   obtain⟨q,_,aq,hq⟩:=Ry.lb hb
   refine⟨_,rfl,rfl,true,A8 _,fU ?_⟩
   refine⟨_,rfl,pd,_,_,.int am,rfl,rfl,cF.of MO,rfl,_,rfl,sd,_,rfl,Ry.gC,_,rfl,pd,_,_,.int (c:Int),rfl,rfl,cF.of MO,rfl,g.pc,_,_,.ref p,rfl,rfl,bG.of Ry.hc,ap,p,_,_,.int (S.cr c).d,rfl,rfl,bG.of hp,rfl,?_⟩
   refine⟨_,rfl,sd,_,rfl,Ry.gB,_,rfl,pd,_,_,.int (b:Int),rfl,rfl,cF.of MO,rfl,g.pb,_,_,.ref q,rfl,rfl,bG.of Ry.hb,aq,q,_,_,.int (S.bl b).d,rfl,rfl,bG.of hq,rfl,_,_,rfl,_,_,rfl,rfl,_,rfl,cH (fun z=>?_) (fun z=>?_)⟩
   ·have z':eW (S.cr (c:Int).toNat).d (S.bl (b:Int).toNat).d < am:=a6 z
    exact kk _ _ ((aN zc).trans ((aN zb).trans ((aN zg).trans ((aN z1).trans (aY z'))))) Cy
   ·have z': ¬ eW (S.cr (c:Int).toNat).d (S.bl (b:Int).toNat).d < am:=fun q=>z (aK q)
    exact kk _ _ ((aN zc).trans ((aN zb).trans ((aN zg).trans ((aN z1).trans (aN z'))))) Cy
def P2 (H:Hp)(f f':fP):Prop:= ∀x∈f'.fp,x∈f.fp∨H x=none
def YG (Q:VK)(H:Hp)(sd:Addr)(S:Bk)(f:fP)(d:bg):Prop:=
 ∀v f' H',Frame f.fp H H'->dA H' sd (S.enter d) f'->P2 H f f'->Rp H' (S.Jw d).dt v->Q v H'
inductive uH (vs:List V)(H:Hp)(Q:VK)(E':XK):Prop
 |mk (sd pd:Addr)(S:Bk)(f:fP)(d:bg)(h1:vs=[.ref sd,.ref pd])(h2:dA H sd S f)(h3:H pd=some (.tup (bg.vs d)))(h4:d.tells=true)(h5:S.credits.length < 64)(h6:S.aE.length < 64)(h7:S.made.length + 10000 < sizeLine)(h8:(S.bar d≠""-> ∀H',aF H H'->Q (.str (S.bar d)) H'))(h9:(S.bar d=""->YG Q H sd S f d)):uH vs H Q E'
theorem pK:aU ["_law_state","_law_deed","_law_text","_law_who"] ["_law_state","_law_deed"] (aA (top 59)):={}
theorem rN (T:Txt K mg):fC P w K mg base "_law_enter" 3 ["_law_state","_law_deed"] uH:=by
 have xI:fC P w K mg base "_law_barred" 2 ["_law_state","_law_deed"] vY:=xH T
 have qx:fC P w K mg base "_law_put" 1 ["_law_state","_law_credit","_law_bill","_law_amount"] Ct:=vT T
 have mC:fC P w K mg base "_law_swept" 2 ["_law_state","_law_who"] Aj:=rM T
 refine T.zM.fV (k:=2) pK (fun f cY A outer s H vs Q E hr h=>?_)
 ·obtain⟨sd,pd,S,g,d,rfl,hB,hd,ht,rq,HA,Iy,kn,ky⟩:=h
  have hu:=kW hr
  have nd:=pK.nd
  refine⟨_,(ai (sv 2 nd (fc xI hr (aa (pv 0) (aa (pv 1) aw))))
(ai (bT (a0 qT (pv 2) aR (bb _))
(av (a9 (pv 2)))
bp)
(ai (bT (a0 dh (xt (pv 1) aj) aR (bb _))
(ai (bM (qu (cJ hu (pv 0) aR (fun _ _=>rfl)) (bS (aa (xt (pv 1) aj) (aa (xt (pv 1) aj) (aa (xt (pv 1) aj) (aa (xt (pv 1) aj) (aa (xt (pv 1) aj) aw))))))))
(av (a9 (aQ fS (oP T.eJ (cJ hu (pv 0) aR (fun _ _=>rfl))) aj))))
bp)
(ai (bT (a0 dh (xt (pv 1) aj) aR (bb _))
(ai (bM (qu (cJ hu (pv 0) aR (fun _ _=>rfl)) (bS (aa (xt (pv 1) aj) (aa (xt (pv 1) aj) (aa (xt (pv 1) aj) (aa (pC lj aj) (aa (xt (pv 1) aj) aw))))))))
(av (a9 (aQ fS (oP T.eJ (cJ hu (pv 0) aR (fun _ _=>rfl))) aj))))
bp)
(ai (bT (a0 dh (xt (pv 1) aj) aR (bb _))
(ai (sv 3 nd (xl (xl (cJ hu (pv 0) aR (fun _ _=>rfl)) (xt (pv 1) aj)) aj))
(ai (bM (qu (cJ hu (pv 0) aR (fun _ _=>rfl)) (bS (aa (pv 3) (aa (xt (pv 1) aj) (aa (xt (pv 1) aj) (aa (xt (pv 1) aj) (aa (xt (pv 1) aj) aw))))))))
(av (a9 (aQ fS (oP T.eJ (cJ hu (pv 0) aR (fun _ _=>rfl))) aj)))))
bp)
(ai (bT (a0 dh (xt (pv 1) aj) aR (bb _))
(ai (bM (fc qx hr (aa (pv 0) (aa (xt (pv 1) aj) (aa (xt (pv 1) aj) (aa (xt (pv 1) aj) aw))))))
(av (a9 (xt (pv 1) aj))))
bp)
(av (a9 (fc mC hr (aa (pv 0) (aa (xt (pv 1) aj) aw))))))))))),?_⟩
  refine⟨_,rfl,_,rfl,sd,pd,S,g,d,rfl,hB,hd,ht,fun H1 s1=>?_⟩
  by_cases px:S.bar d=""
  case neg=>exact⟨_,rfl,rfl,true,Ub px,fU ⟨_,rfl,kn px H1 s1⟩⟩
  refine⟨_,rfl,rfl,false,(by rw[px]; exact btN _),bX ?_⟩
  have B1:=hB.same s1
  have mj:=s1 _ _ hd
  have Ud: ∀v f' H',Frame g.fp H1 H'->dA H' sd (S.enter d) f'->P2 H1 g f'->Rp H' (S.Jw d).dt v->Q v H':=fun v f' H' fr b fi r=>ky px v f' H' (fr.mz s1) b (fun x hx=>(fi x hx).elim .inl fun z=> .inr (s1.free z)) r
  clear ky kn
  have lb:=B1.rb.length
  have lc:=B1.rc.length
  cases d with
  |iC n=>cases ht
  |ask o w d=>cases ht
  |il w d l=>cases ht
  |dP wh dy du am=>
   refine⟨_,rfl,pd,_,_,.str "bill",rfl,rfl,cF.of mj,rfl,rfl,true,A8 _,fU ?_⟩
   refine⟨_,rfl,sd,_,rfl,B1.gB,.inl ⟨rfl,_,bG.of B1.hb⟩,_,rfl,pd,_,_,.str wh,rfl,rfl,cF.of mj,rfl,_,rfl,pd,_,_,.int dy,rfl,rfl,cF.of mj,rfl,_,rfl,pd,_,_,.int du,rfl,rfl,cF.of mj,rfl,_,rfl,pd,_,_,.int am,rfl,rfl,cF.of mj,rfl,_,rfl,pd,_,_,.int am,rfl,rfl,cF.of mj,rfl,(by show 5<=sizeLine; decide),fun pr nr=>?_⟩
   have t1:=aF.new (o:= .lst (Rw.vs ⟨wh,dy,du,am,am⟩)) nr
   refine⟨g.pb,_,_,rfl,rfl,t1 _ _ B1.hb,bf (by rw[ae]; lia),?_⟩
   have B2:=B1.iD (r:=⟨wh,dy,du,am,am⟩) nr
   have F2:Frame g.fp H1 (upd (upd H1 pr (.lst (Rw.vs ⟨wh,dy,du,am,am⟩))) g.pb (.lst (g.iP.map V.ref ++ [.ref pr]))):=t1.frame.tr (Frame.upd (by simp[fP.fp]))
   refine jP (H':=upd (upd H1 pr (.lst (Rw.vs ⟨wh,dy,du,am,am⟩))) g.pb (.lst (g.iP.map V.ref ++ [.ref pr]))) rfl ?_
   generalize upd (upd H1 pr (.lst (Rw.vs ⟨wh,dy,du,am,am⟩))) g.pb (.lst (g.iP.map V.ref ++ [.ref pr]))=H2 at B2 F2
   refine⟨_,rfl,sd,_,rfl,B2.gB,_,_,rfl,.inl (bG.of B2.hb),_,_,rfl,rfl,?_⟩
   refine Ud _ (g.iD pr) H2 F2 B2 (fun x hx=>?_) (dD.mpr ?_)
   ·rcases au.mp ((g.JQ pr).mem_iff.mp hx) with rfl|hx
    ·exact .inr nr
    ·exact .inl hx
   ·show V.int _ =V.int (S.aE.length:Int)
    congr 1
    rw[ae]
    show((g.iP ++ [pr]).length:Int) - 1=_
    rw[ax,lb]
    simp
  |pF wh dy am=>
   refine⟨_,rfl,pd,_,_,.str "pay",rfl,rfl,cF.of mj,rfl,rfl,false,jQ (show("pay":Str)≠"bill" by decide +kernel),bX ?_⟩
   refine⟨_,rfl,pd,_,_,.str "pay",rfl,rfl,cF.of mj,rfl,rfl,true,A8 _,fU ?_⟩
   refine⟨_,rfl,sd,_,rfl,B1.gC,.inl ⟨rfl,_,bG.of B1.hc⟩,_,rfl,pd,_,_,.str wh,rfl,rfl,cF.of mj,rfl,_,rfl,pd,_,_,.int dy,rfl,rfl,cF.of mj,rfl,_,rfl,pd,_,_,.int am,rfl,rfl,cF.of mj,rfl,_,rfl,_,rfl,pd,_,_,.int am,rfl,rfl,cF.of mj,rfl,(by show 5<=sizeLine; decide),fun pr nr=>?_⟩
   have t1:=aF.new (o:= .lst (Rw.vs ⟨wh,dy,am,-1,am⟩)) nr
   refine⟨g.pc,_,_,rfl,rfl,t1 _ _ B1.hc,bf (by rw[ae]; lia),?_⟩
   have B2:=B1.f7 (r:=⟨wh,dy,am,-1,am⟩) nr
   have F2:Frame g.fp H1 (upd (upd H1 pr (.lst (Rw.vs ⟨wh,dy,am,-1,am⟩))) g.pc (.lst (g.cps.map V.ref ++ [.ref pr]))):=t1.frame.tr (Frame.upd (by simp[fP.fp]))
   refine jP (H':=upd (upd H1 pr (.lst (Rw.vs ⟨wh,dy,am,-1,am⟩))) g.pc (.lst (g.cps.map V.ref ++ [.ref pr]))) rfl ?_
   generalize upd (upd H1 pr (.lst (Rw.vs ⟨wh,dy,am,-1,am⟩))) g.pc (.lst (g.cps.map V.ref ++ [.ref pr]))=H2 at B2 F2
   refine⟨_,rfl,sd,_,rfl,B2.gC,_,_,rfl,.inl (bG.of B2.hc),_,_,rfl,rfl,?_⟩
   refine Ud _ (g.f7 pr) H2 F2 B2 (fun x hx=>?_) (dD.mpr ?_)
   ·rcases au.mp ((g.Fw pr).mem_iff.mp hx) with rfl|hx
    ·exact .inr nr
    ·exact .inl hx
   ·show V.int _ =V.int (S.credits.length:Int)
    congr 1
    rw[ae]
    show((g.cps ++ [pr]).length:Int) - 1=_
    rw[ax,lc]
    simp
  |note bi dy am=>
   obtain⟨ib,ia⟩:=oN px
   obtain⟨b,rfl⟩:=cD ib.1
   have hb:b < S.aE.length:=by have:=ib.2; lia
   obtain⟨q,_,aq,hq⟩:=B1.lb hb
   refine⟨_,rfl,pd,_,_,.str "note",rfl,rfl,cF.of mj,rfl,rfl,false,jQ (show("note":Str)≠"bill" by decide +kernel),bX ?_⟩
   refine⟨_,rfl,pd,_,_,.str "note",rfl,rfl,cF.of mj,rfl,rfl,false,jQ (show("note":Str)≠"pay" by decide +kernel),bX ?_⟩
   refine⟨_,rfl,pd,_,_,.str "note",rfl,rfl,cF.of mj,rfl,rfl,true,A8 _,fU ?_⟩
   refine⟨_,rfl,sd,_,rfl,B1.gB,_,rfl,pd,_,_,.int (b:Int),rfl,rfl,cF.of mj,rfl,g.pb,_,_,.ref q,rfl,rfl,bG.of B1.hb,aq,q,_,_,.str (S.bl b).aH,rfl,rfl,bG.of hq,rfl,?_⟩
   refine⟨_,rfl,sd,_,rfl,B1.gC,.inl ⟨rfl,_,bG.of B1.hc⟩,_,rfl,_,rfl,pd,_,_,.int dy,rfl,rfl,cF.of mj,rfl,_,rfl,pd,_,_,.int am,rfl,rfl,cF.of mj,rfl,_,rfl,pd,_,_,.int (b:Int),rfl,rfl,cF.of mj,rfl,_,rfl,pd,_,_,.int am,rfl,rfl,cF.of mj,rfl,(by show 5<=sizeLine; decide),fun pr nr=>?_⟩
   have t1:=aF.new (o:= .lst (Rw.vs ⟨(S.bl b).aH,dy,am,b,am⟩)) nr
   refine⟨g.pc,_,_,rfl,rfl,t1 _ _ B1.hc,bf (by rw[ae]; lia),?_⟩
   have B2:=B1.f7 (r:=⟨(S.bl b).aH,dy,am,b,am⟩) nr
   have F2:Frame g.fp H1 (upd (upd H1 pr (.lst (Rw.vs ⟨(S.bl b).aH,dy,am,b,am⟩))) g.pc (.lst (g.cps.map V.ref ++ [.ref pr]))):=t1.frame.tr (Frame.upd (by simp[fP.fp]))
   refine jP (H':=upd (upd H1 pr (.lst (Rw.vs ⟨(S.bl b).aH,dy,am,b,am⟩))) g.pc (.lst (g.cps.map V.ref ++ [.ref pr]))) rfl ?_
   generalize upd (upd H1 pr (.lst (Rw.vs ⟨(S.bl b).aH,dy,am,b,am⟩))) g.pc (.lst (g.cps.map V.ref ++ [.ref pr]))=H2 at B2 F2
   refine⟨_,rfl,sd,_,rfl,B2.gC,_,_,rfl,.inl (bG.of B2.hc),_,_,rfl,rfl,?_⟩
   refine Ud _ (g.f7 pr) H2 F2 B2 (fun x hx=>?_) (dD.mpr ?_)
   ·rcases au.mp ((g.Fw pr).mem_iff.mp hx) with rfl|hx
    ·exact .inr nr
    ·exact .inl hx
   ·show V.int _ =V.int (S.credits.length:Int)
    congr 1
    rw[ae]
    show((g.cps ++ [pr]).length:Int) - 1=_
    rw[ax,lc]
    simp
  |set ci bi am=>
   obtain⟨ic,ib,_,_,_,_⟩:=lO px
   obtain⟨c,rfl⟩:=cD ic.1
   obtain⟨b,rfl⟩:=cD ib.1
   have hc:c < S.credits.length:=by have:=ic.2; lia
   have hb:b < S.aE.length:=by have:=ib.2; lia
   refine⟨_,rfl,pd,_,_,.str "set",rfl,rfl,cF.of mj,rfl,rfl,false,jQ (show("set":Str)≠"bill" by decide +kernel),bX ?_⟩
   refine⟨_,rfl,pd,_,_,.str "set",rfl,rfl,cF.of mj,rfl,rfl,false,jQ (show("set":Str)≠"pay" by decide +kernel),bX ?_⟩
   refine⟨_,rfl,pd,_,_,.str "set",rfl,rfl,cF.of mj,rfl,rfl,false,jQ (show("set":Str)≠"note" by decide +kernel),bX ?_⟩
   refine⟨_,rfl,pd,_,_,.str "set",rfl,rfl,cF.of mj,rfl,rfl,true,A8 _,fU ?_⟩
   refine⟨_,rfl,_,rfl,pd,_,_,.int (c:Int),rfl,rfl,cF.of mj,rfl,_,rfl,pd,_,_,.int (b:Int),rfl,rfl,cF.of mj,rfl,_,rfl,pd,_,_,.int am,rfl,rfl,cF.of mj,rfl,sd,S,g,c,b,am,rfl,B1,hc,hb,by lia,fun H2 F2 B2=>?_⟩
   have hd2:=B1.tk F2 _ _ mj
   refine⟨_,rfl,pd,_,_,.int am,rfl,rfl,cF.of hd2,rfl,?_⟩
   exact Ud _ g H2 F2 B2 (fun x hx=> .inl hx) (dD.mpr rfl)
  |bU wh=>
   refine⟨_,rfl,pd,_,_,.str "sweep",rfl,rfl,cF.of mj,rfl,rfl,false,jQ (show("sweep":Str)≠"bill" by decide +kernel),bX ?_⟩
   refine⟨_,rfl,pd,_,_,.str "sweep",rfl,rfl,cF.of mj,rfl,rfl,false,jQ (show("sweep":Str)≠"pay" by decide +kernel),bX ?_⟩
   refine⟨_,rfl,pd,_,_,.str "sweep",rfl,rfl,cF.of mj,rfl,rfl,false,jQ (show("sweep":Str)≠"note" by decide +kernel),bX ?_⟩
   refine⟨_,rfl,pd,_,_,.str "sweep",rfl,rfl,cF.of mj,rfl,rfl,false,jQ (show("sweep":Str)≠"set" by decide +kernel),bX ?_⟩
   refine⟨_,rfl,_,rfl,pd,_,_,.str wh,rfl,rfl,cF.of mj,rfl,sd,S,g,wh,rfl,B1,rq,HA,Iy,fun D ms H2 F2 B2 nD hD hT=>?_⟩
   exact Ud _ g H2 F2 B2 (fun x hx=> .inl hx) (ka.mpr ⟨D,ms,rfl,hD,hT.Lm⟩)
def bg.word:bg->Str
 | .dP _ _ _ _=>"bill"
 | .pF _ _ _=>"pay"
 | .note _ _ _=>"note"
 | .set _ _ _=>"set"
 | .bU _=>"sweep"
 | .iC _=>"undo"
 | .ask o _ _=>if o then "owed" else "free"
 | .il _ _ _=>"ages"
theorem uI {d:bg}(h:d.tells=true∨ ∃m,d= .iC m): ∃r,bg.vs d= .str (bg.word d) :: r:=by
 cases d with
 |il w d l=>rcases h with h|⟨m,h⟩ <;> cases h
 |_=>exact⟨_,rfl⟩
theorem FE {d:bg}(h:d.tells=true):xa (.str (bg.word d)) [.str "set",.str "sweep"]=d.isSet:=by
 cases d with
 |dP _ _ _ _=>show xa (.str "bill") _ =false; decide +kernel
 |pF _ _ _=>show xa (.str "pay") _ =false; decide +kernel
 |note _ _ _=>show xa (.str "note") _ =false; decide +kernel
 |set _ _ _=>show xa (.str "set") _ =true; decide +kernel
 |bU _=>show xa (.str "sweep") _ =true; decide +kernel
 |iC _=>cases h
 |ask _ _ _=>cases h
 |il _ _ _=>cases h
def gY (H:Hp)(ss:List (Int×bg))(vs:List V):Prop:=Paired (fun(st:Int×bg) v=> ∃p pd,v= .ref p/\H p=some (.tup [.int st.1,.ref pd])/\H pd=some (.tup (bg.vs st.2))/\st.2.tells=true) ss vs
theorem gY.mono {H H':Hp}{ss:List (Int×bg)}{vs:List V}(h:gY H ss vs)(k:cK H H'):gY H' ss vs:=
 Paired.g8 h fun _ _ ⟨p,pd,e,q1,q2,t⟩=>⟨p,pd,e,k _ _ q1,k _ _ q2,t⟩
inductive vZ (vs:List V)(H:Hp)(Q:VK)(E':XK):Prop
 |mk (ps:Addr)(ss:List (Int×bg))(us:List V)(h1:vs=[.ref ps])(h2:H ps=some (.lst us))(h3:gY H ss us)(h4:ss.length<=59)(h5:(cy ss Bk.new=none-> ∀H',aF H H'->Q .eF H'))(h6:(∀S,cy ss Bk.new=some S-> ∀sd f H',aF H H'->dA H' sd S f->(∀b∈f.fp,H b=none)->Q (.ref sd) H')):vZ vs H Q E'
theorem oo:aU ["_law_steps","_law_state","_law_number","_law_deed"] ["_law_steps"] (aA (top 60)):={}
theorem xJ (T:Txt K mg):fC P w K mg base "_law_worked" 4 ["_law_steps"] vZ:=by
 have mD:fC P w K mg base "_law_begun" 1 [] Fz:=rJ T
 have mE:fC P w K mg base "_law_enter" 3 ["_law_state","_law_deed"] uH:=rN T
 refine T.xA.fV (k:=3) oo (fun f cY A outer s H vs Q E hr h=>?_)
 ·obtain⟨ps,ss,us,rfl,ni,MP,hl,kn,ky⟩:=h
  have nd:=oo.nd
  have hlen:=aO MP
  refine⟨_,(ai (sv 1 nd (Jk mD (hr.mono (by decide)) rfl))
(ai (eN bB rfl (cI (pv 0)) (iH rfl (bW (gn 2 nd) (bW (gn 3 nd) gy)))
(av (bT (fR (dm fb (by rfl) T.dC eE (aa (fc mE hr (aa (pv 1) (aa (pv 3) aw))) (aa (gP (v:= .ty "str") (by rfl) T.Fu boot_str rfl) aw))))
(av (a9 DD))
bp)))
(av (a9 (pv 1))))),?_⟩
  refine⟨rfl,fun sd f0 H1 s1 B1 Mw nf=>?_⟩
  refine⟨_,rfl,ps,rfl,⟨_,bG.of (s1 _ _ ni)⟩,?_⟩
  refine fG (K:=K) (a:=ps) (xs:=us) (fun i σ H2=> ∃(S:Bk) (f:fP) (x2 x3:Option V),σ=[some (.ref ps),some (.ref sd),x2,x3]/\aF H H2/\dA H2 sd S f/\(∀b∈f.fp,H b=none)/\WF S i/\cy ss Bk.new=cy (ss.drop i) S)
   ⟨Bk.new,f0,none,none,rfl,s1,B1,nf,WF.new,rfl⟩ (fun i σ H2 _ ⟨_,_,_,_,_,s2,_⟩=>bG.of (s2 _ _ ni)) ?_ ?_
  ·rintro i x σ H2 hx ⟨S,f2,x2,x3,rfl,s2,B2,Wg,wf,hw⟩
   have hi:i < ss.length:=by have:=(ah.mp hx).1; lia
   obtain⟨v,hv,p,pd,rfl,hp,Iz,ht⟩:=bK MP (af hi)
   rw[hx] at hv
   obtain rfl:x= .ref p:=aG hv
   have hdr:=jB hi
   rw[hdr] at hw
   generalize ss[i]=st at hp Iz ht hw
   obtain⟨n,d⟩:=st
   have yq:=s2 _ _ hp
   have P4:=s2 _ _ Iz
   refine⟨p,_,rfl,cF.of yq,rfl,_,_,rfl,_,_,rfl,rfl,?_⟩
   refine⟨_,rfl,_,rfl,sd,pd,S,f2,d,rfl,B2,P4,ht,by have:=wf.lc; lia,by have:=wf.lb; lia,by have:=wf.lm; rw[eU]; lia,fun hb H3 s3=>?_,fun hb v f3 H3 F3 B3 fi r=>?_⟩
   ·refine⟨_,_,_,true,rfl,.str _,yx (.str (S.bar d)),_,rfl,fU ?_⟩
    refine kn ?_ _ (s2.trans s3)
    rw[hw]
    show(if S.bar d="" then _ else none)=none
    rw[aN hb]
   ·have hS:VU (S.Jw d).dt=false:=by cases d <;> first|rfl|cases ht
    refine⟨_,_,_,false,rfl,r.ty,(yx _).trans (cV some hS),_,rfl,bX ?_⟩
    refine⟨S.enter d,f3,_,_,rfl,F3.same s2 Wg,B3,fun b mh=>?_,wf.enter (by lia) hb,?_⟩
    ·rcases fi b mh with z|z
     ·exact Wg b z
     ·exact s2.free z
    ·rw[hw]
     show(if S.bar d="" then _ else none)=_
     rw[aY hb]
  ·rintro σ H2 ⟨S,f2,x2,x3,rfl,s2,B2,Wg,wf,hw⟩
   rw[← hlen,List.drop_length] at hw
   exact⟨_,rfl,ky S hw sd f2 H2 s2 B2 Wg⟩
inductive FF (vs:List V)(H:Hp)(Q:VK)(E':XK):Prop
 |mk (pd:Addr)(wd:Str)(r:List V)(h1:vs=[.ref pd])(h2:H pd=some (.tup (.str wd :: r)))(h3: ∀H',aF H H'->Q (.bl (xa (.str wd) [.str "bill",.str "pay",.str "note",.str "set",.str "sweep"])) H'):FF vs H Q E'
theorem xK:aU ["_law_deed"] ["_law_deed"] (aA (top 61)):={}
theorem Ak (T:Txt K mg):fC P w K mg base "_law_tells" 1 ["_law_deed"] FF:=by
 refine T.zN.fV (k:=0) xK (fun f cY A outer s H vs Q E hr h=>?_)
 ·obtain⟨pd,wd,r,rfl,hd,k⟩:=h
  refine⟨_,(av (a9 (fQ oM (xt (pv 0) aj) (bS (aa aR (aa aR (aa aR (aa aR (aa aR aw)))))) (by rfl)))),?_⟩
  refine⟨_,rfl,pd,_,_,.str wd,rfl,rfl,cF.of hd,cA (j:=0) rfl,(by show 5<=sizeLine; decide),fun p9 n9=>⟨p9,_,rfl,.inl (bG.of ag),rfl,rfl,?_⟩⟩
  exact k _ (aF.new n9)
def NY (Q:VK)(H:Hp)(ps:Addr)(f:fP)(r:mO×hV):Prop:=
 ∀(t:Addr) (v:V) (v8 Dq:Addr) (f':fP) (Al:List V) (H':Hp),H' t=some (.tup [v,.ref v8,.ref Dq])->Rp H' r.1.dt v->H' v8=some (.lst Al)->gY H' r.2.steps Al->dA H' Dq r.2.bk f'->Frame f.fp H H'->P2 H f f'->v8∉f'.fp->(∀a o,a∉f.fp->H a=some o->v8=a->v8=ps)->Q (.ref t) H'
inductive Kh (vs:List V)(H:Hp)(Q:VK)(E':XK):Prop
 |mk (ps sd pd:Addr)(n:Nat)(T:hV)(us:List V)(f:fP)(d:bg)(h1:vs=[.ref ps,.ref sd,.int n,.ref pd])(h2:H ps=some (.lst us))(h3:gY H T.steps us)(h4:dA H sd T.bk f)(h5:ps∉f.fp)(h6:H pd=some (.tup (bg.vs d)))(h7:(d.tells=true∨ ∃m,d= .iC m))(h8:Good T n)(h9:n<=59)(Lg:NY Q H ps f (dz T n d)):Kh vs H Q E'
theorem v9 {T:hV}{n:Int}{d:bg}(h:d.tells=true):dz T n d=if T.bk.bar d="" then(T.bk.Jw d,(⟨T.steps ++ [(n,d)],T.bk.enter d⟩:hV)) else(.txt (T.bk.bar d),T):=by
 cases d <;> first|rfl|cases h
theorem rO:aU ["_law_steps","_law_state","_law_number","_law_deed","_law_rest","_law_step","_law_later","_law_answer"] ["_law_steps","_law_state","_law_number","_law_deed"] (aA (top 62)):={}
theorem gO {α:Type}(p:α->Bool){l:List α}{i:Nat}{x:α}(h:l[i]? =some x):(l.take (i + 1)).filter p=(l.take i).filter p ++ (if p x=true then[x] else[]):=by
 rw[Gf,h,gw]
 congr 1
 show[x].filter p=_
 by_cases c:p x=true
 ·rw[aY c,cQ c]; rfl
 ·rw[aN c,kH c]; rfl
theorem Cz (T:Txt K mg):fC P w K mg base "_law_done" 5 ["_law_steps","_law_state","_law_number","_law_deed"] Kh:=by
 have xM:fC P w K mg base "_law_worked" 4 ["_law_steps"] vZ:=xJ T
 have mE:fC P w K mg base "_law_enter" 3 ["_law_state","_law_deed"] uH:=rN T
 refine T.BS.fV (k:=4) rO (fun f cY A outer s H vs Q E hr h=>?_)
 ·obtain⟨ps,sd,pd,n,T0,us,g,d,rfl,ni,MP,hB,HC,hd,hk,good,hn,k⟩:=h
  have nd:=rO.nd
  have hlen:=aO MP
  have hT:=good.len
  obtain⟨rr,hvs⟩:=uI hk
  have Wh:H pd=some (.tup (.str (bg.word d) :: rr)):=hvs▸hd
  refine⟨_,(ai (bT (a0 dh (xt (pv 3) aj) aR (bb _))
(ai (sv 4 nd (bS aw))
(ai (eN bB rfl (cI (pv 0)) (gn 5 nd)
(av (bT (PW.pt (pw_or (a0 qT (xt (pv 5) aj) (xt (pv 3) aj) (bb _)) (pw_or1 (a0 zf (xt (xt (pv 5) aj) aj) (bS (aa aR (aa aR aw))) (by rfl)))))
(av (bM (qu (pv 4) (pv 5))))
bp)))
(ai (bT (a0 dh (oP T.eJ (pv 4)) (oP T.eJ (pv 0)) (bb _))
(av (a9 (cM (aa aR (aa (pv 0) (aa (pv 1) aw))))))
bp)
(ai (sv 6 nd (fc xM hr (aa (pv 4) aw)))
(ai (bT (y2 (IH (pv 6)))
(av (a9 (cM (aa aR (aa (pv 0) (aa (pv 1) aw))))))
bp)
(av (a9 (cM (aa aR (aa (pv 4) (aa (pv 6) aw)))))))))))
bp)
(ai (sv 7 nd (fc mE hr (aa (pv 1) (aa (pv 3) aw))))
(ai (bT (fR (dm fb (by rfl) T.dC eE (aa (pv 7) (aa (gP (v:= .ty "str") (by rfl) T.Fu boot_str rfl) aw))))
(av (a9 (cM (aa (pv 7) (aa (pv 0) (aa (pv 1) aw))))))
bp)
(av (a9 (cM (aa (pv 7) (aa (aQ lp (pv 0) (bS (aa (cM (aa (pv 2) (aa (pv 3) aw))) aw))) (aa (pv 1) aw))))))))),?_⟩
  refine⟨_,rfl,pd,_,_,.str (bg.word d),rfl,rfl,cF.of Wh,cA (j:=0) rfl,rfl,?_⟩
  clear Wh hvs rr
  by_cases ht:d.tells=true
  ·
   have hw:bg.word d≠"undo":=by
    cases d with
    |iC m=>cases ht
    |ask _ _ _=>cases ht
    |il _ _ _=>cases ht
    |dP _ _ _ _=>show("bill":Str)≠"undo"; decide +kernel
    |pF _ _ _=>show("pay":Str)≠"undo"; decide +kernel
    |note _ _ _=>show("note":Str)≠"undo"; decide +kernel
    |set _ _ _=>show("set":Str)≠"undo"; decide +kernel
    |bU _=>show("sweep":Str)≠"undo"; decide +kernel
   refine⟨false,jQ hw,bX ?_⟩
   have wf:=good.wf (by lia)
   rw[v9 ht] at k
   refine⟨_,rfl,_,rfl,sd,pd,T0.bk,g,d,rfl,hB,hd,ht,by have:=wf.lc; lia,by have:=wf.lb; lia,by have:=wf.lm; rw[eU]; lia,fun hb H3 s3=>?_,fun hb v f3 H3 F3 B3 fi r=>?_⟩
   ·rw[aN hb] at k
    refine⟨_,rfl,_,_,_,true,rfl,.str _,yx (.str (T0.bk.bar d)),_,rfl,fU ?_⟩
    refine⟨_,rfl,_,rfl,_,rfl,(by show 3<=sizeLine; decide),fun t nt=>?_⟩
    have s4:=s3.trans (aF.new (o:= .tup [V.str (T0.bk.bar d),.ref ps,.ref sd]) nt)
    exact k t _ ps sd g us _ ag (fv.mpr rfl) (s4 _ _ ni) (MP.mono s4.tk) (hB.same s4) s4.frame (fun x hx=> .inl hx) HC (fun _ _ _ _ _=>rfl)
   ·rw[aY hb] at k
    have hS:VU (T0.bk.Jw d).dt=false:=by cases d <;> first|rfl|cases ht
    refine⟨_,rfl,_,_,_,false,rfl,r.ty,(yx _).trans (cV some hS),_,rfl,bX ?_⟩
    have tk3:=hB.tk F3
    have HE:=F3 _ _ HC ni
    have YH:=MP.mono tk3
    have NZ:=tk3 _ _ hd
    refine⟨_,rfl,_,rfl,_,rfl,_,rfl,(by show 2<=sizeLine; decide),fun p1 n1=>⟨(by show 1<=sizeLine; decide),fun p2 n2=>?_⟩⟩
    have t1:=aF.new (o:= .tup [V.int (n:Int),.ref pd]) n1
    have t2:=aF.new (o:= .lst [V.ref p1]) n2
    have g1:upd (upd H3 p1 (.tup [V.int (n:Int),.ref pd])) p2 (.lst [V.ref p1]) p1=some (.tup [V.int (n:Int),.ref pd]):=t2 _ _ ag
    have g2:upd (upd H3 p1 (.tup [V.int (n:Int),.ref pd])) p2 (.lst [V.ref p1]) p2=some (.lst [V.ref p1]):=ag
    have tV:=t1.trans t2
    refine⟨ps,p2,_,_,rfl,rfl,tV _ _ HE,g2,?_,fun p4 n4=>?_⟩
    ·refine cL (bf ?_)
     show us.length + 1<=1000
     lia
    generalize upd (upd H3 p1 (.tup [V.int (n:Int),.ref pd])) p2 (.lst [V.ref p1])=H4 at tV g1 g2 n4
    have t4:=aF.new (o:= .lst (us ++ [V.ref p1])) n4
    refine⟨_,rfl,(by show 3<=sizeLine; decide),fun t nt=>?_⟩
    have t5:=aF.new (o:= .tup [v,V.ref p4,.ref sd]) nt
    have Ue:=(tV.trans t4).trans t5
    have B5:=B3.same Ue
    refine k t v p4 sd f3 (us ++ [.ref p1]) _ ag (Rp.mono Ue _ r) (t5 _ _ ag) ?_ B5 (F3.cU Ue) fi (B3.off ?_) (fun a o ha e q=>absurd q.symm (aJ (tV _ _ (F3 _ _ ha e)) n4))
    ·exact cw (YH.mono Ue.tk) ⟨p1,pd,rfl,(t4.trans t5) _ _ g1,Ue _ _ NZ,ht⟩
    ·exact tV.free n4
  ·
   obtain⟨m,rfl⟩: ∃m,d= .iC m:=hk.resolve_left ht
   refine⟨true,A8 _,fU ?_⟩
   refine⟨bq _,fun pr nr=>?_⟩
   have s1:aF H (upd H pr (.lst [])):=aF.new nr
   refine⟨_,rfl,ps,rfl,⟨_,bG.of (s1 _ _ ni)⟩,?_⟩
   refine fG (K:=K) (a:=ps) (xs:=us) (fun i σ H2=> ∃(rs:List V) (x5:Option V),σ=[some (.ref ps),some (.ref sd),some (.int (n:Int)),some (.ref pd),some (.ref pr),x5,none,none]/\aF H H2/\H2 pr=some (.lst rs)/\gY H2 ((T0.steps.take i).filter (cu m)) rs)
    ⟨[],none,rfl,s1,ag,.nil⟩ (fun i σ H2 _ ⟨_,_,_,s2,_⟩=>bG.of (s2 _ _ ni)) ?_ ?_
   ·rintro i x σ H2 hx ⟨rs,x5,rfl,s2,En,Lp⟩
    have hi:i < T0.steps.length:=by have:=(ah.mp hx).1; lia
    have qM:=af hi
    obtain⟨v,hv,p,pe,rfl,hp,hpe,Wi⟩:=bK MP qM
    rw[hx] at hv
    obtain rfl:x= .ref p:=aG hv
    have pL:=gO (cu m) qM
    generalize T0.steps[i]=st at hp hpe Wi pL
    obtain⟨n0,e⟩:=st
    have yq:=s2 _ _ hp
    have P5:=s2 _ _ hpe
    have hd2:=s2 _ _ hd
    have Dk:rs.length<=100:=by
     have:=aO Lp
     have:=aW (cu m) (T0.steps.take i)
     rw[ba] at this
     lia
    have yes:cu m (n0,e)=true-> ∀H3,aF H2 H3->(Xr (V.ref pr) [V.ref p] H3 fun l xs y=> ∃(rs:List V) (x5:Option V),[some (V.ref ps),some (.ref sd),some (.int (n:Int)),some (.ref pd),some (.ref pr),some (.ref p),none,none]=[some (.ref ps),some (.ref sd),some (.int (n:Int)),some (.ref pd),some (.ref pr),x5,none,none]/\aF H (upd H3 l (.lst (xs ++ [y])))/\upd H3 l (.lst (xs ++ [y])) pr=some (.lst rs)/\gY (upd H3 l (.lst (xs ++ [y]))) ((T0.steps.take (i + 1)).filter (cu m)) rs):=fun z H3 s3=>by
     refine⟨pr,rs,_,rfl,rfl,s3 _ _ En,bf (by lia),rs ++ [.ref p],_,rfl,(s2.trans s3).dr nr,ag,?_⟩
     rw[pL,aY z]
     have tk:=s3.tk.trans (dY (o:= .lst (rs ++ [.ref p])) (s3 _ _ En))
     exact cw (Lp.mono tk) ⟨p,pe,rfl,tk _ _ yq,tk _ _ P5,Wi⟩
    refine⟨_,rfl,p,_,_,.int n0,rfl,rfl,cF.of yq,rfl,_,rfl,pd,_,_,.int m,rfl,rfl,cF.of hd2,rfl,rfl,_,rfl,cH (fun z=>fU ?_) (fun z=>?_)⟩
    ·have z':n0≠m:=fun q=>by rw[q] at z; simp at z
     refine⟨_,rfl,.inl ⟨rfl,_,bG.of En⟩,_,rfl,yes ?_ H2 (aF.refl _)⟩
     show(!(decide (n0=m) && e.isSet))=true
     rw[bL z']; rfl
    ·have z':n0=m:=by
      by_cases q:n0=m
      ·exact q
      ·exact absurd (by rw[bL (fun w=>q (by injection w))]; rfl) z
     obtain⟨re,hev⟩:=uI (d:=e) (.inl Wi)
     rw[hev] at P5
     refine⟨_,rfl,p,_,_,.ref pe,rfl,rfl,cF.of yq,rfl,pe,_,_,.str (bg.word e),rfl,rfl,cF.of P5,cA (j:=0) rfl,(by show 2<=sizeLine; decide),fun p9 n9=>⟨p9,_,rfl,.inl (bG.of ag),rfl,rfl,!e.isSet,cV V.bl (by rw[aY rfl,FE Wi]),cH (fun q=>?_) (fun q=>?_)⟩⟩
     ·have t9:=aF.new (o:= .lst [V.str "set",.str "sweep"]) n9
      refine⟨_,rfl,.inl ⟨rfl,_,bG.of (t9 _ _ En)⟩,_,rfl,yes ?_ _ t9⟩
      show(!(decide (n0=m) && e.isSet))=true
      rw[aK z',Dy]; exact q
     ·have t9:=aF.new (o:= .lst [V.str "set",.str "sweep"]) n9
      refine⟨rs,_,rfl,s2.trans t9,t9 _ _ En,?_⟩
      have no: ¬ cu m (n0,e)=true:=by
       show ¬ (!(decide (n0=m) && e.isSet))=true
       rw[aK z',Dy]; exact q
      rw[pL,aN no,cg]
      exact Lp.mono t9.tk
   ·rintro σ H2 ⟨rs,x5,rfl,s2,En,Lp⟩
    rw[← hlen,aZ] at Lp
    have Dk:=aO Lp
    have Rz:=aW (cu m) T0.steps
    have pM:dz T0 n (.iC m)=if(T0.steps.filter (cu m)).length=T0.steps.length then(.txt "no setting",T0) else
      match cy (T0.steps.filter (cu m)) Bk.new with
      |none=>(.txt "needed",T0)
      |some S=>(.txt "undone",⟨T0.steps.filter (cu m),S⟩):=rfl
    have Lq:=hB.same s2
    refine⟨_,rfl,pr,_,rfl,.inl (bG.of En),_,rfl,ps,_,rfl,.inl (bG.of (s2 _ _ ni)),rfl,_,rfl,cH (fun z=>?_) (fun z=>?_)⟩
    ·have z':(T0.steps.filter (cu m)).length=T0.steps.length:=by
      have:=a6 z
      injection this with this
      lia
     rw[pM,aY z'] at k
     refine⟨_,rfl,_,rfl,(by show 3<=sizeLine; decide),fun t nt=>?_⟩
     have s4:=s2.trans (aF.new (o:= .tup [V.str "no setting",.ref ps,.ref sd]) nt)
     exact k t _ ps sd g us _ ag (fv.mpr rfl) (s4 _ _ ni) (MP.mono s4.tk) (hB.same s4) s4.frame (fun x hx=> .inl hx) HC (fun _ _ _ _ _=>rfl)
    have z': ¬ (T0.steps.filter (cu m)).length=T0.steps.length:=fun q=>z (aK (by congr 1; lia))
    rw[pM,aN z'] at k
    refine⟨_,rfl,pr,T0.steps.filter (cu m),rs,rfl,En,Lp,by lia,fun hw H3 s3=>?_,fun S hw sd3 f3 H3 s3 B3 nf=>?_⟩
    ·rw[hw] at k
     refine⟨_,rfl,true,rfl,fU ⟨_,rfl,_,rfl,(by show 3<=sizeLine; decide),fun t nt=>?_⟩⟩
     have s4:=(s2.trans s3).trans (aF.new (o:= .tup [V.str "needed",.ref ps,.ref sd]) nt)
     exact k t _ ps sd g us _ ag (fv.mpr rfl) (s4 _ _ ni) (MP.mono s4.tk) (hB.same s4) s4.frame (fun x hx=> .inl hx) HC (fun _ _ _ _ _=>rfl)
    ·rw[hw] at k
     refine⟨_,rfl,false,rfl,bX ⟨_,rfl,_,rfl,(by show 3<=sizeLine; decide),fun t nt=>?_⟩⟩
     have t4:=aF.new (o:= .tup [V.str "undone",.ref pr,.ref sd3]) nt
     have s4:=(s2.trans s3).trans t4
     refine k t _ pr sd3 f3 rs _ ag (fv.mpr rfl) ((s3.trans t4) _ _ En) (Lp.mono (s3.trans t4).tk) (B3.same t4) s4.frame (fun x hx=> .inr (s2.free (nf x hx))) (fun q=>?_) (fun a o ha e q=>absurd q.symm (aJ e nr))
     have:=nf pr q
     rw[En] at this
     cases this
end
end eZ
namespace L2
open PySem PySem.Spec PyProof.Rows
theorem Am {X:Cx}{scope:Scope}{x y:Str}{c d:Addr}{j k:Nat}(GL:closureFor scope X.env=pure [(x,c),(y,d)]:=by rfl)(mN: ∀z∈scope.names,z.2≠ .cell:=by decide +kernel)(nE:scope.kind= .function:=by rfl)(vh: ∀x∈scope.names,x.2= .local->scope.names.lookup x.1=some .local:=by decide +kernel)
  (hx:X.env.cells.lookup x=some c:=by rfl) (hy:X.env.cells.lookup y=some d:=by rfl) (zo:List (Str×NameKind)) (SQ:(relabel scope X.env).names=zo:=by rfl) (Dk: ∀z∈zo,(z.2= .cell∨z.2= .free)->z.1=x∨z.1=y:=by decide +kernel)
  (hN:X.N[j]? =some x:=by rfl) (hN2:X.N[k]? =some y:=by rfl) (hk:X.env.kindOf x=some .cell∨X.env.kindOf x=some .free:=by exact Or.inl rfl) (Le:X.env.kindOf y=some .cell∨X.env.kindOf y=some .free:=by exact Or.inl rfl)
  (NG:(relabel scope X.env).names.lookup x=some .cell∨(relabel scope X.env).names.lookup x=some .free:=by exact Or.inl rfl) (YI:(relabel scope X.env).names.lookup y=some .cell∨(relabel scope X.env).names.lookup y=some .free:=by exact Or.inl rfl):sH X scope [(x,c),(y,d)] [x,y] [j,k]:=by
 refine⟨GL,mN,nE,vh,fun z c' h=>?_,fun z h=>?_,.cons ⟨hN,hk,NG⟩ (.cons ⟨hN2,Le,YI⟩ .nil)⟩
 ·rcases au.mp (ck h) with e|e
  ·cases e; exact hx
  ·rcases au.mp e with e|e
   ·cases e; exact hy
   ·cases e
 ·have e:z=x∨z=y:=by
   rcases h with h|h
   ·rw[SQ] at h
    exact Dk _ (ck h) (.inl rfl)
   ·rw[SQ] at h
    exact Dk _ (ck h) (.inr rfl)
  by_cases q:z=x
  ·exact⟨c,by rw[q]; simp[List.lookup]⟩
  ·have q2:z=y:=e.resolve_left q
   have q3:(z == x)=false:=by simpa using q
   exact⟨d,by rw[List.lookup,q3,q2]; simp[List.lookup]⟩
end L2
namespace eZ
open PySem L2 PyProof.Rows Lh
seal L2.pB L2.PS L2.PE L2.PT L2.PW L2.PA L2.PC L2.PG L2.Lb L2.PI L2.LW L2.Ld L2.PO L2.o6 L2.NC L2.iZ L2.I9 L2.OL
section
variable {P:Program}{w:World}{K:Frag}{mg:Str->Option Value}{base:Heap}
inductive qy (A:ee)(vs:List V)(H:Hp)(Q:VK)(E':XK):Prop
 |mk (pw p:Addr)(S:Bk)(f:eX)(t:Nat×Nat×Int)(day:Int)(h1:vs=[.ref pw,.ref p,.int day])(h2:dJ A H pw S f)(h3:H p=some (.tup [.int t.1,.int t.2.1,.int t.2.2]))(h4:t.1 < S.credits.length)(h5:t.2.1 < S.aE.length)(h6:Q (.bl (decide (S.gx t<=day))) H):qy A vs H Q E'
theorem An:aU ["work","setting","day"] ["work","setting","day"] (aA (top 40)):={}
theorem CA (T:Txt K mg){A:ee}(G:jO K mg A):fC P w K mg base "counts_at" 2 ["work","setting","day"] (qy A):=by
 have xN:fC P w K mg base "counts_from" 1 ["credit","bill"] (Ei A):=xC T G
 refine T.BO.fV (k:=1) An (fun f cY A' outer s H vs Q E hr h=>?_)
 ·obtain⟨pw,p,S,g,t,day,rfl,hW,hp,hc,hb,k⟩:=h
  obtain⟨dw,hw⟩:=hW.obj
  obtain⟨pc,c1,c2⟩:=hW.rc.get hc
  obtain⟨pb,b1,b2⟩:=hW.rb.get hb
  refine⟨_,(av (a9 (fQ yg (fc xN hr (aa (xl (bZ (pv 0) rfl) (xt (pv 1) aj)) (aa (xl (bZ (pv 0) rfl) (xt (pv 1) aj)) aw))) (pv 2) (bb _)))),?_⟩
  refine⟨_,rfl,pw,_,dw,_,_,rfl,hw,G.bI,G.cG,ir g,_,rfl,p,_,_,.int t.1,rfl,rfl,cF.of hp,rfl,g.pc,_,_,.ref pc,rfl,rfl,bG.of hW.hc,cA (by rw[aC,c1]; rfl),?_⟩
  refine⟨_,rfl,pw,_,dw,_,_,rfl,hw,G.bI,G.d8,ju g,_,rfl,p,_,_,.int t.2.1,rfl,rfl,cF.of hp,rfl,g.pb,_,_,.ref pb,rfl,rfl,bG.of hW.hb,cA (by rw[aC,b1]; rfl),?_⟩
  exact⟨pc,pb,t.1,t.2.1,S.cr t.1,S.bl t.2.1,rfl,c2,b2,_,rfl,_,_,rfl,rfl,k⟩
inductive qz (A:ee)(vs:List V)(H:Hp)(Q:VK)(E':XK):Prop
 |mk (pw:Addr)(S:Bk)(f:eX)(n:Nat)(day:Int)(h1:vs=[.ref pw,.int day])(h2:dJ A H pw S f)(h3:WF S n)(h4:S.made.length<=1000000)(h5: ∀D ms H',aF H H'->H D=none->H' D=some (.lst ms)->iz H' (S.made.filter fun t=>decide (S.gx t<=day)) ms->Q (.ref D) H'):qz A vs H Q E'
theorem wa:aU ["work","day"] ["work","day"] (aA (top 39)):={}
theorem xO (T:Txt K mg){A:ee}(G:jO K mg A):fC P w K mg base "counting_at" 3 ["work","day"] (qz A):=by
 have CB:fC P w K mg base "counts_at" 2 ["work","setting","day"] (qy A):=CA T G
 refine T.xq.fV (k:=2) wa (fun f cY A' outer s H vs Q E hr h=>?_)
 ·obtain⟨pw,S,g,n,day,rfl,hW,wf,hz,k⟩:=h
  obtain⟨dw,hw⟩:=hW.obj
  obtain⟨ms,m1,m2⟩:=hW.hm
  have hlen:=aO m2
  refine⟨_,(av (a9 (iK (tn:=["setting"]) (cn:=["work","day"]) (cj:=[0,1]) rfl (Am (zo:=[(".0",.local),("setting",.local),("counts_at",.globalImplicit),("day",.cell),("work",.cell)])) (cI (bZ (pv 0) rfl)) (fun _ _ _ _=>(eG (i:=0) (show(["setting","work","day"]:List Str).Nodup by decide +kernel) rfl (Or.inl rfl))) (fun _ _ _ _=>(qj (fR (fc CB hr (aa (pv 1) (aa (pv 0) (aa (pv 2) aw))))))) (fun _ _ _ _=>(pv 0))))),?_⟩
  refine⟨_,rfl,pw,_,dw,_,_,rfl,hw,G.bI,G.mB,Fx g,g.pm,rfl,⟨_,bG.of m1⟩,?_⟩
  refine dX (K:=K) (a:=g.pm) (xs:=ms) (fun D i σ H6=>H D=none/\ ∃v rs,σ=[v,some (.ref pw),some (.int day)]/\aF H H6/\H6 D=some (.lst rs)/\iz H6 ((S.made.take i).filter fun t=>decide (S.gx t<=day)) rs) (fun D hD=>⟨hD,none,[],rfl,aF.new hD,ag,.nil⟩) (fun D i σ H6 _ ⟨_,_,_,_,t3,_⟩=>bG.of (t3 _ _ m1)) ?_ ?_
  ·rintro D i x σ H6 hx ⟨hD,v,rs,rfl,t3,iE,hT⟩
   have hi:i < S.made.length:=by have:=(ah.mp hx).1; lia
   have qM:=af hi
   obtain⟨v',hv,p,rfl,hp⟩:=bK m2 qM
   rw[hx] at hv
   obtain rfl:x= .ref p:=aG hv
   have hm:=wf.m _ (bH hi)
   have pL:=gO (fun t=>decide (S.gx t<=day)) qM
   generalize S.made[i]=t at hp hm pL
   have Lp:rs.length<=1000000:=by
    have:=aO hT
    have:=aW (fun t=>decide (S.gx t<=day)) (S.made.take i)
    rw[ba] at this
    lia
   refine⟨_,rfl,_,rfl,_,rfl,pw,p,S,g,t,day,rfl,hW.same t3,t3 _ _ hp,hm.1,hm.2,_,rfl,cH (fun z=>?_) (fun z=>?_)⟩
   ·rw[aY z] at pL
    refine⟨_,rfl,_,iE,ji Lp,hD,_,rs ++ [.ref p],rfl,t3.dr hD,ag,?_⟩
    rw[pL]
    have tk:=dY (o:= .lst (rs ++ [.ref p])) iE
    exact cw (hT.mono tk) ⟨p,rfl,tk _ _ (t3 _ _ hp)⟩
   ·rw[aN z,cg] at pL
    refine⟨hD,_,rs,rfl,t3,iE,?_⟩
    rw[pL]
    exact hT
  ·rintro D σ H6 hD ⟨_,v,rs,rfl,t3,iE,hT⟩
   rw[← hlen,aZ] at hT
   exact k D rs H6 t3 hD iE hT
def eR (H:Hp)(l:List (Nat×Int))(vs:List V):Prop:=Paired (fun(t:Nat×Int) v=> ∃p,v= .ref p/\H p=some (.tup [.int t.1,.int t.2])) l vs
theorem eR.mono {H H':Hp}{l:List (Nat×Int)}{vs:List V}(h:eR H l vs)(k:cK H H'):eR H' l vs:=Paired.g8 h fun _ _ ⟨p,e,q⟩=>⟨p,e,k _ _ q⟩
theorem eR.Lm {H:Hp}: ∀{l:List (Nat×Int)} {vs:List V},eR H l vs->g9 H (l.map fun t=> .tup [.int t.1,.int t.2]) vs
 |_,_,.nil=>cv.mpr rfl
 |_,_,.cons ⟨p,e,q⟩ t=>by
  subst e
  exact br.mpr ⟨_,_,rfl,eP q (br.mpr ⟨_,_,rfl,dD.mpr rfl,br.mpr ⟨_,_,rfl,dD.mpr rfl,cv.mpr rfl⟩⟩),eR.Lm t⟩
section
variable (S:Bk)(bD:Bool)(aH:Str)(day:Int)
def pD (k:Nat):Bool:=decide (((S.rows bD).getD k default).aH=aH) && (decide (((S.rows bD).getD k default).a<=day) && decide (0 < S.rest bD k day))
def kD (i:Nat):List (Int×Nat):=((List.range i).filter (pD S bD aH day)).map fun k=>(keyOf bD ((S.rows bD).getD k default),k)
end
section
variable {S:Bk}{bD:Bool}{aH:Str}{day:Int}{i:Nat}
theorem P6:(kD S bD aH day i).length<=i:=by
 unfold kD
 rw[ae]
 exact aV (aW _ _) (by rw[dF]; exact aD _)
theorem Ki:S.eQ bD aH day=(fO (kD S bD aH day (S.rows bD).length)).map fun x=>(x.2,S.rest bD x.2 day):=by
 have e:kD S bD aH day (S.rows bD).length=(gF (S.rows bD) aH (keyOf bD)).filter fun x=>decide (((S.rows bD).getD x.2 default).a<=day) && decide (0 < S.rest bD x.2 day):=by
  unfold kD gF
  rw[Lz,qJ]
  congr 1
  apply i9
  intro k _
  show pD S bD aH day k=_
  unfold pD
  rw[Bool.and_comm]
  rfl
 rw[e,mm]
 unfold Bk.eQ inOrder
 rw[← tN (fun x:Int×Nat=>x.2) (fun k=>decide (((S.rows bD).getD k default).a<=day) && decide (0 < S.rest bD k day)),fq]
 rfl
end
theorem MQ (bD:Bool)(t:Nat×Nat×Int):uz [V.int t.1,.int t.2.1,.int t.2.2] (if bD=true then(1:Int) else 0)=some (.int (spotOf bD t:Int)):=by cases bD <;> rfl
theorem HF {S:Bk}{bD:Bool}{aH:Str}{day:Int}{t:Nat×Int}(h:t∈S.eQ bD aH day):t.1 < (S.rows bD).length:=by
 unfold Bk.eQ at h
 obtain⟨k,hk,rfl⟩:=bJ.mp h
 exact(jq.mp (en.mp hk).1).1
theorem HG {S:Bk}{bD:Bool}{aH:Str}{day:Int}:(S.eQ bD aH day).length<=(S.rows bD).length:=by
 rw[Ki,ae,(dE _).length_eq]
 exact P6
theorem Eo (gx:Int)(dj:List Int):L2.placeOf gx dj < dj.length + 2:=by
 unfold L2.placeOf
 split
 ·lia
 ·have:=aW (fun l=>decide (l < gx)) dj
  lia
theorem HI (l:List Int)(i:Nat)(x:Int):(tP l i x).length=l.length:=by unfold tP; rw[List.length_set]
theorem MR (n:Nat)(b:Int):(List.replicate n [V.int b]).flatten=(List.replicate n b).map V.int:=by
 induction n with
 |zero=>rfl
 |succ n ih=>rw[dB,i7,ih,dB]; rfl
def lZ (H:Hp)(ok:Addr->Prop):mO->V->Prop
 | .int i,v=>v= .int i
 | .txt s,v=>v= .str s
 | .sets l,v=> ∃D ms,v= .ref D/\ok D/\H D=some (.lst ms)/\iz H l ms
 | .pairs l,v=> ∃D ms,v= .ref D/\ok D/\H D=some (.lst ms)/\eR H l ms
 | .ints l,v=> ∃D,v= .ref D/\ok D/\H D=some (.lst (l.map V.int))
theorem lZ.keep {H H':Hp}{ok RA:Addr->Prop}{a:mO}{v:V}(h:lZ H ok a v)(kl: ∀D xs,ok D->H D=some (.lst xs)->RA D/\H' D=some (.lst xs))(kt:cK H H'):lZ H' RA a v:=by
 cases a with
 |int i=>exact h
 |txt s=>exact h
 |sets l=>
  obtain⟨D,ms,e,o,z,t⟩:=h
  obtain⟨o',z'⟩:=kl _ _ o z
  exact⟨D,ms,e,o',z',t.mono kt⟩
 |pairs l=>
  obtain⟨D,ms,e,o,z,t⟩:=h
  obtain⟨o',z'⟩:=kl _ _ o z
  exact⟨D,ms,e,o',z',eR.mono t kt⟩
 |«ints» l=>
  obtain⟨D,e,o,z⟩:=h
  obtain⟨o',z'⟩:=kl _ _ o z
  exact⟨D,e,o',z'⟩
theorem CC {H:Hp}: ∀l:List Int,g9 H (l.map Dt.int) (l.map V.int)
 |[]=>cv.mpr rfl
 |x :: l=>br.mpr ⟨_,_,rfl,dD.mpr rfl,CC l⟩
theorem fJ {X:Cx}{K:Frag}{e:Expr}{f:Str}{pos:Pos}{ta:TE}(h:X.K=K)(he:PE X e ta)(hb:attributeBase e f X.env (eval e X.env)=eval e X.env):PE X (.Attribute e f pos) (Sl K ta f):=by subst h; exact bZ he hb
def CD (A:ee)(bD:Bool):Addr:=if bD=true then A.dP else A.eh
def Ao (bD:Bool)(k:Nat)(r:Rw):List (Str×V):=if bD=true then fL k r else fz k r
theorem yL (bD:Bool)(k:Nat)(r:Rw):(Ao bD k r).lookup ("number":Str)=some (V.int k):=by cases bD <;> rfl
theorem P7 (bD:Bool)(k:Nat)(r:Rw):(Ao bD k r).lookup ("day":Str)=some (V.int r.a):=by cases bD <;> rfl
theorem HJ (bD:Bool)(k:Nat)(r:Rw):(Ao bD k r).lookup ("amount":Str)=some (V.int (Jx bD r)):=by cases bD <;> rfl
theorem Ap {A:ee}(G:jO K mg A)(bD:Bool):w6 K (CD A bD):=by cases bD; exact G.dg; exact G.ej
theorem yM {A:ee}(G:jO K mg A)(bD:Bool):cf K (CD A bD) "number":=by cases bD; exact G.eY; exact G.ff
theorem P8 {A:ee}(G:jO K mg A)(bD:Bool):cf K (CD A bD) "day":=by cases bD; exact G.jj; exact G.nR
theorem HL {A:ee}(G:jO K mg A)(bD:Bool):cf K (CD A bD) "amount":=by cases bD; exact G.lU; exact G.nU
def MS (A:ee)(H:Hp)(S:Bk)(bD:Bool)(ks:List Nat)(qs:List Addr):Prop:=Paired (fun(k:Nat) q=>eK H q (CD A bD) (Ao bD k ((S.rows bD).getD k default))) ks qs
def pR (S:Bk)(bD:Bool)(day:Int)(k:Nat):Bool:=decide (((S.rows bD).getD k default).a<=day) && decide (0 < S.rest bD k day)
inductive rP (A:ee)(vs:List V)(H:Hp)(Q:VK)(E':XK):Prop
 |mk (pw pt:Addr)(S:Bk)(f:eX)(n:Nat)(bD:Bool)(day:Int)(ks:List Nat)(qs:List Addr)(h1:vs=[.ref pw,.ref pt,.int (if bD=true then 1 else 0),.int day])(h2:dJ A H pw S f)(h3:WF S n)(h4:S.made.length<=1000000)(h5:H pt=some (.lst (qs.map V.ref)))(h6:MS A H S bD ks qs)(h7:ks.length<=100)(h8: ∀D ms H',aF H H'->H D=none->H' D=some (.lst ms)->eR H' ((ks.filter (pR S bD day)).map fun k=>(k,S.rest bD k day)) ms->Q (.ref D) H'):rP A vs H Q E'
theorem mR:aU ["work","told","place","day","counting","remaining","item","rest"] ["work","told","place","day"] (aA (top 38)):={}
theorem oq (T:Txt K mg){A:ee}(G:jO K mg A):fC P w K mg base "remaining_at" 4 ["work","told","place","day"] (rP A):=by
 have xP:fC P w K mg base "counting_at" 3 ["work","day"] (qz A):=xO T G
 refine T.vG.fV (k:=3) mR (fun f cY A' outer s H vs Q E hr h=>?_)
 ·obtain⟨pw,pt,S,g,n,bD,day,ks,qs,rfl,hW,wf,hz,wO,hI,Iw,k⟩:=h
  have nd:=mR.nd
  have hlen:=aO hI
  refine⟨_,(ai (sv 4 nd (fc xP hr (aa (pv 0) (aa (pv 3) aw))))
(ai (sv 5 nd (bS aw))
(ai (eN bB rfl (cI (pv 1)) (gn 6 nd)
(ai (sv 7 nd (aQ fS (bZ (pv 6) rfl) (dm (sM rfl) (by rfl) T.JN boot_sum (aa (iK (tn:=["setting"]) (cn:=["place","item"]) (cj:=[2,6]) rfl (Am (zo:=[(".0",.local),("setting",.local),("item",.cell),("place",.cell)])) (cI (pv 4)) (fun _ _ _ _=>(eG (i:=0) (show(["setting","place","item"]:List Str).Nodup by decide +kernel) rfl (Or.inl rfl))) (fun _ _ _ _=>(qj (a0 dh (kO (uB (K:=K) rfl) (pv 0) (pv 1) (fun _ _=>rfl)) (fJ (K:=K) rfl (pv 2) rfl) (bb _)))) (fun _ _ _ _=>(kO (uB (K:=K) rfl) (pv 0) aj (fun _ _=>rfl)))) aw))))
(av (bT (PW.pt (pw_and (a0 yg (bZ (pv 6) rfl) (pv 3) (bb _)) (pw_and1 (a0 jH (pv 7) aj (bb _)))))
(av (bM (qu (pv 5) (cM (aa (bZ (pv 6) rfl) (aa (pv 7) aw))))))
bp))))
(av (a9 (pv 5)))))),?_⟩
  refine⟨_,rfl,_,rfl,pw,S,g,n,day,rfl,hW,wf,hz,fun pc cs H1 s1 nc hc hT=>?_⟩
  refine⟨bq _,fun pr nr=>?_⟩
  have nr0:=s1.free nr
  have sr:=aF.new (o:= .lst []) nr
  refine⟨_,rfl,pt,rfl,⟨_,bG.of ((s1.trans sr) _ _ wO)⟩,?_⟩
  refine fG (K:=K) (a:=pt) (xs:=qs.map V.ref) (fun i σ H2=> ∃(rs:List V) (x6 x7:Option V),σ=[some (.ref pw),some (.ref pt),some (.int (if bD=true then 1 else 0)),some (.int day),some (.ref pc),some (.ref pr),x6,x7]/\aF H1 H2/\H2 pr=some (.lst rs)/\eR H2 (((ks.take i).filter (pR S bD day)).map fun k=>(k,S.rest bD k day)) rs)
   ⟨[],none,none,rfl,sr,ag,.nil⟩ (fun i σ H2 _ ⟨_,_,_,_,s2,_⟩=>bG.of ((s1.trans s2) _ _ wO)) ?_ ?_
  ·rintro i x σ H2 hx ⟨rs,x6,x7,rfl,s2,FC,hP⟩
   rw[aC] at hx
   obtain⟨q,hq,rfl⟩:=a8.mp hx
   have hi:i < ks.length:=by have:=(ah.mp hq).1; lia
   have qM:=af hi
   obtain⟨q',tI,lY⟩:=bK hI qM
   rw[hq] at tI
   obtain rfl:q=q':=aG tI
   have pL:=gO (pR S bD day) qM
   generalize ks[i]=kk at lY pL
   have s02:=s1.trans s2
   obtain⟨dq,A9⟩:=lY.same s02
   have Ma:=s2 _ _ hc
   have DT:=hT.mono s2.tk
   have rq:=aO DT
   have Rz:=aW (fun t=>decide (S.gx t<=day)) S.made
   have Dk:rs.length<=100:=by
    have e1:=aO hP
    have e2:=aW (pR S bD day) (ks.take i)
    rw[ae] at e1
    rw[ba] at e2
    lia
   refine⟨_,rfl,q,_,dq,_,_,rfl,A9,Ap G bD,HL G bD,HJ bD _ _,_,rfl,pc,rfl,⟨_,bG.of Ma⟩,?_⟩
   refine dX (K:=K) (a:=pc) (xs:=cs) (fun D j σ H6=>H2 D=none/\ ∃v,σ=[v,some (.int (if bD=true then 1 else 0)),some (.ref q)]/\aF H2 H6/\H6 D=some (.lst (((((S.made.filter fun t=>decide (S.gx t<=day)).take j).filter fun t=>decide (spotOf bD t=kk)).map (·.2.2)).map V.int))) (fun D hD=>⟨hD,none,rfl,aF.new hD,ag⟩) (fun D j σ H6 _ ⟨_,_,_,t3,_⟩=>bG.of (t3 _ _ Ma)) ?_ ?_
   ·rintro D j x σ H6 NW ⟨hD,v,rfl,t3,iE⟩
    have hj:j < (S.made.filter fun t=>decide (S.gx t<=day)).length:=by have:=(ah.mp NW).1; lia
    have hgj:=af hj
    obtain⟨v',hv,p,rfl,hp⟩:=bK DT hgj
    rw[NW] at hv
    obtain rfl:x= .ref p:=aG hv
    have Kj:=gO (fun t=>decide (spotOf bD t=kk)) hgj
    generalize (S.made.filter fun t=>decide (S.gx t<=day))[j]=t at hp Kj
    have hsz:((((S.made.filter fun t=>decide (S.gx t<=day)).take j).filter fun t=>decide (spotOf bD t=kk)).map (·.2.2)).length<=1000000:=by
     rw[ae]
     have e1:=aW (fun t=>decide (spotOf bD t=kk)) ((S.made.filter fun t=>decide (S.gx t<=day)).take j)
     rw[ba] at e1
     lia
    have N0:=t3 _ _ hp
    refine⟨_,rfl,_,rfl,p,_,_,_,rfl,rfl,cF.of N0,MQ bD t,_,rfl,q,_,dq,_,_,rfl,t3 _ _ A9,Ap G bD,yM G bD,yL bD _ _,rfl,_,rfl,cH (fun z=>?_) (fun z=>?_)⟩
    ·have z':spotOf bD t=kk:=by
      have:=a6 z
      injection this with this
      lia
     rw[aY (aK z')] at Kj
     refine⟨_,rfl,p,_,_,.int t.2.2,rfl,rfl,cF.of N0,rfl,_,iE,ji (by rw[ae]; exact hsz),hD,_,rfl,t3.dr hD,?_⟩
     rw[ag,Kj,aL,aL]
     rfl
    ·have z': ¬ spotOf bD t=kk:=fun e=>z (aK (by rw[e]))
     rw[aN (by rw[bL z']; exact aX),cg] at Kj
     refine⟨hD,_,rfl,t3,?_⟩
     rw[Kj]
     exact iE
   ·rintro D σ H6 hD ⟨_,v,rfl,t3,iE⟩
    rw[← rq,aZ,qJ] at iE
    refine⟨D,_,rfl,bG.of iE,_,_,rfl,rfl,?_⟩
    have NQ:Jx bD ((S.rows bD).getD kk default) - ((S.made.filter fun t=>decide (spotOf bD t=kk) && decide (S.gx t<=day)).map (·.2.2)).sum=S.rest bD kk day:=rfl
    have N1:=t3 _ _ FC
    have RB:=hP.mono t3.tk
    have s6:=s2.trans t3
    have no:pR S bD day kk=false-> ∃(rs:List V) (x6 x7:Option V),[some (V.ref pw),some (.ref pt),some (.int (if bD=true then 1 else 0)),some (.int day),some (.ref pc),some (.ref pr),some (.ref q),some (.int (S.rest bD kk day))]=[some (.ref pw),some (.ref pt),some (.int (if bD=true then 1 else 0)),some (.int day),some (.ref pc),some (.ref pr),x6,x7]/\aF H1 H6/\H6 pr=some (.lst rs)/\eR H6 (((ks.take (i + 1)).filter (pR S bD day)).map fun k=>(k,S.rest bD k day)) rs:=fun z=>by
     rw[aN (by rw[z]; exact aX),cg] at pL
     exact⟨rs,some (.ref q),some (.int (S.rest bD kk day)),rfl,s6,N1,by rw[pL]; exact RB⟩
    refine⟨_,rfl,q,_,dq,_,_,rfl,t3 _ _ A9,Ap G bD,P8 G bD,P7 bD _ _,_,rfl,_,_,rfl,rfl,_,rfl,cH (fun z1=>?_) (fun z1=>bX (no ?_))⟩
    ·refine⟨_,rfl,_,_,rfl,rfl,_,rfl,cH (fun z2=>?_) (fun z2=>no ?_)⟩
     ·have yes:pR S bD day kk=true:=by
       unfold pR
       rw[aK (a6 z1),aK (show 0 < S.rest bD kk day from a6 z2)]; rfl
      rw[aY yes] at pL
      refine⟨_,rfl,.inl ⟨rfl,_,bG.of N1⟩,_,rfl,q,_,dq,_,_,rfl,t3 _ _ A9,Ap G bD,yM G bD,yL bD _ _,_,rfl,(by show 2<=sizeLine; decide),fun p8 n8=>?_⟩
      have t8:=aF.new (o:= .tup [V.int (kk:Int),.int (S.rest bD kk day)]) n8
      refine⟨pr,rs,_,rfl,rfl,t8 _ _ N1,bf (by lia),rs ++ [.ref p8],some (.ref q),some (.int (S.rest bD kk day)),rfl,(s6.trans t8).dr nr,ag,?_⟩
      rw[pL,aL]
      have tk:=t8.tk.trans (dY (o:= .lst (rs ++ [.ref p8])) (t8 _ _ N1))
      have fin:eR (upd (upd H6 p8 (.tup [V.int (kk:Int),.int (S.rest bD kk day)])) pr (.lst (rs ++ [.ref p8]))) ((((ks.take i).filter (pR S bD day)).map fun k=>(k,S.rest bD k day)) ++ [(kk,S.rest bD kk day)]) (rs ++ [.ref p8]):=cw (RB.mono tk) ⟨p8,rfl,dY (o:= .lst (rs ++ [.ref p8])) (t8 _ _ N1) _ _ ag⟩
      exact fin
     ·unfold pR
      rw[bL (show ¬ 0 < S.rest bD kk day from fun e=>z2 (aK e)),Bool.and_false]
    ·unfold pR
     rw[bL (fun e=>z1 (aK e)),Oi]
  ·rintro σ H2 ⟨rs,x6,x7,rfl,s2,FC,hP⟩
   rw[ae,← hlen,aZ] at hP
   exact⟨_,rfl,k pr rs H2 (s1.trans s2) nr0 FC hP⟩
structure qN (K:Frag)(mg:Str->Option Value)(x:Str)(st:Stmt)(tb:Addr):Prop where
 ex: ∃(f c:Addr) (oc:Value) (od:Option Addr) (kV doc pm:Value) (an:Option Addr) (ct:Value) (GA:Array (Option Value)),K.lookup f=some ⟨oc,od,.func (fnOf x x (gR st) (dI st) (aA st) .none kV doc pm an (.ref c) ct),GA⟩/\codeIn K (.ref c) x=true/\
  keepIn K (.ref f)=true/\mg x=some (.ref f)/\codeHdIn K c tb=true
theorem qN.fV {x:Str}{st:Stmt}{tb:Addr}{N ps:List Str}{k:Nat}{sp:Sp}(D:qN K mg x st tb)(KB:K.In base)(S:aU N ps (aA st))
  (gp: ∀(f c:Addr) (A:Around) (outer:List Env) (s:Shared) (H:Hp) (vs:List V) (Q:VK) (E:XK),PySem.W.CodeHd base c tb->fu k (A.deeper (envOfC x (aA st) s.heap.objs.size f (.ref c)))->sp vs H Q E->
   ∃t,pB (lJ sG P w K mg base N x (aA st) f (.ref c) A outer s H E).ER (dI st) t/\t {nx:=fun _ H'=>Q .eF H',rt:=Q} (L2.start N vs) H)
  (hb: ∀(kV doc pm:Value) (an:Option Addr) (cY ct:Value) (us:List Value),us.length=ps.length->bindArgs (fnOf x x (gR st) (dI st) (aA st) .none kV doc pm an cY ct) ⟨us,[]⟩=pure (ps.zip us):=by intro _ _ _ _ _ _ us hl; rcases us with _|⟨_,_|⟨_,_|⟨_,_⟩⟩⟩ <;> first|(cases hl; done)|rfl)
  (len: ∀vs H Q E,sp vs H Q E->vs.length=ps.length:=by intro _ _ _ _ h; first|(cases h; subst_vars; rfl)|(repeat (first|(obtain⟨rfl,_⟩:=h; rfl; done)|obtain⟨_,h⟩:=h))):fC P w K mg base x (k + 1) ps sp:=by
 obtain⟨f,c,oc,od,kV,doc,pm,an,ct,GA,lk,sf,hk,hm,hh⟩:=D.ex
 have F:gE K x x st f _:=qh lk sf hk
 refine⟨f,_,IZ lk sf S len fun A outer s H vs Q E hr y6=>?_,hm,hk,F.binds hb⟩
 obtain⟨t,h,q⟩:=gp f c A outer s H vs Q E (PySem.W.codeHd_of_K KB hh) hr y6
 exact⟨t,h.ER,q⟩
theorem rQ {th:List (Int×Nat)}{i:Nat}(h:i < th.length):(th.map FA).getD i []=FA (th.getD i (0,0)):=getD_map FA th i (0,0) [] h
theorem wb {th:List (Int×Nat)}{p:List Nat}(h1: ∀x∈th,x.2 < 1000)(nd:(th.map (·.2)).Nodup)(hp:p.Perm (List.range th.length))(le:p.Pairwise (fun i j=>vK ((th.map FA).getD i [])<=vK ((th.map FA).getD j []))):p.map (fun i=>th.getD i (0,0))=fO th:=by
 have hr:(List.range th.length).map (fun i=>th.getD i (0,0))=th:=yA th (0,0)
 refine nQ uk _ _ ((hp.map _).trans ((List.Perm.of_eq hr).trans (dE th).symm)) ?_ (BW h1 nd)
 rw[sq]
 refine le.imp_of_mem fun{a b} ha hb z=>?_
 have la:a < th.length:=dO.mp (hp.mem_iff.mp ha)
 have lb:b < th.length:=dO.mp (hp.mem_iff.mp hb)
 rw[rQ la,rQ lb] at z
 exact z
theorem ou {α β:Type}{F:α->β->Prop}{l₁:List α}{l₂:List β}(h:Paired F l₁ l₂)(d:α)(e:β): ∀p:List Nat,(∀i∈p,i < l₁.length)->Paired F (p.map fun i=>l₁.getD i d) (p.map fun i=>l₂.getD i e)
 |[],_=> .nil
 |i :: p,hi=>by
  have hl:=hi i aS
  obtain⟨b,e1,e2⟩:=bK h (af hl)
  refine .cons ?_ (ou h d e p fun j hj=>hi j (aI _ hj))
  show F (l₁.getD i d) (l₂.getD i e)
  rw[ak,ak,af hl,e1]
  exact e2
theorem bQ {H H':Hp}{tb:Addr}{pos:Pos}{qual:Str}(t:Tb H tb pos qual)(s:aF H H'):Tb H' tb pos qual:=by
 obtain⟨ps,h1,h2,h3⟩:=t
 refine⟨ps,s _ _ h1,h2,?_⟩
 rcases h3 with h3|⟨c',h3,h4⟩
 ·exact .inl h3
 ·exact .inr ⟨c',h3,s _ _ h4⟩
theorem wc {H:Hp}{tb q C:Addr}{pos:Pos}{qual:Str}{fs:List (Str×V)}(t:Tb H tb pos qual)(h:eK H q C fs):q∉[tb]:=fun z=>by
 obtain⟨ps,h1,_⟩:=t
 obtain⟨dx,e⟩:=h
 rw[ao.mp z,h1] at e
 cases e
def P9:Pos:=⟨69,30,69,66⟩
def fA (rows:List Rw)(aH:Str)(i:Nat):List Nat:=(List.range i).filter fun k=>decide ((rows.getD k default).aH=aH)
inductive uJ (A:ee)(tb:Addr)(vs:List V)(H:Hp)(Q:VK)(E':XK):Prop
 |mk (pb:Addr)(iP:List Addr)(S:Bk)(aH:Str)(h1:vs=[.ref pb,.str aH])(h2:H pb=some (.lst (iP.map V.ref)))(h3:gH H A.dP fL S.aE iP)(h4:S.aE.length < 64)(h5:Tb H tb P9 ((("bills_in_order":Str) ++ ".<locals>.") ++ "<lambda>"))(h6: ∀D qs H',Frame [tb] H H'->Tb H' tb P9 ((("bills_in_order":Str) ++ ".<locals>.") ++ "<lambda>")->H D=none->H' D=some (.lst (qs.map V.ref))->iT A H' S (inOrder S.aE aH (·.b)) qs->Q (.ref D) H'):uJ A tb vs H Q E'
theorem k9:aU ["bills","who","theirs"] ["bills","who"] (aA (top 17)):={}
theorem l0 (T:Txt K mg){A:ee}{tb:Addr}(G:jO K mg A)(DL:qN K mg "bills_in_order" (top 17) tb)(KB:K.In base)(BM:BMain mg base):fC P w K mg base "bills_in_order" 2 ["bills","who"] (uJ A tb):=by
 refine DL.fV (k:=1) KB k9 (fun f c A' outer s H vs Q E CH hr h=>?_)
 ·obtain⟨pb,iP,S,aH,rfl,Ug,hO,hl,YJ,k⟩:=h
  have nd:=k9.nd
  refine⟨_,(ai (jo (i:=2) nd rfl (Or.inl rfl) (tn:=["bill"]) (cn:=["who"]) (cj:=[1]) rfl (iL (zo:=[(".0",.local),("bill",.local),("who",.cell)])) (cI (pv 0)) (fun _ _ _ _=>(eG (i:=0) (show(["bill","who"]:List Str).Nodup by decide +kernel) rfl (Or.inl rfl))) (fun _ _ _ _=>(qj (a0 dh (fJ (K:=K) rfl (pv 0) rfl) (pv 1) (bb _)))) (fun _ _ _ _=>(pv 0)))
(av (a9 (vE (N:=["bill"]) (y:="bill") rfl T.vJ BM rfl CH (hr.mono (by decide)) {} (fun _ _ _ _ _=>(cM (aa (fJ (K:=K) rfl (pv 0) rfl) (aa (fJ (K:=K) rfl (pv 0) rfl) aw)))) (pv 2))))),?_⟩
  refine⟨_,rfl,pb,rfl,⟨_,bG.of Ug⟩,?_⟩
  refine dX (K:=K) (a:=pb) (xs:=iP.map V.ref) (fun D i σ H6=>H D=none/\ ∃(v:Option V) (qs:List Addr),σ=[v,some (.str aH)]/\aF H H6/\H6 D=some (.lst (qs.map V.ref))/\iT A H6 S (fA S.aE aH i) qs) (fun D hD=>⟨hD,none,[],rfl,aF.new hD,ag,.nil⟩) (fun D i σ H6 _ ⟨_,_,_,_,t3,_⟩=>bG.of (t3 _ _ Ug)) ?_ ?_
  ·rintro D i x σ H6 hx ⟨hD,v,qs,rfl,t3,iE,hB⟩
   rw[aC] at hx
   obtain⟨q,hq,rfl⟩:=a8.mp hx
   have hi:i < S.aE.length:=by have:=(ah.mp hq).1; have:=hO.1; lia
   obtain⟨dq,A9⟩:=(hO.2 i q hq).same t3
   have hql:qs.length<=100:=by
    have e1:=aO hB
    have e2:(fA S.aE aH i).length<=i:=aV (aW _ _) (by rw[dF]; exact aD _)
    lia
   have rR:fA S.aE aH (i + 1)=fA S.aE aH i ++ (if decide ((S.aE.getD i default).aH=aH)=true then[i] else[]):=by
    unfold fA
    rw[wW,gw]
    congr 1
    by_cases z:decide ((S.aE.getD i default).aH=aH)=true
    ·rw[aY z,cQ (p:=fun k=>decide ((S.aE.getD k default).aH=aH)) z]; rfl
    ·rw[aN z,kH (p:=fun k=>decide ((S.aE.getD k default).aH=aH)) z]; rfl
   refine⟨_,rfl,q,_,dq,_,_,rfl,A9,G.ej,G.kZ,Ea _ _,_,rfl,rfl,_,rfl,cH (fun z=>?_) (fun z=>?_)⟩
   ·rw[aY (aK (Ah z))] at rR
    refine⟨_,rfl,_,iE,bf (by rw[ae]; lia),hD,_,qs ++ [q],rfl,t3.dr hD,by rw[ag,aL]; rfl,?_⟩
    rw[rR]
    have kp: ∀{y C:Addr} {gs:List (Str×V)},eK H6 y C gs->eK (upd H6 D (.lst (qs.map V.ref ++ [V.ref q]))) y C gs:=fun{y C gs} ⟨dy,ey⟩=>⟨dy,by rw[az (mM ey iE (by intro w; cases w))]; exact ey⟩
    exact cw (Paired.g8 hB fun _ _ w=>kp w) (kp ⟨dq,A9⟩)
   ·rw[aN (by rw[bL (vU z)]; exact aX),cg] at rR
    refine⟨hD,_,qs,rfl,t3,iE,?_⟩
    rw[rR]
    exact hB
  ·rintro D σ H6 hD ⟨_,v,qs,rfl,t3,iE,hB⟩
   have HA:(iP.map V.ref).length=S.aE.length:=by rw[ae]; exact hO.1
   rw[HA] at hB
   have HM:=bQ YJ t3
   have hth:gF S.aE aH (·.b)=(fA S.aE aH S.aE.length).map fun k=>((S.bl k).b,k):=rfl
   have Iw: ∀x∈fA S.aE aH S.aE.length,x < S.aE.length:=fun x hx=>dO.mp (en.mp hx).1
   have Mq:(fA S.aE aH S.aE.length).Nodup:=ux.filter _
   have YK:(fA S.aE aH S.aE.length).length<=S.aE.length:=aV (aW _ _) (by rw[dF]; exact aD _)
   have kX:inOrder S.aE aH (·.b)=(fO ((fA S.aE aH S.aE.length).map fun k=>((S.bl k).b,k))).map (·.2):=rfl
   generalize fA S.aE aH S.aE.length=ks at hB Iw Mq YK kX
   have YL:=aO hB
   have Kk:((ks.map fun k=>((S.bl k).b,k)):List (Int×Nat)).length=ks.length:=ae _
   have rT: ∀x∈(ks.map fun k=>((S.bl k).b,k)),x.2 < 1000:=fun x hx=>by
    obtain⟨k0,Rj,rfl⟩:=bJ.mp hx
    have:=Iw k0 Rj
    show k0 < 1000
    lia
   have hnd:((ks.map fun k=>((S.bl k).b,k)).map (·.2)).Nodup:=by
    rw[fq]
    have e:((fun x:Int×Nat=>x.2) ∘ fun k=>((S.bl k).b,k))=id:=rfl
    rw[e,LA]
    exact Mq
   have Ep: ∀i,i < ks.length->(ks.map fun k=>((S.bl k).b,k)).getD i (0,0)=((S.bl (ks.getD i 0)).b,ks.getD i 0):=fun i hi=>getD_map (fun k=>((S.bl k).b,k)) ks i 0 (0,0) hi
   generalize YM:(ks.map fun k=>((S.bl k).b,k))=th at Kk rT hnd Ep kX
   refine⟨_,rfl,D,qs.map V.ref,th.map FA,vK,rfl,bG.of iE,by rw[ae]; lia,by rw[ae,ae]; lia,HM,(fun t ht=>?_),(fun t ht u hu=>?_),fun i hi H2 fr R hR=>?_,fun D2 p H2 hp le fr DT Dr Em=>?_⟩
   ·obtain⟨x,_,rfl⟩:=bJ.mp ht
    simp[FA]
   ·obtain⟨x,BK,rfl⟩:=bJ.mp ht
    obtain⟨y,Dp,rfl⟩:=bJ.mp hu
    exact vL (rT x BK) (rT y Dp) (fun e=>⟨rfl,oR hnd BK Dp e⟩) rfl
   ·rw[ae] at hi
    have zt:i < ks.length:=by lia
    obtain⟨q,e1,e2⟩:=bK hB (af zt)
    have YN:(qs.map V.ref).getD i .eF= .ref q:=by rw[ak,aC,e1]; rfl
    have YO:ks.getD i 0=ks[i]:=by rw[ak,af zt]; rfl
    obtain⟨dq,A9⟩:=e2.frame fr (wc HM e2)
    rw[rQ (by lia),Ep i zt,YO] at hR
    rw[YN]
    exact⟨_,rfl,q,_,dq,_,_,rfl,A9,G.ej,G.nS,JR _ _,_,rfl,q,_,dq,_,_,rfl,A9,G.ej,G.ff,lQ _ _,(by show 2<=sizeLine; decide),fun p np=>hR p np⟩
   ·rw[ae] at hp
    have jb: ∀i∈p,i < ks.length:=fun i hi=>by have:=dO.mp (hp.mem_iff.mp hi); lia
    have Qa:=wb rT hnd (by rw[Kk,YL]; exact hp) le
    have Lq:iT A H2 S ks qs:=Paired.g8 hB fun _ _ w=>w.frame fr (wc HM w)
    refine k D2 (p.map fun i=>qs.getD i tb) H2 ((t3.frame).tr fr) DT (t3.free Dr) ?_ ?_
    ·rw[Em,fq]
     congr 2
     apply fY
     intro i hi
     exact getD_map V.ref qs i tb .eF (by have:=jb i hi; lia)
    ·rw[kX,← Qa,fq]
     have e:p.map ((fun x:Int×Nat=>x.2) ∘ fun i=>th.getD i (0,0))=p.map fun i=>ks.getD i 0:=fY fun i hi=>by
      show(th.getD i (0,0)).2=_
      rw[Ep i (jb i hi)]
     rw[e]
     exact ou Lq 0 tb p jb
def Qb:Pos:=⟨72,30,72,72⟩
inductive uK (A:ee)(tb:Addr)(vs:List V)(H:Hp)(Q:VK)(E':XK):Prop
 |mk (pb:Addr)(iP:List Addr)(S:Bk)(aH:Str)(h1:vs=[.ref pb,.str aH])(h2:H pb=some (.lst (iP.map V.ref)))(h3:gH H A.eh fz S.credits iP)(h4:S.credits.length < 64)(h5:Tb H tb Qb ((("credits_in_order":Str) ++ ".<locals>.") ++ "<lambda>"))(h6: ∀D qs H',Frame [tb] H H'->Tb H' tb Qb ((("credits_in_order":Str) ++ ".<locals>.") ++ "<lambda>")->H D=none->H' D=some (.lst (qs.map V.ref))->gX A H' S (inOrder S.credits aH (·.a)) qs->Q (.ref D) H'):uK A tb vs H Q E'
theorem jK:aU ["all_credits","who","theirs"] ["all_credits","who"] (aA (top 18)):={}
theorem kr (T:Txt K mg){A:ee}{tb:Addr}(G:jO K mg A)(DL:qN K mg "credits_in_order" (top 18) tb)(KB:K.In base)(BM:BMain mg base):fC P w K mg base "credits_in_order" 2 ["all_credits","who"] (uK A tb):=by
 refine DL.fV (k:=1) KB jK (fun f c A' outer s H vs Q E CH hr h=>?_)
 ·obtain⟨pb,iP,S,aH,rfl,Ug,hO,hl,YJ,k⟩:=h
  have nd:=jK.nd
  refine⟨_,(ai (jo (i:=2) nd rfl (Or.inl rfl) (tn:=["credit"]) (cn:=["who"]) (cj:=[1]) rfl (iL (zo:=[(".0",.local),("credit",.local),("who",.cell)])) (cI (pv 0)) (fun _ _ _ _=>(eG (i:=0) (show(["credit","who"]:List Str).Nodup by decide +kernel) rfl (Or.inl rfl))) (fun _ _ _ _=>(qj (a0 dh (fJ (K:=K) rfl (pv 0) rfl) (pv 1) (bb _)))) (fun _ _ _ _=>(pv 0)))
(av (a9 (vE (N:=["credit"]) (y:="credit") rfl T.vJ BM rfl CH (hr.mono (by decide)) {} (fun _ _ _ _ _=>(cM (aa (fJ (K:=K) rfl (pv 0) rfl) (aa (fJ (K:=K) rfl (pv 0) rfl) aw)))) (pv 2))))),?_⟩
  refine⟨_,rfl,pb,rfl,⟨_,bG.of Ug⟩,?_⟩
  refine dX (K:=K) (a:=pb) (xs:=iP.map V.ref) (fun D i σ H6=>H D=none/\ ∃(v:Option V) (qs:List Addr),σ=[v,some (.str aH)]/\aF H H6/\H6 D=some (.lst (qs.map V.ref))/\gX A H6 S (fA S.credits aH i) qs) (fun D hD=>⟨hD,none,[],rfl,aF.new hD,ag,.nil⟩) (fun D i σ H6 _ ⟨_,_,_,_,t3,_⟩=>bG.of (t3 _ _ Ug)) ?_ ?_
  ·rintro D i x σ H6 hx ⟨hD,v,qs,rfl,t3,iE,hB⟩
   rw[aC] at hx
   obtain⟨q,hq,rfl⟩:=a8.mp hx
   have hi:i < S.credits.length:=by have:=(ah.mp hq).1; have:=hO.1; lia
   obtain⟨dq,A9⟩:=(hO.2 i q hq).same t3
   have hql:qs.length<=100:=by
    have e1:=aO hB
    have e2:(fA S.credits aH i).length<=i:=aV (aW _ _) (by rw[dF]; exact aD _)
    lia
   have rR:fA S.credits aH (i + 1)=fA S.credits aH i ++ (if decide ((S.credits.getD i default).aH=aH)=true then[i] else[]):=by
    unfold fA
    rw[wW,gw]
    congr 1
    by_cases z:decide ((S.credits.getD i default).aH=aH)=true
    ·rw[aY z,cQ (p:=fun k=>decide ((S.credits.getD k default).aH=aH)) z]; rfl
    ·rw[aN z,kH (p:=fun k=>decide ((S.credits.getD k default).aH=aH)) z]; rfl
   refine⟨_,rfl,q,_,dq,_,_,rfl,A9,G.dg,G.lz,JS _ _,_,rfl,rfl,_,rfl,cH (fun z=>?_) (fun z=>?_)⟩
   ·rw[aY (aK (Ah z))] at rR
    refine⟨_,rfl,_,iE,bf (by rw[ae]; lia),hD,_,qs ++ [q],rfl,t3.dr hD,by rw[ag,aL]; rfl,?_⟩
    rw[rR]
    have kp: ∀{y C:Addr} {gs:List (Str×V)},eK H6 y C gs->eK (upd H6 D (.lst (qs.map V.ref ++ [V.ref q]))) y C gs:=fun{y C gs} ⟨dy,ey⟩=>⟨dy,by rw[az (mM ey iE (by intro w; cases w))]; exact ey⟩
    exact cw (Paired.g8 hB fun _ _ w=>kp w) (kp ⟨dq,A9⟩)
   ·rw[aN (by rw[bL (vU z)]; exact aX),cg] at rR
    refine⟨hD,_,qs,rfl,t3,iE,?_⟩
    rw[rR]
    exact hB
  ·rintro D σ H6 hD ⟨_,v,qs,rfl,t3,iE,hB⟩
   have HA:(iP.map V.ref).length=S.credits.length:=by rw[ae]; exact hO.1
   rw[HA] at hB
   have HM:=bQ YJ t3
   have hth:gF S.credits aH (·.a)=(fA S.credits aH S.credits.length).map fun k=>((S.cr k).a,k):=rfl
   have Iw: ∀x∈fA S.credits aH S.credits.length,x < S.credits.length:=fun x hx=>dO.mp (en.mp hx).1
   have Mq:(fA S.credits aH S.credits.length).Nodup:=ux.filter _
   have YK:(fA S.credits aH S.credits.length).length<=S.credits.length:=aV (aW _ _) (by rw[dF]; exact aD _)
   have kX:inOrder S.credits aH (·.a)=(fO ((fA S.credits aH S.credits.length).map fun k=>((S.cr k).a,k))).map (·.2):=rfl
   generalize fA S.credits aH S.credits.length=ks at hB Iw Mq YK kX
   have YL:=aO hB
   have Kk:((ks.map fun k=>((S.cr k).a,k)):List (Int×Nat)).length=ks.length:=ae _
   have rT: ∀x∈(ks.map fun k=>((S.cr k).a,k)),x.2 < 1000:=fun x hx=>by
    obtain⟨k0,Rj,rfl⟩:=bJ.mp hx
    have:=Iw k0 Rj
    show k0 < 1000
    lia
   have hnd:((ks.map fun k=>((S.cr k).a,k)).map (·.2)).Nodup:=by
    rw[fq]
    have e:((fun x:Int×Nat=>x.2) ∘ fun k=>((S.cr k).a,k))=id:=rfl
    rw[e,LA]
    exact Mq
   have Ep: ∀i,i < ks.length->(ks.map fun k=>((S.cr k).a,k)).getD i (0,0)=((S.cr (ks.getD i 0)).a,ks.getD i 0):=fun i hi=>getD_map (fun k=>((S.cr k).a,k)) ks i 0 (0,0) hi
   generalize YM:(ks.map fun k=>((S.cr k).a,k))=th at Kk rT hnd Ep kX
   refine⟨_,rfl,D,qs.map V.ref,th.map FA,vK,rfl,bG.of iE,by rw[ae]; lia,by rw[ae,ae]; lia,HM,(fun t ht=>?_),(fun t ht u hu=>?_),fun i hi H2 fr R hR=>?_,fun D2 p H2 hp le fr DT Dr Em=>?_⟩
   ·obtain⟨x,_,rfl⟩:=bJ.mp ht
    simp[FA]
   ·obtain⟨x,BK,rfl⟩:=bJ.mp ht
    obtain⟨y,Dp,rfl⟩:=bJ.mp hu
    exact vL (rT x BK) (rT y Dp) (fun e=>⟨rfl,oR hnd BK Dp e⟩) rfl
   ·rw[ae] at hi
    have zt:i < ks.length:=by lia
    obtain⟨q,e1,e2⟩:=bK hB (af zt)
    have YN:(qs.map V.ref).getD i .eF= .ref q:=by rw[ak,aC,e1]; rfl
    have YO:ks.getD i 0=ks[i]:=by rw[ak,af zt]; rfl
    obtain⟨dq,A9⟩:=e2.frame fr (wc HM e2)
    rw[rQ (by lia),Ep i zt,YO] at hR
    rw[YN]
    exact⟨_,rfl,q,_,dq,_,_,rfl,A9,G.dg,G.jj,JT _ _,_,rfl,q,_,dq,_,_,rfl,A9,G.dg,G.eY,oQ _ _,(by show 2<=sizeLine; decide),fun p np=>hR p np⟩
   ·rw[ae] at hp
    have jb: ∀i∈p,i < ks.length:=fun i hi=>by have:=dO.mp (hp.mem_iff.mp hi); lia
    have Qa:=wb rT hnd (by rw[Kk,YL]; exact hp) le
    have Lq:gX A H2 S ks qs:=Paired.g8 hB fun _ _ w=>w.frame fr (wc HM w)
    refine k D2 (p.map fun i=>qs.getD i tb) H2 ((t3.frame).tr fr) DT (t3.free Dr) ?_ ?_
    ·rw[Em,fq]
     congr 2
     apply fY
     intro i hi
     exact getD_map V.ref qs i tb .eF (by have:=jb i hi; lia)
    ·rw[kX,← Qa,fq]
     have e:p.map ((fun x:Int×Nat=>x.2) ∘ fun i=>th.getD i (0,0))=p.map fun i=>ks.getD i 0:=fY fun i hi=>by
      show(th.getD i (0,0)).2=_
      rw[Ep i (jb i hi)]
     rw[e]
     exact ou Lq 0 tb p jb
theorem we {A:ee}{H H':Hp}{pw tb:Addr}{S:Bk}{f:eX}(h:dJ A H pw S f)(ht: ∃ps,H tb=some (.ng ps))(fr:Frame [tb] H H'):dJ A H' pw S f:=by
 obtain⟨ps,ht⟩:=ht
 have kl: ∀{a:Addr} {xs:List V},H a=some (.lst xs)->H' a=some (.lst xs):=fun{a xs} e=>fr _ _ (fun z=>by rw[ao.mp z,ht] at e; cases e) e
 have ki: ∀{a C dx:Addr} {gs:List (Str×V)},H a=some (.ins C dx gs)->H' a=some (.ins C dx gs):=fun{a C dx gs} e=>fr _ _ (fun z=>by rw[ao.mp z,ht] at e; cases e) e
 have kt:cK H H':=fun a xs e=>fr _ _ (fun z=>by rw[ao.mp z,ht] at e; cases e) e
 obtain⟨dw,hw⟩:=h.obj
 obtain⟨ms,m1,m2⟩:=h.hm
 exact⟨⟨dw,ki hw⟩,kl h.hb,kl h.hc,kl h.hl,kl h.hf,⟨ms,kl m1,m2.mono kt⟩,h.rb.keep fun _ _ _ e=>ki e,h.rc.keep fun _ _ _ e=>ki e,h.nd⟩
def l4 (H:Hp)(tb:Addr):Prop:=Tb H tb P9 ((("bills_in_order":Str) ++ ".<locals>.") ++ "<lambda>")
def mF (H:Hp)(tb:Addr):Prop:=Tb H tb Qb ((("credits_in_order":Str) ++ ".<locals>.") ++ "<lambda>")
inductive Aq (A:ee)(tb:Addr)(vs:List V)(H:Hp)(Q:VK)(E':XK):Prop
 |mk (pw:Addr)(S:Bk)(f:eX)(n:Nat)(aH:Str)(day:Int)(h1:vs=[.ref pw,.str aH,.int day])(h2:dJ A H pw S f)(h3:WF S n)(h4:n<=60)(h5:l4 H tb)(h6: ∀D ms H',Frame [tb] H H'->l4 H' tb->H D=none->H' D=some (.lst ms)->eR H' (S.eQ true aH day) ms->Q (.ref D) H'):Aq A tb vs H Q E'
inductive Er (A:ee)(tb:Addr)(vs:List V)(H:Hp)(Q:VK)(E':XK):Prop
 |mk (pw:Addr)(S:Bk)(f:eX)(n:Nat)(aH:Str)(day:Int)(h1:vs=[.ref pw,.str aH,.int day])(h2:dJ A H pw S f)(h3:WF S n)(h4:n<=60)(h5:mF H tb)(h6: ∀D ms H',Frame [tb] H H'->mF H' tb->H D=none->H' D=some (.lst ms)->eR H' (S.eQ false aH day) ms->Q (.ref D) H'):Er A tb vs H Q E'
theorem Es:aU ["work","who","day"] ["work","who","day"] (aA (top 36)):={}
theorem yN (T:Txt K mg){A:ee}{tb:Addr}(G:jO K mg A)(DL:qN K mg "bills_in_order" (top 17) tb)(KB:K.In base)(BM:BMain mg base):fC P w K mg base "owed_at" 5 ["work","who","day"] (Aq A tb):=by
 have jg:fC P w K mg base "bills_in_order" 2 ["bills","who"] (uJ A tb):=l0 T G DL KB BM
 have kz:fC P w K mg base "remaining_at" 4 ["work","told","place","day"] (rP A):=oq T G
 refine T.G9.fV (k:=4) Es (fun f cY A' outer s H vs Q E hr h=>?_)
 ·obtain⟨pw,S,g,n,aH,day,rfl,hW,wf,hn,hT,k⟩:=h
  obtain⟨dw,hw⟩:=hW.obj
  refine⟨_,(av (a9 (fc kz hr (aa (pv 0) (aa (fc jg hr (aa (bZ (pv 0) rfl) (aa (pv 1) aw))) (aa aj (aa (pv 2) aw))))))),?_⟩
  refine⟨_,rfl,_,rfl,pw,_,dw,_,_,rfl,hw,G.bI,G.d8,ju g,_,rfl,g.pb,g.iP,S,aH,rfl,hW.hb,hW.rb,(by have:=wf.lb; lia),hT,fun D qs H1 fr FG nD hD hB=>?_⟩
  have Ds:=we hW (let⟨ps,e,_⟩:=hT; ⟨ps,e⟩) fr
  have MT:(inOrder S.aE aH (·.b)).length<=100:=by
   have e:(inOrder S.aE aH (·.b)).length=((List.range S.aE.length).filter fun k=>decide ((S.aE.getD k default).aH=aH)).length:=by
    unfold inOrder gF
    rw[ae,(dE _).length_eq,ae]
   have:=aW (fun k=>decide ((S.aE.getD k default).aH=aH)) (List.range S.aE.length)
   rw[dF] at this
   have:=wf.lb
   lia
  refine⟨_,rfl,pw,D,S,g,n,true,day,inOrder S.aE aH (·.b),qs,rfl,Ds,wf,(by have:=wf.lm; lia),hD,hB,MT,fun D2 ms H2 s2 Dr Em hP=>?_⟩
  exact k D2 ms H2 (fr.cU s2) (bQ FG s2) (fr.free (fun z=>by
   obtain⟨ps,e,_⟩:=FG
   rw[ao.mp z,e] at Dr
   cases Dr) Dr) Em hP
theorem Et:aU ["work","who","day"] ["work","who","day"] (aA (top 37)):={}
theorem HN (T:Txt K mg){A:ee}{tb:Addr}(G:jO K mg A)(DL:qN K mg "credits_in_order" (top 18) tb)(KB:K.In base)(BM:BMain mg base):fC P w K mg base "free_at" 5 ["work","who","day"] (Er A tb):=by
 have iu:fC P w K mg base "credits_in_order" 2 ["all_credits","who"] (uK A tb):=kr T G DL KB BM
 have kz:fC P w K mg base "remaining_at" 4 ["work","told","place","day"] (rP A):=oq T G
 refine T.Hg.fV (k:=4) Et (fun f cY A' outer s H vs Q E hr h=>?_)
 ·obtain⟨pw,S,g,n,aH,day,rfl,hW,wf,hn,hT,k⟩:=h
  obtain⟨dw,hw⟩:=hW.obj
  refine⟨_,(av (a9 (fc kz hr (aa (pv 0) (aa (fc iu hr (aa (bZ (pv 0) rfl) (aa (pv 1) aw))) (aa aj (aa (pv 2) aw))))))),?_⟩
  refine⟨_,rfl,_,rfl,pw,_,dw,_,_,rfl,hw,G.bI,G.cG,ir g,_,rfl,g.pc,g.cps,S,aH,rfl,hW.hc,hW.rc,(by have:=wf.lc; lia),hT,fun D qs H1 fr FG nD hD hB=>?_⟩
  have Ds:=we hW (let⟨ps,e,_⟩:=hT; ⟨ps,e⟩) fr
  have MT:(inOrder S.credits aH (·.a)).length<=100:=by
   have e:(inOrder S.credits aH (·.a)).length=((List.range S.credits.length).filter fun k=>decide ((S.credits.getD k default).aH=aH)).length:=by
    unfold inOrder gF
    rw[ae,(dE _).length_eq,ae]
   have:=aW (fun k=>decide ((S.credits.getD k default).aH=aH)) (List.range S.credits.length)
   rw[dF] at this
   have:=wf.lc
   lia
  refine⟨_,rfl,pw,D,S,g,n,false,day,inOrder S.credits aH (·.a),qs,rfl,Ds,wf,(by have:=wf.lm; lia),hD,hB,MT,fun D2 ms H2 s2 Dr Em hP=>?_⟩
  exact k D2 ms H2 (fr.cU s2) (bQ FG s2) (fr.free (fun z=>by
   obtain⟨ps,e,_⟩:=FG
   rw[ao.mp z,e] at Dr
   cases Dr) Dr) Em hP
inductive Ar (vs:List V)(H:Hp)(Q:VK)(E':XK):Prop
 |mk (gx:Int)(pl:Addr)(dj:List Int)(h1:vs=[.int gx,.ref pl])(h2:H pl=some (.tup (dj.map V.int)))(h3:dj.length<=11)(h4: ∀H',aF H H'->Q (.int (L2.placeOf gx dj:Int)) H'):Ar vs H Q E'
theorem CF:aU ["late","limits"] ["late","limits"] (aA (top 1)):={}
theorem Eu (T:Txt K mg):fC P w K mg base "place_of" 1 ["late","limits"] Ar:=by
 refine T.D5.fV (k:=0) CF (fun f cY A' outer s H vs Q E hr h=>?_)
 ·obtain⟨gx,pl,dj,rfl,jb,Kc,k⟩:=h
  refine⟨_,(ai (bT (a0 yg (pv 0) aj (bb _))
(av (a9 aj))
bp)
(av (a9 (aQ dk aj (oP T.eJ (iK (tn:=["limit"]) (cn:=["late"]) (cj:=[0]) rfl (iL (zo:=[(".0",.local),("limit",.local),("late",.cell)])) (OF (pv 1)) (fun _ _ _ _=>(eG (i:=0) (show(["limit","late"]:List Str).Nodup by decide +kernel) rfl (Or.inl rfl))) (fun _ _ _ _=>(qj (a0 kN (pv 0) (pv 1) (bb _)))) (fun _ _ _ _=>(pv 0)))))))),?_⟩
  refine⟨_,rfl,_,_,rfl,rfl,_,rfl,cH (fun z=>?_) (fun z=>?_)⟩
  ·have z':gx<=0:=a6 z
   have e:L2.placeOf gx dj=0:=aY z'
   have q:=k H (aF.refl _)
   rw[e] at q
   exact q
  have z': ¬ gx<=0:=fun q=>z (aK q)
  have e:L2.placeOf gx dj=1 + (dj.filter fun l=>decide (l < gx)).length:=aN z'
  refine⟨_,rfl,pl,rfl,⟨_,cF.of jb⟩,?_⟩
  refine Jj (K:=K) (a:=pl) (xs:=dj.map V.int) (fun D' j σ H6=>H D'=none/\ ∃v,σ=[v,some (.int gx)]/\aF H H6/\H6 D'=some (.lst (((dj.take j).filter fun l=>decide (l < gx)).map V.int))) (fun D' El=>⟨El,none,rfl,aF.new El,ag⟩) (fun D' j σ H6 _ ⟨_,_,_,t3,_⟩=>cF.of (t3 _ _ jb)) ?_ ?_
  ·rintro D' j x σ H6 NW ⟨El,v,rfl,t3,iE⟩
   rw[aC] at NW
   obtain⟨y,hy,rfl⟩:=a8.mp NW
   have pL:=gO (fun l=>decide (l < gx)) hy
   have hlen:((dj.take j).filter fun l=>decide (l < gx)).length<=100:=by
    have:=aW (fun l=>decide (l < gx)) (dj.take j)
    rw[ba] at this
    lia
   refine⟨_,rfl,_,rfl,_,_,rfl,rfl,_,rfl,cH (fun q=>?_) (fun q=>?_)⟩
   ·rw[aY q] at pL
    refine⟨_,rfl,_,iE,bf (by rw[ae]; lia),El,_,rfl,t3.dr El,?_⟩
    rw[ag,pL,aL]
    rfl
   ·rw[aN q,cg] at pL
    refine⟨El,_,rfl,t3,?_⟩
    rw[pL]
    exact iE
  ·rintro D' σ H6 El ⟨_,v,rfl,t3,iE⟩
   refine⟨D',_,rfl,.inl (bG.of iE),_,_,rfl,rfl,?_⟩
   have q:=k H6 t3
   rw[e] at q
   have e2:(1:Int) + ((((dj.take (dj.map V.int).length).filter fun l=>decide (l < gx)).map V.int).length:Int)=((1 + (dj.filter fun l=>decide (l < gx)).length:Nat):Int):=by
    rw[ae,ae,aZ]
    simp
   rw[← e2] at q
   exact q
inductive Ew (A:ee)(tb:Addr)(vs:List V)(H:Hp)(Q:VK)(E':XK):Prop
 |mk (pw pl:Addr)(S:Bk)(f:eX)(n:Nat)(aH:Str)(day:Int)(dj:List Int)(h1:vs=[.ref pw,.str aH,.int day,.ref pl])(h2:dJ A H pw S f)(h3:WF S n)(h4:n<=60)(h5:l4 H tb)(h6:H pl=some (.tup (dj.map V.int)))(h7:dj.length<=11)(h8: ∀D H',Frame [tb] H H'->l4 H' tb->H D=none->H' D=some (.lst ((S.Pb aH day dj).map V.int))->Q (.ref D) H'):Ew A tb vs H Q E'
theorem wg:aU ["work","who","day","limits","sums","number","left","place"] ["work","who","day","limits"] (aA (top 41)):={}
theorem HP (T:Txt K mg){A:ee}{tb:Addr}(G:jO K mg A)(DL:qN K mg "bills_in_order" (top 17) tb)(KB:K.In base)(BM:BMain mg base):fC P w K mg base "ages_at" 6 ["work","who","day","limits"] (Ew A tb):=by
 have sU:fC P w K mg base "owed_at" 5 ["work","who","day"] (Aq A tb):=yN T G DL KB BM
 have Ex:fC P w K mg base "place_of" 1 ["late","limits"] Ar:=Eu T
 refine T.Hh.fV (k:=5) wg (fun f cY A' outer s H vs Q E hr h=>?_)
 ·obtain⟨pw,pl,S,g,n,aH,day,dj,rfl,hW,wf,hn,hT,jb,Kc,k⟩:=h
  have nd:=wg.nd
  refine⟨_,(ai (sv 4 nd (aQ zj (bS (aa aj aw)) (aQ dk (oP T.eJ (pv 3)) aj)))
(ai (eN bB rfl (cI (fc sU hr (aa (pv 0) (aa (pv 1) (aa (pv 2) aw))))) (iH rfl (bW (gn 5 nd) (bW (gn 6 nd) gy)))
(ai (sv 7 nd (fc Ex hr (aa (aQ fS (pv 2) (bZ (xl (bZ (pv 0) rfl) (pv 5)) rfl)) (aa (pv 3) aw))))
(av (nv (aQ dk (xl (pv 4) (pv 7)) (pv 6)) (sD (pv 4) (pv 7) set_list)))))
(av (a9 (pv 4))))),?_⟩
  refine⟨(by show 1<=sizeLine; decide),fun p9 n9=>?_⟩
  have t9:=aF.new (o:= .lst [V.int 0]) n9
  have Uh:(dj.map V.int).length=dj.length:=ae _
  refine⟨_,rfl,pl,_,rfl,.inr (cF.of (t9 _ _ jb)),_,_,rfl,rfl,p9,_,_,rfl,rfl,ag,by lia,by lia,?_,fun ps Ey=>?_⟩
  ·show 1 * _<=sizeLine
   rw[Uh,eU]
   lia
  have e2:(((dj.map V.int).length:Int) + 2).toNat=dj.length + 2:=by rw[Uh]; lia
  rw[e2,MR]
  have Cy:=aF.new (o:= .lst ((List.replicate (dj.length + 2) (0:Int)).map V.int)) Ey
  have Kg:=t9.trans Cy
  have ni:upd (upd H p9 (.lst [V.int 0])) ps (.lst ((List.replicate (dj.length + 2) (0:Int)).map V.int)) ps=some (.lst ((List.replicate (dj.length + 2) (0:Int)).map V.int)):=ag
  have Qc:H ps=none:=t9.free Ey
  generalize upd (upd H p9 (.lst [V.int 0])) ps (.lst ((List.replicate (dj.length + 2) (0:Int)).map V.int))=H1 at Kg ni
  have FG:=bQ hT Kg
  refine⟨_,rfl,_,rfl,_,rfl,pw,S,g,n,aH,day,rfl,hW.same Kg,wf,hn,FG,fun D ms H2 fr DT nD hD hP=>?_⟩
  refine⟨D,rfl,⟨_,bG.of hD⟩,?_⟩
  have ng: ∃q,H1 tb=some (.ng q):=let⟨q,e,_⟩:=FG; ⟨q,e⟩
  have off: ∀{a:Addr} {o:HO},H1 a=some o->(∀q,o≠ .ng q)->H2 a=some o:=fun{a o} e hq=>fr _ _ (fun z=>by
   obtain⟨q,eq⟩:=ng
   rw[ao.mp z,eq] at e
   exact hq q (aG e).symm) e
  have As:=we (hW.same Kg) ng fr
  have Qd:=off ni (fun _ z=>by cases z)
  have Qe:=off (Kg _ _ jb) (fun _ z=>by cases z)
  have fr0:Frame [tb] H H2:=fr.mz Kg
  have Kl: ∀t∈S.eQ true aH day,t.1 < S.aE.length:=fun t ht=>HF (bD:=true) ht
  have hag:S.Pb aH day dj=(S.eQ true aH day).foldl (fun l t=>tP l (L2.placeOf (day - (S.bl t.1).b) dj) t.2) (List.replicate (dj.length + 2) 0):=rfl
  rw[hag] at k
  generalize S.eQ true aH day=ts at hP Kl k
  have hDp:D≠ps:=fun e=>by rw[e,ni] at nD; cases nD
  refine fG (K:=K) (a:=D) (xs:=ms) (fun i σ H3=> ∃(l:List Int) (x5 x6 x7:Option V),σ=[some (.ref pw),some (.str aH),some (.int day),some (.ref pl),some (.ref ps),x5,x6,x7]/\Frame [ps] H2 H3/\H3 ps=some (.lst (l.map V.int))/\l.length=dj.length + 2/\l=(ts.take i).foldl (fun l t=>tP l (L2.placeOf (day - (S.bl t.1).b) dj) t.2) (List.replicate (dj.length + 2) 0))
   ⟨_,none,none,none,rfl,Frame.refl,Qd,List.length_replicate,rfl⟩ (fun i σ H3 _ ⟨_,_,_,_,_,f3,_⟩=>bG.of (f3 _ _ (by simpa using hDp) hD)) ?_ ?_
  ·rintro i x σ H3 hx ⟨l,x5,x6,x7,rfl,f3,Rg,Au,he⟩
   have Wj: ∀{a:Addr} {o:HO},H2 a=some o->(∀q,o≠ .lst q)->H3 a=some o:=fun{a o} e hq=>f3 _ _ (fun z=>by
    rw[ao.mp z,Qd] at e
    exact hq _ (aG e).symm) e
   have hi:i < ts.length:=by have:=(ah.mp hx).1; have:=aO hP; lia
   have qM:=af hi
   obtain⟨v,hv,p,rfl,hp⟩:=bK hP qM
   rw[hx] at hv
   obtain rfl:x= .ref p:=aG hv
   have hm:=Kl _ (bH hi)
   rw[lX (fun l t=>tP l (L2.placeOf (day - (S.bl t.1).b) dj) t.2) ts _ qM,← he]
   generalize ts[i]=t at hp hm
   obtain⟨dw,hw⟩:=As.obj
   obtain⟨q,q1,dq,q2⟩:=As.rb.get hm
   have YQ:g.pb∉[ps]:=fun z=>by
    have e:=hW.hb
    rw[ao.mp z,Qc] at e
    cases e
   have RC:=Wj hp (fun _ z=>by cases z)
   have hw3:=Wj hw (fun _ z=>by cases z)
   have hq3:=Wj q2 (fun _ z=>by cases z)
   have YR:=Wj Qe (fun _ z=>by cases z)
   refine⟨p,_,rfl,cF.of RC,rfl,_,_,rfl,_,_,rfl,rfl,?_⟩
   refine⟨_,rfl,_,rfl,pw,_,dw,_,_,rfl,hw3,G.bI,G.d8,ju g,_,rfl,g.pb,_,_,.ref q,rfl,rfl,bG.of (f3 _ _ YQ As.hb),cA (by rw[aC,q1]; rfl),q,_,dq,_,_,rfl,hq3,G.ej,G.nS,JR _ _,_,_,rfl,rfl,_,rfl,_,pl,dj,rfl,YR,Kc,fun H4 s4=>?_⟩
   have Ui:=Eo (day - (S.bl t.1).b) dj
   have hs4:=s4 _ _ Rg
   refine⟨_,rfl,_,rfl,ps,_,_,.int (l.getD (L2.placeOf (day - (S.bl t.1).b) dj) 0),rfl,rfl,bG.of hs4,sR (by show L2.placeOf (day - (S.bl t.1).b) dj < _; lia),_,rfl,_,_,rfl,rfl,?_⟩
   refine⟨_,rfl,_,rfl,ps,_,_,L2.placeOf (day - (S.bl t.1).b) dj,rfl,rfl,hs4,uD (by rw[ae]; show L2.placeOf (day - (S.bl t.1).b) dj < _; lia),?_⟩
   refine⟨tP l (L2.placeOf (day - (S.bl t.1).b) dj) t.2,_,_,_,rfl,(f3.cU s4).tr (Frame.upd (by simp)),?_,?_,rfl⟩
   ·rw[ag]
    unfold tP
    rw[List.map_set]
   ·rw[HI]; exact Au
  ·rintro σ H3 ⟨l,x5,x6,x7,rfl,f3,Rg,Au,he⟩
   rw[← aO hP,aZ] at he
   rw[he] at Rg
   refine⟨_,rfl,k ps H3 (fun b o hb e=>f3 b o (fun z=>by rw[ao.mp z,Qc] at e; cases e) (fr0 b o hb e)) ?_ Qc Rg⟩
   obtain⟨q,e1,SJ,e3⟩:=DT
   have kx: ∀{a:Addr} {o:HO},H2 a=some o->(∀q,o≠ .lst q)->H3 a=some o:=fun{a o} e hq=>f3 _ _ (fun z=>by
    rw[ao.mp z,Qd] at e
    exact hq _ (aG e).symm) e
   refine⟨q,kx e1 (fun _ z=>by cases z),SJ,?_⟩
   rcases e3 with e3|⟨c',e3,e4⟩
   ·exact .inl e3
   ·exact .inr ⟨c',e3,kx e4 (fun _ z=>by cases z)⟩
def fj (pk pw:Addr):List (Str×V):=[("kept",.ref pk),("work",.ref pw)]
theorem uL (pk pw:Addr):(fj pk pw).lookup ("kept":Str)=some (V.ref pk):=by rfl
theorem uM (pk pw:Addr):(fj pk pw).lookup ("work":Str)=some (V.ref pw):=by rfl
theorem Km (pk pw:Addr):eO "work" (.ref pw) (eO "kept" (.ref pk) [])=fj pk pw:=by rfl
inductive Av (A:ee)(vs:List V)(H:Hp)(Q:VK)(E':XK):Prop
 |mk (x dx:Addr)(h1:vs=[.ref x])(h2:H x=some (.ins A.book dx []))(h3: ∀pk pw f H',Frame [x] H H'->H' x=some (.ins A.book dx (fj pk pw))->H' pk=some (.dK [])->dJ A H' pw Bk.new f->H pk=none->H pw=none->(∀b∈f.fp,H b=none)->pk∉f.fp->Q .eF H'):Av A vs H Q E'
theorem MU:aU ["self"] ["self"] (aA (mem 29 0)):={}
theorem Qf {A:ee}(G:jO K mg A):uo P w K mg base "Book" A.book 3 ["self"] (Av A):=by
 have Ez:uo P w K mg base "Work" A.work 1 ["self"] (uG A):=Ke G
 refine MG (k:=2) G.ME G.MD MU (fun f cY A' outer s H vs Q E hr h=>?_)
 ·obtain⟨x,dx,rfl,hx,k⟩:=h
  refine⟨_,(ai (fZ (pv 0) Bz rfl) (av (fZ (pv 0) (JU Ez (hr.mono (by decide)) rfl) rfl))),?_⟩
  intro pk nk
  have ne1:pk≠x:=(aJ hx nk).symm
  refine⟨_,rfl,x,_,dx,_,rfl,aF.new nk _ _ hx,G.fh,G.gU,lt1000 Cn (by decide),?_⟩
  have F1:Frame [x] H (upd (upd H pk (.dK [])) x (.ins A.book dx (eO "kept" (.ref pk) []))):=(aF.new nk).frame.tr (Frame.upd (by simp))
  have g1:upd (upd H pk (.dK [])) x (.ins A.book dx (eO "kept" (.ref pk) [])) x=some (.ins A.book dx (eO "kept" (.ref pk) [])):=ag
  have k1:upd (upd H pk (.dK [])) x (.ins A.book dx (eO "kept" (.ref pk) [])) pk=some (.dK []):=by rw[az ne1,ag]
  generalize upd (upd H pk (.dK [])) x (.ins A.book dx (eO "kept" (.ref pk) []))=H1 at F1 g1 k1 ⊢
  intro xw YS MV Qg ne
  have s2:=lW (C:=A.work) (fs:=[]) MV Qg ne
  refine⟨xw,YS,rfl,ag,fun g H3 LK W3 nf=>⟨rfl,?_⟩⟩
  have YT:x≠xw:=aJ g1 MV
  have nek:pk≠xw:=aJ k1 MV
  have g3:=LK _ _ (by simpa using YT) (s2 _ _ g1)
  have k3:=LK _ _ (by simpa using nek) (s2 _ _ k1)
  refine⟨_,rfl,x,_,dx,_,rfl,g3,G.fh,G.gW,lt1000 (pl Cn) (by decide),?_⟩
  rw[Km]
  have fw: ∀b∈g.fp,H1 b=none:=fun b hb=>s2.free (nf b hb)
  have off: ∀b,H1 b=none->b≠x->H b=none:=fun b e n=>F1.free (by simpa using n) e
  have xf:x∉g.fp:=fun z=>by have:=fw x z; rw[g1] at this; cases this
  have Uj:dJ A (upd H3 x (.ins A.book dx (fj pk xw))) xw Bk.new g:=by
   obtain⟨dw,hw⟩:=W3.obj
   obtain⟨ms,m1,m2⟩:=W3.hm
   have nx: ∀p∈g.fp,p≠x:=fun p hp z=>xf (z▸hp)
   refine⟨⟨dw,by rw[az YT.symm]; exact hw⟩,by rw[az (nx _ (by simp[eX.fp]))]; exact W3.hb,by rw[az (nx _ (by simp[eX.fp]))]; exact W3.hc,by rw[az (nx _ (by simp[eX.fp]))]; exact W3.hl,by rw[az (nx _ (by simp[eX.fp]))]; exact W3.hf,⟨ms,by rw[az (nx _ (by simp[eX.fp]))]; exact m1,?_⟩,?_,?_,W3.nd⟩
   ·cases m2
    exact .nil
   ·exact⟨W3.rb.1,fun i p e=>by have:=(ah.mp e).1; have h0:=W3.rb.1; rw[h0] at this; exact absurd this (eA _)⟩
   ·exact⟨W3.rc.1,fun i p e=>by have:=(ah.mp e).1; have h0:=W3.rc.1; rw[h0] at this; exact absurd this (eA _)⟩
  refine k pk xw g _ ?_ ag (by rw[az ne1]; exact k3) Uj nk (off xw MV YT.symm) (fun b hb=>off b (fw b hb) (fun z=>xf (z▸hb))) (fun z=>by have:=fw pk z; rw[k1] at this; cases this)
  intro b o hb e
  have bx:b≠x:=by simpa using hb
  rw[az bx]
  have e1:=F1 b o hb e
  exact LK b o (by simpa using aJ e1 MV) (s2 b o e1)
def Aw (r:List Bool):Dt:= .lst (r.map Dt.bl)
def Kn (t:Nat×Nat×Int):Dt:= .tup [.int t.1,.int t.2.1,.int t.2.2]
theorem iy (fs ls:List Int)(al:List (List Bool)): ∀i,(bV fs ls al i).2.length<=i
 |0=>aD _
 |i + 1=>by
  have:=iy fs ls al i
  unfold bV
  split
  ·lia
  ·rw[ax]; show _ + 1<=_; lia
def YU:Option Nat->V
 |none=> .eF
 |some j=> .int j
def qA (bh:List (Key×V))(j:Nat):Bool:=(gA bh (Sum.inl (j:Int):Key)).isSome
inductive Ax (K:Frag)(vs:List V)(H:Hp)(Q:VK)(E':XK):Prop
 |mk (f:Int)(pl:Addr)(ls:List Int)(pr:Addr)(row:List Bool)(pt:Addr)(bh:List (Key×V))(h1:vs=[.int f,.ref pl,.ref pr,.ref pt])(h2:bG K H pl (ls.map V.int))(h3:bG K H pr (row.map V.bl))(h4:row.length=ls.length)(h5:H pt=some (.dK bh))(h6: ∀H',aF H H'->Q (YU (ip f ls row (qA bh))) H'):Ax K vs H Q E'
def ow (H:Hp)(ms:List (Nat×Nat×Int))(vs:List V):Prop:=Paired (fun(t:Nat×Nat×Int) v=> ∃p,v= .ref p/\H p=some (.tup [.int t.1,.int t.2.1,.int t.2.2])) ms vs
theorem ow.mono {H H':Hp}{ms:List (Nat×Nat×Int)}{vs:List V}(h:ow H ms vs)(k: ∀b xs,H b=some (.tup xs)->H' b=some (.tup xs)):ow H' ms vs:=
 Paired.g8 h fun _ _ ⟨p,e,q⟩=>⟨p,e,k _ _ q⟩
theorem ow.rp {H:Hp}: ∀{ms:List (Nat×Nat×Int)} {vs:List V},ow H ms vs->g9 H (ms.map Kn) vs
 |_,_,.nil=>cv.mpr rfl
 |_,_,.cons ⟨p,e,q⟩ t=>br.mpr ⟨_,_,rfl,e▸eP q (br.mpr ⟨_,_,rfl,dD.mpr rfl,br.mpr ⟨_,_,rfl,dD.mpr rfl,br.mpr ⟨_,_,rfl,dD.mpr rfl,cv.mpr rfl⟩⟩⟩),ow.rp t⟩
theorem MW {H:Hp}{p:Addr}{o:HO}{bh:List (Key×V)}(h:H p=some (.dK bh)): ∀b xs,H b=some (.tup xs)->upd H p o b=some (.tup xs):=fun b xs e=>by
 rw[az (mM e h (by intro z; cases z))]; exact e
theorem ox:aU ["free","lefts","fitting","taken","bill","left"] ["free","lefts","fitting","taken"] (aA (top 21)):={}
theorem xQ (T:Txt K mg):fC P w K mg base "first_alike" 1 ["free","lefts","fitting","taken"] (Ax K):=by
 refine T.xn.fV (k:=0) ox (fun f cY A outer s H vs Q E hr h=>?_)
 ·obtain⟨fr,pl,ls,pr,row,pt,bh,rfl,hL,hR,Dk,hT,k⟩:=h
  have hu:=kW hr
  have nd:=ox.nd
  refine⟨_,(ai (eN bB rfl (qZ rfl T.jt (aa (pv 1) aw)) (iH rfl (bW (gn 4 nd) (bW (gn 5 nd) gy)))
(av (bT (PW.pt (pw_and (fR (xl (pv 2) (pv 4))) (pw_and (a0 dh (pv 5) (pv 0) (bb _)) (pw_and1 (y2 (GH hu (pv 4) (pv 3)))))))
(av (a9 (pv 4)))
bp)))
(av (a9 DD))),?_⟩
  refine⟨_,rfl,pl,rfl,⟨_,hL⟩,?_⟩
  refine nI (K:=K) (a:=pl) (xs:=ls.map V.int) (fun i σ H2=> ∃x4 x5,σ=[some (.int fr),some (.ref pl),some (.ref pr),some (.ref pt),x4,x5]/\aF H H2/\ ∀j,j < i->(row.getD j false && decide (ls.getD j 0=fr) && !qA bh j)=false)
   ⟨none,none,rfl,aF.refl _,fun j hj=>absurd hj (eA _)⟩ (fun i σ H2 _ ⟨_,_,_,s2,_⟩=>s2.seq hL) ?_ ?_
  ·rintro i x p σ H2 hx hp ⟨x4,x5,rfl,s2,Uk⟩
   have hi:i < ls.length:=by have:=(ah.mp hx).1; rwa [ae] at this
   rw[aC,af hi] at hx
   obtain rfl:V.int ls[i]=x:=aG hx
   have s3:aF H2 (upd H2 p (.tup [.int i,.int ls[i]])):=aF.new hp
   refine⟨p,_,rfl,cF.of ag,rfl,_,_,rfl,_,_,rfl,rfl,?_⟩
   have s4:=s2.trans s3
   generalize upd H2 p (.tup [.int i,.int ls[i]])=H3 at s4 ⊢
   have Ul:i < row.length:=by lia
   have Qh:ls.getD i 0=ls[i]:=by rw[ak,af hi]; rfl
   have Um:row.getD i false=row[i]:=by rw[ak,af Ul]; rfl
   have next:(row.getD i false && decide (ls.getD i 0=fr) && !qA bh i)=false-> ∀j,j < i + 1->(row.getD j false && decide (ls.getD j 0=fr) && !qA bh j)=false:=fun e j hj=>by
    rcases Nat.lt_succ_iff_lt_or_eq.mp hj with h|h
    ·exact Uk j h
    ·rw[h]; exact e
   refine⟨_,rfl,_,rfl,pr,_,_,.bl row[i],rfl,rfl,s4.seq hR,cA (by rw[aC,af Ul]; rfl),_,rfl,?_⟩
   refine cH (fun c1=>?_) (fun c1=>bX ?_)
   ·refine⟨_,rfl,_,rfl,rfl,_,rfl,cH (fun c2=>?_) (fun c2=>bX ?_)⟩
    ·have Uo:ls[i]=fr:=by have:=a6 c2; injection this
     refine⟨_,rfl,_,rfl,pt,_,rfl,mX.k (k:=Sum.inl (i:Int)) (s4 _ _ hT),_,rfl,cH (fun c3=>?_) (fun c3=>?_)⟩
     ·
      refine⟨_,rfl,?_⟩
      have e:ip fr ls row (qA bh)=some i:=by
       unfold ip
       refine List.find?_range_eq_some.mpr ⟨?_,dO.mpr hi,fun j hj=>?_⟩
       ·rw[Um,Qh,c1,Uo]
        simpa[qA] using c3
       ·rw[Uk j hj]; rfl
      have q:=k H3 s4
      rw[e] at q
      exact q
     ·refine⟨_,_,rfl,s4,next ?_⟩
      have c3':qA bh i=true:=by
       unfold qA
       cases h:(gA bh (Sum.inl (i:Int):Key)).isSome with
       |true=>rfl
       |false=>rw[h] at c3; exact absurd rfl c3
      rw[c3']; simp
    ·have Uo: ¬ ls[i]=fr:=fun z=>c2 (aK (by rw[z]))
     refine⟨_,_,rfl,s4,next ?_⟩
     rw[Qh,decide_eq_false Uo]; simp
   ·refine⟨_,_,rfl,s4,next ?_⟩
    rw[Um,Bool.eq_false_iff.mpr c1]; rfl
  ·rintro σ H2 ⟨x4,x5,rfl,s2,Uk⟩
   rw[ae] at Uk
   have e:ip fr ls row (qA bh)=none:=by
    unfold ip
    refine List.find?_eq_none.mpr fun j hj=>?_
    rw[Uk j (dO.mp hj)]
    exact aX
   have q:=k H2 s2
   rw[e] at q
   exact q
inductive wj (K:Frag)(vs:List V)(H:Hp)(Q:VK)(E':XK):Prop
 |mk (pf pl pa:Addr)(fs ls:List Int)(al:List (List Bool))(h1:vs=[.ref pf,.ref pl,.ref pa])(h2:bG K H pf (fs.map V.int))(h3:bG K H pl (ls.map V.int))(h4:Rp H (.lst (al.map Aw)) (.ref pa))(h5:fs.length<=1000)(h6:al.length=fs.length)(h7:(∀r∈al,r.length=ls.length))(h8: ∀v H',aF H H'->Rp H' (.lst ((bV fs ls al fs.length).2.map Kn)) v->Q v H'):wj K vs H Q E'
theorem CG:aU ["frees","lefts","allowed","taken","made","credit","free","bill"] ["frees","lefts","allowed"] (aA (top 20)):={}
theorem MX (T:Txt K mg):fC P w K mg base "alike" 2 ["frees","lefts","allowed"] (wj K):=by
 have xR:fC P w K mg base "first_alike" 1 ["free","lefts","fitting","taken"] (Ax K):=xQ T
 refine T.Ms.fV (k:=1) CG (fun f cY A outer s H vs Q E hr h=>?_)
 ·obtain⟨pf,pl,pa,fs,ls,al,rfl,hF,hL,hA,hf1,Rh,Ko,k⟩:=h
  have hu:=kW hr
  have nd:=CG.nd
  obtain⟨pa',refs,e0,RD,yO⟩:=ka.mp hA
  cases e0
  refine⟨_,(ai (sv 3 nd Bz)
(ai (sv 4 nd (bS aw))
(ai (eN bB rfl (qZ rfl T.jt (aa (pv 0) aw)) (iH rfl (bW (gn 5 nd) (bW (gn 6 nd) gy)))
(ai (sv 7 nd (fc xR hr (aa (pv 6) (aa (pv 1) (aa (xl (pv 2) (pv 5)) (aa (pv 3) aw))))))
(av (bT (y2 (LI (pv 7)))
(ai (E7 hu (pv 3) (pv 7) kM rfl)
(av (bM (qu (pv 4) (cM (aa (pv 5) (aa (pv 7) (aa (pv 6) aw))))))))
bp))))
(av (a9 (pv 4)))))),?_⟩
  intro pt nt
  refine⟨bq _,fun pm nm=>?_⟩
  have s1:aF H (upd H pt (.dK [])):=aF.new nt
  have s2:aF H (upd (upd H pt (.dK [])) pm (.lst [])):=s1.trans (aF.new nm)
  have YV:H pm=none:=s1.free nm
  have N2:pt≠pm:=aJ ag nm
  refine⟨_,rfl,pf,rfl,⟨_,s2.seq hF⟩,?_⟩
  refine nI (K:=K) (a:=pf) (xs:=fs.map V.int) (fun i σ H2=> ∃x5 x6 x7 bh ms,σ=[some (.ref pf),some (.ref pl),some (.ref pa),some (.ref pt),some (.ref pm),x5,x6,x7]/\aF H H2/\H2 pt=some (.dK bh)/\(∀j:Nat,qA bh j=(bV fs ls al i).1 j)/\bh.length<=i/\H2 pm=some (.lst ms)/\ow H2 (bV fs ls al i).2 ms)
   ⟨none,none,none,[],[],rfl,s2,by rw[az N2]; exact ag,fun j=>rfl,aD _,ag,.nil⟩ (fun i σ H2 _ ⟨_,_,_,_,_,_,s3,_⟩=>s3.seq hF) ?_ ?_
  ·rintro i x p σ H2 hx hp ⟨x5,x6,x7,bh,ms,rfl,s3,hT,qe,Iw,hM,FH⟩
   have hi:i < fs.length:=by have:=(ah.mp hx).1; rwa [ae] at this
   rw[aC,af hi] at hx
   obtain rfl:V.int fs[i]=x:=aG hx
   have s4:aF H2 (upd H2 p (.tup [.int i,.int fs[i]])):=aF.new hp
   refine⟨p,_,rfl,cF.of ag,rfl,_,_,rfl,_,_,rfl,rfl,?_⟩
   have s5:=s3.trans s4
   have N3:=s4 _ _ hT
   have rV:=s4 _ _ hM
   have EA:=FH.mono (gu s4)
   generalize upd H2 p (.tup [.int i,.int fs[i]])=H3 at s5 N3 rV EA ⊢
   clear s4 hp
   have Up:i < al.length:=by lia
   have g0:(al.map Aw)[i]? =some (Aw al[i]):=by rw[aC,af Up]; rfl
   obtain⟨rv,Wk,Wl⟩:=yO.get g0
   obtain⟨pr,YW,e1,NT,FC⟩:=ka.mp Wl
   subst e1
   have hrx:YW=al[i].map V.bl:=by
    clear NT Wk Wl
    generalize al[i]=r at FC
    induction r generalizing YW with
    |nil=>exact cv.mp FC
    |cons b r ih=>
     obtain⟨v,rest,e,h1,h2⟩:=br.mp FC
     rw[e,ra.mp h1,ih rest h2]; rfl
   subst hrx
   have YX:fs.getD i 0=fs[i]:=by rw[ak,af hi]; rfl
   have YY:al.getD i []=al[i]:=by rw[ak,af Up]; rfl
   refine⟨_,rfl,_,rfl,_,rfl,_,rfl,pa,_,_,.ref pr,rfl,rfl,bG.of (s5 _ _ RD),cA Wk,_,rfl,fs[i],pl,ls,pr,al[i],pt,bh,rfl,s5.seq hL,bG.of (s5 _ _ NT),Ko _ (bH _),N3,fun H4 s6=>?_⟩
   have etk:qA bh=(bV fs ls al i).1:=funext qe
   have tG:bV fs ls al (i + 1)=match ip fs[i] ls al[i] (qA bh) with
     |none=>bV fs ls al i
     |some j=>(fun x=>x == j || (bV fs ls al i).1 x,(bV fs ls al i).2 ++ [(i,j,fs[i])]):=by
    rw[etk,← YX,← YY]; rfl
   cases hb:ip fs[i] ls al[i] (qA bh) with
   |none=>
    rw[hb] at tG
    refine⟨_,rfl,_,rfl,bX ?_⟩
    refine⟨_,_,_,bh,ms,rfl,s5.trans s6,s6 _ _ N3,?_,by lia,s6 _ _ rV,?_⟩
    ·intro j; rw[tG]; exact qe j
    ·rw[tG]; exact EA.mono (gu s6)
   |some j=>
    rw[hb] at tG
    refine⟨_,rfl,_,rfl,fU ?_⟩
    have RE:=s6 _ _ N3
    have wm:=s6 _ _ rV
    refine⟨_,rfl,_,rfl,pt,_,rfl,GD.k (k:=Sum.inl (j:Int)) RE (bf (by lia)),?_⟩
    have Kp:upd H4 pt (.dK (putK bh (Sum.inl (j:Int):Key) (.bl true))) pm=some (.lst ms):=by rw[az N2.symm]; exact wm
    have Iy:=(EA.length)
    have Kq:=iy fs ls al i
    have s7:aF H (upd H4 pt (.dK (putK bh (Sum.inl (j:Int):Key) (.bl true)))):=(s5.trans s6).dr nt
    have EB:ow (upd H4 pt (.dK (putK bh (Sum.inl (j:Int):Key) (.bl true)))) (bV fs ls al i).2 ms:=(EA.mono (gu s6)).mono (MW RE)
    have HM:upd H4 pt (.dK (putK bh (Sum.inl (j:Int):Key) (.bl true))) pt=some (.dK (putK bh (Sum.inl (j:Int):Key) (.bl true))):=ag
    generalize upd H4 pt (.dK (putK bh (Sum.inl (j:Int):Key) (.bl true)))=H5 at Kp s7 EB HM ⊢
    refine⟨_,rfl,.inl ⟨rfl,_,bG.of Kp⟩,_,rfl,_,rfl,_,rfl,(by show 3<=sizeLine; decide),fun p8 n8=>?_⟩
    have s8:aF H5 (upd H5 p8 (.tup [.int i,.int j,.int fs[i]])):=aF.new n8
    refine⟨pm,ms,_,rfl,rfl,s8 _ _ Kp,bf (by lia),?_⟩
    refine⟨_,_,_,putK bh (Sum.inl (j:Int):Key) (.bl true),ms ++ [.ref p8],rfl,(s7.trans s8).dr YV,?_,fun x=>?_,?_,ag,?_⟩
    ·rw[az N2]; exact s8 _ _ HM
    ·rw[tG]
     unfold qA
     rw[Je]
     by_cases hx:x=j
     ·subst hx; simp
     ·have: ¬ (Sum.inl (x:Int):Key)=Sum.inl (j:Int):=fun z=>hx (by injection z with z; lia)
      rw[aN this]
      have h2:=qe x
      unfold qA at h2
      rw[h2]
      simp[hx]
    ·have:=kQ bh (Sum.inl (j:Int):Key) (.bl true)
     lia
    ·rw[tG]
     exact cw ((EB.mono (gu s8)).mono (dU (s8 _ _ Kp))) ⟨p8,rfl,dU (s8 _ _ Kp) _ _ ag⟩
  ·rintro σ H2 ⟨x5,x6,x7,bh,ms,rfl,s3,hT,qe,Iw,hM,FH⟩
   rw[ae] at FH
   refine⟨_,rfl,?_⟩
   exact k _ _ s3 (fk hM FH.rp)
def cS (fs ls:List Int)(al:List (List Bool))(i:Nat):List (Nat×Int):=(bE (fs.getD i 0) (cz fs ls al i).1 (al.getD i []) (cz fs ls al i).1.length).2
theorem CI (fs ls:List Int)(al:List (List Bool))(i:Nat):(cz fs ls al (i + 1)).1=dR (cz fs ls al i).1 (cS fs ls al i):=rfl
theorem tW (fs ls:List Int)(al:List (List Bool))(i:Nat):(cz fs ls al (i + 1)).2=(cz fs ls al i).2 ++ (cS fs ls al i).map fun x=>(i,x.1,x.2):=rfl
def Qi (H:Hp)(ps:List (Nat×Int))(vs:List V):Prop:=Paired (fun(t:Nat×Int) v=> ∃p,v= .ref p/\H p=some (.tup [.int t.1,.int t.2])) ps vs
theorem Qi.mono {H H':Hp}{ps:List (Nat×Int)}{vs:List V}(h:Qi H ps vs)(k: ∀b xs,H b=some (.tup xs)->H' b=some (.tup xs)):Qi H' ps vs:=
 Paired.g8 h fun _ _ ⟨p,e,q⟩=>⟨p,e,k _ _ q⟩
theorem gG (f:Int)(l:List Int)(row:List Bool): ∀j,(bE f l row j).2.length<=j
 |0=>aD _
 |j + 1=>by
  have:=gG f l row j
  rw[bE]
  split
  ·rw[ax]; show _ + 1<=_; lia
  ·lia
inductive Ay (K:Frag)(vs:List V)(H:Hp)(Q:VK)(E':XK):Prop
 |mk (f:Int)(pl:Addr)(ls:List Int)(pr:Addr)(row:List Bool)(h1:vs=[.int f,.ref pl,.ref pr])(h2:bG K H pl (ls.map V.int))(h3:bG K H pr (row.map V.bl))(h4:row.length=ls.length)(h5:ls.length<=100)(h6: ∀(q:Addr) (ms:List V) (H':Hp),aF H H'->H q=none->H' q=some (.lst ms)->Qi H' (bE f ls row ls.length).2 ms->Q (.ref q) H'):Ay K vs H Q E'
theorem tX:aU ["free","lefts","fitting","still_free","parts","bill","left","amount"] ["free","lefts","fitting"] (aA (top 23)):={}
theorem EC (T:Txt K mg):fC P w K mg base "parts_of" 1 ["free","lefts","fitting"] (Ay K):=by
 refine T.D8.fV (k:=0) tX (fun f cY A outer s H vs Q E hr h=>?_)
 ·obtain⟨fr,pl,ls,pr,row,rfl,hL,hR,Dk,MK,k⟩:=h
  have hu:=kW hr
  have nd:=tX.nd
  refine⟨_,(ai (sv 3 nd (pv 0))
(ai (sv 4 nd (bS aw))
(ai (eN bB rfl (qZ rfl T.jt (aa (pv 1) aw)) (iH rfl (bW (gn 5 nd) (bW (gn 6 nd) gy)))
(ai (sv 7 nd (dm (sE rfl) (by rfl) T.JM boot_min (aa (pv 3) (aa (pv 6) aw))))
(av (bT (PW.pt (pw_and (fR (xl (pv 2) (pv 5))) (pw_and1 (a0 jH (pv 7) aj (bb _)))))
(ai (bM (qu (pv 4) (cM (aa (pv 5) (aa (pv 7) aw)))))
(av (sv 3 nd (aQ fS (pv 3) (pv 7)))))
bp))))
(av (a9 (pv 4)))))),?_⟩
  refine⟨_,rfl,?_⟩
  refine⟨bq _,fun q nq=>?_⟩
  have s1:aF H (upd H q (.lst [])):=aF.new nq
  refine⟨_,rfl,pl,rfl,⟨_,s1.seq hL⟩,?_⟩
  refine nI (K:=K) (a:=pl) (xs:=ls.map V.int) (fun i σ H2=> ∃(x5 x6 x7:Option V) (ms:List V),σ=[some (.int fr),some (.ref pl),some (.ref pr),some (.int (bE fr ls row i).1),some (.ref q),x5,x6,x7]/\aF H H2/\H2 q=some (.lst ms)/\Qi H2 (bE fr ls row i).2 ms)
   ⟨none,none,none,[],rfl,s1,ag,.nil⟩ (fun i σ H2 _ ⟨_,_,_,_,_,s2,_⟩=>s2.seq hL) ?_ ?_
  ·rintro i x p σ H2 hx hp ⟨x5,x6,x7,ms,rfl,s2,hM,hP⟩
   have hi:i < ls.length:=by have:=(ah.mp hx).1; rwa [ae] at this
   rw[aC,af hi] at hx
   obtain rfl:V.int ls[i]=x:=aG hx
   have s3:aF H2 (upd H2 p (.tup [.int i,.int ls[i]])):=aF.new hp
   refine⟨p,_,rfl,cF.of ag,rfl,_,_,rfl,_,_,rfl,rfl,?_⟩
   have s4:=s2.trans s3
   have RF:=s3 _ _ hM
   have YZ:=hP.mono (gu s3)
   generalize upd H2 p (.tup [.int i,.int ls[i]])=H3 at s4 RF YZ ⊢
   have Ul:i < row.length:=by lia
   have Qh:ls.getD i 0=ls[i]:=getD_at hi
   have Um:row.getD i false=row[i]:=getD_at Ul
   have hlen:ms.length<=i:=by have:=hP.length; have:=gG fr ls row i; lia
   refine⟨_,rfl,_,rfl,_,_,rfl,?_⟩
   have em:(if ls[i] < (bE fr ls row i).1 then ls[i] else(bE fr ls row i).1)=eW (bE fr ls row i).1 (ls.getD i 0):=by rw[Qh]; rfl
   rw[em]
   have tG:bE fr ls row (i + 1)=if row.getD i false=true/\0 < eW (bE fr ls row i).1 (ls.getD i 0) then((bE fr ls row i).1 - eW (bE fr ls row i).1 (ls.getD i 0),(bE fr ls row i).2 ++ [(i,eW (bE fr ls row i).1 (ls.getD i 0))]) else bE fr ls row i:=by rw[bE]
   generalize eW (bE fr ls row i).1 (ls.getD i 0)=am at tG ⊢
   have no: ¬ (row.getD i false=true/\0 < am)-> ∃(x5 x6 x7:Option V) (ms:List V),[some (.int fr),some (.ref pl),some (.ref pr),some (.int (bE fr ls row i).1),some (.ref q),some (V.int i),some (V.int ls[i]),some (V.int am)]=[some (.int fr),some (.ref pl),some (.ref pr),some (.int (bE fr ls row (i + 1)).1),some (.ref q),x5,x6,x7]/\aF H H3/\H3 q=some (.lst ms)/\Qi H3 (bE fr ls row (i + 1)).2 ms:=fun c=>by
    rw[tG,aN c]
    exact⟨_,_,_,ms,rfl,s4,RF,YZ⟩
   refine⟨_,rfl,_,rfl,pr,_,_,.bl row[i],rfl,rfl,s4.seq hR,cA (by rw[aC,af Ul]; rfl),_,rfl,?_⟩
   refine cH (fun c1=>?_) (fun c1=>bX ?_)
   ·refine⟨_,rfl,_,_,rfl,rfl,_,rfl,cH (fun c2=>?_) (fun c2=>?_)⟩
    ·have Uo:0 < am:=a6 c2
     rw[aY ⟨by rw[Um]; exact c1,Uo⟩] at tG
     refine⟨_,rfl,.inl ⟨rfl,_,bG.of RF⟩,_,rfl,_,rfl,(by show 2<=sizeLine; decide),fun p8 n8=>?_⟩
     have s8:aF H3 (upd H3 p8 (.tup [.int i,.int am])):=aF.new n8
     refine⟨q,ms,_,rfl,rfl,s8 _ _ RF,bf (by lia),?_⟩
     refine⟨_,rfl,_,rfl,_,_,rfl,rfl,?_⟩
     refine⟨_,_,_,ms ++ [.ref p8],by rw[tG]; rfl,(s4.trans s8).dr nq,ag,?_⟩
     rw[tG]
     exact cw ((YZ.mono (gu s8)).mono (dU (s8 _ _ RF))) ⟨p8,rfl,dU (s8 _ _ RF) _ _ ag⟩
    ·exact no fun z=>c2 (aK z.2)
   ·exact no fun z=>c1 (by rw[← Um]; exact z.1)
  ·rintro σ H2 ⟨x5,x6,x7,ms,rfl,s2,hM,hP⟩
   rw[ae] at hP
   refine⟨_,rfl,?_⟩
   exact k _ _ _ s2 nq hM hP
theorem qB (f:Int)(l:List Int)(row:List Bool): ∀j,∀x∈(bE f l row j).2,x.1 < j
 |0,x,hx=>by cases hx
 |j + 1,x,hx=>by
  rw[bE] at hx
  split at hx
  ·rcases bc.mp hx with hx|hx
   ·have:=qB f l row j x hx; lia
   ·rw[ao] at hx; subst hx; exact gr _
  ·have:=qB f l row j x hx; lia
theorem CJ (fs ls:List Int)(al:List (List Bool)): ∀i,(cz fs ls al i).2.length<=i * ls.length
 |0=>by show 0<=_; lia
 |i + 1=>by
  have:=CJ fs ls al i
  have h2:=gG (fs.getD i 0) (cz fs ls al i).1 (al.getD i []) (cz fs ls al i).1.length
  rw[tW,ax,ae,wU]
  unfold cS
  rw[jX] at h2 ⊢
  lia
inductive wq (K:Frag)(vs:List V)(H:Hp)(Q:VK)(E':XK):Prop
 |mk (pf pl pa:Addr)(fs ls:List Int)(al:List (List Bool))(h1:vs=[.ref pf,.ref pl,.ref pa])(h2:bG K H pf (fs.map V.int))(h3:bG K H pl (ls.map V.int))(h4:Rp H (.lst (al.map Aw)) (.ref pa))(h5:fs.length<=63)(h6:ls.length<=63)(h7:al.length=fs.length)(h8:(∀r∈al,r.length=ls.length))(h9: ∀(pm:Addr) (ms:List V) (H':Hp),aF H H'->H' pm=some (.lst ms)->ow H' (cz fs ls al fs.length).2 ms->Q (.ref pm) H'):wq K vs H Q E'
theorem FI {H:Hp}: ∀(r:List Bool) {xs:List V},g9 H (r.map Dt.bl) xs->xs=r.map V.bl
 |[],_,h=>cv.mp h
 |b :: r,_,h=>by
  obtain⟨v,rest,e,h1,h2⟩:=br.mp h
  rw[e,ra.mp h1,FI r h2]; rfl
theorem Qj {H:Hp}{al:List (List Bool)}{refs:List V}(h:g9 H (al.map Aw) refs){i:Nat}(hi:i < al.length): ∃pr,refs[i]? =some (.ref pr)/\H pr=some (.lst (al[i].map V.bl)):=by
 have g0:(al.map Aw)[i]? =some (Aw al[i]):=by rw[aC,af hi]; rfl
 obtain⟨rv,Wk,Wl⟩:=h.get g0
 obtain⟨pr,YW,e1,NT,FC⟩:=ka.mp Wl
 rw[FI _ FC] at NT
 exact⟨pr,by rw[Wk,e1],NT⟩
theorem pN:aU ["frees","lefts","allowed","still_left","made","credit","free","parts","bill","amount"] ["frees","lefts","allowed"] (aA (top 22)):={}
theorem Az (T:Txt K mg):fC P w K mg base "shared_out" 2 ["frees","lefts","allowed"] (wq K):=by
 have ED:fC P w K mg base "parts_of" 1 ["free","lefts","fitting"] (Ay K):=EC T
 refine T.zD.fV (k:=1) pN (fun f cY A outer s H vs Q E hr h=>?_)
 ·obtain⟨pf,pl,pa,fs,ls,al,rfl,hF,hL,hA,hf1,MK,Rh,Ko,k⟩:=h
  have hu:=kW hr
  have nd:=pN.nd
  obtain⟨pa',refs,e0,RD,yO⟩:=ka.mp hA
  cases e0
  refine⟨_,(ai (sv 3 nd (iw zi (by rfl) T.vI boot_list (aa (pv 1) aw)))
(ai (sv 4 nd (bS aw))
(ai (eN bB rfl (qZ rfl T.jt (aa (pv 0) aw)) (iH rfl (bW (gn 5 nd) (bW (gn 6 nd) gy)))
(ai (sv 7 nd (fc ED hr (aa (pv 6) (aa (pv 3) (aa (xl (pv 2) (pv 5)) aw)))))
(av (eN bB rfl (cI (pv 7)) (iH rfl (bW (gn 8 nd) (bW (gn 9 nd) gy)))
(ai (nv (aQ fS (xl (pv 3) (pv 8)) (pv 9)) (sD (pv 3) (pv 8) set_list))
(av (bM (qu (pv 4) (cM (aa (pv 5) (aa (pv 8) (aa (pv 9) aw))))))))))))
(av (a9 (pv 4)))))),?_⟩
  refine⟨_,rfl,pl,_,rfl,.inl hL,fun q nq=>?_⟩
  refine⟨bq _,fun pm nm=>?_⟩
  have s1:aF H (upd H q (.lst (ls.map V.int))):=aF.new nq
  have s2:aF H (upd (upd H q (.lst (ls.map V.int))) pm (.lst [])):=s1.trans (aF.new nm)
  have YV:H pm=none:=s1.free nm
  have Y0:q≠pm:=aJ ag nm
  refine⟨_,rfl,pf,rfl,⟨_,s2.seq hF⟩,?_⟩
  refine nI (K:=K) (a:=pf) (xs:=fs.map V.int) (fun i σ H2=> ∃(x5 x6 x7 x8 x9:Option V) (ms:List V),σ=[some (.ref pf),some (.ref pl),some (.ref pa),some (.ref q),some (.ref pm),x5,x6,x7,x8,x9]/\aF H H2/\H2 q=some (.lst ((cz fs ls al i).1.map V.int))/\H2 pm=some (.lst ms)/\ow H2 (cz fs ls al i).2 ms)
   ⟨none,none,none,none,none,[],rfl,s2,by rw[az Y0]; exact ag,ag,.nil⟩ (fun i σ H2 _ ⟨_,_,_,_,_,_,_,s3,_⟩=>s3.seq hF) ?_ ?_
  ·rintro i x p σ H2 hx hp ⟨x5,x6,x7,x8,x9,ms,rfl,s3,hQ,hM,FH⟩
   have hi:i < fs.length:=by have:=(ah.mp hx).1; rwa [ae] at this
   rw[aC,af hi] at hx
   obtain rfl:V.int fs[i]=x:=aG hx
   have s4:aF H2 (upd H2 p (.tup [.int i,.int fs[i]])):=aF.new hp
   refine⟨p,_,rfl,cF.of ag,rfl,_,_,rfl,_,_,rfl,rfl,?_⟩
   have s5:=s3.trans s4
   have Wm:=s4 _ _ hQ
   have rV:=s4 _ _ hM
   have EA:=FH.mono (gu s4)
   generalize upd H2 p (.tup [.int i,.int fs[i]])=H3 at s5 Wm rV EA ⊢
   clear s4 hp
   have Up:i < al.length:=by lia
   obtain⟨pr,Y1,Y2⟩:=Qj yO Up
   have YX:fs.getD i 0=fs[i]:=getD_at hi
   have YY:al.getD i []=al[i]:=getD_at Up
   have Kc:=jX fs ls al i
   have Qk:cS fs ls al i=(bE fs[i] (cz fs ls al i).1 al[i] (cz fs ls al i).1.length).2:=by unfold cS; rw[YX,YY]
   have aa_:(cS fs ls al i).length<=ls.length:=by rw[Qk,Kc]; exact gG _ _ _ _
   have Y3: ∀x∈cS fs ls al i,x.1 < ls.length:=by rw[Qk,Kc]; exact qB _ _ _ _
   have Kq:=CJ fs ls al i
   have ad5:(cz fs ls al i).2.length<=3969:=aV Kq (qP (show i<=63 by lia) MK)
   refine⟨_,rfl,_,rfl,_,rfl,_,rfl,pa,_,_,.ref pr,rfl,rfl,bG.of (s5 _ _ RD),cA Y1,fs[i],q,(cz fs ls al i).1,pr,al[i],rfl,bG.of Wm,bG.of (s5 _ _ Y2),by rw[Kc]; exact Ko _ (bH _),by rw[Kc]; lia,fun r Uq H4 s6 Ur Yu hP=>?_⟩
   rw[← Qk] at hP
   have hQ5:=s6 _ _ Wm
   have wm:=s6 _ _ rV
   have Y4:=EA.mono (gu s6)
   have hrq:r≠q:=(aJ Wm Ur).symm
   have SU:r≠pm:=(aJ rV Ur).symm
   have s7:=s5.trans s6
   have Qe:Uq.length=(cS fs ls al i).length:=hP.length.symm
   refine⟨_,rfl,r,rfl,⟨_,bG.of Yu⟩,?_⟩
   refine fG (K:=K) (a:=r) (xs:=Uq) (fun m σ H5=> ∃(x8 x9:Option V) (ms:List V),σ=[some (.ref pf),some (.ref pl),some (.ref pa),some (.ref q),some (.ref pm),some (.int i),some (.int fs[i]),some (.ref r),x8,x9]/\aF H H5/\H5 q=some (.lst ((dR (cz fs ls al i).1 ((cS fs ls al i).take m)).map V.int))/\H5 pm=some (.lst ms)/\ow H5 ((cz fs ls al i).2 ++ ((cS fs ls al i).take m).map fun x=>(i,x.1,x.2)) ms/\H5 r=some (.lst Uq)/\Qi H5 (cS fs ls al i) Uq)
    ⟨_,_,ms,rfl,s7,hQ5,wm,by simpa using Y4,Yu,hP⟩ (fun m σ H5 _ ⟨_,_,_,_,_,_,_,_,h,_⟩=>bG.of h) ?_ ?_
   ·rintro m x σ H5 hx ⟨y8,y9,Us,rfl,t5,Ql,Kp,EB,N1,RB⟩
    have hm:m < (cS fs ls al i).length:=by have:=(ah.mp hx).1; lia
    have g0:(cS fs ls al i)[m]? =some (cS fs ls al i)[m]:=af hm
    obtain⟨v,hv,pp,e1,Ll⟩:=bK RB g0
    rw[hx] at hv
    obtain rfl:x=v:=aG hv
    subst e1
    have hb:(cS fs ls al i)[m].1 < ls.length:=Y3 _ (bH _)
    have qe:=gZ hm
    have VY:(dR (cz fs ls al i).1 ((cS fs ls al i).take m)).length=ls.length:=by rw[qp,Kc]
    generalize (cS fs ls al i)[m]=pt at Ll hb qe g0
    obtain⟨b,am⟩:=pt
    dsimp only at Ll hb
    refine⟨pp,_,rfl,cF.of Ll,rfl,_,_,rfl,_,_,rfl,rfl,?_⟩
    refine⟨_,rfl,_,rfl,q,_,_,_,rfl,rfl,bG.of Ql,sR (by rw[VY]; exact hb),_,rfl,_,_,rfl,rfl,_,rfl,_,rfl,q,_,_,b,rfl,rfl,Ql,uD (by rw[ae,VY]; exact hb),?_⟩
    rw[← List.map_set]
    have hap:dR (cz fs ls al i).1 ((cS fs ls al i).take (m + 1))=(dR (cz fs ls al i).1 ((cS fs ls al i).take m)).set b ((dR (cz fs ls al i).1 ((cS fs ls al i).take m)).getD b 0 - am):=by rw[qe,tO]
    rw[← hap]
    have t6:aF H (upd H5 q (.lst ((dR (cz fs ls al i).1 ((cS fs ls al i).take (m + 1))).map V.int))):=t5.dr nq
    have HQ:upd H5 q (.lst ((dR (cz fs ls al i).1 ((cS fs ls al i).take (m + 1))).map V.int)) pm=some (.lst Us):=by rw[az Y0.symm]; exact Kp
    have hQ7:upd H5 q (.lst ((dR (cz fs ls al i).1 ((cS fs ls al i).take (m + 1))).map V.int)) q=some (.lst ((dR (cz fs ls al i).1 ((cS fs ls al i).take (m + 1))).map V.int)):=ag
    have hr7:upd H5 q (.lst ((dR (cz fs ls al i).1 ((cS fs ls al i).take (m + 1))).map V.int)) r=some (.lst Uq):=by rw[az hrq]; exact N1
    have Qm:=EB.mono (dU (o:= .lst ((dR (cz fs ls al i).1 ((cS fs ls al i).take (m + 1))).map V.int)) Ql)
    have hP7:=RB.mono (dU (o:= .lst ((dR (cz fs ls al i).1 ((cS fs ls al i).take (m + 1))).map V.int)) Ql)
    generalize upd H5 q (.lst ((dR (cz fs ls al i).1 ((cS fs ls al i).take (m + 1))).map V.int))=H6 at t6 HQ hQ7 hr7 Qm hP7 ⊢
    have Iy:=Qm.length
    rw[ax,ae,ba] at Iy
    refine⟨_,rfl,.inl ⟨rfl,_,bG.of HQ⟩,_,rfl,_,rfl,_,rfl,(by show 3<=sizeLine; decide),fun p8 n8=>?_⟩
    have s8:aF H6 (upd H6 p8 (.tup [.int i,.int b,.int am])):=aF.new n8
    refine⟨pm,Us,_,rfl,rfl,s8 _ _ HQ,ji (by lia),?_⟩
    refine⟨_,_,Us ++ [.ref p8],rfl,(t6.trans s8).dr YV,?_,ag,?_,?_,?_⟩
    ·rw[az Y0]; exact s8 _ _ hQ7
    ·rw[qe,aL,← b0]
     exact cw ((Qm.mono (gu s8)).mono (dU (s8 _ _ HQ))) ⟨p8,rfl,dU (s8 _ _ HQ) _ _ ag⟩
    ·rw[az SU]; exact s8 _ _ hr7
    ·exact(hP7.mono (gu s8)).mono (dU (s8 _ _ HQ))
   ·rintro σ H5 ⟨y8,y9,Us,rfl,t5,Ql,Kp,EB,N1,RB⟩
    rw[Qe,aZ] at Ql EB
    exact⟨_,_,_,_,_,Us,rfl,t5,by rw[CI]; exact Ql,Kp,by rw[tW]; exact EB⟩
  ·rintro σ H2 ⟨x5,x6,x7,x8,x9,ms,rfl,s3,hQ,hM,FH⟩
   rw[ae] at FH
   refine⟨_,rfl,?_⟩
   exact k _ _ _ s3 hM FH
theorem MY {X:Cx}{K:Frag}{es:List Expr}{k:Nat}{pos:Pos}{t:Nz}{n:Nat}(hK:X.K=K)(hc:X.calm=true)(h:Lb X es t)(hn:(assignEach es X.env).length=n)(tG:(assignEach es X.env).findIdx? (·.1)=none):PG X (.Tuple es k pos) (Sa K n t):=by
 subst hK
 exact iH hc h hn tG
theorem gq {H H':Hp}{tb:Addr}{fp:List Addr}{pos:Pos}{qual:Str}(t:Tb H tb pos qual)(fr:Frame fp H H')(ht:tb∉fp)(hf: ∀a∈fp,∀φ,H a≠some (.ext φ)):Tb H' tb pos qual:=by
 obtain⟨ps,h1,h2,h3⟩:=t
 refine⟨ps,fr _ _ ht h1,h2,?_⟩
 rcases h3 with h3|⟨c',h3,h4⟩
 ·exact .inl h3
 ·exact .inr ⟨c',h3,fr _ _ (fun z=>hf _ z _ h4) h4⟩
theorem c9 {H:Hp}{tb:Addr}{pos:Pos}{qual:Str}(t:Tb H tb pos qual): ∃ps,H tb=some (.ng ps):=let⟨ps,e,_⟩:=t; ⟨ps,e⟩
theorem dM {fp S6:List Addr}{H H':Hp}(f:Frame fp H H')(h: ∀x∈fp,x∈S6):Frame S6 H H':=fun b o hb e=>f b o (fun z=>hb (h b z)) e
theorem uN {H:Hp}{p C D:Addr}{fs:List (Str×V)}{ys:List V}{o:HO}(h:eK H p C fs)(e:H D=some (.lst ys)):eK (upd H D o) p C fs:=let⟨dx,z⟩:=h; ⟨dx,by rw[az (mM z e (by intro q; cases q))]; exact z⟩
theorem gX.upd {A:ee}{H:Hp}{S:Bk}{cs:List Nat}{qs:List Addr}{D:Addr}{ys:List V}{o:HO}(h:gX A H S cs qs)(e:H D=some (.lst ys)):gX A (L2.upd H D o) S cs qs:=Paired.g8 h fun _ _ z=>uN z e
theorem iT.upd {A:ee}{H:Hp}{S:Bk}{cs:List Nat}{qs:List Addr}{D:Addr}{ys:List V}{o:HO}(h:iT A H S cs qs)(e:H D=some (.lst ys)):iT A (L2.upd H D o) S cs qs:=Paired.g8 h fun _ _ z=>uN z e
theorem gX.tb {A:ee}{H H':Hp}{S:Bk}{cs:List Nat}{qs:List Addr}{tb:Addr}{pos:Pos}{qual:Str}(h:gX A H S cs qs)(t:Tb H tb pos qual)(fr:Frame [tb] H H'):gX A H' S cs qs:=Paired.g8 h fun _ _ z=>z.frame fr (wc t z)
theorem oS {rows:List Rw}{c:Nat}(h:c < rows.length):(rows.map fun r=>V.int r.d)[c]? =some (.int (rows.getD c default).d):=by
 rw[aC,af h,ak,af h]; rfl
theorem oT (rows:List Rw)(aH:Str)(key:Rw->Int):(inOrder rows aH key).length<=rows.length:=by
 have e:(inOrder rows aH key).length=((List.range rows.length).filter fun k=>decide ((rows.getD k default).aH=aH)).length:=by
  unfold inOrder gF
  rw[ae,(dE _).length_eq,ae]
 have:=aW (fun k=>decide ((rows.getD k default).aH=aH)) (List.range rows.length)
 rw[dF] at this
 lia
def mS (rows:List Rw)(k:Nat):Bool:=decide (0 < (rows.getD k default).d)
abbrev Kr:=List Int->List Int->List (List Bool)->List (Nat×Nat×Int)
def qC:Kr:=fun fs ls al=>(bV fs ls al fs.length).2
def CK:Kr:=fun fs ls al=>(cz fs ls al fs.length).2
structure Ks (way:Kr):Prop where
 lt: ∀fs ls al,∀t∈way fs ls al,t.1 < fs.length/\t.2.1 < ls.length
 len: ∀fs ls al,fs.length<=63->ls.length<=63->(way fs ls al).length<=4000
def Qn (way:Kr)(sp:Sp):Prop:= ∀(pf pl pa:Addr) (fs ls:List Int) (al:List (List Bool)) (H:Hp) (Q:VK),H pf=some (.lst (fs.map V.int))->H pl=some (.lst (ls.map V.int))->Rp H (.lst (al.map Aw)) (.ref pa)->fs.length<=63->ls.length<=63->al.length=fs.length->(∀r∈al,r.length=ls.length)->
 (∀(pm:Addr) (ms:List V) (H':Hp),aF H H'->H' pm=some (.lst ms)->iz H' (way fs ls al) ms->Q (.ref pm) H')->sp [.ref pf,.ref pl,.ref pa] H Q E0
def jk (H:Hp)(D:Addr)(al:List (List Bool))(rs:List V):Prop:=Paired (fun(r:List Bool) v=> ∃p,v= .ref p/\p≠D/\H p=some (.lst (r.map V.bl))) al rs
theorem jk.upd {H:Hp}{D:Addr}{al:List (List Bool)}{rs:List V}{o:HO}(h:jk H D al rs):jk (L2.upd H D o) D al rs:=Paired.g8 h fun _ _ ⟨p,e,n,z⟩=>⟨p,e,n,by rw[az n]; exact z⟩
theorem jk.same {H H':Hp}{D:Addr}{al:List (List Bool)}{rs:List V}(h:jk H D al rs)(s:aF H H'):jk H' D al rs:=Paired.g8 h fun _ _ ⟨p,e,n,z⟩=>⟨p,e,n,s _ _ z⟩
theorem yP {H:Hp}: ∀r:List Bool,g9 H (r.map Dt.bl) (r.map V.bl)
 |[]=>cv.mpr rfl
 |b :: r=>br.mpr ⟨_,_,rfl,ra.mpr rfl,yP r⟩
theorem jk.rp {H:Hp}{D:Addr}: ∀{al:List (List Bool)} {rs:List V},jk H D al rs->g9 H (al.map Aw) rs
 |_,_,.nil=>cv.mpr rfl
 |_,_,.cons ⟨p,e,_,z⟩ t=>br.mpr ⟨_,_,rfl,e▸fk z (yP _),jk.rp t⟩
theorem HR {S:Bk}{l:List (Nat×Nat×Int)}{i:Nat}{t:Nat×Nat×Int}(h:l[i]? =some t):kJ S (l.take (i + 1))=(kJ S (l.take i)).put t.1 t.2.1 t.2.2:=lX (fun(S:Bk) (t:Nat×Nat×Int)=>S.put t.1 t.2.1 t.2.2) l S h
theorem FJ (S:Bk): ∀l,(kJ S l).aE.length=S.aE.length/\(kJ S l).credits.length=S.credits.length
 |[]=>⟨rfl,rfl⟩
 |t :: l=>by
  obtain⟨a,b⟩:=FJ (S.put t.1 t.2.1 t.2.2) l
  exact⟨a.trans fm,b.trans fm⟩
inductive AA (P:Program)(w:World)(K:Frag)(mg:Str->Option Value)(base:Heap)(A:ee)(tB tC:Addr)(vs:List V)(H:Hp)(Q:VK)(E':XK):Prop
 |mk (pw fa:Addr)(S:Bk)(f:eX)(n:Nat)(aH:Str)(way:Kr)(sp:Sp)(h1:vs=[.ref pw,.str aH,.ref fa])(h2:dJ A H pw S f)(h3:WF S n)(h4:n<=62)(h5:l4 H tB)(h6:mF H tC)(h7:Ks way)(h8:Ym P w K mg base 2 fa sp)(h9:Qn way sp)(Lg: ∀gs ts fs ls al,vq S aH gs ts fs ls al-> ∀D ms H',Frame (tB :: tC :: f.fp) H H'->l4 H' tB->mF H' tC->dJ A H' pw (kJ S ((way fs ls al).map (mq gs ts))) f->H D=none->H' D=some (.lst ms)->iz H' ((way fs ls al).map (mq gs ts)) ms->Q (.ref D) H'):AA P w K mg base A tB tC vs H Q E'
theorem lg:aU ["self","who","way","givers","takers","frees","lefts","found","numbered","credit_number","bill_number","amount"] ["self","who","way"] (aA (mem 25 7)):={}
theorem CL (T:Txt K mg){A:ee}{tB tC:Addr}(G:jO K mg A)(DB:qN K mg "bills_in_order" (top 17) tB)(DC:qN K mg "credits_in_order" (top 18) tC)(jE:tB≠tC)(KB:K.In base)(BM:BMain mg base):hZ sG P w K mg base A.work "one_round" 3 ["self","who","way"] (AA P w K mg base A tB tC):=by
 have jg:fC P w K mg base "bills_in_order" 2 ["bills","who"] (uJ A tB):=l0 T G DB KB BM
 have iu:fC P w K mg base "credits_in_order" 2 ["all_credits","who"] (uK A tC):=kr T G DC KB BM
 have xS:fC P w K mg base "row_of_fits" 2 ["credit","bills"] (Kf A):=xG T G
 have Kb:hZ sG P w K mg base A.work "put" 1 ["self","credit_number","bill_number","amount"] (z9 A):=NU G
 refine MF (k:=2) G.rD G.bI lg (fun f cY A' outer s H vs Q E hr h=>?_)
 ·obtain⟨pw,fa,S,g,n,aH,way,sp,rfl,hW,wf,hn,kF,j7,Ut,hFv,hWC,k⟩:=h
  have nd:=lg.nd
  have YF:S.credits.length<=62:=by have:=wf.lc; lia
  have hlb:S.aE.length<=62:=by have:=wf.lb; lia
  refine⟨_,(ai (sv 3 nd (iK (tn:=["credit"]) (cn:=["self"]) (cj:=[0]) rfl (iL (zo:=[(".0",.local),("credit",.local),("self",.cell)])) (cI (fc iu hr (aa (bZ (pv 0) rfl) (aa (pv 1) aw)))) (fun _ _ _ _=>(eG (i:=0) (show(["credit","self"]:List Str).Nodup by decide +kernel) rfl (Or.inl rfl))) (fun _ _ _ _=>(qj (a0 jH (kO (lM (K:=K) rfl) (fJ (K:=K) rfl (pv 1) rfl) (fJ (K:=K) rfl (pv 0) rfl) (fun _ _=>rfl)) aj (bb _)))) (fun _ _ _ _=>(pv 0))))
(ai (sv 4 nd (iK (tn:=["bill"]) (cn:=["self"]) (cj:=[0]) rfl (iL (zo:=[(".0",.local),("bill",.local),("self",.cell)])) (cI (fc jg hr (aa (bZ (pv 0) rfl) (aa (pv 1) aw)))) (fun _ _ _ _=>(eG (i:=0) (show(["bill","self"]:List Str).Nodup by decide +kernel) rfl (Or.inl rfl))) (fun _ _ _ _=>(qj (a0 jH (kO (lM (K:=K) rfl) (fJ (K:=K) rfl (pv 1) rfl) (fJ (K:=K) rfl (pv 0) rfl) (fun _ _=>rfl)) aj (bb _)))) (fun _ _ _ _=>(pv 0))))
(ai (jo (i:=5) nd rfl (Or.inl rfl) (tn:=["credit"]) (cn:=["self"]) (cj:=[0]) rfl (iL (zo:=[(".0",.local),("credit",.local),("self",.cell)])) (cI (pv 3)) (fun _ _ _ _=>(eG (i:=0) (show(["credit","self"]:List Str).Nodup by decide +kernel) rfl (Or.inl rfl))) (fun _ _ _ _=>lq) (fun _ _ _ _=>(kO (lM (K:=K) rfl) (fJ (K:=K) rfl (pv 1) rfl) (fJ (K:=K) rfl (pv 0) rfl) (fun _ _=>rfl))))
(ai (jo (i:=6) nd rfl (Or.inl rfl) (tn:=["bill"]) (cn:=["self"]) (cj:=[0]) rfl (iL (zo:=[(".0",.local),("bill",.local),("self",.cell)])) (cI (pv 4)) (fun _ _ _ _=>(eG (i:=0) (show(["bill","self"]:List Str).Nodup by decide +kernel) rfl (Or.inl rfl))) (fun _ _ _ _=>lq) (fun _ _ _ _=>(kO (lM (K:=K) rfl) (fJ (K:=K) rfl (pv 1) rfl) (fJ (K:=K) rfl (pv 0) rfl) (fun _ _=>rfl))))
(ai (sv 7 nd (PL (i:=2) (k:=2) (hr.mono (by decide)) rfl (Or.inl rfl) (aa (pv 5) (aa (pv 6) (aa (iK (tn:=["credit"]) (cn:=["takers"]) (cj:=[4]) rfl (iL (zo:=[(".0",.local),("credit",.local),("row_of_fits",.globalImplicit),("takers",.cell)])) (cI (pv 3)) (fun _ _ _ _=>(eG (i:=0) (show(["credit","takers"]:List Str).Nodup by decide +kernel) rfl (Or.inl rfl))) (fun _ _ _ _=>lq) (fun _ _ _ _=>(fc xS hr (aa (pv 0) (aa (pv 1) aw))))) aw)))))
(ai (jo (i:=8) nd rfl (Or.inl rfl) (tn:=["giver","taker","amount"]) (cn:=["takers","givers"]) (cj:=[4,3]) rfl (Am (zo:=[(".0",.local),("giver",.local),("taker",.local),("amount",.local),("givers",.cell),("takers",.cell)])) (cI (pv 7)) (fun _ _ _ _=>(MY (K:=K) (n:=3) rfl rfl (bW (eG (i:=0) (show(["giver","taker","amount","takers","givers"]:List Str).Nodup by decide +kernel) rfl (Or.inl rfl) (Or.inr rfl)) (bW (eG (i:=1) (show(["giver","taker","amount","takers","givers"]:List Str).Nodup by decide +kernel) rfl (Or.inl rfl) (Or.inr rfl)) (bW (eG (i:=2) (show(["giver","taker","amount","takers","givers"]:List Str).Nodup by decide +kernel) rfl (Or.inl rfl) (Or.inr rfl)) gy))) rfl rfl)) (fun _ _ _ _=>lq) (fun _ _ _ _=>(cM (aa (fJ (K:=K) rfl (kO (lM (K:=K) rfl) (pv 4) (pv 0) (fun _ _=>rfl)) rfl) (aa (fJ (K:=K) rfl (kO (lM (K:=K) rfl) (pv 3) (pv 1) (fun _ _=>rfl)) rfl) (aa (pv 2) aw))))))
(ai (eN bB rfl (cI (pv 8)) (iH rfl (bW (gn 9 nd) (bW (gn 10 nd) (bW (gn 11 nd) gy))))
(av (bM (nW Kb (hr.mono (by decide)) nH (pv 0) (aa (pv 9) (aa (pv 10) (aa (pv 11) aw)))))))
(av (a9 (pv 8)))))))))),?_⟩
  obtain⟨dw,hw⟩:=hW.obj
  refine⟨_,rfl,pw,_,dw,_,_,rfl,hw,G.bI,G.cG,ir g,_,rfl,g.pc,g.cps,S,aH,rfl,hW.hc,hW.rc,(by lia),j7,fun D1 Y5 H1 Kt kA Uu HB Jz=>?_⟩
  have Ds:=we hW (c9 j7) Kt
  have Ku: ∀a∈[tC],∀φ,H a≠some (.ext φ):=fun a ha φ e=>by
   obtain⟨ps,z⟩:=c9 j7
   rw[ao.mp ha,z] at e
   cases e
  have jG:l4 H1 tB:=gq kF Kt (by simpa using jE) Ku
  have F1:Frame (tB :: tC :: g.fp) H H1:=dM Kt (by intro x hx; rw[List.mem_singleton.mp hx]; simp)
  clear Ku
  refine⟨D1,rfl,⟨_,bG.of HB⟩,?_⟩
  have MT:=oT S.credits aH (·.a)
  have Qo: ∀c∈inOrder S.credits aH (·.a),c < S.credits.length:=fun c hc=>(jq.mp hc).1
  have Mb:=gS S.credits aH (·.a)
  generalize inOrder S.credits aH (·.a)=ord at Jz MT Qo Mb
  have Qp:=aO Jz
  refine dX (K:=K) (a:=D1) (xs:=Y5.map V.ref) (fun D i σ H6=>H1 D=none/\ ∃(v:Option V) (rs:List Addr),σ=[v,some (.ref pw)]/\aF H1 H6/\H6 D=some (.lst (rs.map V.ref))/\gX A H6 S ((ord.take i).filter (mS S.credits)) rs) (fun D hD=>⟨hD,none,[],rfl,aF.new hD,ag,.nil⟩) (fun D i σ H6 _ ⟨_,_,_,_,t3,_⟩=>bG.of (t3 _ _ HB)) ?_ ?_
  ·rintro D i x σ H6 hx ⟨hD,v,rs,rfl,t3,iE,Qq⟩
   rw[aC] at hx
   obtain⟨q,hq,rfl⟩:=a8.mp hx
   have hi:i < ord.length:=by have:=(ah.mp hq).1; lia
   have qM:=af hi
   obtain⟨q',tI,lY⟩:=bK Jz qM
   rw[hq] at tI
   obtain rfl:q=q':=aG tI
   have pL:=gO (mS S.credits) qM
   have rq:=Qo _ (bH hi)
   generalize ord[i]=c at lY pL rq
   obtain⟨dq,MZ⟩:=lY.same t3
   have Kv:=Ds.same t3
   obtain⟨Qr,Qs⟩:=Kv.obj
   have Dk:rs.length<=1000:=by
    have e1:=aO Qq
    have e2:=aW (mS S.credits) (ord.take i)
    rw[ba] at e2
    lia
   refine⟨_,rfl,pw,_,Qr,_,_,rfl,Qs,G.bI,G.fN,lT g,_,rfl,q,_,dq,_,_,rfl,MZ,G.dg,G.eY,oQ _ _,g.pf,_,_,.int (S.cr c).d,rfl,rfl,bG.of Kv.hf,cA (oS rq),_,_,rfl,rfl,_,rfl,cH (fun z=>?_) (fun z=>?_)⟩
   ·have z':mS S.credits c=true:=z
    rw[aY z'] at pL
    refine⟨_,rfl,_,iE,bf (by rw[ae]; exact Dk),hD,_,rs ++ [q],rfl,t3.dr hD,(by rw[ag,aL]; rfl),?_⟩
    rw[pL]
    exact cw (Qq.upd iE) (uN ⟨dq,MZ⟩ iE)
   ·have z': ¬ mS S.credits c=true:=z
    rw[aN z',cg] at pL
    refine⟨hD,_,rs,rfl,t3,iE,?_⟩
    rw[pL]
    exact Qq
  rintro pg σ H2 npg ⟨_,v,rs,rfl,s2,Wn,M0⟩
  rw[ae,← Qp,aZ] at M0
  have egs:ord.filter (mS S.credits)=inTurn S.credits aH (·.a):=Mb.symm
  rw[egs] at M0
  clear Mb egs Qo MT Jz Qp HB
  have Qh:(inTurn S.credits aH (·.a)).length<=62:=by
   rw[gS]
   have e1:=aW (fun k=>decide (0 < (S.credits.getD k default).d)) (inOrder S.credits aH (·.a))
   have e2:=oT S.credits aH (·.a)
   lia
  have Wo: ∀c∈inTurn S.credits aH (·.a),c < S.credits.length:=fun c hc=>(bP.mp hc).1
  have As:=Ds.same s2
  have kK:l4 H2 tB:=bQ jG s2
  have mZ:mF H2 tC:=bQ kA s2
  have F2:=F1.cU s2
  clear Kt Ds jG kA s2 F1
  obtain⟨Y6,Rv⟩:=As.obj
  refine⟨_,rfl,pw,_,Y6,_,_,rfl,Rv,G.bI,G.d8,ju g,_,rfl,g.pb,g.iP,S,aH,rfl,As.hb,As.rb,(by lia),kK,fun D1 Y5 H1 Kt jG Uu HB Jz=>?_⟩
  have Ds:=we As (c9 kK) Kt
  have Ku: ∀a∈[tB],∀φ,H2 a≠some (.ext φ):=fun a ha φ e=>by
   obtain⟨ps,z⟩:=c9 kK
   rw[ao.mp ha,z] at e
   cases e
  have kA:mF H1 tC:=gq mZ Kt (by simpa using jE.symm) Ku
  have F1:Frame (tB :: tC :: g.fp) H H1:=F2.tr (dM Kt (by intro x hx; rw[List.mem_singleton.mp hx]; simp))
  have hG1:=M0.tb kK Kt
  have Uv:H1 pg=some (.lst (rs.map V.ref)):=Kt _ _ (fun z=>by
   obtain⟨ps,e⟩:=c9 kK
   rw[ao.mp z,e] at Wn
   cases Wn) Wn
  clear Ku
  refine⟨D1,rfl,⟨_,bG.of HB⟩,?_⟩
  have MT:=oT S.aE aH (·.b)
  have Qo: ∀c∈inOrder S.aE aH (·.b),c < S.aE.length:=fun c hc=>(jq.mp hc).1
  have Mb:=gS S.aE aH (·.b)
  generalize inOrder S.aE aH (·.b)=ord at Jz MT Qo Mb
  have Qp:=aO Jz
  refine dX (K:=K) (a:=D1) (xs:=Y5.map V.ref) (fun D i σ H6=>H1 D=none/\ ∃(v:Option V) (us:List Addr),σ=[v,some (.ref pw)]/\aF H1 H6/\H6 D=some (.lst (us.map V.ref))/\iT A H6 S ((ord.take i).filter (mS S.aE)) us) (fun D hD=>⟨hD,none,[],rfl,aF.new hD,ag,.nil⟩) (fun D i σ H6 _ ⟨_,_,_,_,t3,_⟩=>bG.of (t3 _ _ HB)) ?_ ?_
  ·rintro D i x σ H6 hx ⟨hD,v,us,rfl,t3,iE,Qq⟩
   rw[aC] at hx
   obtain⟨q,hq,rfl⟩:=a8.mp hx
   have hi:i < ord.length:=by have:=(ah.mp hq).1; lia
   have qM:=af hi
   obtain⟨q',tI,lY⟩:=bK Jz qM
   rw[hq] at tI
   obtain rfl:q=q':=aG tI
   have pL:=gO (mS S.aE) qM
   have rq:=Qo _ (bH hi)
   generalize ord[i]=c at lY pL rq
   obtain⟨dq,MZ⟩:=lY.same t3
   have Kv:=Ds.same t3
   obtain⟨Qr,Qs⟩:=Kv.obj
   have Dk:us.length<=1000:=by
    have e1:=aO Qq
    have e2:=aW (mS S.aE) (ord.take i)
    rw[ba] at e2
    lia
   refine⟨_,rfl,pw,_,Qr,_,_,rfl,Qs,G.bI,G.fM,lS g,_,rfl,q,_,dq,_,_,rfl,MZ,G.ej,G.ff,lQ _ _,g.pl,_,_,.int (S.bl c).d,rfl,rfl,bG.of Kv.hl,cA (oS rq),_,_,rfl,rfl,_,rfl,cH (fun z=>?_) (fun z=>?_)⟩
   ·have z':mS S.aE c=true:=z
    rw[aY z'] at pL
    refine⟨_,rfl,_,iE,bf (by rw[ae]; exact Dk),hD,_,us ++ [q],rfl,t3.dr hD,(by rw[ag,aL]; rfl),?_⟩
    rw[pL]
    exact cw (Qq.upd iE) (uN ⟨dq,MZ⟩ iE)
   ·have z': ¬ mS S.aE c=true:=z
    rw[aN z',cg] at pL
    refine⟨hD,_,us,rfl,t3,iE,?_⟩
    rw[pL]
    exact Qq
  rintro pt σ H3 npt ⟨_,v',us,rfl,s3,wO,Ln⟩
  rw[ae,← Qp,aZ] at Ln
  have ets:ord.filter (mS S.aE)=inTurn S.aE aH (·.b):=Mb.symm
  rw[ets] at Ln
  clear Mb ets Qo MT Jz Qp HB
  have Y7:(inTurn S.aE aH (·.b)).length<=62:=by
   rw[gS]
   have e1:=aW (fun k=>decide (0 < (S.aE.getD k default).d)) (inOrder S.aE aH (·.b))
   have e2:=oT S.aE aH (·.b)
   lia
  have N2: ∀c∈inTurn S.aE aH (·.b),c < S.aE.length:=fun c hc=>(bP.mp hc).1
  have Aa:=Ds.same s3
  have rW:l4 H3 tB:=bQ jG s3
  have rX:mF H3 tC:=bQ kA s3
  have F3:=F1.cU s3
  have Uw:=hG1.same s3
  have M3:=s3 _ _ Uv
  clear Kt Ds jG kA s3 F1 hG1 Uv F2 As kK mZ M0 Wn Rv
  generalize hgs:inTurn S.credits aH (·.a)=gs at Uw Qh Wo
  generalize hts:inTurn S.aE aH (·.b)=ts at Ln Y7 N2
  have hgq:=aO Uw
  have htq:=aO Ln
  have hR:vq S aH gs ts (gs.map fun g=>(S.cr g).d) (ts.map fun t=>(S.bl t).d) (gs.map fun g=>ts.map fun t=>S.df g t):=⟨hgs.symm,hts.symm,rfl,rfl,rfl⟩
  refine⟨_,rfl,pg,rfl,⟨_,bG.of M3⟩,?_⟩
  refine dX (K:=K) (a:=pg) (xs:=rs.map V.ref) (fun D i σ H6=>H3 D=none/\ ∃(v:Option V),σ=[v,some (.ref pw)]/\aF H3 H6/\H6 D=some (.lst (((gs.take i).map fun g=>(S.cr g).d).map V.int))) (fun D hD=>⟨hD,none,rfl,aF.new hD,ag⟩) (fun D i σ H6 _ ⟨_,_,_,t3,_⟩=>bG.of (t3 _ _ M3)) ?_ ?_
  ·rintro D i x σ H6 hx ⟨hD,v,rfl,t3,iE⟩
   rw[aC] at hx
   obtain⟨q,hq,rfl⟩:=a8.mp hx
   have hi:i < gs.length:=by have:=(ah.mp hq).1; lia
   obtain⟨q',tI,lY⟩:=bK Uw (af hi)
   rw[hq] at tI
   obtain rfl:q=q':=aG tI
   have qe:=gZ hi
   have rq:=Wo _ (bH hi)
   generalize gs[i]=c at lY qe rq
   obtain⟨dq,MZ⟩:=lY.same t3
   have Kv:=Aa.same t3
   obtain⟨Qr,Qs⟩:=Kv.obj
   refine⟨_,rfl,pw,_,Qr,_,_,rfl,Qs,G.bI,G.fN,lT g,_,rfl,q,_,dq,_,_,rfl,MZ,G.dg,G.eY,oQ _ _,g.pf,_,_,.int (S.cr c).d,rfl,rfl,bG.of Kv.hf,cA (oS rq),_,iE,bf (by rw[ae,ae,ba]; lia),hD,_,rfl,t3.dr hD,?_⟩
   rw[ag,qe,aL,aL]
   rfl
  rintro pf σ H4 Lr ⟨_,v4,rfl,s4,HC⟩
  rw[ae,← hgq,aZ] at HC
  have hG4:=Uw.same s4
  have N3:=Ln.same s4
  have Uj:=Aa.same s4
  have sV:l4 H4 tB:=bQ rW s4
  have sW:mF H4 tC:=bQ rX s4
  have F4:=F3.cU s4
  have Ux:=s4 _ _ M3
  have wt:=s4 _ _ wO
  clear s4 F3 rW rX Aa Ln Uw M3 wO
  refine⟨_,rfl,pt,rfl,⟨_,bG.of wt⟩,?_⟩
  refine dX (K:=K) (a:=pt) (xs:=us.map V.ref) (fun D i σ H6=>H4 D=none/\ ∃(v:Option V),σ=[v,some (.ref pw)]/\aF H4 H6/\H6 D=some (.lst (((ts.take i).map fun g=>(S.bl g).d).map V.int))) (fun D hD=>⟨hD,none,rfl,aF.new hD,ag⟩) (fun D i σ H6 _ ⟨_,_,_,t3,_⟩=>bG.of (t3 _ _ wt)) ?_ ?_
  ·rintro D i x σ H6 hx ⟨hD,v,rfl,t3,iE⟩
   rw[aC] at hx
   obtain⟨q,hq,rfl⟩:=a8.mp hx
   have hi:i < ts.length:=by have:=(ah.mp hq).1; lia
   obtain⟨q',tI,lY⟩:=bK N3 (af hi)
   rw[hq] at tI
   obtain rfl:q=q':=aG tI
   have qe:=gZ hi
   have rq:=N2 _ (bH hi)
   generalize ts[i]=c at lY qe rq
   obtain⟨dq,MZ⟩:=lY.same t3
   have Kv:=Uj.same t3
   obtain⟨Qr,Qs⟩:=Kv.obj
   refine⟨_,rfl,pw,_,Qr,_,_,rfl,Qs,G.bI,G.fM,lS g,_,rfl,q,_,dq,_,_,rfl,MZ,G.ej,G.ff,lQ _ _,g.pl,_,_,.int (S.bl c).d,rfl,rfl,bG.of Kv.hl,cA (oS rq),_,iE,bf (by rw[ae,ae,ba]; lia),hD,_,rfl,t3.dr hD,?_⟩
   rw[ag,qe,aL,aL]
   rfl
  rintro pl σ H5 npl ⟨_,v5,rfl,s5,jb⟩
  rw[ae,← htq,aZ] at jb
  have Y8:=hG4.same s5
  have RE:=N3.same s5
  have hW5:=Uj.same s5
  have Kw:l4 H5 tB:=bQ sV s5
  have Kx:mF H5 tC:=bQ sW s5
  have F5:=F4.cU s5
  have M4:=s5 _ _ Ux
  have Qt:=s5 _ _ wt
  have Uy:=s5 _ _ HC
  clear s5 F4 sV sW Uj N3 hG4 Ux wt HC
  refine⟨fa,sp,rfl,hFv,_,rfl,_,rfl,_,rfl,pg,rfl,⟨_,bG.of M4⟩,?_⟩
  refine dX (K:=K) (a:=pg) (xs:=rs.map V.ref) (fun D i σ H6=>H5 D=none/\ ∃(v:Option V) (ws:List V),σ=[v,some (.ref pt)]/\aF H5 H6/\H6 D=some (.lst ws)/\jk H6 D ((gs.take i).map fun g=>ts.map fun t=>S.df g t) ws) (fun D hD=>⟨hD,none,[],rfl,aF.new hD,ag,.nil⟩) (fun D i σ H6 _ ⟨_,_,_,_,t3,_⟩=>bG.of (t3 _ _ M4)) ?_ ?_
  ·rintro D i x σ H6 hx ⟨hD,v,ws,rfl,t3,iE,RG⟩
   rw[aC] at hx
   obtain⟨q,hq,rfl⟩:=a8.mp hx
   have hi:i < gs.length:=by have:=(ah.mp hq).1; lia
   obtain⟨q',tI,lY⟩:=bK Y8 (af hi)
   rw[hq] at tI
   obtain rfl:q=q':=aG tI
   have qe:=gZ hi
   have rq:=Wo _ (bH hi)
   generalize gs[i]=c at lY qe rq
   have yr:=aO RG
   rw[ae,ba] at yr
   refine⟨_,rfl,_,rfl,q,pt,S,c,ts,us,rfl,lY.same t3,t3 _ _ Qt,RE.same t3,(by lia),fun p H7 t7 np hp=>?_⟩
   have Y9:(ts.map fun b=>pG (S.cr c) (S.bl b) b)=ts.map fun t=>S.df c t:=fY fun b hb=>yK wf rq (N2 b hb)
   rw[Y9] at hp
   have RH:=t7 _ _ iE
   have Uz:p≠D:=(aJ iE np).symm
   refine⟨_,RH,bf (by lia),hD,_,ws ++ [.ref p],rfl,(t3.trans t7).dr hD,ag,?_⟩
   rw[qe,aL]
   exact cw ((RG.same t7).upd) ⟨p,rfl,Uz,by rw[az Uz]; exact hp⟩
  rintro pa σ H6 npa ⟨_,v6,ws,rfl,s6,M5,RG⟩
  rw[ae,← hgq,aZ] at RG
  refine hWC pf pl pa _ _ _ H6 _ (s6 _ _ Uy) (s6 _ _ jb) (fk M5 RG.rp) (by rw[ae]; lia) (by rw[ae]; lia) (by rw[ae,ae]) (fun r hr=>by
   obtain⟨x,_,rfl⟩:=bJ.mp hr
   rw[ae,ae]) fun pm ms H7 s7 UA FH=>?_
  have iI:=Ut.lt (gs.map fun g=>(S.cr g).d) (ts.map fun t=>(S.bl t).d) (gs.map fun g=>ts.map fun t=>S.df g t)
  have hlen:=Ut.len (gs.map fun g=>(S.cr g).d) (ts.map fun t=>(S.bl t).d) (gs.map fun g=>ts.map fun t=>S.df g t) (by rw[ae]; lia) (by rw[ae]; lia)
  rw[ae,ae] at iI
  have kk:=k _ _ _ _ _ hR
  generalize way (gs.map fun g=>(S.cr g).d) (ts.map fun t=>(S.bl t).d) (gs.map fun g=>ts.map fun t=>S.df g t)=fd at iI hlen FH kk
  have xT:=s6.trans s7
  have hG7:=Y8.same xT
  have hT7:=RE.same xT
  have Wq:=hW5.same xT
  have Qu:l4 H7 tB:=bQ Kw xT
  have Qv:mF H7 tC:=bQ Kx xT
  have F7:=F5.cU xT
  have UB:=xT _ _ M4
  have UC:=xT _ _ Qt
  clear xT s6 s7 F5 Kw Kx hW5 RE Y8 M4 Qt Uy jb RG M5 k hWC hFv
  have Rz:=aO FH
  refine⟨_,rfl,pm,rfl,⟨_,bG.of UA⟩,?_⟩
  refine dX (K:=K) (a:=pm) (xs:=ms) (fun D i σ H6=>H7 D=none/\ ∃(v1 v2 v3:Option V) (ws:List V),σ=[v1,v2,v3,some (.ref pt),some (.ref pg)]/\aF H7 H6/\H6 D=some (.lst ws)/\iz H6 ((fd.take i).map (mq gs ts)) ws) (fun D hD=>⟨hD,none,none,none,[],rfl,aF.new hD,ag,.nil⟩) (fun D i σ H6 _ ⟨_,_,_,_,_,_,t3,_⟩=>bG.of (t3 _ _ UA)) ?_ ?_
  ·rintro D i x σ H6 hx ⟨hD,v1,v2,v3,ws,rfl,t3,iE,HM⟩
   have hi:i < fd.length:=by have:=(ah.mp hx).1; lia
   obtain⟨v',hv,p,rfl,hp⟩:=bK FH (af hi)
   rw[hx] at hv
   obtain rfl:x= .ref p:=aG hv
   have qe:=gZ hi
   obtain⟨l1,l2⟩:=iI _ (bH hi)
   generalize fd[i]=t at hp qe l1 l2
   have yr:=aO HM
   rw[ae,ba] at yr
   have g1:gs[t.1]? =some (gs.getD t.1 0):=by rw[ak,af l1]; rfl
   have g2:ts[t.2.1]? =some (ts.getD t.2.1 0):=by rw[ak,af l2]; rfl
   obtain⟨q1,Qp,i1⟩:=bK hG7 g1
   obtain⟨q2,A9,i2⟩:=bK hT7 g2
   obtain⟨d1,e1⟩:=i1.same t3
   obtain⟨d2,e2⟩:=i2.same t3
   refine⟨p,_,rfl,cF.of (t3 _ _ hp),rfl,_,_,rfl,_,_,rfl,_,_,rfl,rfl,?_⟩
   refine⟨_,rfl,_,rfl,pg,_,_,.ref q1,rfl,rfl,bG.of (t3 _ _ UB),cA (by rw[aC,Qp]; rfl),q1,_,d1,_,_,rfl,e1,G.dg,G.eY,oQ _ _,?_⟩
   refine⟨_,rfl,_,rfl,pt,_,_,.ref q2,rfl,rfl,bG.of (t3 _ _ UC),cA (by rw[aC,A9]; rfl),q2,_,d2,_,_,rfl,e2,G.ej,G.ff,lQ _ _,_,rfl,(by show 3<=sizeLine; decide),fun p8 n8=>?_⟩
   have s8:=aF.new (o:= .tup [.int (gs.getD t.1 0:Nat),.int (ts.getD t.2.1 0:Nat),.int t.2.2]) n8
   have hl8:=s8 _ _ iE
   refine⟨_,hl8,ji (by lia),hD,_,_,_,ws ++ [.ref p8],rfl,(t3.trans s8).dr hD,ag,?_⟩
   rw[qe,aL]
   have tk:=dY (o:= .lst (ws ++ [.ref p8])) hl8
   exact cw ((HM.mono s8.tk).mono tk) ⟨p8,rfl,tk _ _ ag⟩
  rintro pn σ H8 UD ⟨_,w1,w2,w3,ws,rfl,s8,Hx,UE⟩
  rw[← Rz,aZ] at UE
  have RI:=Wq.same s8
  have HS:l4 H8 tB:=bQ Qu s8
  have HU:mF H8 tC:=bQ Qv s8
  have F8:=F7.cU s8
  have Za:H pn=none:=by
   cases e:H pn with
   |none=>rfl
   |some o=>
    exfalso
    by_cases kX:pn∈tB :: tC :: g.fp
    ·rcases au.mp kX with z|kX
     ·obtain⟨ps,q⟩:=c9 Qu
      rw[← z,UD] at q
      cases q
     ·rcases au.mp kX with z|kX
      ·obtain⟨ps,q⟩:=c9 Qv
       rw[← z,UD] at q
       cases q
      ·exact Wq.new UD kX
    ·have q:=F7 _ _ kX e
     rw[UD] at q
     cases q
  have UG:pn∉g.fp:=Wq.new UD
  have Kl: ∀t∈fd.map (mq gs ts),t.1 < S.credits.length/\t.2.1 < S.aE.length:=fun t ht=>by
   obtain⟨u,hu,rfl⟩:=bJ.mp ht
   obtain⟨l1,l2⟩:=iI u hu
   exact⟨Wo _ (ke l1),N2 _ (ke l2)⟩
  have Kc:(fd.map (mq gs ts)).length<=4000:=by rw[ae]; exact hlen
  generalize fd.map (mq gs ts)=L at UE kk Kl Kc
  have yr:=aO UE
  clear iI hlen FH UA UB UC hG7 hT7 Wq Qu Qv F7 s8
  refine⟨_,rfl,pn,rfl,⟨_,bG.of Hx⟩,?_⟩
  refine fG (K:=K) (a:=pn) (xs:=ws) (fun i σ H2=> ∃(x9 CM CO:Option V),σ=[some (.ref pw),some (.str aH),some (.ref fa),some (.ref pg),some (.ref pt),some (.ref pf),some (.ref pl),some (.ref pm),some (.ref pn),x9,CM,CO]/\Frame g.fp H8 H2/\dJ A H2 pw (kJ S (L.take i)) g)
   ⟨none,none,none,rfl,Frame.refl,RI⟩ (fun i σ H2 _ ⟨_,_,_,_,f2,_⟩=>bG.of (f2 _ _ UG Hx)) ?_ ?_
  ·rintro i x σ H2 hx ⟨x9,CM,CO,rfl,f2,As⟩
   have hi:i < L.length:=by have:=(ah.mp hx).1; lia
   have qM:=af hi
   obtain⟨v',hv,p,rfl,hp⟩:=bK UE qM
   rw[hx] at hv
   obtain rfl:x= .ref p:=aG hv
   have wO:=HR (S:=S) qM
   obtain⟨m1,m2⟩:=Kl _ (bH hi)
   generalize L[i]=t at hp wO m1 m2
   obtain⟨b1,b2⟩:=FJ S (L.take i)
   have Iy:(kJ S (L.take i)).made.length < sizeLine:=by
    rw[jW,ax,ba]
    have:=wf.lm
    exact ji (by lia)
   obtain⟨Y6,Rv⟩:=As.obj
   refine⟨p,_,rfl,cF.of (RI.tk f2 _ _ hp),rfl,_,_,rfl,_,_,rfl,_,_,rfl,rfl,?_⟩
   refine⟨_,rfl,pw,Y6,_,rfl,Rv,J2 g,_,rfl,_,rfl,_,rfl,pw,_,g,t.1,t.2.1,t.2.2,rfl,As,(by rw[b2]; exact m1),(by rw[b1]; exact m2),Iy,fun H3 f3 W3=>?_⟩
   refine⟨_,_,_,rfl,f2.tr f3,?_⟩
   rw[wO]
   exact W3
  ·rintro σ H2 ⟨x9,CM,CO,rfl,f2,As⟩
   rw[← yr,aZ] at As
   have ext2: ∀a∈g.fp,∀φ,H8 a≠some (.ext φ):=fun a ha φ e=>by
    obtain⟨xs,z⟩:=RI.lists a ha
    rw[z] at e
    cases e
   have HV:tB∉g.fp:=RI.off fun xs e=>by
    obtain⟨ps,z⟩:=c9 HS
    rw[z] at e
    cases e
   have HW:tC∉g.fp:=RI.off fun xs e=>by
    obtain⟨ps,z⟩:=c9 HU
    rw[z] at e
    cases e
   exact⟨_,rfl,kk pn ws H2 (F8.tr (dM f2 fun x hx=>by simp[hx])) (gq HS f2 HV ext2) (gq HU f2 HW ext2) As Za (f2 _ _ UG Hx) (UE.mono (RI.tk f2))⟩
theorem rY (g:eX):(lR g).lookup ("one_round":Str)=none:=by rfl
theorem pO {α β:Type}{F:α->β->Prop}: ∀{l₁:List α} {r₁:List β} {l₂:List α} {r₂:List β},Paired F l₁ r₁->Paired F l₂ r₂->Paired F (l₁ ++ l₂) (r₁ ++ r₂)
 |_,_,_,_,.nil,h=>h
 |_,_,_,_,.cons a t,h=> .cons a (pO t h)
theorem EE:Ks qC:=⟨fun fs ls al t h=>mr fs ls al _ t h,fun fs ls al h1 _=>by
 have:=L2.iy fs ls al fs.length
 show(bV fs ls al fs.length).2.length<=4000
 lia⟩
theorem Ky:Ks CK:=⟨fun fs ls al t h=>vy fs ls al _ t h,fun fs ls al h1 h2=>by
 have:=qq fs ls al fs.length
 have h3:fs.length * ls.length<=63 * 63:=qP h1 h2
 show(cz fs ls al fs.length).2.length<=4000
 lia⟩
theorem tY {H:Hp}: ∀{ms:List (Nat×Nat×Int)} {xs:List V},g9 H (ms.map Kn) xs->iz H ms xs
 |[],_,h=>by
  rw[cv.mp h]
  exact .nil
 |t :: ms,_,h=>by
  obtain⟨v,r,rfl,h1,h2⟩:=br.mp h
  obtain⟨a,ys,rfl,h3,h4⟩:=j9.mp h1
  obtain⟨u1,r1,rfl,e1,h5⟩:=br.mp h4
  obtain⟨u2,r2,rfl,e2,h6⟩:=br.mp h5
  obtain⟨u3,r3,rfl,e3,h7⟩:=br.mp h6
  obtain rfl:=cv.mp h7
  obtain rfl:=dD.mp e1
  obtain rfl:=dD.mp e2
  obtain rfl:=dD.mp e3
  exact .cons ⟨a,rfl,h3⟩ (tY h2)
theorem Kz:Qn qC (wj K):=fun pf pl pa fs ls al H Q h1 h2 h3 h4 h5 h6 h7 k=>
 ⟨pf,pl,pa,fs,ls,al,rfl,bG.of h1,bG.of h2,h3,by lia,h6,h7,fun v H' s r=>by
  obtain⟨a,xs,rfl,e,r'⟩:=ka.mp r
  exact k a xs H' s e (tY r')⟩
theorem Qw:Qn CK (wq K):=fun pf pl pa fs ls al H Q h1 h2 h3 h4 h5 h6 h7 k=>
 ⟨pf,pl,pa,fs,ls,al,rfl,bG.of h1,bG.of h2,h3,h4,h5,h6,h7,fun pm ms H' s e r=>k pm ms H' s e r⟩
inductive AB (A:ee)(tB tC:Addr)(vs:List V)(H:Hp)(Q:VK)(E':XK):Prop
 |mk (pw:Addr)(S:Bk)(f:eX)(n:Nat)(aH:Str)(h1:vs=[.ref pw,.str aH])(h2:dJ A H pw S f)(h3:WF S n)(h4:n<=60)(h5:l4 H tB)(h6:mF H tC)(h7: ∀D ms H',Frame (tB :: tC :: f.fp) H H'->l4 H' tB->mF H' tC->dJ A H' pw (S.dv aH) f->H D=none->H' D=some (.lst ms)->iz H' ((S.dv aH).made.drop S.made.length) ms->Q (.ref D) H'):AB A tB tC vs H Q E'
theorem pP:aU ["self","who","first","second"] ["self","who"] (aA (mem 25 6)):={}
theorem M6 (T:Txt K mg){A:ee}{tB tC:Addr}(G:jO K mg A)(DB:qN K mg "bills_in_order" (top 17) tB)(DC:qN K mg "credits_in_order" (top 18) tC)(jE:tB≠tC)(KB:K.In base)(BM:BMain mg base):hZ sG P w K mg base A.work "sweep" 4 ["self","who"] (AB A tB tC):=by
 have tZ:hZ sG P w K mg base A.work "one_round" 3 ["self","who","way"] (AA P w K mg base A tB tC):=CL T G DB DC jE KB BM
 obtain⟨f1,m1,V1⟩:=fC.fnv (MX (P:=P) (w:=w) (base:=base) T)
 obtain⟨f2,m2,V2⟩:=fC.fnv (Az (P:=P) (w:=w) (base:=base) T)
 refine MF (k:=3) G.xB G.bI pP (fun f cY A' outer s H vs Q E hr h=>?_)
 ·obtain⟨pw,S,g,n,aH,rfl,hW,wf,hn,kF,j7,k⟩:=h
  have nd:=pP.nd
  refine⟨_,(ai (sv 2 nd (nW tZ (hr.mono (by decide)) nH (pv 0) (aa (pv 1) (aa (EO (v:= .ref f1) rfl m1 rfl) aw))))
(ai (sv 3 nd (nW tZ (hr.mono (by decide)) nH (pv 0) (aa (pv 1) (aa (EO (v:= .ref f2) rfl m2 rfl) aw))))
(av (a9 (aQ lp (pv 2) (pv 3)))))),?_⟩
  obtain⟨dw,hw⟩:=hW.obj
  refine⟨_,rfl,pw,dw,_,rfl,hw,rY g,_,rfl,pw,f1,S,g,n,aH,qC,_,rfl,hW,wf,(by lia),kF,j7,EE,V1,Kz,fun gs ts fs ls al R D1 Zb H1 F1 jG kA Ds Uu HB FG=>?_⟩
  obtain⟨er,lr⟩:=Jt R
  have Y9:fs.length=gs.length:=by rw[R.ef,ae]
  have eS:kJ S ((qC fs ls al).map (mq gs ts))=bN aH S true:=by rw[er]; unfold qC; rw[Y9]
  have em:(bN aH S true).made=S.made ++ (qC fs ls al).map (mq gs ts):=by rw[← eS]; exact jW _ _
  obtain⟨_,l1,e1,b1,n1⟩:=rj S aH true
  have el1:l1=(qC fs ls al).map (mq gs ts):=List.append_cancel_left (e1.symm.trans em)
  rw[eS] at Ds
  rw[← el1] at FG
  have hcb:S.credits.length * S.aE.length<=60 * 60:=qP (by have:=wf.lc; lia) (by have:=wf.lb; lia)
  have wf1:WF (bN aH S true) (n + 1):=by
   refine wf.later lr (fun t ht=>?_) (c8 _) ?_
   ·rw[e1] at ht
    rcases bc.mp ht with ht|ht
    ·exact wf.m t ht
    ·exact b1 t ht
   ·rw[e1,ax]
    have:=wf.lm
    have:=wf.lc
    lia
  obtain⟨dw1,TQ⟩:=Ds.obj
  refine⟨_,rfl,pw,dw1,_,rfl,TQ,rY g,_,rfl,pw,f2,_,g,n + 1,aH,CK,_,rfl,Ds,wf1,(by lia),jG,kA,Ky,V2,Qw,fun UH Wr UI Ws Wt R2 D2 Lo H2 F2 kK mZ As Dr Em DT=>?_⟩
  obtain⟨er2,lr2⟩:=Jv R2
  have Zc:UI.length=UH.length:=by rw[R2.ef,ae]
  have eS2:kJ (bN aH S true) ((CK UI Ws Wt).map (mq UH Wr))=S.dv aH:=by
   show _ =bN aH (bN aH S true) false
   rw[er2]; unfold CK; rw[Zc]
  have em2:(S.dv aH).made=(bN aH S true).made ++ (CK UI Ws Wt).map (mq UH Wr):=by rw[← eS2]; exact jW _ _
  rw[eS2] at As
  have Iy:(S.dv aH).made.length<=8000 * 60 + 8000:=by
   obtain⟨_,l3,e3,_,n3⟩:=nN S aH
   rw[e3,ax]
   have:=wf.lm
   have:=wf.lc
   lia
  have Zd:D1∉tB :: tC :: g.fp:=fun z=>by
   rcases au.mp z with z|z
   ·obtain⟨ps,e⟩:=c9 kF
    rw[← z,Uu] at e
    cases e
   ·rcases au.mp z with z|z
    ·obtain⟨ps,e⟩:=c9 j7
     rw[← z,Uu] at e
     cases e
    ·exact hW.new Uu z
  have Ze:=F2 _ _ Zd HB
  have kt:cK H1 H2:=fun b xs e=>F2 b _ (fun z=>by
   rcases au.mp z with z|z
   ·obtain⟨ps,e'⟩:=c9 jG
    rw[z,e'] at e
    cases e
   ·rcases au.mp z with z|z
    ·obtain⟨ps,e'⟩:=c9 kA
     rw[z,e'] at e
     cases e
    ·obtain⟨ys,e'⟩:=Ds.lists b z
     rw[e'] at e
     cases e) e
  have t1:=aO FG
  have t2:=aO DT
  have hlen:(S.dv aH).made.length=S.made.length + l1.length + ((CK UI Ws Wt).map (mq UH Wr)).length:=by
   rw[em2,e1,ax,ax]
  refine⟨_,rfl,_,rfl,D1,D2,Zb,Lo,rfl,rfl,Ze,Em,?_,fun p np=>?_⟩
  ·have:Zb.length + Lo.length<=1000000:=by lia
   exact cL (ji this)
  ·have s3:=aF.new (o:= .lst (Zb ++ Lo)) np
   have F:=F1.tr F2
   have np0:H p=none:=by
    cases e:H p with
    |none=>rfl
    |some o=>
     exfalso
     by_cases kX:p∈tB :: tC :: g.fp
     ·rcases au.mp kX with z|kX
      ·obtain⟨ps,q⟩:=c9 kK
       rw[← z,np] at q
       cases q
      ·rcases au.mp kX with z|kX
       ·obtain⟨ps,q⟩:=c9 mZ
        rw[← z,np] at q
        cases q
       ·exact As.new np kX
     ·have q:=F _ _ kX e
      rw[np] at q
      cases q
   refine k p _ _ (F.cU s3) (bQ kK s3) (bQ mZ s3) (As.same s3) np0 ag ?_
   have ed:(S.dv aH).made.drop S.made.length=l1 ++ (CK UI Ws Wt).map (mq UH Wr):=by
    rw[em2,e1,b0,List.drop_left]
   rw[ed]
   exact pO ((FG.mono kt).mono s3.tk) (DT.mono s3.tk)
theorem AD (g:eX):(lR g).lookup ("tell_bill":Str)=none:=by rfl
theorem uu (g:eX):(lR g).lookup ("tell_payment":Str)=none:=by rfl
theorem AE (g:eX):(lR g).lookup ("tell_note":Str)=none:=by rfl
theorem wu (g:eX):(lR g).lookup ("set_by_hand":Str)=none:=by rfl
theorem KA (g:eX):(lR g).lookup ("sweep":Str)=none:=by rfl
inductive uO (A:ee)(K:Frag)(tB tC:Addr)(vs:List V)(H:Hp)(Q:VK)(E:XK):Prop
 |mk (pw pd:Addr)(S:Bk)(f:eX)(n:Nat)(d:bg)(h1:vs=[.ref pw,.ref pd])(h2:dJ A H pw S f)(h3:WF S n)(h4:n<=60)(h5:l4 H tB)(h6:mF H tC)(h7:H pd=some (.tup (bg.vs d)))(h8:d.tells=true)(h9:(S.bar d=""-> ∀v f' H',f'.fp=f.fp->Frame (tB :: tC :: f.fp) H H'->l4 H' tB->mF H' tC->dJ A H' pw (S.enter d) f'->lZ H' (fun D=>H D=none) (S.Jw d) v->Q v H'))(Lg:(S.bar d≠""->ML A K E (S.bar d) H)):uO A K tB tC vs H Q E
theorem FK:aU ["work","deed","kind"] ["work","deed"] (aA (top 30)):={}
theorem KC (T:Txt K mg){A:ee}{tB tC:Addr}(G:jO K mg A)(DB:qN K mg "bills_in_order" (top 17) tB)(DC:qN K mg "credits_in_order" (top 18) tC)(jE:tB≠tC)(KB:K.In base)(BM:BMain mg base):vN P w K mg base "done" 7 ["work","deed"] (uO A K tB tC):=by
 have CP:hZ (mY P w mg) P w K mg base A.work "tell_bill" 5 ["self","who","day","due","amount"] (Ab A K):=Cq T G
 have wx:hZ (mY P w mg) P w K mg base A.work "tell_payment" 6 ["self","who","day","amount"] (Ad A K):=vS T G
 have CQ:hZ (mY P w mg) P w K mg base A.work "tell_note" 6 ["self","bill_number","day","amount"] (Ae A K):=Cr T G
 have xU:hZ (mY P w mg) P w K mg base A.work "set_by_hand" 5 ["self","credit_number","bill_number","amount"] (Ka A K):=xE T G
 have M7:hZ sG P w K mg base A.work "sweep" 4 ["self","who"] (AB A tB tC):=M6 T G DB DC jE KB BM
 refine PR (k:=6) T.PD FK (fun f cY A' outer s H vs Q E hr mP h=>?_)
 ·obtain⟨pw,pd,S,g,n,d,rfl,hW,wf,hn,kF,j7,hd,ht,k1,k2⟩:=h
  have nd:=FK.nd
  obtain⟨dw,hw⟩:=hW.obj
  refine⟨_,(ai (sv 2 nd (xt (pv 1) aj))
(ai (bT (a0 dh (pv 2) aR (bb _))
(av (a9 (nW CP (hr.mono (by decide)) mP.pass (pv 0) (aa (xt (pv 1) aj) (aa (xt (pv 1) aj) (aa (xt (pv 1) aj) (aa (xt (pv 1) aj) aw)))))))
bp)
(ai (bT (a0 dh (pv 2) aR (bb _))
(av (a9 (nW wx (hr.mono (by decide)) mP.pass (pv 0) (aa (xt (pv 1) aj) (aa (xt (pv 1) aj) (aa (xt (pv 1) aj) aw))))))
bp)
(ai (bT (a0 dh (pv 2) aR (bb _))
(av (a9 (nW CQ (hr.mono (by decide)) mP.pass (pv 0) (aa (xt (pv 1) aj) (aa (xt (pv 1) aj) (aa (xt (pv 1) aj) aw))))))
bp)
(ai (bT (a0 dh (pv 2) aR (bb _))
(av (a9 (nW xU (hr.mono (by decide)) mP.pass (pv 0) (aa (xt (pv 1) aj) (aa (xt (pv 1) aj) (aa (xt (pv 1) aj) aw))))))
bp)
(av (a9 (nW M7 (hr.mono (by decide)) nH (pv 0) (aa (xt (pv 1) aj) aw))))))))),?_⟩
  have ext: ∀a∈g.fp,∀φ,H a≠some (.ext φ):=fun a ha φ e=>by
   obtain⟨xs,z⟩:=hW.lists a ha
   rw[z] at e
   cases e
  have HV:tB∉g.fp:=hW.off fun xs e=>by
   obtain⟨ps,z⟩:=c9 kF
   rw[z] at e
   cases e
  have HW:tC∉g.fp:=hW.off fun xs e=>by
   obtain⟨ps,z⟩:=c9 j7
   rw[z] at e
   cases e
  cases d with
  |iC n=>cases ht
  |ask o w d=>cases ht
  |il w d l=>cases ht
  |dP wh dy du am=>
   refine⟨_,rfl,pd,_,_,.str "bill",rfl,rfl,cF.of hd,rfl,?_⟩
   refine⟨_,rfl,rfl,true,A8 _,fU ⟨_,rfl,pw,dw,_,rfl,hw,AD g,_,rfl,pd,_,_,.str wh,rfl,rfl,cF.of hd,rfl,_,rfl,pd,_,_,.int dy,rfl,rfl,cF.of hd,rfl,_,rfl,pd,_,_,.int du,rfl,rfl,cF.of hd,rfl,_,rfl,pd,_,_,.int am,rfl,rfl,cF.of hd,rfl,pw,S,g,wh,dy,du,am,rfl,hW,(by have:=wf.lb; lia),fun hb f1 H1 e1 F1 W1=>?_,k2⟩⟩
   exact k1 hb _ f1 H1 e1 (dM F1 fun x hx=>by simp[hx]) (gq kF F1 HV ext) (gq j7 F1 HW ext) W1 rfl
  |pF wh dy am=>
   refine⟨_,rfl,pd,_,_,.str "pay",rfl,rfl,cF.of hd,rfl,?_⟩
   refine⟨_,rfl,rfl,false,jQ (show("pay":Str)≠"bill" by decide +kernel),bX ?_⟩
   refine⟨_,rfl,rfl,true,A8 _,fU ⟨_,rfl,pw,dw,_,rfl,hw,uu g,_,rfl,pd,_,_,.str wh,rfl,rfl,cF.of hd,rfl,_,rfl,pd,_,_,.int dy,rfl,rfl,cF.of hd,rfl,_,rfl,pd,_,_,.int am,rfl,rfl,cF.of hd,rfl,pw,S,g,wh,dy,am,rfl,hW,(by have:=wf.lc; lia),fun hb f1 H1 e1 F1 W1=>?_,k2⟩⟩
   exact k1 hb _ f1 H1 e1 (dM F1 fun x hx=>by simp[hx]) (gq kF F1 HV ext) (gq j7 F1 HW ext) W1 rfl
  |note b dy am=>
   refine⟨_,rfl,pd,_,_,.str "note",rfl,rfl,cF.of hd,rfl,?_⟩
   refine⟨_,rfl,rfl,false,jQ (show("note":Str)≠"bill" by decide +kernel),bX ?_⟩
   refine⟨_,rfl,rfl,false,jQ (show("note":Str)≠"pay" by decide +kernel),bX ?_⟩
   refine⟨_,rfl,rfl,true,A8 _,fU ⟨_,rfl,pw,dw,_,rfl,hw,AE g,_,rfl,pd,_,_,.int b,rfl,rfl,cF.of hd,rfl,_,rfl,pd,_,_,.int dy,rfl,rfl,cF.of hd,rfl,_,rfl,pd,_,_,.int am,rfl,rfl,cF.of hd,rfl,pw,S,g,b,dy,am,rfl,hW,(by have:=wf.lc; lia),fun hb f1 H1 e1 F1 W1=>?_,k2⟩⟩
   exact k1 hb _ f1 H1 e1 (dM F1 fun x hx=>by simp[hx]) (gq kF F1 HV ext) (gq j7 F1 HW ext) W1 rfl
  |set c b am=>
   refine⟨_,rfl,pd,_,_,.str "set",rfl,rfl,cF.of hd,rfl,?_⟩
   refine⟨_,rfl,rfl,false,jQ (show("set":Str)≠"bill" by decide +kernel),bX ?_⟩
   refine⟨_,rfl,rfl,false,jQ (show("set":Str)≠"pay" by decide +kernel),bX ?_⟩
   refine⟨_,rfl,rfl,false,jQ (show("set":Str)≠"note" by decide +kernel),bX ?_⟩
   refine⟨_,rfl,rfl,true,A8 _,fU ⟨_,rfl,pw,dw,_,rfl,hw,wu g,_,rfl,pd,_,_,.int c,rfl,rfl,cF.of hd,rfl,_,rfl,pd,_,_,.int b,rfl,rfl,cF.of hd,rfl,_,rfl,pd,_,_,.int am,rfl,rfl,cF.of hd,rfl,pw,S,g,n,c,b,am,rfl,hW,wf,(ji (by have:=wf.lm; lia)),fun hb f1 H1 e1 F1 W1=>?_,k2⟩⟩
   exact k1 hb _ f1 H1 e1 (dM F1 fun x hx=>by simp[hx]) (gq kF F1 HV ext) (gq j7 F1 HW ext) W1 rfl
  |bU wh=>
   refine⟨_,rfl,pd,_,_,.str "sweep",rfl,rfl,cF.of hd,rfl,?_⟩
   refine⟨_,rfl,rfl,false,jQ (show("sweep":Str)≠"bill" by decide +kernel),bX ?_⟩
   refine⟨_,rfl,rfl,false,jQ (show("sweep":Str)≠"pay" by decide +kernel),bX ?_⟩
   refine⟨_,rfl,rfl,false,jQ (show("sweep":Str)≠"note" by decide +kernel),bX ?_⟩
   refine⟨_,rfl,rfl,false,jQ (show("sweep":Str)≠"set" by decide +kernel),bX ?_⟩
   refine⟨_,rfl,pw,dw,_,rfl,hw,KA g,_,rfl,pd,_,_,.str wh,rfl,rfl,cF.of hd,rfl,pw,S,g,n,wh,rfl,hW,wf,(by lia),kF,j7,fun D ms H1 F1 jG kA W1 nD hD hT=>?_⟩
   exact k1 rfl _ g H1 rfl F1 jG kA W1 ⟨D,ms,rfl,nD,hD,hT⟩
theorem KD {α:Type}(x:α)(xs:List α):uz (x :: xs) 0=some x:=cA (xs:=x :: xs) (j:=0) rfl
def lC (H:Hp)(ss:List (Int×bg))(bh:List (Key×V)):Prop:=Paired (fun(st:Int×bg) (kv:Key×V)=>kv.1=Sum.inl st.1/\ ∃pd,kv.2= .ref pd/\H pd=some (.tup (bg.vs st.2))/\st.2.tells=true) ss bh
theorem lC.mono {H H':Hp}{ss:List (Int×bg)}{bh:List (Key×V)}(h:lC H ss bh)(k:cK H H'):lC H' ss bh:=Paired.g8 h fun _ _ ⟨e,p,e2,z,t⟩=>⟨e,p,e2,k _ _ z,t⟩
structure fW (A:ee)(H:Hp)(pb pk pw:Addr)(T:hV)(f:eX):Prop where
 obj:eK H pb A.book (fj pk pw)
 kept: ∃bh,H pk=some (.dK bh)/\lC H T.steps bh
 wk:dJ A H pw T.bk f
theorem fW.same {A:ee}{H H':Hp}{pb pk pw:Addr}{T:hV}{f:eX}(h:fW A H pb pk pw T f)(s:aF H H'):fW A H' pb pk pw T f:=by
 obtain⟨bh,k1,k2⟩:=h.kept
 exact⟨h.obj.same s,⟨bh,s _ _ k1,k2.mono s.tk⟩,h.wk.same s⟩
theorem FL {A:ee}{H H':Hp}{pw:Addr}{S:Bk}{f:eX}(h:dJ A H pw S f)(kl: ∀a xs,H a=some (.lst xs)->H' a=some (.lst xs))(ki: ∀a C dx fs,fs.length=5->H a=some (.ins C dx fs)->H' a=some (.ins C dx fs))(kt:cK H H'):dJ A H' pw S f:=by
 obtain⟨dw,hw⟩:=h.obj
 obtain⟨ms,m1,m2⟩:=h.hm
 exact⟨⟨dw,ki _ _ _ _ rfl hw⟩,kl _ _ h.hb,kl _ _ h.hc,kl _ _ h.hl,kl _ _ h.hf,⟨ms,kl _ _ m1,m2.mono kt⟩,⟨h.rb.1,fun i p e=>let⟨dx,z⟩:=h.rb.2 i p e; ⟨dx,ki _ _ _ _ rfl z⟩⟩,⟨h.rc.1,fun i p e=>let⟨dx,z⟩:=h.rc.2 i p e; ⟨dx,ki _ _ _ _ rfl z⟩⟩,h.nd⟩
def KG (o:HO):Prop:=(∀xs,o≠ .lst xs)/\(∀xs,o≠ .tup xs)/\ ∀C dx fs,fs.length=5->o≠ .ins C dx fs
theorem wy {A:ee}{H:Hp}{pw p:Addr}{S:Bk}{f:eX}{o u:HO}(h:dJ A H pw S f)(e:H p=some o)(n:KG o):dJ A (upd H p u) pw S f:=
 FL h (fun a xs z=>by rw[az (fun q=>by rw[q,e] at z; exact n.1 xs (aG z))]; exact z) (fun a C dx fs hl z=>by rw[az (fun q=>by rw[q,e] at z; exact n.2.2 C dx fs hl (aG z))]; exact z)
  (fun a xs z=>by rw[az (fun q=>by rw[q,e] at z; exact n.2.1 xs (aG z))]; exact z)
theorem uP (bh:List (Key×V)):KG (.dK bh):=⟨fun _ z=>(by cases z),fun _ z=>(by cases z),fun _ _ _ _ z=>(by cases z)⟩
theorem KH (φ:Heap->Prop):KG (.ext φ):=⟨fun _ z=>(by cases z),fun _ z=>(by cases z),fun _ _ _ _ z=>(by cases z)⟩
theorem yQ (C dx pk pw:Addr):KG (.ins C dx (fj pk pw)):=⟨fun _ z=>(by cases z),fun _ z=>(by cases z),fun _ _ fs hl z=>(by injection z with _ _ z; rw[← z] at hl; cases hl)⟩
theorem AF {H:Hp}{p:Addr}{o u:HO}(e:H p=some o)(n:KG o):cK H (upd H p u):=fun a xs z=>by rw[az (fun q=>by rw[q,e] at z; exact n.2.1 xs (aG z))]; exact z
theorem sX {H:Hp}{m:Int}: ∀{ss:List (Int×bg)} {bh:List (Key×V)},lC H ss bh->gA bh (Sum.inl m:Key)=none-> ∀st∈ss,st.1≠m
 |_,_,.nil,_,_,h=>by cases h
 |_,_,.cons (a:=a) (b:=kv) ⟨e,_⟩ t,hv,st,h=>by
  by_cases q:kv.1=(Sum.inl m:Key)
  ·rw[fT q] at hv
   cases hv
  ·rw[fH q] at hv
   rcases au.mp h with rfl|h
   ·intro z
    rw[e,z] at q
    exact q rfl
   ·exact sX t hv st h
theorem yR {H:Hp}{m:Int}{v:V}: ∀{ss:List (Int×bg)} {bh:List (Key×V)},lC H ss bh->gA bh (Sum.inl m:Key)=some v-> ∃st∈ss,st.1=m/\ ∃pd,v= .ref pd/\H pd=some (.tup (bg.vs st.2))/\st.2.tells=true
 |_,_,.nil,hv=>by cases hv
 |_,_,.cons (a:=a) (b:=kv) ⟨e,pd,e2,z,tl⟩ t,hv=>by
  by_cases q:kv.1=(Sum.inl m:Key)
  ·rw[fT q] at hv
   rw[e] at q
   refine⟨a,aS,by injection q,pd,?_,z,tl⟩
   rw[← aG hv,e2]
  ·rw[fH q] at hv
   obtain⟨st,h1,h2⟩:=yR t hv
   exact⟨st,aI _ h1,h2⟩
theorem CS {H:Hp}{m:Int}: ∀{ss:List (Int×bg)} {bh:List (Key×V)},lC H ss bh->(∀st∈ss,st.1≠m)->gA bh (Sum.inl m:Key)=none
 |_,_,.nil,_=>rfl
 |_,_,.cons (a:=a) (b:=kv) ⟨e,_⟩ t,h=>by
  rw[fH (fun q=>by
   rw[e] at q
   exact h a aS (by injection q))]
  exact CS t fun st hs=>h st (aI _ hs)
theorem yS {H:Hp}{m:Int}: ∀{ss:List (Int×bg)} {bh:List (Key×V)},lC H ss bh->lC H (ss.filter fun st=>decide (st.1≠m)) (lK bh (Sum.inl m:Key))
 |_,_,.nil=> .nil
 |_,_,.cons (a:=a) (b:=kv) ⟨e,r⟩ t=>by
  have ih:=yS (m:=m) t
  unfold lK at ih ⊢
  by_cases q:a.1=m
  ·have q':kv.1=(Sum.inl m:Key):=by rw[e,q]
   rw[List.filter_cons_of_neg (by simp[q]),List.filter_cons_of_neg (by simp[q'])]
   exact ih
  ·have q': ¬ kv.1=(Sum.inl m:Key):=by rw[e]; intro z; exact q (by injection z)
   rw[List.filter_cons_of_pos (by simp[q]),List.filter_cons_of_pos (by simp[q'])]
   exact .cons ⟨e,r⟩ ih
theorem wz: ∀{ss:List (Int×bg)},ss.Pairwise (fun a b=>a.1 < b.1)-> ∀{x y:Int×bg},x∈ss->y∈ss->x.1=y.1->x=y
 |[],_,_,_,h,_,_=>by cases h
 |a :: ss,hp,x,y,hx,hy,e=>by
  rw[fB] at hp
  rcases au.mp hx with hx|hx
  ·rcases au.mp hy with hy|hy
   ·rw[hx,hy]
   ·have:=hp.1 y hy
    rw[hx] at e
    lia
  ·rcases au.mp hy with hy|hy
   ·have:=hp.1 x hx
    rw[hy] at e
    lia
   ·exact wz hp.2 hx hy e
def HX (ss:List (Int×bg))(m:Int):Bool:=ss.any fun st=>decide (st.1=m) && st.2.isSet
theorem qD (ss:List (Int×bg))(m:Int):(ss.filter (cu m)).length=ss.length↔HX ss m=false:=by
 rw[List.length_filter_eq_length_iff]
 unfold HX
 rw[sj]
 constructor
 ·intro h st hs
  have:=h st hs
  unfold cu at this
  cases h2:decide (st.1=m) && st.2.isSet
  ·simp
  ·rw[h2] at this
   cases this
 ·intro h st hs
  have:=h st hs
  unfold cu
  cases h2:decide (st.1=m) && st.2.isSet
  ·rfl
  ·exact absurd h2 this
theorem KI {ss:List (Int×bg)}{m:Int}{st:Int×bg}(hp:ss.Pairwise (fun a b=>a.1 < b.1))(hs:st∈ss)(e:st.1=m):HX ss m=st.2.isSet:=by
 unfold HX
 cases h:st.2.isSet with
 |true=>exact List.any_eq_true.mpr ⟨st,hs,by simp[e,h]⟩
 |false=>
  rw[sj]
  intro x hx z
  have z':x.1=m/\x.2.isSet=true:=by simpa using z
  have q:=wz hp hx hs (z'.1.trans e.symm)
  rw[q,h] at z'
  cases z'.2
theorem CU {ss:List (Int×bg)}{m:Int}(h: ∀st∈ss,st.1≠m):HX ss m=false:=by
 unfold HX
 rw[sj]
 intro x hx z
 have z':x.1=m/\x.2.isSet=true:=by simpa using z
 exact h x hx z'.1
theorem KJ {ss:List (Int×bg)}{m:Int}(hp:ss.Pairwise (fun a b=>a.1 < b.1))(h:HX ss m=true):ss.filter (cu m)=ss.filter fun st=>decide (st.1≠m):=by
 apply i9
 intro st hs
 unfold cu
 by_cases e:st.1=m
 ·rw[← KI hp hs e,h]
  simp[e]
 ·simp[e]
theorem CV (pk pw:Addr):(fj pk pw).lookup ("in_force":Str)=none:=by rfl
theorem M8 (pk pw:Addr):(fj pk pw).lookup ("undo":Str)=none:=by rfl
theorem UJ (pk pw:Addr):(fj pk pw).lookup ("do":Str)=none:=by rfl
inductive sY (A:ee)(vs:List V)(H:Hp)(Q:VK)(E':XK):Prop
 |mk (pb pk pw:Addr)(T:hV)(f:eX)(n:Nat)(m:Int)(h1:vs=[.ref pb,.int m])(h2:fW A H pb pk pw T f)(h3:Good T n)(h4: ∀H',aF H H'->Q (.bl (HX T.steps m)) H'):sY A vs H Q E'
theorem sZ:aU ["self","number"] ["self","number"] (aA (mem 29 3)):={}
theorem EF {A:ee}(G:jO K mg A):hZ sG P w K mg base A.book "in_force" 1 ["self","number"] (sY A):=by
 refine MF (k:=0) G.sP G.fh sZ (fun f cY A' outer s H vs Q E hr h=>?_)
 ·obtain⟨pb,pk,pw,T,g,n,m,rfl,hB,hG,k⟩:=h
  have hu:=kW hr
  obtain⟨db,hb⟩:=hB.obj
  obtain⟨bh,hk,hK⟩:=hB.kept
  refine⟨_,(av (a9 (sC (OA (OV hu (pv 1) (bZ (pv 0) rfl))) (qc (fQ oM (xt (cJ hu (bZ (pv 0) rfl) (pv 1) (fun _ _=>rfl)) aj) (cM (aa aR (aa aR aw))) (by rfl)))))),?_⟩
  refine⟨_,rfl,_,rfl,pb,_,db,_,_,rfl,hb,G.fh,G.gU,uL _ _,pk,_,rfl,mX.k (k:=(Sum.inl m:Key)) hk,_,rfl,?_⟩
  cases hv:gA bh (Sum.inl m:Key) with
  |none=>
   refine bX ?_
   have q:=k H (aF.refl _)
   rw[CU (sX hK hv)] at q
   exact q
  |some v=>
   refine fU ?_
   obtain⟨st,hs,e,pd,rfl,Iz,ht⟩:=yR hK hv
   obtain⟨r,er⟩:=uI (.inl ht)
   rw[er] at Iz
   refine⟨_,rfl,pb,_,db,_,_,rfl,hb,G.fh,G.gU,uL _ _,_,rfl,pk,.ref pd,rfl,(by have z:=mX.k (k:=(Sum.inl m:Key)) hk; rw[hv] at z; exact z),pd,_,_,.str (bg.word st.2),rfl,rfl,cF.of Iz,KD _ _,(by show 2<=sizeLine; decide),fun p np=>?_⟩
   have s1:=aF.new (o:= .tup [.str "set",.str "sweep"]) np
   refine⟨p,_,rfl,.inr (cF.of ag),rfl,rfl,?_⟩
   have q:=k _ s1
   rw[KI hG.inc hs e,← FE ht] at q
   exact q
inductive Qx (A:ee)(K:Frag)(tB tC:Addr)(vs:List V)(H:Hp)(Q:VK)(E:XK):Prop
 |mk (pb pd pk pw:Addr)(T:hV)(f:eX)(n:Nat)(d:bg)(h1:vs=[.ref pb,.int n,.ref pd])(h2:fW A H pb pk pw T f)(h3:Good T n)(h4:n<=59)(h5:l4 H tB)(h6:mF H tC)(h7:H pd=some (.tup (bg.vs d)))(h8:d.tells=true)(h9:(T.bk.bar d=""-> ∀v f' H',f'.fp=f.fp->Frame (tB :: tC :: pk :: f.fp) H H'->l4 H' tB->mF H' tC->fW A H' pb pk pw ⟨T.steps ++ [((n:Int),d)],T.bk.enter d⟩ f'->lZ H' (fun D=>H D=none) (T.bk.Jw d) v->Q v H'))(Lg:(T.bk.bar d≠""->ML A K E (T.bk.bar d) H)):Qx A K tB tC vs H Q E
theorem wA:aU ["self","number","deed","answer"] ["self","number","deed"] (aA (mem 29 1)):={}
theorem Zf (T:Txt K mg){A:ee}{tB tC:Addr}(G:jO K mg A)(DB:qN K mg "bills_in_order" (top 17) tB)(DC:qN K mg "credits_in_order" (top 18) tC)(jE:tB≠tC)(KB:K.In base)(BM:BMain mg base):hZ (mY P w mg) P w K mg base A.book "do" 8 ["self","number","deed"] (Qx A K tB tC):=by
 have EG:vN P w K mg base "done" 7 ["work","deed"] (uO A K tB tC):=KC T G DB DC jE KB BM
 refine rF (k:=7) G.Ee G.fh wA (fun f cY A' outer s H vs Q E hr mP h=>?_)
 ·obtain⟨pb,pd,pk,pw,T,g,n,d,rfl,hB,hG,hn,kF,j7,hd,ht,k1,k2⟩:=h
  have hu:=kW hr
  have nd:=wA.nd
  obtain⟨db,hb⟩:=hB.obj
  obtain⟨bh,hk,hK⟩:=hB.kept
  have hW:=hB.wk
  refine⟨_,(ai (sv 3 nd (sQ EG (hr.mono (by decide)) rfl mP.pass (aa (bZ (pv 0) rfl) (aa (pv 2) aw))))
(ai (E7 hu (bZ (pv 0) rfl) (pv 1) (pv 2) rfl)
(av (a9 (pv 3))))),?_⟩
  refine⟨_,rfl,pb,_,db,_,_,rfl,hb,G.fh,G.gW,uM _ _,_,rfl,pw,pd,T.bk,g,n,d,rfl,hW,hG.wf (by lia),(by lia),kF,j7,hd,ht,fun px v f1 H1 e1 F1 jG kA W1 hA=>?_,k2⟩
  have Qy: ∀a o,H a=some o->(∀xs,o≠ .lst xs)->(∀ps,o≠ .ng ps)->a∉tB :: tC :: g.fp:=fun a o e n1 n2 z=>by
   rcases au.mp z with z|z
   ·obtain⟨ps,q⟩:=c9 kF
    rw[z,q] at e
    exact n2 ps (aG e).symm
   ·rcases au.mp z with z|z
    ·obtain⟨ps,q⟩:=c9 j7
     rw[z,q] at e
     exact n2 ps (aG e).symm
    ·obtain⟨xs,q⟩:=hW.lists a z
     rw[q] at e
     exact n1 xs (aG e).symm
  have kt:cK H H1:=fun a xs e=>F1 _ _ (Qy _ _ e (fun _ z=>by cases z) (fun _ z=>by cases z)) e
  have UK:=F1 _ _ (Qy _ _ hb (fun _ z=>by cases z) (fun _ z=>by cases z)) hb
  have HY:=F1 _ _ (Qy _ _ hk (fun _ z=>by cases z) (fun _ z=>by cases z)) hk
  have hK1:=hK.mono kt
  have mj:=kt _ _ hd
  have Iw:=aO hK
  have hlen:=hG.len
  refine⟨_,rfl,_,rfl,pb,_,db,_,_,rfl,UK,G.fh,G.gU,uL _ _,_,rfl,pk,_,rfl,GD.k (k:=(Sum.inl (n:Int):Key)) HY (bf (by lia)),?_⟩
  rw[Jf _ (CS hK1 fun st hs=>by have:=(hG.lt st hs).2; lia)]
  have s2: ∀a o,a≠pk->H1 a=some o->upd H1 pk (.dK (bh ++ [(Sum.inl (n:Int),V.ref pd)])) a=some o:=fun a o hn e=>by rw[az hn]; exact e
  have nbk:pb≠pk:=mM UK HY (by intro z; cases z)
  have Zg:=AF (u:= .dK (bh ++ [(Sum.inl (n:Int),V.ref pd)])) HY (uP bh)
  refine⟨_,rfl,k1 px v f1 _ e1 ((dM F1 fun x hx=>?_).tr (Frame.upd (by simp))) (gq jG (Frame.upd (fp:=[pk]) (by simp)) (fun z=>?_) (fun a ha φ e=>?_)) (gq kA (Frame.upd (fp:=[pk]) (by simp)) (fun z=>?_) (fun a ha φ e=>?_)) ⟨⟨db,s2 _ _ nbk UK⟩,⟨_,ag,?_⟩,wy W1 HY (uP bh)⟩ ?_⟩
  ·rcases au.mp hx with hx|hx
   ·simp[hx]
   ·rcases au.mp hx with hx|hx
    ·simp[hx]
    ·simp[hx]
  ·obtain⟨ps,q⟩:=c9 jG
   rw[ao.mp z,HY] at q
   cases q
  ·rw[ao.mp ha,HY] at e
   cases e
  ·obtain⟨ps,q⟩:=c9 kA
   rw[ao.mp z,HY] at q
   cases q
  ·rw[ao.mp ha,HY] at e
   cases e
  ·exact cw (hK1.mono Zg) ⟨rfl,pd,rfl,Zg _ _ mj,ht⟩
  ·exact hA.keep (fun D xs o e=>⟨o,s2 _ _ (mM e HY (by intro z; cases z)) e⟩) Zg
theorem CW: ∀{ss:List (Int×bg)} {B S:Bk} {i:Nat} {k:Int} {d:bg},cy (ss.take i) B=some S->ss[i]? =some (k,d)->S.bar d≠""->iO ss B=S.bar d/\cy ss B=none
 |[],_,_,_,_,_,_,h,_=>by simp at h
 |(k0,d0) :: ss,B,S,0,k,d,hw,h,hb=>by
  cases hw
  have e:(k0,d0)=(k,d):=by simpa using h
  cases e
  unfold iO cy
  rw[aN hb,aN hb]
  exact⟨rfl,rfl⟩
 |(k0,d0) :: ss,B,S,i + 1,k,d,hw,h,hb=>by
  rw[List.take_succ_cons] at hw
  unfold cy at hw
  split at hw
  ·rename_i q
   have ih:=CW hw (by simpa using h) hb
   unfold iO cy
   rw[aY q,aY q]
   exact ih
  ·cases hw
theorem CY {ss:List (Int×bg)}{B S:Bk}{i:Nat}{k:Int}{d:bg}(hw:cy (ss.take i) B=some S)(h:ss[i]? =some (k,d))(hb:S.bar d=""):cy (ss.take (i + 1)) B=some (S.enter d):=by
 obtain⟨hi,e⟩:=ah.mp h
 rw[gZ hi,lx,hw,e]
 show(if S.bar d="" then some (S.enter d) else none)=_
 rw[aY hb]
def Zh (A:ee)(K:Frag)(tB tC:Addr)(fp:List Addr)(E:XK)(t:Str)(H:Hp):Prop:= ∀C dx H',hX K C A.refusal->Frame fp H H'->l4 H' tB->mF H' tC->H dx=none->H' dx=some (.xd [("text",.str t)])->E (.ref C) (some dx) H'
inductive AG (A:ee)(K:Frag)(tB tC:Addr)(vs:List V)(H:Hp)(Q:VK)(E:XK):Prop
 |mk (pk:Addr)(ss:List (Int×bg))(bh:List (Key×V))(h1:vs=[.ref pk])(h2:H pk=some (.dK bh))(h3:lC H ss bh)(h4:ss.length<=59)(h5:(iO ss Bk.new=""∨iO ss Bk.new="too much"))(h6:l4 H tB)(h7:mF H tC)(h8:(∀S,cy ss Bk.new=some S-> ∀pw f H',Frame [tB,tC] H H'->l4 H' tB->mF H' tC->dJ A H' pw S f->H pw=none->(∀b∈f.fp,H b=none)->Q (.ref pw) H'))(h9:(cy ss Bk.new=none->Zh A K tB tC [tB,tC,pk] E "needed" H)):AG A K tB tC vs H Q E
theorem pQ:aU ["kept","work","deed"] ["kept"] (aA (top 31)):={}
theorem N4 {H:Hp}{tb d:Addr}{pos:Pos}{qual:Str}{φ:Heap->Prop}{u:HO}(t:Tb H tb pos qual)(e:H d=some (.ext φ))(n: ∀q:Str,φ≠fun h=>h.CodeRec (.ref d) q):Tb (upd H d u) tb pos qual:=by
 obtain⟨ps,h1,h2,h3⟩:=t
 refine⟨ps,by rw[az (mM h1 e (by intro z; cases z))]; exact h1,h2,?_⟩
 rcases h3 with h3|⟨c',h3,h4⟩
 ·exact .inl h3
 ·refine .inr ⟨c',h3,?_⟩
  by_cases z:c'=d
  ·subst z
   rw[e] at h4
   have h5:=aG h4
   injection h5 with h5
   exact absurd h5 (n qual)
  ·rw[az z]
   exact h4
theorem AH (T:Txt K mg){A:ee}{tB tC:Addr}(G:jO K mg A)(DB:qN K mg "bills_in_order" (top 17) tB)(DC:qN K mg "credits_in_order" (top 18) tC)(jE:tB≠tC)(hnd:A.jf≠A.tooMuch)(KB:K.In base)(BM:BMain mg base):vN P w K mg base "done_again" 8 ["kept"] (AG A K tB tC):=by
 have EG:vN P w K mg base "done" 7 ["work","deed"] (uO A K tB tC):=KC T G DB DC jE KB BM
 have Ez:uo P w K mg base "Work" A.work 1 ["self"] (uG A):=Ke G
 refine PR (k:=7) T.zE pQ (fun f cY A' outer s H vs Q E hr mP h=>?_)
 ·obtain⟨pk,ss,bh,rfl,hk,hK,hl,hfb,kF,j7,k1,k2⟩:=h
  have nd:=pQ.nd
  refine⟨_,(ai (sv 1 nd (JU Ez (hr.mono (by decide)) rfl))
(ai (Mt mP.own rfl (pv 0) (gn 2 nd)
(av (BL mP rfl rfl G.vM G.qw (show mg "Needed"≠some (.ref A.tooMuch) from fun z=>hnd (by rw[G.yH] at z; injection z with z; injection z)) (Hw T G) (hr.h.mono (by decide)) rfl (fun xe pn E hx=>av (bM (sQ EG (hr.mono (by decide)) rfl hx (aa (pv 1) (aa (pv 2) aw))))))))
(av (a9 (pv 1))))),?_⟩
  intro xw YS MV Qg ne
  have s1:=lW (C:=A.work) (fs:=[]) MV Qg ne
  refine⟨xw,YS,rfl,ag,fun g H1 F1 W1 nf=>⟨rfl,?_⟩⟩
  have fg: ∀b∈g.fp,H b=none:=fun b hb=>s1.free (nf b hb)
  have S1:aF H H1:=fun b o e=>F1 b o (by simpa using aJ e MV) (s1 b o e)
  clear F1 nf s1
  refine⟨_,rfl,?_⟩
  have HY:=S1 _ _ hk
  have hlen:=aO hK
  refine JO (td:=fun _ _ _=>True) HY fun φ hφ=>⟨fun i σ H2=> ∃(S:Bk) (f:eX) (x2:Option V),σ=[some (.ref pk),some (.ref xw),x2]/\cy (ss.take i) Bk.new=some S/\dJ A H2 xw S f/\(∀b∈f.fp,H b=none)/\Frame [tB,tC,pk] H H2/\H2 pk=some (.ext φ)/\l4 H2 tB/\mF H2 tC,?_,?_,?_,?_⟩
  ·have ext: ∀a∈[pk],∀φ,H1 a≠some (.ext φ):=fun a ha φ e=>by
    rw[ao.mp ha,HY] at e
    cases e
   have nB:tB∉[pk]:=fun z=>by
    obtain⟨ps,q⟩:=c9 kF
    rw[ao.mp z,hk] at q
    cases q
   have nC:tC∉[pk]:=fun z=>by
    obtain⟨ps,q⟩:=c9 j7
    rw[ao.mp z,hk] at q
    cases q
   exact⟨Bk.new,g,none,rfl,rfl,wy W1 HY (uP bh),fg,(S1.frame (fp:=[tB,tC,pk])).tr (Frame.upd (by simp)),ag,gq (bQ kF S1) (Frame.upd (fp:=[pk]) (by simp)) nB ext,gq (bQ j7 S1) (Frame.upd (fp:=[pk]) (by simp)) nC ext⟩
  ·rintro i σ H2 ⟨S,f,x2,_,_,_,_,_,e,_⟩
   exact e
  ·rintro i x σ H2 hx ⟨S,f,x2,rfl,hw,hW,hf,F2,e2,kK,mZ⟩
   rw[aC] at hx
   obtain⟨kv,Wc,rfl⟩:=a8.mp hx
   have hi:i < ss.length:=by have:=(ah.mp Wc).1; lia
   have qM:=af hi
   obtain⟨kv',UL,ek,pd,epd,Iz,ht⟩:=bK hK qM
   rw[Wc] at UL
   obtain rfl:kv=kv':=aG UL
   generalize ss[i]=st at qM ek Iz ht
   obtain⟨sn,d⟩:=st
   rw[epd]
   have P4:H2 pd=some (.tup (bg.vs d)):=F2 _ _ (fun z=>by
    simp only[List.mem_cons,List.not_mem_nil,or_false] at z
    rcases z with z|z|z
    ·obtain⟨ps,q⟩:=c9 kF
     rw[← z,Iz] at q
     cases q
    ·obtain⟨ps,q⟩:=c9 j7
     rw[← z,Iz] at q
     cases q
    ·rw[z,hk] at Iz
     cases Iz) Iz
   have wf:WF S (0 + (ss.take i).length):=sO _ WF.new hw (by rw[ba]; lia)
   refine⟨_,rfl,_,rfl,xw,pd,S,f,_,d,rfl,hW,wf,(by rw[ba]; lia),kK,mZ,P4,ht,fun hb v f' H3 e3 F3 rW rX W3 _=>?_,fun hb=>?_⟩
   ·refine⟨S.enter d,f',_,rfl,CY hw qM hb,W3,(by rw[e3]; exact hf),F2.trans F3 (fun x hx=>?_),F3 _ _ (fun z=>?_) e2,rW,rX⟩
    ·rcases au.mp hx with hx|hx
     ·exact .inl (by simp[hx])
     ·rcases au.mp hx with hx|hx
      ·exact .inl (by simp[hx])
      ·exact .inr (hf x hx)
    ·rcases au.mp z with z|z
     ·obtain⟨ps,q⟩:=c9 kK
      rw[← z,e2] at q
      cases q
     ·rcases au.mp z with z|z
      ·obtain⟨ps,q⟩:=c9 mZ
       rw[← z,e2] at q
       cases q
      ·have:=hf _ z
       rw[hk] at this
       cases this
   ·obtain⟨ef,ew⟩:=CW hw qM hb
    have et:S.bar d="too much":=(hfb.resolve_left (by rw[ef]; exact hb)).symm.trans ef |>.symm
    intro C hC hCt dx H3 s3 nd3 NZ
    have VJ:C=A.tooMuch:=hCt et
    refine⟨by rw[VJ],fun Zi n2=>?_⟩
    have s4:=aF.new (o:= .xd [("text",.str "needed")]) n2
    have KL:=s3.trans s4
    refine k2 ew A.jf Zi _ G.yI (F2.cU KL) (bQ kK KL) (bQ mZ KL) ?_ ag
    have UM:=s3.free n2
    cases e:H Zi with
    |none=>rfl
    |some o=>
     exfalso
     by_cases kX:Zi∈[tB,tC,pk]
     ·simp only[List.mem_cons,List.not_mem_nil,or_false] at kX
      rcases kX with z|z|z
      ·obtain⟨ps,q⟩:=c9 kK
       rw[← z,UM] at q
       cases q
      ·obtain⟨ps,q⟩:=c9 mZ
       rw[← z,UM] at q
       cases q
      ·rw[z,e2] at UM
       cases UM
     ·have q:=F2 _ _ kX e
      rw[UM] at q
      cases q
  ·rintro σ H2 ⟨S,f,x2,rfl,hw,hW,hf,F2,e2,kK,mZ⟩
   rw[← hlen,aZ] at hw
   refine⟨_,rfl,k1 S hw xw f _ (fun b o hb e=>?_) (N4 kK e2 hφ.2) (N4 mZ e2 hφ.2) (wy hW e2 (KH φ)) MV hf⟩
   by_cases z:b=pk
   ·subst z
    rw[hk] at e
    rw[ag]
    exact e
   ·rw[az z]
    exact F2 _ _ (by simp only[List.mem_cons,List.not_mem_nil,or_false,not_or] at hb ⊢; exact⟨hb.1,hb.2,z⟩) e
theorem Qz (pk pw sh:Addr):eO "work" (.ref sh) (fj pk pw)=fj pk sh:=by rfl
theorem QA (pk wB pw:Addr):eO "kept" (.ref wB) (fj pk pw)=fj wB pw:=by rfl
inductive EH (A:ee)(K:Frag)(tB tC:Addr)(vs:List V)(H:Hp)(Q:VK)(E:XK):Prop
 |mk (pb pk pw:Addr)(T:hV)(f:eX)(n:Nat)(m:Int)(h1:vs=[.ref pb,.int m])(h2:fW A H pb pk pw T f)(h3:Good T n)(h4:n<=59)(h5:l4 H tB)(h6:mF H tC)(h7:(HX T.steps m=true-> ∀S,cy (T.steps.filter (cu m)) Bk.new=some S-> ∀wB sh f' H',Frame [tB,tC,pb] H H'->l4 H' tB->mF H' tC->fW A H' pb wB sh ⟨T.steps.filter (cu m),S⟩ f'->H wB=none->(∀b∈f'.fp,H b=none)->Q (.str "undone") H'))(h8:(HX T.steps m=true->cy (T.steps.filter (cu m)) Bk.new=none->Zh A K tB tC [tB,tC] E "needed" H))(h9:(HX T.steps m=false->Zh A K tB tC [tB,tC] E "no setting" H)):EH A K tB tC vs H Q E
theorem rZ:aU ["self","number","kept"] ["self","number"] (aA (mem 29 2)):={}
theorem QB (T:Txt K mg){A:ee}{tB tC:Addr}(G:jO K mg A)(DB:qN K mg "bills_in_order" (top 17) tB)(DC:qN K mg "credits_in_order" (top 18) tC)(jE:tB≠tC)(hnd:A.jf≠A.tooMuch)(KB:K.In base)(BM:BMain mg base):hZ (mY P w mg) P w K mg base A.book "undo" 9 ["self","number"] (EH A K tB tC):=by
 have AI:vN P w K mg base "done_again" 8 ["kept"] (AG A K tB tC):=AH T G DB DC jE hnd KB BM
 have EI:hZ sG P w K mg base A.book "in_force" 1 ["self","number"] (sY A):=EF G
 refine rF (k:=8) G.zU G.fh rZ (fun f cY A' outer s H vs Q E hr mP h=>?_)
 ·obtain⟨pb,pk,pw,TT,g,n,m,rfl,hB,hG,hn,kF,j7,k1,k2,k3⟩:=h
  have hu:=kW hr
  have nd:=rZ.nd
  obtain⟨db,hb⟩:=hB.obj
  refine⟨_,(ai (bT (jC (fR (nW EI (hr.mono (by decide)) nH (pv 0) (aa (pv 1) aw))))
(av (kh mP (zY T G) (hr.h.mono (by decide)) rfl rfl))
bp)
(ai (sv 2 nd (iw BV (by rfl) T.PH (by rfl) (aa (bZ (pv 0) rfl) aw)))
(ai (bM (Jh (pv 2) (pv 1) ⟨rfl,rfl,rfl,rfl⟩))
(ai (fZ (pv 0) (sQ AI (hr.mono (by decide)) rfl mP.pass (aa (pv 2) aw)) rfl)
(ai (fZ (pv 0) (pv 2) rfl)
(av (a9 aR))))))),?_⟩
  refine⟨_,rfl,pb,db,_,rfl,hb,CV _ _,_,rfl,pb,pk,pw,TT,g,n,m,rfl,hB,hG,fun H1 s1=>⟨_,rfl,?_⟩⟩
  refine cH (fun z=>?_) (fun z=>?_)
  ·have z':HX TT.steps m=false:=by simpa using z
   intro dx nn
   have s2:=s1.trans (aF.new (o:= .xd [("text",.str "no setting")]) nn)
   exact k3 z' A.jZ dx _ G.rA s2.frame (bQ kF s2) (bQ j7 s2) (s1.free nn) ag
  have z':HX TT.steps m=true:=by simpa using z
  have NX:=hB.same s1
  obtain⟨bh,hk,hK⟩:=NX.kept
  have UK:=s1 _ _ hb
  refine⟨_,rfl,pb,_,db,_,_,rfl,UK,G.fh,G.gU,uL _ _,pk,bh,rfl,hk,fun p2 np2=>?_⟩
  have s2:=aF.new (o:= .dK bh) np2
  have yq:upd H1 p2 (.dK bh) p2=some (.dK bh):=ag
  have n2:H p2=none:=s1.free np2
  have S2:=s1.trans s2
  have hK2:=hK.mono s2.tk
  generalize upd H1 p2 (.dK bh)=H2 at yq S2 hK2
  clear s2
  cases hv:gA bh (Sum.inl m:Key) with
  |none=>
   have:=CU (sX hK hv)
   rw[z'] at this
   cases this
  |some v=>
  refine⟨_,rfl,p2,rfl,.inl ⟨bh,.inl yq⟩,_,rfl,bh,(Sum.inl m:Key),v,yq,rfl,hv,?_⟩
  have Wu:=(yS (m:=m) hK2).mono (AF (u:= .dK (lK bh (Sum.inl m:Key))) yq (uP bh))
  rw[← KJ hG.inc z'] at Wu
  have S3:aF H (upd H2 p2 (.dK (lK bh (Sum.inl m:Key)))):=S2.dr n2
  have RC:upd H2 p2 (.dK (lK bh (Sum.inl m:Key))) p2=some (.dK (lK bh (Sum.inl m:Key))):=ag
  generalize upd H2 p2 (.dK (lK bh (Sum.inl m:Key)))=H3 at Wu S3 RC
  have Rz:=aW (cu m) TT.steps
  have Qh:=hG.len
  have UN:(cy TT.steps Bk.new).isSome=true:=by rw[hG.w]; rfl
  refine⟨_,rfl,p2,_,_,rfl,RC,Wu,(by lia),Pc m TT.steps (nO.refl Bk.new) UN,bQ kF S3,bQ j7 S3,fun S hS sh f' H4 F4 sV sW W4 npw nf4=>?_,fun hS=>?_⟩
  case refine_2=>
   intro C dx H4 hC F4 sV sW nd4 hd4
   refine k2 z' hS C dx H4 hC ((S3.frame (fp:=[tB,tC])).trans F4 (fun x hx=>?_)) sV sW (S3.free nd4) hd4
   simp only[List.mem_cons,List.not_mem_nil,or_false] at hx
   rcases hx with hx|hx|hx
   ·exact .inl (by simp[hx])
   ·exact .inl (by simp[hx])
   ·exact .inr (by rw[hx]; exact n2)
  have off: ∀a o,H3 a=some o->(∀ps,o≠ .ng ps)->a∉[tB,tC]:=fun a o e n1 z=>by
   simp only[List.mem_cons,List.not_mem_nil,or_false] at z
   rcases z with z|z
   ·obtain⟨ps,q⟩:=c9 (bQ kF S3)
    rw[z,q] at e
    exact n1 ps (aG e).symm
   ·obtain⟨ps,q⟩:=c9 (bQ j7 S3)
    rw[z,q] at e
    exact n1 ps (aG e).symm
  have AJ:=F4 _ _ (off _ _ (S3 _ _ hb) (fun _ z=>by cases z)) (S3 _ _ hb)
  have Wv:=F4 _ _ (off _ _ RC (fun _ z=>by cases z)) RC
  have hK4:=Wu.mono (fun a xs e=>F4 _ _ (off _ _ e (fun _ z=>by cases z)) e)
  have F4':Frame [tB,tC,pb] H H4:=dM ((S3.frame (fp:=[tB,tC])).tr F4) (by simp)
  refine⟨_,rfl,pb,_,db,_,rfl,AJ,G.fh,G.gW,(by show 2 < 1000; decide),?_⟩
  rw[Qz]
  have e5:upd H4 pb (.ins A.book db (fj pk sh)) pb=some (.ins A.book db (fj pk sh)):=ag
  have UO:=yQ A.book db pk pw
  have W5:=wy (u:= .ins A.book db (fj pk sh)) W4 AJ UO
  have nb2:p2≠pb:=(aJ hb n2).symm
  have RJ:upd H4 pb (.ins A.book db (fj pk sh)) p2=some (.dK (lK bh (Sum.inl m:Key))):=by rw[az nb2]; exact Wv
  have hK5:=hK4.mono (AF (u:= .ins A.book db (fj pk sh)) AJ UO)
  have UP: ∀a∈[pb],∀φ,H4 a≠some (.ext φ):=fun a ha φ e=>by
   rw[ao.mp ha,AJ] at e
   cases e
  have nB:tB∉[pb]:=fun z=>by
   obtain⟨ps,q⟩:=c9 sV
   rw[ao.mp z,AJ] at q
   cases q
  have nC:tC∉[pb]:=fun z=>by
   obtain⟨ps,q⟩:=c9 sW
   rw[ao.mp z,AJ] at q
   cases q
  have Kw:l4 (upd H4 pb (.ins A.book db (fj pk sh))) tB:=gq sV (Frame.upd (fp:=[pb]) (by simp)) nB UP
  have Kx:mF (upd H4 pb (.ins A.book db (fj pk sh))) tC:=gq sW (Frame.upd (fp:=[pb]) (by simp)) nC UP
  have F5:Frame [tB,tC,pb] H (upd H4 pb (.ins A.book db (fj pk sh))):=F4'.tr (Frame.upd (by simp))
  generalize upd H4 pb (.ins A.book db (fj pk sh))=H5 at e5 W5 RJ hK5 Kw Kx F5
  refine⟨_,rfl,_,rfl,pb,_,db,_,rfl,e5,G.fh,G.gU,(by show 2 < 1000; decide),?_⟩
  rw[QA]
  have N5:=yQ A.book db pk sh
  have UQ: ∀a∈[pb],∀φ,H5 a≠some (.ext φ):=fun a ha φ e=>by
   rw[ao.mp ha,e5] at e
   cases e
  refine k1 z' S hS p2 sh f' _ (F5.tr (Frame.upd (by simp))) (gq Kw (Frame.upd (fp:=[pb]) (by simp)) nB UQ) (gq Kx (Frame.upd (fp:=[pb]) (by simp)) nC UQ) ⟨⟨db,ag⟩,⟨_,by rw[az nb2]; exact RJ,hK5.mono (AF e5 N5)⟩,wy W5 e5 N5⟩ n2 (fun b hb=>S3.free (nf4 b hb))
def Dt.v:Dt->V
 | .int i=> .int i
 | .str s=> .str s
 | .bl b=> .bl b
 |_=> .eF
def Dt.flat:Dt->Bool
 | .int _=>true
 | .str _=>true
 | .bl _=>true
 |_=>false
theorem wC {H:Hp}: ∀{ds:List Dt} {xs:List V},ds.all Dt.flat=true->g9 H ds xs->xs=ds.map Dt.v
 |[],_,_,h=>cv.mp h
 |d :: ds,_,hf,h=>by
  obtain⟨v,r,rfl,h1,h2⟩:=br.mp h
  rw[List.all_cons,IC] at hf
  rw[wC hf.2 h2]
  cases d with
  |int i=>rw[dD.mp h1]; rfl
  |str s=>rw[fv.mp h1]; rfl
  |bl b=>rw[ra.mp h1]; rfl
  |eF=>cases hf.1
  |lst _=>cases hf.1
  |tup _=>cases hf.1
def tf (H:Hp)(pd:Addr):bg->Prop
 | .il w dy l=> ∃pl,H pd=some (.tup [.str "ages",.str w,.int dy,.ref pl])/\H pl=some (.tup (l.map V.int))
 |d=>H pd=some (.tup (bg.vs d))
theorem FN {H:Hp}{d:bg}{v:V}(h:Rp H d.dt v): ∃pd,v= .ref pd/\tf H pd d:=by
 cases d with
 |il w dy l=>
  obtain⟨a,xs,rfl,h1,h2⟩:=j9.mp h
  obtain⟨v1,r1,rfl,e1,h2⟩:=br.mp h2
  obtain⟨v2,r2,rfl,e2,h2⟩:=br.mp h2
  obtain⟨v3,r3,rfl,e3,h2⟩:=br.mp h2
  obtain⟨v4,r4,rfl,e4,h2⟩:=br.mp h2
  obtain rfl:=cv.mp h2
  obtain rfl:=fv.mp e1
  obtain rfl:=fv.mp e2
  obtain rfl:=dD.mp e3
  obtain⟨pl,ys,rfl,h4,h5⟩:=j9.mp e4
  have e5:=wC (by rw[List.all_map]; exact List.all_eq_true.mpr fun _ _=>rfl) h5
  rw[e5,fq] at h4
  exact⟨a,rfl,pl,h1,h4⟩
 |_=>
  obtain⟨a,xs,rfl,h1,h2⟩:=j9.mp h
  have e5:=wC (by rfl) h2
  rw[e5] at h1
  exact⟨a,rfl,h1⟩
theorem tf.mono {H H':Hp}{pd:Addr}{d:bg}(h:tf H pd d)(k:cK H H'):tf H' pd d:=by
 cases d with
 |il w dy l=>
  obtain⟨pl,h1,h2⟩:=h
  exact⟨pl,k _ _ h1,k _ _ h2⟩
 |_=>exact k _ _ h
theorem l5 {A:ee}{H H':Hp}{pb pk pw:Addr}{T:hV}{f:eX}(h:fW A H pb pk pw T f)(k: ∀a o,H a=some o->(∀ps,o≠ .ng ps)->H' a=some o):fW A H' pb pk pw T f:=by
 obtain⟨db,hb⟩:=h.obj
 obtain⟨bh,k1,k2⟩:=h.kept
 have kt:cK H H':=fun a xs e=>k _ _ e (fun _ z=>by cases z)
 exact⟨⟨db,k _ _ hb (fun _ z=>by cases z)⟩,⟨bh,k _ _ k1 (fun _ z=>by cases z),k2.mono kt⟩,FL h.wk (fun a xs e=>k _ _ e (fun _ z=>by cases z)) (fun a C dx fs _ e=>k _ _ e (fun _ z=>by cases z)) kt⟩
theorem yT {H H':Hp}{fp:List Addr}{a:Addr}{o:HO}(F:Frame fp H H')(ht: ∀t∈fp,∃ps,H t=some (.ng ps))(e:H a=some o)(n: ∀ps,o≠ .ng ps):H' a=some o:=F _ _ (fun z=>by
 obtain⟨ps,q⟩:=ht a z
 rw[q] at e
 exact n ps (aG e).symm) e
theorem M9 {d:bg}(h:d.tells=true):bg.word d≠"owed"/\bg.word d≠"free"/\bg.word d≠"ages"/\bg.word d≠"undo":=by
 cases d with
 |dP _ _ _ _=>show("bill":Str)≠"owed"/\("bill":Str)≠"free"/\("bill":Str)≠"ages"/\("bill":Str)≠"undo"; decide +kernel
 |pF _ _ _=>show("pay":Str)≠"owed"/\("pay":Str)≠"free"/\("pay":Str)≠"ages"/\("pay":Str)≠"undo"; decide +kernel
 |note _ _ _=>show("note":Str)≠"owed"/\("note":Str)≠"free"/\("note":Str)≠"ages"/\("note":Str)≠"undo"; decide +kernel
 |set _ _ _=>show("set":Str)≠"owed"/\("set":Str)≠"free"/\("set":Str)≠"ages"/\("set":Str)≠"undo"; decide +kernel
 |bU _=>show("sweep":Str)≠"owed"/\("sweep":Str)≠"free"/\("sweep":Str)≠"ages"/\("sweep":Str)≠"undo"; decide +kernel
 |iC _=>cases h
 |ask _ _ _=>cases h
 |il _ _ _=>cases h
inductive wD (A:ee)(tB tC:Addr)(vs:List V)(H:Hp)(Q:VK)(E':XK):Prop
 |mk (pb pd pk pw:Addr)(T:hV)(f:eX)(n:Nat)(d:bg)(h1:vs=[.ref pb,.int n,.ref pd])(h2:fW A H pb pk pw T f)(h3:Good T n)(h4:n<=59)(h5:l4 H tB)(h6:mF H tC)(h7:tf H pd d)(h8:d.ok)(h9: ∀v wB sh f' H',Frame (tB :: tC :: pb :: pk :: f.fp) H H'->l4 H' tB->mF H' tC->fW A H' pb wB sh (dz T n d).2 f'->(∀x∈wB :: f'.fp,x∈pk :: f.fp∨H x=none)->lZ H' (fun D=>H D=none/\D∉wB :: f'.fp) (dz T n d).1 v->Q v H'):wD A tB tC vs H Q E'
theorem r6:aU ["book","number","deed","kind","refusal"] ["book","number","deed"] (aA (top 35)):={}
theorem CZ (T:Txt K mg){A:ee}{tB tC:Addr}(G:jO K mg A)(DB:qN K mg "bills_in_order" (top 17) tB)(DC:qN K mg "credits_in_order" (top 18) tC)(jE:tB≠tC)(hnd:A.jf≠A.tooMuch)(KB:K.In base)(BM:BMain mg base):fC P w K mg base "answer_of" 10 ["book","number","deed"] (wD A tB tC):=by
 have QC:hZ (mY P w mg) P w K mg base A.book "undo" 9 ["self","number"] (EH A K tB tC):=QB T G DB DC jE hnd KB BM
 have Zj:hZ (mY P w mg) P w K mg base A.book "do" 8 ["self","number","deed"] (Qx A K tB tC):=Zf T G DB DC jE KB BM
 have sU:fC P w K mg base "owed_at" 5 ["work","who","day"] (Aq A tB):=yN T G DB KB BM
 have HZ:fC P w K mg base "free_at" 5 ["work","who","day"] (Er A tC):=HN T G DC KB BM
 have Ia:fC P w K mg base "ages_at" 6 ["work","who","day","limits"] (Ew A tB):=HP T G DB KB BM
 refine T.BN.fV (k:=9) r6 (fun f cY A' outer s H vs Q E hr h=>?_)
 ·obtain⟨pb,pd,pk,pw,TT,g,n,d,rfl,hB,hG,hn,kF,j7,hd,cE,k⟩:=h
  have nd:=r6.nd
  refine⟨_,(ai (sv 3 nd (xt (pv 2) aj))
(ai (bT (a0 dh (pv 3) aR (bb _))
(av (a9 (fc sU hr (aa (bZ (pv 0) rfl) (aa (xt (pv 2) aj) (aa (xt (pv 2) aj) aw))))))
bp)
(ai (bT (a0 dh (pv 3) aR (bb _))
(av (a9 (fc HZ hr (aa (bZ (pv 0) rfl) (aa (xt (pv 2) aj) (aa (xt (pv 2) aj) aw))))))
bp)
(ai (bT (a0 dh (pv 3) aR (bb _))
(av (a9 (fc Ia hr (aa (bZ (pv 0) rfl) (aa (xt (pv 2) aj) (aa (xt (pv 2) aj) (aa (xt (pv 2) aj) aw)))))))
bp)
(av (G3 (i:=4) rfl rfl rfl nd rfl rfl rfl G.gf G.Eb (fun xe pn E hx=>(ai (bT (a0 dh (pv 3) aR (bb _))
(av (a9 (nW QC (hr.mono (by decide)) hx (pv 0) (aa (kO (uB (K:=K) rfl) (pv 2) aj (fun _ _=>rfl)) aw))))
bp)
(av (a9 (nW Zj (hr.mono (by decide)) hx (pv 0) (aa (pv 1) (aa (pv 2) aw))))))))))))),?_⟩
  obtain⟨db,hb⟩:=hB.obj
  have hW:=hB.wk
  have N6: ∀t∈[tB,tC],∃ps,H t=some (.ng ps):=fun t z=>by
   simp only[List.mem_cons,List.not_mem_nil,or_false] at z
   rcases z with rfl|rfl
   ·exact c9 kF
   ·exact c9 j7
  have big: ∀x∈[tB,tC],x∈tB :: tC :: pb :: pk :: g.fp:=fun x z=>by
   simp only[List.mem_cons,List.not_mem_nil,or_false] at z
   rcases z with rfl|rfl <;> simp
  have UR: ∀a∈[tB],∀φ,H a≠some (.ext φ):=fun a ha φ e=>by
   obtain⟨ps,q⟩:=c9 kF
   rw[ao.mp ha,q] at e
   cases e
  have Zk: ∀a∈[tC],∀φ,H a≠some (.ext φ):=fun a ha φ e=>by
   obtain⟨ps,q⟩:=c9 j7
   rw[ao.mp ha,q] at e
   cases e
  obtain⟨bh,hk,hK⟩:=hB.kept
  have NP: ∀D,H D=none->D∉pk :: g.fp:=fun D e z=>by
   rcases au.mp z with z|z
   ·rw[z,hk] at e
    cases e
   ·exact hW.new e z
  have wf:=hG.wf (by lia:n<=60)
  by_cases ht:d.tells=true
  ·have Gp:H pd=some (.tup (bg.vs d)):=by cases d <;> first|exact hd|cases ht
   obtain⟨r,er⟩:=uI (.inl ht)
   have Wh:H pd=some (.tup (.str (bg.word d) :: r)):=by rw[← er]; exact Gp
   obtain⟨w1,w2,w3,w4⟩:=M9 ht
   rw[v9 ht] at k
   refine⟨_,rfl,pd,_,_,.str (bg.word d),rfl,rfl,cF.of Wh,KD _ _,?_⟩
   refine⟨_,rfl,rfl,false,jQ w1,bX ?_⟩
   refine⟨_,rfl,rfl,false,jQ w2,bX ?_⟩
   refine⟨_,rfl,rfl,false,jQ w3,bX ?_⟩
   refine⟨_,rfl,rfl,false,jQ w4,bX ⟨_,rfl,pb,db,_,rfl,hb,UJ _ _,_,rfl,_,rfl,pb,pd,pk,pw,TT,g,n,d,rfl,hB,hG,hn,kF,j7,Gp,ht,fun px v f1 H1 e1 F1 jG kA NX hA=>?_,fun px=>?_⟩⟩
   ·rw[aY px] at k
    refine k v pk pw f1 H1 (dM F1 fun x z=>?_) jG kA NX (by rw[e1]; exact fun x hx=> .inl hx) (hA.keep (fun D xs o e=>⟨⟨o,by rw[e1]; exact NP D o⟩,e⟩) fun _ _ e=>e)
    rcases au.mp z with z|z
    ·simp[z]
    ·rcases au.mp z with z|z
     ·simp[z]
     ·rcases au.mp z with z|z
      ·simp[z]
      ·simp[z]
   ·rw[aN px] at k
    intro C hC _ dx H1 s1 JV Dn
    exact⟨C,dx,_,rfl,rfl,hC,Dn,k _ pk pw g H1 s1.frame (bQ kF s1) (bQ j7 s1) (hB.same s1) (fun x hx=> .inl hx) rfl⟩
  cases d with
  |dP _ _ _ _=>exact absurd rfl ht
  |pF _ _ _=>exact absurd rfl ht
  |note _ _ _=>exact absurd rfl ht
  |set _ _ _=>exact absurd rfl ht
  |bU _=>exact absurd rfl ht
  |ask o wh dy=>
   have hd:H pd=some (.tup (bg.vs (.ask o wh dy))):=hd
   cases o with
   |true=>
    refine⟨_,rfl,pd,_,_,.str "owed",rfl,rfl,cF.of hd,rfl,?_⟩
    refine⟨_,rfl,rfl,true,A8 _,fU ⟨_,rfl,pb,_,db,_,_,rfl,hb,G.fh,G.gW,uM _ _,_,rfl,pd,_,_,.str wh,rfl,rfl,cF.of hd,rfl,_,rfl,pd,_,_,.int dy,rfl,rfl,cF.of hd,rfl,pw,TT.bk,g,n,wh,dy,rfl,hW,wf,(by lia),kF,fun D ms H1 F1 jG nD hD hP=>?_⟩⟩
    have F2:Frame [tB,tC] H H1:=dM F1 (by simp)
    exact k _ pk pw g H1 (dM F2 big) jG (gq j7 F1 (by simpa using jE.symm) UR) (l5 hB fun a o e z=>yT F2 N6 e z) (fun x hx=> .inl hx) ⟨D,ms,rfl,⟨nD,NP D nD⟩,hD,hP⟩
   |false=>
    refine⟨_,rfl,pd,_,_,.str "free",rfl,rfl,cF.of hd,rfl,?_⟩
    refine⟨_,rfl,rfl,false,jQ (show("free":Str)≠"owed" by decide +kernel),bX ?_⟩
    refine⟨_,rfl,rfl,true,A8 _,fU ⟨_,rfl,pb,_,db,_,_,rfl,hb,G.fh,G.gW,uM _ _,_,rfl,pd,_,_,.str wh,rfl,rfl,cF.of hd,rfl,_,rfl,pd,_,_,.int dy,rfl,rfl,cF.of hd,rfl,pw,TT.bk,g,n,wh,dy,rfl,hW,wf,(by lia),j7,fun D ms H1 F1 kA nD hD hP=>?_⟩⟩
    have F2:Frame [tB,tC] H H1:=dM F1 (by simp)
    exact k _ pk pw g H1 (dM F2 big) (gq kF F1 (by simpa using jE) Zk) kA (l5 hB fun a o e z=>yT F2 N6 e z) (fun x hx=> .inl hx) ⟨D,ms,rfl,⟨nD,NP D nD⟩,hD,hP⟩
  |il wh dy dj=>
   obtain⟨pl,hd,jb⟩:=hd
   refine⟨_,rfl,pd,_,_,.str "ages",rfl,rfl,cF.of hd,rfl,?_⟩
   refine⟨_,rfl,rfl,false,jQ (show("ages":Str)≠"owed" by decide +kernel),bX ?_⟩
   refine⟨_,rfl,rfl,false,jQ (show("ages":Str)≠"free" by decide +kernel),bX ?_⟩
   refine⟨_,rfl,rfl,true,A8 _,fU ⟨_,rfl,pb,_,db,_,_,rfl,hb,G.fh,G.gW,uM _ _,_,rfl,pd,_,_,.str wh,rfl,rfl,cF.of hd,rfl,_,rfl,pd,_,_,.int dy,rfl,rfl,cF.of hd,rfl,_,rfl,pd,_,_,.ref pl,rfl,rfl,cF.of hd,rfl,pw,pl,TT.bk,g,n,wh,dy,dj,rfl,hW,wf,(by lia),kF,jb,cE.1,fun D H1 F1 jG nD hD=>?_⟩⟩
   have F2:Frame [tB,tC] H H1:=dM F1 (by simp)
   exact k _ pk pw g H1 (dM F2 big) jG (gq j7 F1 (by simpa using jE.symm) UR) (l5 hB fun a o e z=>yT F2 N6 e z) (fun x hx=> .inl hx) ⟨D,rfl,⟨nD,NP D nD⟩,hD⟩
  |iC m=>
   have hd:H pd=some (.tup (bg.vs (.iC m))):=hd
   refine⟨_,rfl,pd,_,_,.str "undo",rfl,rfl,cF.of hd,rfl,?_⟩
   refine⟨_,rfl,rfl,false,jQ (show("undo":Str)≠"owed" by decide +kernel),bX ?_⟩
   refine⟨_,rfl,rfl,false,jQ (show("undo":Str)≠"free" by decide +kernel),bX ?_⟩
   refine⟨_,rfl,rfl,false,jQ (show("undo":Str)≠"ages" by decide +kernel),bX ?_⟩
   have Zl:dz TT n (.iC m)=if(TT.steps.filter (cu m)).length=TT.steps.length then(mO.txt "no setting",TT) else
     match cy (TT.steps.filter (cu m)) Bk.new with
     |none=>(.txt "needed",TT)
     |some S=>(.txt "undone",⟨TT.steps.filter (cu m),S⟩):=rfl
   refine⟨_,rfl,rfl,true,A8 _,fU ⟨_,rfl,pb,db,_,rfl,hb,M8 _ _,_,rfl,pd,_,_,.int m,rfl,rfl,cF.of hd,rfl,pb,pk,pw,TT,g,n,m,rfl,hB,hG,hn,kF,j7,fun hF S hS wB sh f' H1 F1 jG kA NX nk nf=>?_,fun hF hS=>?_,fun hF=>?_⟩⟩
   ·have TM: ¬ (TT.steps.filter (cu m)).length=TT.steps.length:=fun z=>by
     rw[(qD _ _).mp z] at hF
     cases hF
    rw[Zl,aN TM,hS] at k
    refine k _ wB sh f' H1 (dM F1 (fun x z=>?_)) jG kA NX (fun x hx=> .inr ?_) rfl
    ·simp only[List.mem_cons,List.not_mem_nil,or_false] at z
     rcases z with rfl|rfl|rfl <;> simp
    ·rcases au.mp hx with hx|hx
     ·rw[hx]; exact nk
     ·exact nf x hx
   ·have TM: ¬ (TT.steps.filter (cu m)).length=TT.steps.length:=fun z=>by
     rw[(qD _ _).mp z] at hF
     cases hF
    rw[Zl,aN TM,hS] at k
    intro C dx H1 hC F1 jG kA JV Dn
    exact⟨C,dx,_,rfl,rfl,hC,Dn,k _ pk pw g H1 (dM F1 big) jG kA (l5 hB fun a o e z=>yT F1 N6 e z) (fun x hx=> .inl hx) rfl⟩
   ·rw[Zl,aY ((qD _ _).mpr hF)] at k
    intro C dx H1 hC F1 jG kA JV Dn
    exact⟨C,dx,_,rfl,rfl,hC,Dn,k _ pk pw g H1 (dM F1 big) jG kA (l5 hB fun a o e z=>yT F1 N6 e z) (fun x hx=> .inl hx) rfl⟩
theorem yU (d:bg): ∀(l:List bg) (T:hV) (n:Nat),dQ (l ++ [d]) T n=((dQ l T n).1 ++ [(dz (dQ l T n).2 ((n + l.length:Nat):Int) d).1],(dz (dQ l T n).2 ((n + l.length:Nat):Int) d).2)
 |[],T,n=>rfl
 |e :: l,T,n=>by
  show((dz T n e).1 :: (dQ (l ++ [d]) (dz T n e).2 (n + 1)).1,(dQ (l ++ [d]) (dz T n e).2 (n + 1)).2)=_
  rw[yU d l,show n + 1 + l.length=n + (e :: l).length by rw[bO]; lia]
  rfl
theorem yV {ds:List bg}{i:Nat}(hi:i < ds.length):dQ (ds.take (i + 1)) hV.new 0=((dQ (ds.take i) hV.new 0).1 ++ [(dz (dQ (ds.take i) hV.new 0).2 (i:Int) ds[i]).1],(dz (dQ (ds.take i) hV.new 0).2 (i:Int) ds[i]).2):=by
 rw[gZ hi,yU,ba,Nat.zero_add,o4 (cL hi)]
theorem Ib {A:ee}{H:Hp}{pb pk pw pt:Addr}{T:hV}{f:eX}{ws:List V}{o:HO}(h:fW A H pb pk pw T f)(e:H pt=some (.lst ws))(n:pt∉f.fp):fW A (upd H pt o) pb pk pw T f:=by
 obtain⟨db,hb⟩:=h.obj
 obtain⟨bh,k1,k2⟩:=h.kept
 have kt:cK H (upd H pt o):=dY e
 have ki: ∀{a C dx:Addr} {gs:List (Str×V)},H a=some (.ins C dx gs)->upd H pt o a=some (.ins C dx gs):=fun{a C dx gs} z=>by rw[az (mM z e (by intro q; cases q))]; exact z
 have kl: ∀p∈f.fp,∀xs,H p=some (.lst xs)->upd H pt o p=some (.lst xs):=fun p hp xs z=>by rw[az (fun(q:p=pt)=>n (q▸hp))]; exact z
 obtain⟨dw,hw⟩:=h.wk.obj
 obtain⟨ms,m1,m2⟩:=h.wk.hm
 have hW:=h.wk
 exact⟨⟨db,ki hb⟩,⟨bh,by rw[az (mM k1 e (by intro q; cases q))]; exact k1,k2.mono kt⟩,
  ⟨⟨dw,ki hw⟩,kl _ (by simp[eX.fp]) _ hW.hb,kl _ (by simp[eX.fp]) _ hW.hc,kl _ (by simp[eX.fp]) _ hW.hl,kl _ (by simp[eX.fp]) _ hW.hf,⟨ms,kl _ (by simp[eX.fp]) _ m1,m2.mono kt⟩,hW.rb.keep fun _ _ _ z=>ki z,hW.rc.keep fun _ _ _ z=>ki z,hW.nd⟩⟩
theorem FO {A:ee}{H:Hp}{pb pk pw tB tC a:Addr}{T:hV}{f:eX}(h:fW A H pb pk pw T f)(kF:l4 H tB)(j7:mF H tC)(z:a∈tB :: tC :: pb :: pk :: f.fp):(∃ps,H a=some (.ng ps))∨(∃C dx fs,H a=some (.ins C dx fs))∨(∃bh,H a=some (.dK bh))∨(∃xs,H a=some (.lst xs))/\a∈f.fp:=by
 rcases au.mp z with rfl|z
 ·exact .inl (c9 kF)
 rcases au.mp z with rfl|z
 ·exact .inl (c9 j7)
 rcases au.mp z with rfl|z
 ·obtain⟨db,hb⟩:=h.obj
  exact .inr (.inl ⟨_,_,_,hb⟩)
 rcases au.mp z with rfl|z
 ·obtain⟨bh,k1,_⟩:=h.kept
  exact .inr (.inr (.inl ⟨_,k1⟩))
 ·exact .inr (.inr (.inr ⟨h.wk.lists a z,z⟩))
theorem KN {A:ee}{H H':Hp}{pb pk pw tB tC:Addr}{T:hV}{f:eX}(h:fW A H pb pk pw T f)(kF:l4 H tB)(j7:mF H tC)(F:Frame (tB :: tC :: pb :: pk :: f.fp) H H'):cK H H':=fun a xs e=>F _ _ (fun z=>by
 rcases FO h kF j7 z with⟨_,q⟩|⟨_,_,_,q⟩|⟨_,q⟩|⟨⟨_,q⟩,_⟩ <;> (rw[e] at q; cases q)) e
theorem EJ {A:ee}{H H':Hp}{pb pk pw tB tC a:Addr}{T:hV}{f:eX}{xs:List V}(h:fW A H pb pk pw T f)(kF:l4 H tB)(j7:mF H tC)(F:Frame (tB :: tC :: pb :: pk :: f.fp) H H')(e:H a=some (.lst xs))(n:a∉pk :: f.fp):H' a=some (.lst xs):=F _ _ (fun z=>by
 rcases FO h kF j7 z with⟨_,q⟩|⟨_,_,_,q⟩|⟨_,q⟩|⟨_,q⟩
 ·rw[e] at q; cases q
 ·rw[e] at q; cases q
 ·rw[e] at q; cases q
 ·exact n (aI _ q)) e
inductive AK (A:ee)(tB tC:Addr)(vs:List V)(H:Hp)(Q:VK)(E':XK):Prop
 |mk (pb pk pw ps:Addr)(f:eX)(ds:List bg)(ms:List V)(h1:vs=[.ref pb,.ref ps])(h2:fW A H pb pk pw hV.new f)(h3:H ps=some (.lst ms))(h4:ps∉f.fp)(h5:eI H ds ms)(h6:ds.length<=60)(h7:(∀d∈ds,d.ok))(h8:l4 H tB)(h9:mF H tC)(Lg: ∀pt ws wB sh f' H',Frame (tB :: tC :: pb :: pk :: f.fp) H H'->l4 H' tB->mF H' tC->H pt=none->H' pt=some (.lst ws)->Paired (lZ H' (fun D=>D≠pt/\(D∈pk :: f.fp∨H D=none))) (dQ ds hV.new 0).1 ws->fW A H' pb wB sh (dQ ds hV.new 0).2 f'->Q (.ref pt) H'):AK A tB tC vs H Q E'
theorem pS:aU ["book","deeds","told","number","deed"] ["book","deeds"] (aA (top 34)):={}
theorem eI.get {H:Hp}{i:Nat}: ∀{ds:List bg} {ms:List V},eI H ds ms-> ∀{d:bg},ds[i]? =some d-> ∃v,ms[i]? =some v/\Rp H d.dt v:=fun{ds ms} h {d} e=>g9.get h (by rw[aC,e]; rfl)
theorem AL (T:Txt K mg){A:ee}{tB tC:Addr}(G:jO K mg A)(DB:qN K mg "bills_in_order" (top 17) tB)(DC:qN K mg "credits_in_order" (top 18) tC)(jE:tB≠tC)(hnd:A.jf≠A.tooMuch)(KB:K.In base)(BM:BMain mg base):fC P w K mg base "answers_in" 11 ["book","deeds"] (AK A tB tC):=by
 have C0:fC P w K mg base "answer_of" 10 ["book","number","deed"] (wD A tB tC):=CZ T G DB DC jE hnd KB BM
 refine T.zF.fV (k:=10) pS (fun f cY A' outer s H vs Q E hr h=>?_)
 ·obtain⟨pb,pk,pw,ps,g,ds,ms,rfl,hB,ni,Ey,KO,hl,cE,kF,j7,k⟩:=h
  have nd:=pS.nd
  refine⟨_,(ai (sv 2 nd (bS aw))
(ai (eN bB rfl (qZ rfl T.jt (aa (pv 1) aw)) (iH rfl (bW (gn 3 nd) (bW (gn 4 nd) gy)))
(av (bM (qu (pv 2) (fc C0 hr (aa (pv 0) (aa (pv 3) (aa (pv 4) aw))))))))
(av (a9 (pv 2))))),?_⟩
  refine⟨bq _,fun pt nt=>?_⟩
  have s1:=aF.new (o:= .lst []) nt
  have hlen:=eI.length KO
  obtain⟨bh,hk,_⟩:=hB.kept
  have npk:ps∉pk :: g.fp:=fun z=>by
   rcases au.mp z with z|z
   ·rw[z,hk] at ni
    cases ni
   ·exact Ey z
  have ntk:pt∉pk :: g.fp:=fun z=>by
   rcases au.mp z with z|z
   ·rw[z,hk] at nt
    cases nt
   ·exact hB.wk.new nt z
  refine⟨_,rfl,ps,rfl,⟨_,bG.of (s1 _ _ ni)⟩,?_⟩
  refine nI (K:=K) (a:=ps) (xs:=ms) (fun i σ H2=> ∃(x3 x4:Option V) (wB sh:Addr) (f':eX) (ws:List V),σ=[some (.ref pb),some (.ref ps),some (.ref pt),x3,x4]/\Frame (tB :: tC :: pb :: pk :: g.fp) H H2/\H2 pt=some (.lst ws)/\fW A H2 pb wB sh (dQ (ds.take i) hV.new 0).2 f'/\Good (dQ (ds.take i) hV.new 0).2 i/\(∀x∈wB :: f'.fp,(x∈pk :: g.fp∨H x=none)/\x≠pt)/\l4 H2 tB/\mF H2 tC/\Paired (lZ H2 (fun D=>D≠pt/\D∉wB :: f'.fp/\(D∈pk :: g.fp∨H D=none))) (dQ (ds.take i) hV.new 0).1 ws)
   ⟨none,none,pk,pw,g,[],rfl,s1.frame,ag,hB.same s1,Good.new,fun x hx=>⟨.inl hx,fun z=>ntk (z▸hx)⟩,bQ kF s1,bQ j7 s1,.nil⟩ (fun i σ H2 _ ⟨_,_,_,_,_,_,_,f2,_⟩=>bG.of (EJ hB kF j7 f2 ni npk)) ?_ ?_
  ·rintro i x p σ H2 hx hp ⟨x3,x4,wB,sh,f',ws,rfl,F2,wO,Lq,M0,Ww,kK,mZ,yO⟩
   have hi:i < ds.length:=by have:=(ah.mp hx).1; lia
   have qM:=af hi
   obtain⟨v',hv,Yj⟩:=eI.get KO qM
   rw[hx] at hv
   obtain rfl:x=v':=aG hv
   obtain⟨pd,rfl,hd⟩:=FN Yj
   have hd2:=hd.mono (KN hB kF j7 F2)
   have Na:=cE _ (bH hi)
   have Wx:=yV hi
   have pM:Good (dz (dQ (ds.take i) hV.new 0).2 (i:Int) ds[i]).2 (i + 1):=M0.step ds[i]
   rw[Wx]
   generalize ds[i]=d at hd2 Na pM
   have Dk:(dQ (ds.take i) hV.new 0).1.length<=100:=by rw[jr,ba]; lia
   generalize dQ (ds.take i) hV.new 0=R at Lq M0 yO pM Dk
   have s3:=aF.new (o:= .tup [.int i,.ref pd]) hp
   refine⟨p,_,rfl,cF.of ag,rfl,_,_,rfl,_,_,rfl,rfl,?_⟩
   have F3:=F2.cU s3
   have KP:=s3 _ _ wO
   have KQ:=Lq.same s3
   have rW:l4 _ tB:=bQ kK s3
   have rX:mF _ tC:=bQ mZ s3
   have NZ:=hd2.mono s3.tk
   have RK:Paired (lZ (upd H2 p (.tup [.int i,.ref pd])) (fun D=>D≠pt/\D∉wB :: f'.fp/\(D∈pk :: g.fp∨H D=none))) R.1 ws:=Paired.g8 yO fun _ _ z=>z.keep (fun D xs o e=>⟨o,s3 _ _ e⟩) s3.tk
   generalize upd H2 p (.tup [.int i,.ref pd])=H3 at F3 KP KQ rW rX NZ RK
   have yr:=aO RK
   refine⟨_,rfl,.inl ⟨rfl,_,bG.of KP⟩,_,rfl,_,rfl,_,rfl,pb,pd,wB,sh,R.2,f',i,d,rfl,KQ,M0,(by lia),rW,rX,NZ,Na,fun v pk2 pw2 f2 H4 F4 sV sW Zm kX hA4=>?_⟩
   have Zn:pt∉wB :: f'.fp:=fun z=>(Ww pt z).2 rfl
   have wt:=EJ KQ rW rX F4 KP Zn
   have kt4:=KN KQ rW rX F4
   refine⟨pt,ws,v,rfl,rfl,wt,bf (by lia),?_⟩
   have frees: ∀x,H3 x=none->x∈pk :: g.fp∨H x=none:=fun x h1=>by
    by_cases q:x∈pk :: g.fp
    ·exact .inl q
    ·right
     cases e:H x with
     |none=>rfl
     |some o=>
      exfalso
      by_cases q2:x∈tB :: tC :: pb :: pk :: g.fp
      ·rcases au.mp q2 with q2|q2
       ·obtain⟨_,z⟩:=c9 rW
        rw[← q2,h1] at z
        cases z
       rcases au.mp q2 with q2|q2
       ·obtain⟨_,z⟩:=c9 rX
        rw[← q2,h1] at z
        cases z
       rcases au.mp q2 with q2|q2
       ·obtain⟨_,z⟩:=KQ.obj
        rw[← q2,h1] at z
        cases z
       exact q q2
      ·have z:=F3 _ _ q2 e
       rw[h1] at z
       cases z
   have US: ∀x∈pk2 :: f2.fp,(x∈pk :: g.fp∨H x=none)/\x≠pt:=fun x hx=>by
    rcases kX x hx with h1|h1
    ·exact Ww x h1
    ·exact⟨frees x h1,fun z=>by rw[z,KP] at h1; cases h1⟩
   have Zo:pt∉f2.fp:=fun z=>(US pt (aI _ z)).2 rfl
   have UT: ∀a∈[pt],∀φ,H4 a≠some (.ext φ):=fun a ha φ e=>by
    rw[ao.mp ha,wt] at e
    cases e
   have nB:tB∉[pt]:=fun z=>by
    obtain⟨_,q⟩:=c9 sV
    rw[ao.mp z,wt] at q
    cases q
   have nC:tC∉[pt]:=fun z=>by
    obtain⟨_,q⟩:=c9 sW
    rw[ao.mp z,wt] at q
    cases q
   have F34:Frame (tB :: tC :: pb :: pk :: g.fp) H (upd H4 pt (.lst (ws ++ [v]))):=(F3.trans F4 fun x hx=>by
    rcases au.mp hx with hx|hx
    ·exact .inl (by simp[hx])
    rcases au.mp hx with hx|hx
    ·exact .inl (by simp[hx])
    rcases au.mp hx with hx|hx
    ·exact .inl (by simp[hx])
    rcases(Ww x hx).1 with h1|h1
    ·exact .inl (by simp[List.mem_cons.mp h1])
    ·exact .inr h1).trans (Frame.upd (fp:=[pt]) (by simp)) (fun x hx=> .inr (by rw[List.mem_singleton.mp hx]; exact nt))
   refine⟨_,_,pk2,pw2,f2,ws ++ [v],rfl,F34,ag,Ib Zm wt Zo,pM,US,gq sV (Frame.upd (fp:=[pt]) (by simp)) nB UT,gq sW (Frame.upd (fp:=[pt]) (by simp)) nC UT,?_⟩
   have ktl:=dY (o:= .lst (ws ++ [v])) wt
   refine cw (Paired.g8 RK fun _ _ z=>z.keep (fun D xs o e=>?_) (kt4.trans ktl)) (hA4.keep (fun D xs o e=>?_) ktl)
   ·have e4:=EJ KQ rW rX F4 e o.2.1
    refine⟨⟨o.1,fun q=>?_,o.2.2⟩,by rw[az o.1]; exact e4⟩
    rcases kX D q with h1|h1
    ·exact o.2.1 h1
    ·rw[e] at h1
     cases h1
   ·have nD:D≠pt:=fun z=>by
     have:=o.1
     rw[z,KP] at this
     cases this
    exact⟨⟨nD,o.2,frees D o.1⟩,by rw[az nD]; exact e⟩
  ·rintro σ H2 ⟨x3,x4,wB,sh,f',ws,rfl,F2,wO,Lq,M0,Ww,kK,mZ,yO⟩
   rw[← hlen,aZ] at yO Lq
   refine⟨_,rfl,k pt ws wB sh f' H2 F2 kK mZ nt wO (Paired.g8 yO fun _ _ z=>z.keep (fun D xs o e=>⟨⟨o.1,o.2.2⟩,e⟩) fun _ _ e=>e) Lq⟩
inductive tj (A:ee)(tB tC:Addr)(vs:List V)(H:Hp)(Q:VK)(E':XK):Prop
 |mk (ps:Addr)(ds:List bg)(ms:List V)(h1:vs=[.ref ps])(h2:H ps=some (.lst ms))(h3:eI H ds ms)(h4:ds.length<=60)(h5:(∀d∈ds,d.ok))(h6:l4 H tB)(h7:mF H tC)(h8: ∀pt ws H',Frame [tB,tC] H H'->l4 H' tB->mF H' tC->H pt=none->H' pt=some (.lst ws)->Paired (lZ H' (fun D=>D≠pt/\H D=none)) (dQ ds hV.new 0).1 ws->Q (.ref pt) H'):tj A tB tC vs H Q E'
theorem wF:aU ["deeds","book"] ["deeds"] (aA (top 33)):={}
theorem Ic (T:Txt K mg){A:ee}{tB tC:Addr}(G:jO K mg A)(DB:qN K mg "bills_in_order" (top 17) tB)(DC:qN K mg "credits_in_order" (top 18) tC)(jE:tB≠tC)(hnd:A.jf≠A.tooMuch)(KB:K.In base)(BM:BMain mg base):fC P w K mg base "answers" 12 ["deeds"] (tj A tB tC):=by
 have AM:fC P w K mg base "answers_in" 11 ["book","deeds"] (AK A tB tC):=AL T G DB DC jE hnd KB BM
 have QD:uo P w K mg base "Book" A.book 3 ["self"] (Av A):=Qf G
 refine T.G8.fV (k:=11) wF (fun f cY A' outer s H vs Q E hr h=>?_)
 ·obtain⟨ps,ds,ms,rfl,ni,KO,hl,cE,kF,j7,k⟩:=h
  have nd:=wF.nd
  refine⟨_,(ai (sv 1 nd (JU QD (hr.mono (by decide)) rfl))
(av (a9 (fc AM hr (aa (pv 1) (aa (pv 0) aw)))))),?_⟩
  intro xb dxb Zp Zq ne
  have s1:=lW (C:=A.book) (fs:=[]) Zp Zq ne
  refine⟨xb,dxb,rfl,ag,fun pk pw g H1 F1 hx hk hW nk npw nf npk=>⟨rfl,?_⟩⟩
  have S1:aF H H1:=fun b o e=>F1 b o (by simpa using aJ e Zp) (s1 b o e)
  have fr: ∀b∈g.fp,H b=none:=fun b hb=>s1.free (nf b hb)
  have nk0:H pk=none:=s1.free nk
  refine⟨_,rfl,_,rfl,xb,pk,pw,ps,g,ds,ms,rfl,⟨⟨dxb,hx⟩,⟨[],hk,.nil⟩,hW⟩,S1 _ _ ni,(fun z=>by
   have:=fr _ z
   rw[ni] at this
   cases this),KO.mono S1.tk,hl,cE,bQ kF S1,bQ j7 S1,fun pt ws _ _ _ H2 F2 kK mZ nt wO hA _=>?_⟩
  refine k pt ws H2 ((S1.frame (fp:=[tB,tC])).trans F2 fun x hx=>?_) kK mZ (S1.free nt) wO (Paired.g8 hA fun _ _ z=>z.keep (fun D xs o e=>⟨⟨o.1,o.2.elim (fun q=>(au.mp q).elim (fun q=>by rw[q]; exact nk0) (fr D)) S1.free⟩,e⟩) fun _ _ e=>e)
  rcases au.mp hx with hx|hx
  ·exact .inl (by simp[hx])
  rcases au.mp hx with hx|hx
  ·exact .inl (by simp[hx])
  rcases au.mp hx with hx|hx
  ·exact .inr (by rw[hx]; exact Zp)
  rcases au.mp hx with hx|hx
  ·exact .inr (by rw[hx]; exact nk0)
  ·exact .inr (fr x hx)
inductive KR (K:Frag)(vs:List V)(H:Hp)(Q:VK)(E':XK):Prop
 |mk (a:Addr)(xs:List V)(m b:Int)(h1:vs=[.ref a,.int m,.int b])(h2:bG K H a xs)(h3:xs.length<=63)(h4:Q (.int m) H):KR K vs H Q E'
inductive AN (vs:List V)(H:Hp)(Q:VK)(E':XK):Prop
 |mk (d v:_)(h1:vs=[v])(h2:Rp H d v)(h3:Q (.bl (isW d)) H):AN vs H Q E'
theorem AO:aU ["_law_script","_law_most","_law_bound"] ["_law_script","_law_most","_law_bound"] (aA (top 43)):={}
theorem C1 (T:Txt K mg):fC P w K mg base "_law_room" 1 ["_law_script","_law_most","_law_bound"] (KR K):=by
 refine T.BP.fV (k:=0) AO (fun f cY A outer s H vs Q E hr h=>?_)
 ·obtain⟨a,xs,m,b,rfl,hS,hz,k⟩:=h
  refine⟨_,(ai (bT (a0 jH (oP T.eJ (pv 0)) aj (bb _))
   (av (a9 (pv 2)))
   bp)
   (av (a9 (pv 1)))),?_⟩
  refine⟨_,rfl,a,xs,rfl,.inl hS,_,_,rfl,rfl,_,rfl,?_⟩
  refine cH (fun c=>?_) (fun c=>?_)
  ·have c':(63:Int) < (xs.length:Int):=a6 c
   lia
  ·exact⟨_,rfl,k⟩
theorem xV:aU ["_law_found"] ["_law_found"] (aA (top 45)):={}
theorem AQ (T:Txt K mg):fC P w K mg base "_law_whole" 1 ["_law_found"] AN:=by
 refine T.zG.fV (k:=0) xV (fun f cY A outer s H vs Q E hr h=>?_)
 ·obtain⟨d,v,rfl,r,k⟩:=h
  refine⟨_,(av (a9 (sC (dm fb (by rfl) T.dC eE (aa (pv 0) (aa (gP (v:= .ty "int") (by rfl) T.yE boot_int rfl) aw))) (qc (OB (dm fb (by rfl) T.dC eE (aa (pv 0) (aa (gP (v:= .ty "bool") (by rfl) T.PF boot_bool rfl) aw)))))))),?_⟩
  refine⟨_,rfl,v,_,_,isI d,rfl,r.ty,SS d,_,rfl,?_⟩
  cases d with
  |int i=>exact fU ⟨_,rfl,v,_,_,false,rfl,r.ty,NJ (.int i),_,rfl,k⟩
  |bl i=>exact fU ⟨_,rfl,v,_,_,true,rfl,r.ty,NJ (.bl i),_,rfl,k⟩
  |eF=>exact bX k
  |str x=>exact bX k
  |tup ds=>exact bX k
  |lst ds=>exact bX k
inductive FP (vs:List V)(H:Hp)(Q:VK)(E':XK):Prop
 |mk (d v1 v2:_)(h1:vs=[v1,v2])(h2:Rp H d v1)(h3:Rp H d v2)(h4:d.size<=100000)(h5:d.plain=true)(h6: ∀H',aF H H'->Q (.bl true) H'):FP vs H Q E'
theorem pT:aU ["_law_found","_law_due","_law_todo","_law_pair","_law_k"] ["_law_found","_law_due"] (aA (top 46)):={}
theorem AR (T:Txt K mg):fC P w K mg base "_law_alike" 2 ["_law_found","_law_due"] FP:=by
 have AS:fC P w K mg base "_law_whole" 1 ["_law_found"] AN:=AQ T
 refine T.zH.fV (k:=1) pT (fun f cY A outer s H vs Q E hr h=>?_)
 ·obtain⟨d,v1,v2,rfl,r1,r2,hsz,jb,k⟩:=h
  have hu:=kW hr
  have nd:=pT.nd
  refine⟨_,(ai (sv 2 nd (bS (aa (cM (aa (pv 0) (aa (pv 1) aw))) aw)))
(ai (II bB (a0 (Jl hu) (pv 2) (bS aw) (bb _))
(ai (sv 3 nd (OQ PySem.F.plainAttrs_list PySem.F.slot_list_pop PySem.F.type_list_pop OT (pv 2)))
(av (bT (fR (dm DV (by rfl) T.dC eE (aa (xt (pv 3) aj) (aa (cM (aa (gP (v:= .ty "list") (by rfl) T.vI boot_list rfl) (aa (gP (v:= .ty "tuple") (by rfl) T.uC boot_tuple rfl) aw))) aw))))
(ai (bT (a0 qT (dm fb (by rfl) T.dC eE (aa (xt (pv 3) aj) (aa (gP (v:= .ty "list") (by rfl) T.vI boot_list rfl) aw))) (dm fb (by rfl) T.dC eE (aa (xt (pv 3) aj) (aa (gP (v:= .ty "list") (by rfl) T.vI boot_list rfl) aw))) (bb _))
(av (a9 kM))
bp)
(ai (bT (a0 qT (dm fb (by rfl) T.dC eE (aa (xt (pv 3) aj) (aa (gP (v:= .ty "tuple") (by rfl) T.uC boot_tuple rfl) aw))) (dm fb (by rfl) T.dC eE (aa (xt (pv 3) aj) (aa (gP (v:= .ty "tuple") (by rfl) T.uC boot_tuple rfl) aw))) (bb _))
(av (a9 kM))
bp)
(ai (bT (a0 qT (oP T.eJ (xt (pv 3) aj)) (oP T.eJ (xt (pv 3) aj)) (bb _))
(av (a9 kM))
bp)
(av (eN bB rfl (ja rfl T.my (aa (oP T.eJ (xt (pv 3) aj)) aw)) (gn 4 nd)
(av (bM (qu (pv 2) (cM (aa (kO NI (xt (pv 3) aj) (pv 4) (fun _ _=>rfl)) (aa (kO NI (xt (pv 3) aj) (pv 4) (fun _ _=>rfl)) aw)))))))))))
(av (bT (fR (dm fb (by rfl) T.dC eE (aa (xt (pv 3) aj) (aa (gP (v:= .ty "str") (by rfl) T.Fu boot_str rfl) aw))))
(av (bT (PW.pt (pw_or (jC (fR (dm fb (by rfl) T.dC eE (aa (xt (pv 3) aj) (aa (gP (v:= .ty "str") (by rfl) T.Fu boot_str rfl) aw))))) (pw_or1 (a0 qT (xt (pv 3) aj) (xt (pv 3) aj) (bb _)))))
(av (a9 kM))
bp))
(av (bT (PW.pt (pw_or (jC (fR (fc AS hr (aa (xt (pv 3) aj) aw)))) (pw_or1 (a0 qT (xt (pv 3) aj) (xt (pv 3) aj) (bb _)))))
(av (a9 kM))
bp))))))))
(av (a9 kM)))),?_⟩
  refine⟨_,rfl,_,rfl,(by show 2<=sizeLine; decide),fun t0 nt0=>⟨(by show 1<=sizeLine; decide),fun l nl=>?_⟩⟩
  have sA:aF H (upd H t0 (.tup [v1,v2])):=aF.new nt0
  have hl0:H l=none:=sA.free nl
  refine⟨fun m σ H2=> ∃td ds x3 x4,σ=[some v1,some v2,some (.ref l),x3,x4]/\aF H H2/\H2 l=some (.lst td)/\Paired (mi H H2) ds td/\Dt.fI ds=m/\m<=100000/\ ∀d∈ds,d.plain=true,
   ⟨d.size,[.ref t0],[d],none,none,rfl,sA.trans (aF.new nl),ag,.cons ⟨t0,v1,v2,rfl,Jn nl _ _ ag,r1,r2⟩ .nil,by simp[Dt.fI],hsz,by simpa using jb⟩,?_⟩
  rintro m σ H2 ⟨td,ds,x3,x4,rfl,s1,hl,hp,hm,Yy,UU⟩
  refine⟨_,rfl,bq _,fun p3 n3=>?_⟩
  have s2:aF H2 (upd H2 p3 (.lst [])):=aF.new n3
  refine⟨l,p3,td,rfl,rfl,bG.of (s2 _ _ hl),bG.of ag,_,rfl,?_⟩
  generalize Rx:upd H2 p3 (.lst [])=H3 at s2 ⊢
  have Au:=s2 _ _ hl
  cases htd:td with
  |nil=>exact bX (k _ (s1.trans s2))
  |cons z zs=>
  refine fU ⟨fun σ' H'=> ∃m',m' < m/\ ∃td ds x3 x4,σ'=[some v1,some v2,some (.ref l),x3,x4]/\aF H H'/\H' l=some (.lst td)/\Paired (mi H H') ds td/\Dt.fI ds=m'/\m'<=100000/\ ∀d∈ds,d.plain=true,fun _ _ h=>h,?_⟩
  have jE:td.length - 1 < td.length:=by rw[htd]; simp
  obtain⟨y,hy⟩: ∃y,td[td.length - 1]? =some y:=⟨_,af jE⟩
  obtain⟨Nb,c,Zr,⟨t,u1,u2,ey,ht,q1,q2⟩,NV⟩:=tK hp hy
  subst ey
  have Tx:c.plain=true:=UU c (by rw[Zr]; simp)
  have V7: ∀d∈Nb,d.plain=true:=fun d hd=>UU d (by rw[Zr]; simp[hd])
  have hmm:Dt.fI Nb + c.size=m:=by
   have:=hm
   rw[Zr,Dt.iM] at this
   simpa[Dt.fI] using this
  refine⟨_,rfl,.inl ⟨rfl,_,bG.of Au⟩,l,td,.ref t,rfl,rfl,Au,hy,?_⟩
  have ht3:=s2 _ _ ht
  have s4:aF H (upd H3 l (.lst td.dropLast)):=(s1.trans s2).dr hl0
  have Zs:upd H3 l (.lst td.dropLast) t=some (.tup [u1,u2]):=dU Au _ _ ht3
  have Wv:Paired (mi H (upd H3 l (.lst td.dropLast))) Nb td.dropLast:=Paired.g8 NV fun d v h=>h.mono fun b xs e=>dU Au _ _ (s2 _ _ e)
  have hl4:upd H3 l (.lst td.dropLast) l=some (.lst td.dropLast):=ag
  generalize upd H3 l (.lst td.dropLast)=H4 at s4 Zs Wv hl4 ⊢
  clear Rx Au ht3 s2 n3 hp hl ht
  refine⟨_,rfl,t,_,_,u2,rfl,rfl,cF.of Zs,rfl,(by show 2<=sizeLine; decide),fun p5 n5=>?_⟩
  have s5:aF H4 (upd H4 p5 (.tup [.ty "list",.ty "tuple"])):=aF.new n5
  have q25:=Rp.mono (s4.trans s5) c q2
  have q15:=Rp.mono (s4.trans s5) c q1
  refine⟨u2,p5,["list","tuple"],_,isLT c,rfl,ag,q25.ty,O6 c,_,rfl,?_⟩
  have Du:=s5 _ _ Zs
  have Zt:=s5 _ _ hl4
  have RJ:Paired (mi H (upd H4 p5 (.tup [.ty "list",.ty "tuple"]))) Nb td.dropLast:=Paired.g8 Wv fun d v h=>h.mono fun b xs e=>s5 _ _ e
  have s6:=s4.trans s5
  generalize upd H4 p5 (.tup [.ty "list",.ty "tuple"])=H5 at s5 q25 q15 Du Zt RJ s6 ⊢
  clear s5 n5
  refine cH (fun UW=>?_) (fun UW=>?_)
  ·
   obtain⟨a1,Zu,e1,S1,R1⟩:=Fb q1 UW
   obtain⟨a2,QE,e2,S2,R2⟩:=Fb q2 UW
   refine⟨_,rfl,t,_,_,u1,rfl,rfl,cF.of Du,rfl,u1,_,_,XH c,rfl,q15.ty,E9 c,_,rfl,t,_,_,u2,rfl,rfl,cF.of Du,rfl,u2,_,_,XH c,rfl,q25.ty,E9 c,rfl,_,rfl,BB rfl ?_⟩
   refine⟨_,rfl,t,_,_,u1,rfl,rfl,cF.of Du,rfl,u1,_,_,XI c,rfl,q15.ty,Jm c,_,rfl,t,_,_,u2,rfl,rfl,cF.of Du,rfl,u2,_,_,XI c,rfl,q25.ty,Jm c,rfl,_,rfl,BB rfl ?_⟩
   have hlen:Zu.length=QE.length:=by rw[← R1.length,← R2.length]
   refine⟨_,rfl,t,_,_,u1,rfl,rfl,cF.of Du,rfl,a1,Zu,by rw[e1],S1 K H5 s6,_,rfl,t,_,_,u2,rfl,rfl,cF.of Du,rfl,a2,QE,by rw[e2],S2 K H5 s6,rfl,_,rfl,BB (by rw[hlen]) ?_⟩
   have NG:QE.length=(kids c).length:=R2.length.symm
   have hks:=GQ UW
   have Iw:=Dt.q0 (kids c)
   refine⟨_,rfl,t,_,_,u2,rfl,rfl,cF.of Du,rfl,a2,QE,by rw[e2],S2 K H5 s6,(QE.length:Int),rfl,by lia,by lia,?_⟩
   rw[cW]
   refine jU (lo:=0) (n:=QE.length) (fun i σ H6=> ∃N7 x4,σ=[some v1,some v2,some (.ref l),some (.ref t),x4]/\aF H H6/\H6 l=some (.lst N7)/\H6 t=some (.tup [u1,u2])/\Paired (mi H H6) (Nb ++ (kids c).take i) N7)
    ⟨td.dropLast,x4,rfl,s6,Zt,Du,by simpa using RJ⟩ ?_ ?_
   ·rintro i σ H6 hi ⟨N7,x4',rfl,s7,iE,Wy,N0⟩
    have XM:i < (kids c).length:=by lia
    have g0:(kids c)[i]? =some (kids c)[i]:=af XM
    obtain⟨w1,g1,z1⟩:=R1.get g0
    obtain⟨w2,g2,z2⟩:=R2.get g0
    have Kq:N7.length < sizeLine:=by
     have h1:=N0.length
     have h2:=Dt.q0 (Nb ++ (kids c).take i)
     have h3:=xg (kids c) i
     rw[Dt.iM] at h2
     exact ji (by lia)
    refine⟨_,rfl,.inl ⟨rfl,_,bG.of iE⟩,?_⟩
    refine⟨_,rfl,t,_,_,u1,rfl,rfl,cF.of Wy,rfl,_,rfl,a1,Zu,_,w1,e1,rfl,S1 K H6 s7,by rw[jT]; exact cA g1,_,rfl,t,_,_,u2,rfl,rfl,cF.of Wy,rfl,_,rfl,a2,QE,_,w2,e2,rfl,S2 K H6 s7,by rw[jT]; exact cA g2,(by show 2<=sizeLine; decide),fun p7 n7=>?_⟩
    have s8:aF H6 (upd H6 p7 (.tup [w1,w2])):=aF.new n7
    have RH:=s8 _ _ iE
    refine⟨l,N7,.ref p7,rfl,rfl,RH,Kq,?_⟩
    refine⟨N7 ++ [.ref p7],_,rfl,(s7.trans s8).dr hl0,ag,dU RH _ _ (s8 _ _ Wy),?_⟩
    rw[uj g0,← b0]
    exact cw (Paired.g8 N0 fun d v h=>h.mono fun b xs e=>dU RH _ _ (s8 _ _ e)) ⟨p7,w1,w2,rfl,dU RH _ _ ag,z1,z2⟩
   ·rintro σ H6 ⟨N7,x4',rfl,s7,iE,Wy,N0⟩
    rw[NG,aZ] at N0
    refine⟨Dt.fI (Nb ++ kids c),?_,N7,_,_,_,rfl,s7,iE,N0,rfl,?_,?_⟩
    ·rw[Dt.iM]; lia
    ·rw[Dt.iM]; lia
    ·intro d hd
     rcases bc.mp hd with hd|hd
     ·exact V7 d hd
     ·exact DW Tx d hd
  ·
   have fin:(fun σ' H'=> ∃m',m' < m/\ ∃td ds x3 x4,σ'=[some v1,some v2,some (.ref l),x3,x4]/\aF H H'/\H' l=some (.lst td)/\Paired (mi H H') ds td/\Dt.fI ds=m'/\m'<=100000/\ ∀d∈ds,d.plain=true) [some v1,some v2,some (.ref l),some (.ref t),x4] H5:=by
    have:=c.size_pos
    exact⟨Dt.fI Nb,by lia,_,Nb,_,_,rfl,s6,Zt,RJ,rfl,by lia,V7⟩
   refine⟨_,rfl,t,_,_,u2,rfl,rfl,cF.of Du,rfl,u2,_,_,VU c,rfl,q25.ty,yx c,_,rfl,?_⟩
   refine cH (fun hS=>?_) (fun hS=>?_)
   ·have ec: ∃x,c= .str x:=by cases c <;> first|exact⟨_,rfl⟩|cases hS
    obtain⟨x,rfl⟩:=ec
    obtain rfl:=fv.mp q1
    obtain rfl:=fv.mp q2
    refine⟨_,rfl,t,_,_,_,rfl,rfl,cF.of Du,rfl,_,_,_,true,rfl,nA.str x,yx (.str x),_,rfl,bX ?_⟩
    refine⟨_,rfl,t,_,_,_,rfl,rfl,cF.of Du,rfl,_,rfl,t,_,_,_,rfl,rfl,cF.of Du,rfl,rfl,_,rfl,BB rfl ?_⟩
    exact fin
   ·have ec: ∃x,c= .int x:=by cases c <;> first|exact⟨_,rfl⟩|exact absurd rfl hS|exact absurd rfl UW|cases Tx
    obtain⟨x,rfl⟩:=ec
    obtain rfl:=dD.mp q1
    obtain rfl:=dD.mp q2
    refine⟨_,rfl,t,_,_,_,rfl,rfl,cF.of Du,rfl,.int x,_,rfl,dD.mpr rfl,_,rfl,bX ?_⟩
    refine⟨_,rfl,t,_,_,_,rfl,rfl,cF.of Du,rfl,_,rfl,t,_,_,_,rfl,rfl,cF.of Du,rfl,rfl,_,rfl,BB rfl ?_⟩
    exact fin
inductive wG (K:Frag)(vs:List V)(H:Hp)(Q:VK)(E':XK):Prop
 |mk (po:Addr)(os:List Str)(aH:Str)(cell i:Int)(h1:vs=[.ref po,.str aH,.int cell,.int i])(h2:bG K H po (os.map V.str))(h3:os.length<=1000)(h4: ∀(n:Int) (H':Hp),aF H H'->Q (.int n) H'):wG K vs H Q E'
theorem oy:aU ["_law_owners","_law_who","_law_cell","_law_k","_law_rest","_law_number","_law_spot","_law_one"] ["_law_owners","_law_who","_law_cell","_law_k"] (aA (top 49)):={}
theorem xW (T:Txt K mg):fC P w K mg base "_law_chosen" 1 ["_law_owners","_law_who","_law_cell","_law_k"] (wG K):=by
 refine T.xv.fV (k:=0) oy (fun f cY A outer s H vs Q E hr h=>?_)
 ·obtain⟨po,os,aH,cell,i,rfl,hS,ho,k⟩:=h
  have nd:=oy.nd
  refine⟨_,(ai (sv 4 nd (aQ jM (pv 2) aj))
(ai (sv 5 nd (aQ cq (aQ dk (aQ jM (pv 4) aj) (pv 3)) (aQ dk (oP T.eJ (pv 0)) aj)))
(ai (eN bB rfl (ja rfl T.my (aa (oP T.eJ (pv 0)) aw)) (gn 6 nd)
(ai (sv 7 nd (aQ cq (aQ dk (pv 5) (pv 6)) (oP T.eJ (pv 0))))
(av (bT (PW.pt (pw_and (a0 dh (xl (pv 0) (pv 7)) (pv 1) (bb _)) (pw_and1 (a0 jH (aQ cq (pv 2) aj) aj (bb _)))))
(av (a9 (pv 7)))
bp))))
(ai (bT (a0 dh (aQ cq (pv 2) aj) aj (bb _))
(av (sv 5 nd (xl (bS (aa (pC lj aj) (aa (aQ iJ aj aj) (aa (aQ fS (pC lj aj) (aQ cq (pv 4) (aQ iJ aj aj))) aw)))) (aQ cq (pv 4) aj))))
bp)
(av (a9 (pv 5))))))),?_⟩
  refine⟨_,rfl,_,_,rfl,rfl,⟨by decide,by decide⟩,?_⟩
  refine⟨_,rfl,_,_,rfl,rfl,⟨by decide,by decide⟩,_,rfl,_,_,rfl,rfl,_,rfl,po,_,rfl,.inl hS,_,_,rfl,rfl,_,_,rfl,rfl,(by show(0:Int) < ((os.map V.str).length:Int) + 1; lia),?_⟩
  generalize Zv:(cell / 16 / 2 + i) % (((os.map V.str).length:Int) + 1)=num
  show _
  refine⟨_,rfl,po,_,rfl,.inl hS,((os.map V.str).length:Int),rfl,by lia,by rw[ae]; lia,?_⟩
  rw[cW]
  refine jU (lo:=0) (n:=(os.map V.str).length) (fun j σ H2=> ∃x6 x7,σ=[some (.ref po),some (.str aH),some (.int cell),some (.int i),some (.int (cell / 16)),some (.int num),x6,x7]/\H2=H)
   ⟨none,none,by rw[← Zv]; rfl,rfl⟩ ?_ ?_
  ·rintro j σ H2 hj ⟨x6,x7,rfl,rfl⟩
   have hm:0 < ((os.map V.str).length:Int):=by lia
   obtain⟨y,_,hy⟩:=k4 (g:=V.str) (xs:=os) (m:=((os.map V.str).length:Int)) (x:=num + (0 + (j:Int))) (by rw[ae]) hm
   refine⟨_,rfl,_,rfl,_,_,rfl,rfl,_,rfl,po,_,rfl,.inl hS,_,_,rfl,rfl,hm,?_⟩
   refine⟨_,rfl,_,rfl,po,_,_,.str y,rfl,rfl,hS,hy,_,rfl,rfl,_,rfl,cH (fun c=>?_) (fun c=>bX ⟨_,_,rfl,rfl⟩)⟩
   refine⟨_,rfl,_,_,rfl,rfl,(by show(0:Int) < 5; decide),_,_,rfl,rfl,_,rfl,cH (fun c=>?_) (fun c=>⟨_,_,rfl,rfl⟩)⟩
   exact⟨_,rfl,k _ _ (aF.refl _)⟩
  ·rintro σ H2 ⟨x6,x7,rfl,rfl⟩
   refine⟨_,rfl,_,_,rfl,rfl,(by show(0:Int) < 47; decide),rfl,_,rfl,cH (fun c=>?_) (fun c=>⟨_,rfl,k _ _ (aF.refl _)⟩)⟩
   refine⟨_,rfl,_,_,rfl,rfl,⟨by decide,by decide,by decide⟩,_,rfl,_,rfl,_,_,rfl,rfl,⟨by decide,by decide,by decide⟩,_,_,rfl,rfl,(by show(0:Int) < _; decide +kernel),_,_,rfl,rfl,(by show 3<=sizeLine; decide),fun p4 n4=>?_⟩
   obtain⟨y,_,hy⟩:=at3 (-1) (10 ^ (9:Int).toNat) (-2 - cell / 16 % 10 ^ (60:Int).toNat) (cell / 16)
   refine⟨_,rfl,_,_,rfl,rfl,(by show(0:Int) < 3; decide),p4,_,_,.int y,rfl,rfl,bG.of ag,hy,?_⟩
   exact⟨_,rfl,k _ _ (aF.new n4)⟩
inductive AU (vs:List V)(H:Hp)(Q:VK)(E':XK):Prop
 |mk (c:Int)(h1:vs=[.int c])(h2: ∀r:Int,(r=0∨r=1)->Q (.int r) H):AU vs H Q E'
theorem xX:aU ["_law_cell"] ["_law_cell"] (aA (top 50)):={}
theorem AV (T:Txt K mg):fC P w K mg base "_law_hasty" 1 ["_law_cell"] AU:=by
 refine T.zI.fV (k:=0) xX (fun f cY A outer s H vs Q E hr h=>?_)
 ·obtain⟨c,rfl,k⟩:=h
  refine⟨_,(av (a9 (iw lI (by rfl) T.yE boot_int (aa (R5 (fQ dh (aQ cq (pv 0) aj) aj (bb _)) (qc (sC (fQ dh (aQ cq (pv 0) aj) aj (bb _)) (qc (fQ dh (aQ cq (aQ jM (pv 0) aj) aj) aj (bb _)))))) aw)))),?_⟩
  have fin: ∀b:Bool,Q (.int (if b then 1 else 0)) H:=fun b=>k _ (by cases b <;> simp)
  refine⟨_,rfl,_,_,rfl,rfl,(by show(0:Int) < 29; decide),rfl,_,rfl,cH (fun c=> .inr ⟨_,rfl,fin _⟩) (fun c=>?_)⟩
  refine⟨_,rfl,_,_,rfl,rfl,(by show(0:Int) < 41; decide),rfl,_,rfl,cH (fun c=>?_) (fun c=> .inr ⟨_,rfl,fin _⟩)⟩
  exact⟨_,rfl,_,_,rfl,rfl,⟨by decide,by decide⟩,_,_,rfl,rfl,(by show(0:Int) < 2; decide),rfl,.inr ⟨_,rfl,fin _⟩⟩
inductive AW (K:Frag)(vs:List V)(H:Hp)(Q:VK)(E':XK):Prop
 |mk (a:Addr)(cs:List Int)(i:Nat)(h1:vs=[.ref a,.int i])(h2:bG K H a (cs.map V.int))(h3:i < cs.length)(h4: ∀n:Int,Q (.int n) H):AW K vs H Q E'
theorem oz:aU ["_law_cells","_law_k","_law_days"] ["_law_cells","_law_k"] (aA (top 51)):={}
theorem xY (T:Txt K mg):fC P w K mg base "_law_due_in" 2 ["_law_cells","_law_k"] (AW K):=by
 have AX:fC P w K mg base "_law_hasty" 1 ["_law_cell"] AU:=AV T
 refine T.xx.fV (k:=1) oz (fun f cY A outer s H vs Q E hr h=>?_)
 ·obtain⟨a,cs,i,rfl,hS,hi,k⟩:=h
  have nd:=oz.nd
  refine⟨_,(ai (sv 2 nd (aQ cq (aQ dk (xl (pv 0) (aQ cq (aQ dk (pv 1) aj) (oP T.eJ (pv 0)))) (pv 1)) aj))
(jN (bT (a0 dh (aQ cq (xl (pv 0) (pv 1)) aj) aj (bb _))
(av (sv 2 nd (aQ cq (xl (pv 0) (aQ cq (aQ dk (pv 1) aj) (oP T.eJ (pv 0)))) (aQ iJ aj aj))))
bp)
(av (a9 (aQ fS (pv 2) (aQ jD (aQ dk (pv 2) aj) (fc AX hr (aa (xl (pv 0) (pv 1)) aw)))))))),?_⟩
  have hm:0 < ((cs.map V.int).length:Int):=by rw[ae]; lia
  obtain⟨y,_,hy⟩:=k4 (g:=V.int) (xs:=cs) (m:=((cs.map V.int).length:Int)) (x:=(i:Int) + 1) (by rw[ae]) hm
  refine⟨_,rfl,_,rfl,_,_,rfl,rfl,_,rfl,a,_,rfl,.inl hS,_,_,rfl,rfl,hm,a,_,_,.int y,rfl,rfl,hS,hy,_,rfl,_,_,rfl,rfl,_,_,rfl,rfl,(by show(0:Int) < 9; decide),?_⟩
  refine⟨fun σ' H'=>H'=H/\ ∃d:Int,σ'=[some (.ref a),some (.int i),some (.int d)],?_,?_⟩
  ·refine⟨_,rfl,_,rfl,a,_,_,_,rfl,rfl,hS,sR hi,_,_,rfl,rfl,(by show(0:Int) < 13; decide),rfl,_,rfl,cH (fun c=>?_) (fun c=>⟨rfl,_,rfl⟩)⟩
   refine⟨_,rfl,_,rfl,_,_,rfl,rfl,_,rfl,a,_,rfl,.inl hS,_,_,rfl,rfl,hm,a,_,_,.int y,rfl,rfl,hS,hy,_,_,rfl,rfl,⟨by decide,by decide,by decide⟩,_,_,rfl,rfl,(by show(0:Int) < _; decide +kernel),?_⟩
   exact⟨rfl,_,rfl⟩
  rintro σ' H' ⟨rfl,d,rfl⟩
  refine⟨_,rfl,_,rfl,_,_,rfl,rfl,_,rfl,_,rfl,a,_,_,_,rfl,rfl,hS,sR hi,_,rfl,fun r Zw=>?_⟩
  exact⟨_,_,rfl,rfl,.inr (by rcases Zw with rfl|rfl <;> exact⟨by decide,by decide⟩),_,_,rfl,rfl,k _⟩
def uv (H:Hp)(a pm l6:Addr)(i:Nat)(σ:L2.St)(H2:Hp):Prop:=
 ∃(pb ph:Addr) (bs hs:List Str) (sp:List Int) (ds:List bg) (ms:List V) (x5 x6 x7 x8 x9 CM CO xZ FQ AY C2 AZ:Option V),σ=[some (.ref a),some (.ref pm),some (.ref pb),some (.ref ph),some (.ref l6),x5,x6,x7,x8,x9,CM,CO,xZ,FQ,AY,C2,AZ]/\aF H H2/\
  H2 pm=some (.lst ms)/\eI H2 ds ms/\ds.length=i/\(∀d∈ds,d.ok)/\H2 pb=some (.lst (bs.map V.str))/\bs.length<=i/\H2 ph=some (.lst (hs.map V.str))/\hs.length<=i/\H2 l6=some (.lst (sp.map V.int))/\sp.length<=i/\pb≠pm/\pb≠l6/\ph≠pm/\ph≠l6
theorem uv.mk' {H:Hp}{a pm l6 pb ph:Addr}{i:Nat}{H4 H6:Hp}{bs hs:List Str}{sp:List Int}{ds:List bg}{d:bg}{ms:List V}{p8:Addr}{x5 x6 x7 x8 x9 CM CO xZ FQ AY C2 AZ:Option V}
  (hR:eI H4 ds ms) (hl:ds.length=i) (cE: ∀d∈ds,d.ok) (kp:cK H4 H6) (s6:aF H H6) (hM:H6 pm=some (.lst (ms ++ [.ref p8]))) (hd:Rp H6 d.dt (.ref p8)) (hdo:d.ok)
  (hb:H6 pb=some (.lst (bs.map V.str))) (HA:bs.length<=i + 1) (hh:H6 ph=some (.lst (hs.map V.str))) (hhl:hs.length<=i + 1) (L5:H6 l6=some (.lst (sp.map V.int))) (Kq:sp.length<=i + 1)
  (n1:pb≠pm) (n2:pb≠l6) (n3:ph≠pm) (n4:ph≠l6):
  uv H a pm l6 (i + 1) [some (.ref a),some (.ref pm),some (.ref pb),some (.ref ph),some (.ref l6),x5,x6,x7,x8,x9,CM,CO,xZ,FQ,AY,C2,AZ] H6:=by
 refine⟨pb,ph,bs,hs,sp,ds ++ [d],ms ++ [.ref p8],x5,x6,x7,x8,x9,CM,CO,xZ,FQ,AY,C2,AZ,rfl,s6,hM,(hR.mono kp).snoc hd,by rw[ax,hl]; rfl,fun d' Gp=>?_,hb,HA,hh,hhl,L5,Kq,n1,n2,n3,n4⟩
 rcases bc.mp Gp with h|h
 ·exact cE d' h
 ·rw[ao.mp h]; exact hdo
def dj (r:Int)(j:Nat):List Int:=(List.range j).map fun(t:Nat)=>1 + r % 9 + (0 + (t:Int)) * (2 + r % 30)
theorem C3 (r:Int)(j:Nat):(dj r j).length=j:=by unfold dj; rw[List.length_map,List.length_range]
theorem Nc {w:Str}{d:Int}(r:Int)(j:Nat)(hj:j<=11):(bg.il w d (dj r j)).ok:=by
 have h9:=kI r (show(9:Int)≠0 by decide)
 have h30:=kI r (show(30:Int)≠0 by decide)
 refine⟨by rw[C3]; exact hj,?_,fun x hx=>?_⟩
 ·unfold dj
  rw[sq]
  refine List.pairwise_lt_range.imp fun{a b} Iv=>?_
  have:(0 + (a:Int)) * (2 + r % 30) < (0 + (b:Int)) * (2 + r % 30):=Int.mul_lt_mul_of_pos_right (by lia) (by lia)
  lia
 ·unfold dj at hx
  obtain⟨t,_,rfl⟩:=bJ.mp hx
  have:0<=(0 + (t:Int)) * (2 + r % 30):=Int.mul_nonneg (by lia) (by lia)
  lia
theorem UX (x y:Int)(b:Bool):True/\uz [V.int x,V.int y] (if b=true then 1 else 0)=some (V.int (if b=true then y else x)):=⟨trivial,by cases b <;> rfl⟩
theorem N8 {H H4:Hp}{pm p8 l6 pb ph:Addr}{ms xs b' h' s':List V}(nm:H pm=none)(s4:aF H H4)(rV:H4 pm=some (.lst ms))(n8:H4 p8=none)(n1:pb≠pm)(n3:ph≠pm)(FR:l6≠pm)
  (AJ:H4 pb=some (.lst b')) (IA:H4 ph=some (.lst h')) (oA:H4 l6=some (.lst s')):
  cK H4 (upd (upd H4 p8 (.tup xs)) pm (.lst (ms ++ [.ref p8])))/\aF H (upd (upd H4 p8 (.tup xs)) pm (.lst (ms ++ [.ref p8])))/\upd (upd H4 p8 (.tup xs)) pm (.lst (ms ++ [.ref p8])) pm=some (.lst (ms ++ [.ref p8]))/\
  upd (upd H4 p8 (.tup xs)) pm (.lst (ms ++ [.ref p8])) p8=some (.tup xs)/\upd (upd H4 p8 (.tup xs)) pm (.lst (ms ++ [.ref p8])) pb=some (.lst b')/\upd (upd H4 p8 (.tup xs)) pm (.lst (ms ++ [.ref p8])) ph=some (.lst h')/\
  upd (upd H4 p8 (.tup xs)) pm (.lst (ms ++ [.ref p8])) l6=some (.lst s'):=by
 have s8:=aF.new (o:= .tup xs) n8
 refine⟨s8.tk.trans (dY (s8 _ _ rV)),(s4.trans s8).dr nm,ag,dU (s8 _ _ rV) _ _ ag,?_,?_,?_⟩
 ·rw[az n1]; exact s8 _ _ AJ
 ·rw[az n3]; exact s8 _ _ IA
 ·rw[az FR]; exact s8 _ _ oA
theorem UY {H H4:Hp}{pm l6 pb ph:Addr}{ms b' h':List V}{sp:List Int}{x:Int}(Wz:H l6=none)(s4:aF H H4)(rV:H4 pm=some (.lst ms))(n2:pb≠l6)(n4:ph≠l6)(FR:l6≠pm)
  (AJ:H4 pb=some (.lst b')) (IA:H4 ph=some (.lst h')) (oA:H4 l6=some (.lst (sp.map V.int))):
  cK H4 (upd H4 l6 (.lst (sp.map V.int ++ [.int x])))/\aF H (upd H4 l6 (.lst (sp.map V.int ++ [.int x])))/\upd H4 l6 (.lst (sp.map V.int ++ [.int x])) pm=some (.lst ms)/\upd H4 l6 (.lst (sp.map V.int ++ [.int x])) pb=some (.lst b')/\
  upd H4 l6 (.lst (sp.map V.int ++ [.int x])) ph=some (.lst h')/\upd H4 l6 (.lst (sp.map V.int ++ [.int x])) l6=some (.lst ((sp ++ [x]).map V.int)):=by
 refine⟨dY oA,s4.dr Wz,?_,?_,?_,?_⟩
 ·rw[az FR.symm]; exact rV
 ·rw[az n2]; exact AJ
 ·rw[az n4]; exact IA
 ·rw[ag,aL]; rfl
theorem ie {H:Hp}{d:Dt}{v:V}{ds:List Dt}{vs:List V}(h:Rp H d v)(r:g9 H ds vs):g9 H (d :: ds) (v :: vs):=br.mpr ⟨_,_,rfl,h,r⟩
theorem rI {H:Hp}(i:Int):Rp H (.int i) (.int i):=dD.mpr rfl
theorem rS {H:Hp}(x:Str):Rp H (.str x) (.str x):=fv.mpr rfl
theorem r0 {H:Hp}:g9 H [] []:=cv.mpr rfl
theorem FT {H9:Hp}{p9 pb:Addr}{bs:List Str}{aH:Str}{b:Bool}{Q:VK}(h9:H9 p9=some (.lst [V.str aH]))(hb:H9 pb=some (.lst (bs.map V.str)))(hl:bs.length<=100)
  (q: ∀(KS:Addr) (UZ:Hp) (n:Nat),n<=1->aF H9 UZ->H9 KS=none->UZ KS=some (.lst ((bs ++ List.replicate n aH).map V.str))->Q (.ref KS) UZ):
  Su (.ref p9) (.int (if b=true then 1 else 0)) H9 (fun v H=>Ss (.ref pb) v H Q):=by
 have hk:(if b=true then(1:Int) else 0).toNat<=1:=by split <;> decide
 refine⟨p9,_,_,rfl,rfl,h9,(by split <;> decide),(by split <;> decide),(by show 1 * _<=sizeLine; split <;> decide),fun RL Zx=>?_⟩
 generalize (if b=true then(1:Int) else 0).toNat=n at hk ⊢
 rw[Md]
 have Cy:=aF.new (o:= .lst ((List.replicate n aH).map V.str)) Zx
 refine⟨pb,RL,_,_,rfl,rfl,Cy _ _ hb,ag,?_,fun KS IB=>?_⟩
 ·refine cL (bf ?_)
  rw[ae,ae,iW]
  lia
 ·rw[← aL]
  exact q KS _ n hk (Cy.trans (aF.new IB)) (Cy.free IB) ag
inductive FU (K:Frag)(vs:List V)(H:Hp)(Q:VK)(E':XK):Prop
 |mk (a:Addr)(cs:List Int)(h1:vs=[.ref a])(h2:bG K H a (cs.map V.int))(h3:cs.length<=100)(h4: ∀(pd:Addr) (ds:List bg) (ms:List V) (H':Hp),aF H H'->H' pd=some (.lst ms)->eI H' ds ms->ds.length=cs.length->(∀d∈ds,d.ok)->Q (.ref pd) H'):FU K vs H Q E'
theorem pU:aU ["_law_cells","_law_made","_law_bills","_law_held","_law_spots","_law_k","_law_rest","_law_pick","_law_who","_law_day","_law_amount","_law_bill","_law_due","_law_part","_law_credit","_law_menu","_law_limits"] ["_law_cells"] (aA (top 52)):={}
theorem A0 (T:Txt K mg):fC P w K mg base "_law_deeds" 3 ["_law_cells"] (FU K):=by
 have ya:fC P w K mg base "_law_penned" 2 ["_law_cells","_law_k"] (vQ K):=xD T
 have pV:fC P w K mg base "_law_chosen" 1 ["_law_owners","_law_who","_law_cell","_law_k"] (wG K):=xW T
 have yb:fC P w K mg base "_law_due_in" 2 ["_law_cells","_law_k"] (AW K):=xY T
 refine T.zJ.fV (k:=2) pU (fun f cY A outer s H vs Q E hr h=>?_)
 ·obtain⟨a,cs,rfl,hS,hc,k⟩:=h
  have nd:=pU.nd
  refine⟨_,(ai (sv 1 nd (bS aw))
(ai (sv 2 nd (bS aw))
(ai (sv 3 nd (bS aw))
(ai (sv 4 nd (bS aw))
(ai (eN bB rfl (ja rfl T.my (aa (oP T.eJ (pv 0)) aw)) (gn 5 nd)
(ai (sv 6 nd (aQ cq (aQ jM (xl (pv 0) (pv 5)) aj) (aQ iJ aj aj)))
(ai (sv 7 nd (aQ cq (aQ dk (xl (pv 0) (pv 5)) (aQ jD aj (pv 5))) aj))
(ai (nv (fc ya hr (aa (pv 0) (aa (pv 5) aw))) (iH rfl (bW (gn 8 nd) (bW (gn 9 nd) (bW (gn 10 nd) gy)))))
(ai (sv 11 nd (fc pV hr (aa (pv 2) (aa (pv 8) (aa (xl (pv 0) (pv 5)) (aa (pv 5) aw))))))
(av (bT (a0 kN (pv 7) aj (bb _))
(ai (sv 12 nd (aQ dk (pv 9) (fc yb hr (aa (pv 0) (aa (pv 5) aw)))))
(ai (bM (qu (pv 1) (cM (aa aR (aa (pv 8) (aa (pv 9) (aa (pv 12) (aa (pv 10) aw))))))))
(av (sv 2 nd (aQ lp (pv 2) (aQ zj (bS (aa (pv 8) aw)) (iw lI (by rfl) T.yE boot_int (aa (sC (fQ jH (pv 10) aj (bb _)) (qc (fQ IL (pv 12) (pv 9) (bb _)))) aw))))))))
(av (bT (a0 kN (pv 7) aj (bb _))
(ai (bM (qu (pv 1) (cM (aa aR (aa (pv 8) (aa (pv 9) (aa (pv 10) aw)))))))
(av (sv 3 nd (aQ lp (pv 3) (aQ zj (bS (aa (pv 8) aw)) (iw lI (by rfl) T.yE boot_int (aa (fQ jH (pv 10) aj (bb _)) aw)))))))
(av (bT (a0 dh (pv 7) aj (bb _))
(ai (bM (qu (pv 1) (cM (aa aR (aa (pv 11) (aa (pv 9) (aa (pv 10) aw)))))))
(av (bT (PW.pt (pw_and (a0 yg aj (pv 11) (bb _)) (pw_and (a0 kN (pv 11) (oP T.eJ (pv 2)) (bb _)) (pw_and1 (a0 jH (pv 10) aj (bb _))))))
(av (sv 3 nd (aQ lp (pv 3) (bS (aa (xl (pv 2) (pv 11)) aw)))))
bp)))
(av (bT (a0 kN (pv 7) aj (bb _))
(ai (bM (qu (pv 4) (pv 5)))
(jN (sv 13 nd (xl (bS (aa (pv 10) (aa (aQ dk aj (aQ cq (pv 6) aj)) aw))) (iw lI (by rfl) T.yE boot_int (aa (sC (fQ jH (pv 10) aj (bb _)) (qc (fQ jH (aQ cq (pv 6) aj) aj (bb _)))) aw))))
(ai (sv 14 nd (fc pV hr (aa (pv 3) (aa (pv 8) (aa (xl (pv 0) (pv 5)) (aa (aQ dk (pv 5) aj) aw))))))
(jN (bT (a0 dh (aQ cq (xl (pv 0) (pv 5)) aj) aj (bb _))
(av (sv 14 nd (aQ cq (aQ jM (pv 6) aj) (aQ dk (oP T.eJ (pv 3)) aj))))
bp)
(av (bM (qu (pv 1) (cM (aa aR (aa (pv 14) (aa (pv 11) (aa (pv 13) aw))))))))))))
(av (bT (a0 kN (pv 7) aj (bb _))
(ai (bM (qu (pv 4) (pv 5)))
(av (bM (qu (pv 1) (cM (aa aR (aa (pv 8) aw)))))))
(av (bT (a0 dh (pv 7) aj (bb _))
(ai (sv 15 nd (aQ lp (pv 4) (bS (aa (pv 5) (aa (pC lj aj) (aa (aQ iJ aj aj) (aa aj (aa (aQ fS (pv 5) aj) (aa (aQ cq (aQ jM (pv 6) aj) (aQ dk (pv 5) aj)) (aa (aQ fS (pC lj aj) (pv 6)) aw))))))))))
(av (bM (qu (pv 1) (cM (aa aR (aa (xl (pv 15) (aQ cq (pv 6) (oP T.eJ (pv 15)))) aw)))))))
(av (bT (a0 dh (pv 7) aj (bb _))
(av (bM (qu (pv 1) (cM (aa (xl (bS (aa aR (aa aR aw))) (aQ cq (pv 6) aj)) (aa (pv 8) (aa (pv 9) aw)))))))
(ai (jo (i:=16) nd rfl (Or.inl rfl) (tn:=["_law_j"]) (cn:=["_law_rest"]) (cj:=[6]) rfl (iL (zo:=[(".0",.local),("_law_j",.local),("_law_rest",.cell)])) (ja rfl T.my (aa (aQ cq (pv 6) aj) aw)) (fun _ _ _ _=>(eG (i:=0) (show(["_law_j","_law_rest"]:List Str).Nodup by decide +kernel) rfl (Or.inl rfl))) (fun _ _ _ _=>lq) (fun _ _ _ _=>(aQ dk (aQ dk aj (aQ cq (pv 1) aj)) (aQ jD (pv 0) (aQ dk aj (aQ cq (pv 1) aj))))))
(av (bM (qu (pv 1) (cM (aa aR (aa (pv 8) (aa (pv 9) (aa (iw xc (by rfl) T.uC boot_tuple (aa (pv 16) aw)) aw))))))))))))))))))))))))))))
(av (a9 (pv 1)))))))),?_⟩
  refine⟨bq _,fun pm nm=>⟨bq _,fun pb nb=>⟨bq _,fun ph nh=>⟨bq _,fun l6 RM=>?_⟩⟩⟩⟩
  have s1:aF H (upd H pm (.lst [])):=aF.new nm
  have t2:=aF.new (o:= .lst []) nb
  have t3:=aF.new (o:= .lst []) nh
  have t4:=aF.new (o:= .lst []) RM
  have s4:=((s1.trans t2).trans t3).trans t4
  have Wz:H l6=none:=((s1.trans t2).trans t3).free RM
  have g1:=((t2.trans t3).trans t4) _ _ (ag (H:=H) (a:=pm) (o:= .lst []))
  have g2:=(t3.trans t4) _ _ (ag (H:=upd H pm (.lst [])) (a:=pb) (o:= .lst []))
  have g3:=t4 _ _ (ag (H:=upd (upd H pm (.lst [])) pb (.lst [])) (a:=ph) (o:= .lst []))
  have g4:=ag (H:=upd (upd (upd H pm (.lst [])) pb (.lst [])) ph (.lst [])) (a:=l6) (o:= .lst [])
  have e12:pb≠pm:=(aJ ag nb).symm
  have e13:ph≠pm:=(aJ (t2 _ _ ag) nh).symm
  have FR:l6≠pm:=(aJ ((t2.trans t3) _ _ ag) RM).symm
  have e24:pb≠l6:=aJ (t3 _ _ ag) RM
  have e34:ph≠l6:=aJ ag RM
  generalize upd (upd (upd (upd H pm (.lst [])) pb (.lst [])) ph (.lst [])) l6 (.lst [])=H4 at s4 g1 g2 g3 g4 ⊢
  refine⟨_,rfl,a,_,rfl,.inl (s4.seq hS),((cs.map V.int).length:Int),rfl,by lia,by rw[ae]; lia,?_⟩
  rw[cW]
  refine jU (lo:=0) (n:=(cs.map V.int).length) (uv H a pm l6)
   ⟨pb,ph,[],[],[],[],[],none,none,none,none,none,none,none,none,none,none,none,none,rfl,s4,g1,r0,rfl,(fun _ h=>by cases h),g2,aD _,g3,aD _,g4,aD _,e12,e24,e13,e34⟩ ?_ ?_
  ·clear t2 t3 t4 s1 g1 g2 g3 g4 s4 H4 e12 e24 e13 e34 nb nh RM pb ph
   rintro i σ H2 hi ⟨pb,ph,bs,hs,sp,ds,ms,x5,x6,x7,x8,x9,CM,CO,xZ,FQ,AY,C2,AZ,rfl,s2,hM,hR,FV,cE,hb,HA,hh,hhl,y6,aeB,n1,n2,n3,n4⟩
   have Zy:i < cs.length:=by rwa [ae] at hi
   have RN:uz (cs.map V.int) (0 + (i:Int))=some (.int (cs.getD i 0)):=by rw[jT]; exact sR Zy
   have Px:=s2.seq hS
   generalize mN:cs.getD i 0=cell at RN
   refine⟨_,rfl,_,rfl,a,_,_,.int cell,rfl,rfl,Px,RN,_,_,rfl,rfl,⟨by decide,by decide⟩,_,_,rfl,rfl,⟨by decide,by decide,by decide⟩,_,_,rfl,rfl,(by show(0:Int) < _; decide +kernel),?_⟩
   refine⟨_,rfl,_,rfl,a,_,_,.int cell,rfl,rfl,Px,RN,_,rfl,_,_,rfl,rfl,.inl ⟨by decide,by decide⟩,_,_,rfl,rfl,_,_,rfl,rfl,(by show(0:Int) < 16; decide),?_⟩
   refine⟨_,rfl,_,rfl,a,cs,i,(by rw[jT]; rfl),Px,Zy,fun p aH day dS H3 s3 hp lV=>?_⟩
   refine⟨p,_,rfl,cF.of hp,rfl,_,_,rfl,_,_,rfl,_,_,rfl,rfl,?_⟩
   refine⟨_,rfl,_,rfl,_,rfl,_,rfl,a,_,_,.int cell,rfl,rfl,s3.seq Px,RN,_,rfl,pb,bs,aH,cell,_,rfl,bG.of (s3 _ _ hb),by lia,fun bl H4 s4'=>?_⟩
   have KL:=s3.trans s4'
   have s4:=s2.trans KL
   have rV:=KL _ _ hM
   have Nd:=hR.mono KL.tk
   have AJ:=KL _ _ hb
   have IA:=KL _ _ hh
   have oA:=KL _ _ y6
   have hS4:=s4.seq hS
   have Zz:=hS
   have Iy:ms.length<=100:=by have:=hR.length; lia
   clear KL s3 s4' hp hM hR hb hh y6 s2 Px H2 H3
   refine⟨_,rfl,_,_,rfl,rfl,_,rfl,cH (fun c1=>?_) (fun c1=>?_)⟩
   ·
    refine⟨_,rfl,_,rfl,_,rfl,a,cs,i,(by rw[jT]; rfl),hS4,Zy,fun n=>⟨_,_,rfl,rfl,?_⟩⟩
    refine⟨_,rfl,.inl ⟨rfl,_,bG.of rV⟩,_,rfl,_,rfl,_,rfl,_,rfl,(by show 5<=sizeLine; decide),fun p8 n8=>?_⟩
    refine⟨pm,ms,_,rfl,rfl,aF.new n8 _ _ rV,bf (by lia),?_⟩
    obtain⟨k5,s5,wm,h8,Ba,Dv,mG⟩:=N8 (xs:=[V.str "bill",.str aH,.int day,.int (day + n),.int dS]) nm s4 rV n8 n1 n3 FR AJ IA oA
    refine⟨_,rfl,_,rfl,(by show 1<=sizeLine; decide),fun p9 n9=>?_⟩
    have t9:=aF.new (o:= .lst [V.str aH]) n9
    refine⟨_,rfl,_,_,rfl,rfl,_,rfl,cH (fun c=>⟨_,rfl,_,rfl,_,_,rfl,rfl,.inr ⟨_,rfl,?_⟩⟩) (fun c=> .inr ⟨_,rfl,?_⟩)⟩
    all_goals
     refine FT ag (t9 _ _ Ba) (by lia) fun KS UZ n hn ZA IB ZC=>?_
     have tV:=t9.trans ZA
     exact uv.mk' (d:= .dP aH day _ dS) (pb:=KS) Nd FV cE (k5.trans tV.tk) (s5.trans tV) (tV _ _ wm) (eP (tV _ _ h8) (ie (rS _) (ie (rS _) (ie (rI _) (ie (rI _) (ie (rI _) r0)))))) lV ZC (by rw[ax,iW]; lia) (tV _ _ Dv) (by lia) (tV _ _ mG) (by lia) (aJ (t9 _ _ wm) IB).symm (aJ (t9 _ _ mG) IB).symm n3 n4
   refine⟨_,rfl,_,_,rfl,rfl,_,rfl,cH (fun c2=>?_) (fun c2=>?_)⟩
   ·
    refine⟨_,rfl,.inl ⟨rfl,_,bG.of rV⟩,_,rfl,_,rfl,_,rfl,(by show 4<=sizeLine; decide),fun p8 n8=>?_⟩
    refine⟨pm,ms,_,rfl,rfl,aF.new n8 _ _ rV,bf (by lia),?_⟩
    obtain⟨k5,s5,wm,h8,Ba,Dv,mG⟩:=N8 (xs:=[V.str "pay",.str aH,.int day,.int dS]) nm s4 rV n8 n1 n3 FR AJ IA oA
    refine⟨_,rfl,_,rfl,(by show 1<=sizeLine; decide),fun p9 n9=>?_⟩
    have t9:=aF.new (o:= .lst [V.str aH]) n9
    refine⟨_,rfl,_,_,rfl,rfl,.inr ⟨_,rfl,?_⟩⟩
    refine FT ag (t9 _ _ Dv) (by lia) fun KS UZ n hn ZA IB ZC=>?_
    have tV:=t9.trans ZA
    exact uv.mk' (d:= .pF aH day dS) (ph:=KS) Nd FV cE (k5.trans tV.tk) (s5.trans tV) (tV _ _ wm) (eP (tV _ _ h8) (ie (rS _) (ie (rS _) (ie (rI _) (ie (rI _) r0))))) lV (tV _ _ Ba) (by lia) ZC (by rw[ax,iW]; lia) (tV _ _ mG) (by lia) n1 n2 (aJ (t9 _ _ wm) IB).symm (aJ (t9 _ _ mG) IB).symm
   refine⟨_,rfl,rfl,_,rfl,cH (fun c3=>?_) (fun c3=>?_)⟩
   ·
    refine⟨_,rfl,.inl ⟨rfl,_,bG.of rV⟩,_,rfl,_,rfl,_,rfl,(by show 4<=sizeLine; decide),fun p8 n8=>?_⟩
    refine⟨pm,ms,_,rfl,rfl,aF.new n8 _ _ rV,bf (by lia),?_⟩
    obtain⟨k5,s5,wm,h8,Ba,Dv,mG⟩:=N8 (xs:=[V.str "note",.int bl,.int day,.int dS]) nm s4 rV n8 n1 n3 FR AJ IA oA
    have no:=fun(xZ FQ AY C2 AZ x5 x6 x7 x8 x9 CM CO:Option V)=>uv.mk' (a:=a) (x5:=x5) (x6:=x6) (x7:=x7) (x8:=x8) (x9:=x9) (CM:=CM) (CO:=CO) (xZ:=xZ) (FQ:=FQ) (AY:=AY) (C2:=C2) (AZ:=AZ) (d:= .note bl day dS) Nd FV cE k5 s5 wm (eP h8 (ie (rS _) (ie (rI _) (ie (rI _) (ie (rI _) r0))))) lV Ba (by lia) Dv (by lia) mG (by lia) n1 n2 n3 n4
    refine⟨_,rfl,_,_,rfl,rfl,_,rfl,cH (fun d1=>?_) (fun d1=>bX (no ..))⟩
    refine⟨_,rfl,_,rfl,pb,_,rfl,.inl (bG.of Ba),_,_,rfl,rfl,_,rfl,cH (fun d2=>?_) (fun d2=>bX (no ..))⟩
    refine⟨_,rfl,_,_,rfl,rfl,_,rfl,cH (fun d3=>?_) (fun d3=>no ..)⟩
    have TV:0<=bl:=a6 d1
    have YC:bl < ((bs.map V.str).length:Int):=a6 d2
    obtain⟨bn,rfl⟩:=cD TV
    have hbn:bn < bs.length:=by rw[ae] at YC; lia
    refine⟨_,rfl,_,rfl,_,rfl,pb,_,_,.str bs[bn],rfl,rfl,bG.of Ba,cA (by rw[aC,af hbn]; rfl),(by show 1<=sizeLine; decide),fun p9 n9=>?_⟩
    have t9:=aF.new (o:= .lst [V.str bs[bn]]) n9
    refine⟨ph,p9,_,_,rfl,rfl,t9 _ _ Dv,ag,cL (bf (by rw[ae]; show hs.length + 1<=1000; lia)),fun KS IB=>?_⟩
    have tV:=t9.trans (aF.new (o:= .lst (hs.map V.str ++ [V.str bs[bn]])) IB)
    exact uv.mk' (d:= .note (bn:Int) day dS) (ph:=KS) (hs:=hs ++ [bs[bn]]) Nd FV cE (k5.trans tV.tk) (s5.trans tV) (tV _ _ wm) (eP (tV _ _ h8) (ie (rS _) (ie (rI _) (ie (rI _) (ie (rI _) r0))))) lV (tV _ _ Ba) (by lia) (by rw[aL]; exact ag) (by rw[ax]; show hs.length + 1<=_; lia) (tV _ _ mG) (by lia) n1 n2 (aJ (t9 _ _ wm) IB).symm (aJ (t9 _ _ mG) IB).symm
   refine⟨_,rfl,_,_,rfl,rfl,_,rfl,cH (fun c4=>?_) (fun c4=>?_)⟩
   ·
    refine⟨_,rfl,.inl ⟨rfl,_,bG.of oA⟩,_,rfl,l6,_,_,rfl,rfl,oA,bf (by rw[ae]; lia),?_⟩
    obtain⟨k0,s0,Ls,WA,RO,Nf⟩:=UY (x:=0 + (i:Int)) Wz s4 rV n2 n4 FR AJ IA oA
    have hR0:=Nd.mono k0
    have ZD:=s0.seq Zz
    generalize upd H4 l6 (.lst (sp.map V.int ++ [.int (0 + (i:Int))]))=H5 at s0 Ls WA RO Nf hR0 ZD ⊢
    refine⟨fun σ' H'=>aF H5 H'/\ ∃part:Int,σ'=[some (.ref a),some (.ref pm),some (.ref pb),some (.ref ph),some (.ref l6),some (.int (0 + (i:Int))),some (.int (cell / 16 % 10 ^ (60:Int).toNat)),some (.int ((cell + 5 * (0 + (i:Int))) % 16)),some (.str aH),some (.int day),some (.int dS),some (.int bl),xZ,some (.int part),AY,C2,AZ],?_,?_⟩
    ·refine⟨_,rfl,_,rfl,_,_,rfl,rfl,(by show(0:Int) < 3; decide),_,_,rfl,rfl,(by show 2<=sizeLine; decide),fun p9 n9=>?_⟩
     refine⟨_,rfl,_,_,rfl,rfl,_,rfl,cH (fun d=>⟨_,rfl,_,_,rfl,rfl,(by show(0:Int) < 4; decide),_,_,rfl,rfl,.inr ⟨_,rfl,p9,_,_,_,rfl,rfl,bG.of ag,(UX _ _ _).2,?_⟩⟩) (fun d=> .inr ⟨_,rfl,p9,_,_,_,rfl,rfl,bG.of ag,(UX _ _ _).2,?_⟩)⟩
     ·exact⟨aF.new n9,_,rfl⟩
     ·exact⟨aF.new n9,_,rfl⟩
    rintro σ' H6 ⟨ZE,part,rfl⟩
    refine⟨_,rfl,_,rfl,_,rfl,_,rfl,a,_,_,.int cell,rfl,rfl,ZE.seq ZD,RN,_,rfl,_,_,rfl,rfl,ph,hs,aH,cell,_,rfl,bG.of (ZE _ _ RO),by lia,fun cr0 H7 s67=>?_⟩
    have xT:=ZE.trans s67
    refine⟨fun σ' H'=>H'=H7/\ ∃cr:Int,σ'=[some (.ref a),some (.ref pm),some (.ref pb),some (.ref ph),some (.ref l6),some (.int (0 + (i:Int))),some (.int (cell / 16 % 10 ^ (60:Int).toNat)),some (.int ((cell + 5 * (0 + (i:Int))) % 16)),some (.str aH),some (.int day),some (.int dS),some (.int bl),xZ,some (.int part),some (.int cr),C2,AZ],?_,?_⟩
    ·refine⟨_,rfl,_,rfl,a,_,_,.int cell,rfl,rfl,xT.seq ZD,RN,_,_,rfl,rfl,(by show(0:Int) < 41; decide),rfl,_,rfl,cH (fun d=>?_) (fun d=>⟨rfl,_,rfl⟩)⟩
     refine⟨_,rfl,_,_,rfl,rfl,⟨by decide,by decide⟩,_,rfl,ph,_,rfl,.inl (bG.of (xT _ _ RO)),_,_,rfl,rfl,_,_,rfl,rfl,(by show(0:Int) < ((hs.map V.str).length:Int) + 1; lia),?_⟩
     exact⟨rfl,_,rfl⟩
    rintro σ' H' ⟨rfl,cr,rfl⟩
    have HQ:=xT _ _ Ls
    refine⟨_,rfl,.inl ⟨rfl,_,bG.of HQ⟩,_,rfl,_,rfl,_,rfl,(by show 4<=sizeLine; decide),fun p8 n8=>?_⟩
    refine⟨pm,ms,_,rfl,rfl,aF.new n8 _ _ HQ,bf (by lia),?_⟩
    obtain⟨k5,s5,wm,h8,Ba,Dv,mG⟩:=N8 (xs:=[V.str "set",.int cr,.int bl,.int part]) nm (s0.trans xT) HQ n8 n1 n3 FR (xT _ _ WA) (xT _ _ RO) (xT _ _ Nf)
    exact uv.mk' (d:= .set cr bl part) (hR0.mono xT.tk) FV cE k5 s5 wm (eP h8 (ie (rS _) (ie (rI _) (ie (rI _) (ie (rI _) r0))))) trivial Ba (by lia) Dv (by lia) mG (by rw[ax]; show sp.length + 1<=_; lia) n1 n2 n3 n4
   refine⟨_,rfl,_,_,rfl,rfl,_,rfl,cH (fun c5=>?_) (fun c5=>?_)⟩
   ·
    refine⟨_,rfl,.inl ⟨rfl,_,bG.of oA⟩,_,rfl,l6,_,_,rfl,rfl,oA,bf (by rw[ae]; lia),?_⟩
    obtain⟨k0,s0,Ls,WA,RO,Nf⟩:=UY (x:=0 + (i:Int)) Wz s4 rV n2 n4 FR AJ IA oA
    refine⟨_,rfl,.inl ⟨rfl,_,bG.of Ls⟩,_,rfl,(by show 2<=sizeLine; decide),fun p8 n8=>?_⟩
    refine⟨pm,ms,_,rfl,rfl,aF.new n8 _ _ Ls,bf (by lia),?_⟩
    obtain⟨k5,s5,wm,h8,Ba,Dv,mG⟩:=N8 (xs:=[V.str "sweep",.str aH]) nm s0 Ls n8 n1 n3 FR WA RO Nf
    exact uv.mk' (d:= .bU aH) (Nd.mono k0) FV cE k5 s5 wm (eP h8 (ie (rS _) (ie (rS _) r0))) trivial Ba (by lia) Dv (by lia) mG (by rw[ax]; show sp.length + 1<=_; lia) n1 n2 n3 n4
   refine⟨_,rfl,rfl,_,rfl,cH (fun c6=>?_) (fun c6=>?_)⟩
   ·
    refine⟨_,rfl,_,rfl,_,rfl,_,_,rfl,rfl,⟨by decide,by decide,by decide⟩,_,rfl,_,_,rfl,rfl,_,rfl,_,_,rfl,rfl,⟨by decide,by decide⟩,_,rfl,_,_,rfl,rfl,_,_,rfl,rfl,(by show(0:Int) < 0 + (i:Int) + 1; lia),_,rfl,_,rfl,_,_,rfl,rfl,(by show 7<=sizeLine; decide),fun p9 n9=>?_⟩
    refine⟨l6,p9,_,_,rfl,rfl,aF.new n9 _ _ oA,ag,cL (bf (by rw[ae]; show sp.length + 7<=1000; lia)),fun RL Zx=>?_⟩
    have Cy:=(aF.new (o:= .lst [V.int (0 + (i:Int)),.int (-1),.int (10 ^ (9:Int).toNat),.int 0,.int (0 + (i:Int) - 1),.int ((cell / 16 % 10 ^ (60:Int).toNat) / 3 % (0 + (i:Int) + 1)),.int (-2 - (cell / 16 % 10 ^ (60:Int).toNat))]) n9).trans (aF.new (o:= .lst (sp.map V.int ++ [V.int (0 + (i:Int)),.int (-1),.int (10 ^ (9:Int).toNat),.int 0,.int (0 + (i:Int) - 1),.int ((cell / 16 % 10 ^ (60:Int).toNat) / 3 % (0 + (i:Int) + 1)),.int (-2 - (cell / 16 % 10 ^ (60:Int).toNat))])) Zx)
    have U0:=ag (H:=upd H4 p9 (.lst [V.int (0 + (i:Int)),.int (-1),.int (10 ^ (9:Int).toNat),.int 0,.int (0 + (i:Int) - 1),.int ((cell / 16 % 10 ^ (60:Int).toNat) / 3 % (0 + (i:Int) + 1)),.int (-2 - (cell / 16 % 10 ^ (60:Int).toNat))])) (a:=RL) (o:= .lst (sp.map V.int ++ [V.int (0 + (i:Int)),.int (-1),.int (10 ^ (9:Int).toNat),.int 0,.int (0 + (i:Int) - 1),.int ((cell / 16 % 10 ^ (60:Int).toNat) / 3 % (0 + (i:Int) + 1)),.int (-2 - (cell / 16 % 10 ^ (60:Int).toNat))]))
    generalize upd (upd H4 p9 (.lst [V.int (0 + (i:Int)),.int (-1),.int (10 ^ (9:Int).toNat),.int 0,.int (0 + (i:Int) - 1),.int ((cell / 16 % 10 ^ (60:Int).toNat) / 3 % (0 + (i:Int) + 1)),.int (-2 - (cell / 16 % 10 ^ (60:Int).toNat))])) RL (.lst (sp.map V.int ++ [V.int (0 + (i:Int)),.int (-1),.int (10 ^ (9:Int).toNat),.int 0,.int (0 + (i:Int) - 1),.int ((cell / 16 % 10 ^ (60:Int).toNat) / 3 % (0 + (i:Int) + 1)),.int (-2 - (cell / 16 % 10 ^ (60:Int).toNat))]))=H5 at Cy U0 ⊢
    have U1:sp.map V.int ++ [V.int (0 + (i:Int)),.int (-1),.int (10 ^ (9:Int).toNat),.int 0,.int (0 + (i:Int) - 1),.int ((cell / 16 % 10 ^ (60:Int).toNat) / 3 % (0 + (i:Int) + 1)),.int (-2 - (cell / 16 % 10 ^ (60:Int).toNat))]=(sp ++ [0 + (i:Int),-1,10 ^ (9:Int).toNat,0,0 + (i:Int) - 1,(cell / 16 % 10 ^ (60:Int).toNat) / 3 % (0 + (i:Int) + 1),-2 - (cell / 16 % 10 ^ (60:Int).toNat)]).map V.int:=by rw[aL]; rfl
    rw[U1] at U0
    generalize SV:sp ++ [0 + (i:Int),-1,10 ^ (9:Int).toNat,0,0 + (i:Int) - 1,(cell / 16 % 10 ^ (60:Int).toNat) / 3 % (0 + (i:Int) + 1),-2 - (cell / 16 % 10 ^ (60:Int).toNat)]=mn at U0
    have aeF:0 < mn.length:=by rw[← SV,ax]; show 0 < sp.length + 7; lia
    have hmp:0 < ((mn.map V.int).length:Int):=by rw[ae]; lia
    obtain⟨y,_,hy⟩:=k4 (g:=V.int) (xs:=mn) (m:=((mn.map V.int).length:Int)) (x:=(cell / 16 % 10 ^ (60:Int).toNat)) (by rw[ae]) hmp
    have QF:=Cy _ _ rV
    refine⟨_,rfl,.inl ⟨rfl,_,bG.of QF⟩,_,rfl,_,rfl,_,rfl,RL,_,rfl,.inl (bG.of U0),_,_,rfl,rfl,hmp,RL,_,_,.int y,rfl,rfl,bG.of U0,hy,(by show 2<=sizeLine; decide),fun p8 n8=>?_⟩
    refine⟨pm,ms,_,rfl,rfl,aF.new n8 _ _ QF,bf (by lia),?_⟩
    obtain⟨k5,s5,wm,h8,Ba,Dv,mG⟩:=N8 (xs:=[V.str "undo",.int y]) nm (s4.trans Cy) QF n8 n1 n3 FR (Cy _ _ AJ) (Cy _ _ IA) (Cy _ _ oA)
    exact uv.mk' (d:= .iC y) (Nd.mono Cy.tk) FV cE k5 s5 wm (eP h8 (ie (rS _) (ie (rI _) r0))) trivial Ba (by lia) Dv (by lia) mG (by lia) n1 n2 n3 n4
   refine⟨_,rfl,rfl,_,rfl,cH (fun c7=>?_) (fun c7=>?_)⟩
   ·
    refine⟨_,rfl,.inl ⟨rfl,_,bG.of rV⟩,(by show 2<=sizeLine; decide),fun p9 n9=>?_⟩
    have t9:=aF.new (o:= .lst [V.str "owed",.str "free"]) n9
    obtain⟨y,Yx,hy⟩:=k4 (g:=fun o:Bool=>V.str (if o then "owed" else "free")) (xs:=[true,false]) (m:=2) (x:=(cell / 16 % 10 ^ (60:Int).toNat)) rfl (by decide)
    refine⟨_,rfl,_,_,rfl,rfl,(by show(0:Int) < 2; decide),p9,_,_,_,rfl,rfl,bG.of ag,hy,_,rfl,_,rfl,(by show 3<=sizeLine; decide),fun p8 n8=>?_⟩
    have hM9:=t9 _ _ rV
    refine⟨pm,ms,_,rfl,rfl,aF.new n8 _ _ hM9,bf (by lia),?_⟩
    obtain⟨k5,s5,wm,h8,Ba,Dv,mG⟩:=N8 (xs:=[V.str (if y then "owed" else "free"),.str aH,.int day]) nm (s4.trans t9) hM9 n8 n1 n3 FR (t9 _ _ AJ) (t9 _ _ IA) (t9 _ _ oA)
    exact uv.mk' (d:= .ask y aH day) (Nd.mono t9.tk) FV cE k5 s5 wm (eP h8 (ie (rS _) (ie (rS _) (ie (rI _) r0)))) trivial Ba (by lia) Dv (by lia) mG (by lia) n1 n2 n3 n4
   ·
    obtain⟨RP,ZF,aeG⟩:=z5 (cell / 16 % 10 ^ (60:Int).toNat) 12 (by decide)
    refine⟨_,rfl,_,_,rfl,rfl,(by show(0:Int) < 12; decide),_,rfl,md (by decide) (kI _ (by decide)),Int.lt_trans (qK _ (by decide)) (by decide),?_⟩
    show yu (NA 0 ((cell / 16 % 10 ^ (60:Int).toNat) % 12).toNat) _ _ _ _ _ _
    rw[ZF,cW]
    refine DR (lo:=0) (n:=RP) (fun D j σ H6=>H4 D=none/\ ∃v,σ=[v,some (.int (cell / 16 % 10 ^ (60:Int).toNat))]/\aF H4 H6/\H6 D=some (.lst ((dj (cell / 16 % 10 ^ (60:Int).toNat) j).map V.int))) (fun D hD=>⟨hD,none,rfl,aF.new hD,ag⟩) ?_ ?_
    ·rintro D j σ H6 hj ⟨hD,v,rfl,t3,hl⟩
     refine⟨_,rfl,_,_,rfl,rfl,(by show(0:Int) < 9; decide),_,_,rfl,rfl,_,rfl,_,rfl,_,_,rfl,rfl,(by show(0:Int) < 30; decide),_,_,rfl,rfl,_,_,rfl,rfl,.inl ⟨by lia,by lia⟩,_,_,rfl,rfl,?_⟩
     refine⟨_,hl,bf (by rw[ae,C3]; lia),hD,_,rfl,t3.dr hD,?_⟩
     rw[ag]
     unfold dj
     rw[wW,aL,aL]; rfl
    ·rintro D σ H6 _ ⟨hD,v,rfl,t3,hl⟩
     have Kp:=t3 _ _ rV
     refine⟨_,rfl,.inl ⟨rfl,_,bG.of Kp⟩,_,rfl,_,rfl,_,rfl,D,_,rfl,.inl ⟨bG.of hl,fun pt npt=>?_⟩⟩
     have t7:=t3.trans (aF.new (o:= .tup ((dj (cell / 16 % 10 ^ (60:Int).toNat) RP).map V.int)) npt)
     have g7:=ag (H:=H6) (a:=pt) (o:= .tup ((dj (cell / 16 % 10 ^ (60:Int).toNat) RP).map V.int))
     generalize upd H6 pt (.tup ((dj (cell / 16 % 10 ^ (60:Int).toNat) RP).map V.int))=H7 at t7 g7 ⊢
     refine⟨(by show 4<=sizeLine; decide),fun p8 n8=>?_⟩
     have HQ:=t7 _ _ rV
     refine⟨pm,ms,_,rfl,rfl,aF.new n8 _ _ HQ,bf (by lia),?_⟩
     obtain⟨k5,s5,wm,h8,Ba,Dv,mG⟩:=N8 (xs:=[V.str "ages",.str aH,.int day,.ref pt]) nm (s4.trans t7) HQ n8 n1 n3 FR (t7 _ _ AJ) (t7 _ _ IA) (t7 _ _ oA)
     exact uv.mk' (d:= .il aH day (dj (cell / 16 % 10 ^ (60:Int).toNat) RP)) (Nd.mono t7.tk) FV cE k5 s5 wm (eP h8 (ie (rS _) (ie (rS _) (ie (rI _) (ie (eP (k5 _ _ g7) (g9.ints _)) r0))))) (Nc (cell / 16 % 10 ^ (60:Int).toNat) RP (by lia)) Ba (by lia) Dv (by lia) mG (by lia) n1 n2 n3 n4
  ·rintro σ H2 ⟨pb,ph,bs,hs,sp,ds,ms,x5,x6,x7,x8,x9,CM,CO,xZ,FQ,AY,C2,AZ,rfl,s2,hM,hR,FV,cE,_⟩
   rw[ae] at FV
   refine⟨_,rfl,?_⟩
   exact k pm ds ms H2 s2 hM hR FV cE
theorem lZ.rp {H:Hp}{ok:Addr->Prop}{a:mO}{v:V}(h:lZ H ok a v):Rp H a.dt v:=by
 cases a with
 |int i=>exact dD.mpr h
 |txt s=>exact fv.mpr h
 |sets l=>
  obtain⟨D,ms,rfl,_,z,t⟩:=h
  exact fk z (iz.Lm t)
 |pairs l=>
  obtain⟨D,ms,rfl,_,z,t⟩:=h
  exact fk z (eR.Lm t)
 |«ints» l=>
  obtain⟨D,rfl,_,z⟩:=h
  exact fk z (CC l)
theorem l7 {α:Type}(f:α->Dt)(n:Nat): ∀l:List α,(∀x∈l,(f x).size<=n)->Dt.fI (l.map f)<=l.length * n
 |[],_=>bq _
 |x :: l,h=>by
  have h1:=l7 f n l fun y hy=>h y (aI _ hy)
  have h2:=h x aS
  rw[cO,bO,wU]
  show(f x).size + Dt.fI (l.map f)<=_
  lia
theorem mH {α:Type}(f:α->Dt)(l:List α)(h: ∀x∈l,(f x).plain=true):Dt.nJ (l.map f)=true:=by
 rw[Dt.ql]
 intro d hd
 obtain⟨x,hx,rfl⟩:=bJ.mp hd
 exact h x hx
theorem Ie {H:Hp}{pd:Addr}{d:bg}(h:tf H pd d): ∃r,H pd=some (.tup (.str (bg.word d) :: r)):=by
 cases d with
 |il w dy l=>
  obtain⟨pl,h1,_⟩:=h
  exact⟨_,h1⟩
 |_=>exact⟨_,h⟩
theorem yW (d:bg):xa (.str (bg.word d)) [.str "bill",.str "pay",.str "note",.str "set",.str "sweep"]=d.tells:=by
 cases d with
 |dP _ _ _ _=>show xa (.str "bill") _ =true; decide +kernel
 |pF _ _ _=>show xa (.str "pay") _ =true; decide +kernel
 |note _ _ _=>show xa (.str "note") _ =true; decide +kernel
 |set _ _ _=>show xa (.str "set") _ =true; decide +kernel
 |bU _=>show xa (.str "sweep") _ =true; decide +kernel
 |iC _=>show xa (.str "undo") _ =false; decide +kernel
 |ask o _ _=>
  cases o
  ·show xa (.str "free") _ =false; decide +kernel
  ·show xa (.str "owed") _ =false; decide +kernel
 |il _ _ _=>show xa (.str "ages") _ =false; decide +kernel
theorem Ng (xs:List V)(a b:Nat)(h:a<=b):(mW xs (some (a:Int)) (some (b:Int))).length<=b - a:=by
 unfold mW
 rw[HT.oJ,HT.oJ,ba]
 lia
theorem Nh (ns:List Int)(lo hi:Option Int): ∃cs:List Int,mW (ns.map V.int) lo hi=cs.map V.int:=by
 unfold mW
 rw[← List.map_drop,← List.map_take]
 exact⟨_,rfl⟩
theorem KU {H:Hp}{ok:Addr->Prop}: ∀{as:List mO} {ws:List V},Paired (lZ H ok) as ws->g9 H (as.map mO.dt) ws
 |_,_,.nil=>cv.mpr rfl
 |_,_,.cons h t=>br.mpr ⟨_,_,rfl,h.rp,KU t⟩
theorem KW {H:Hp}{tb:Addr}{pos:Pos}{qual:Str}(h:H tb=some (.ng #[])):Tb H tb pos qual:=⟨#[],h,True.intro,.inl rfl⟩
def KY (K:Frag)(cps:List (Addr×Addr)):Sp:=fun vs H Q _=> ∃(a:Addr) (ns:List Int),vs=[.ref a]/\bG K H a (ns.map V.int)/\ns.length<=63/\(∀cp∈cps,H cp.2=some (.ng #[]))/\ ∀H',Q (.bl true) H'
theorem FW {H:Hp}{sd p:Addr}{S:Bk}{f:fP}{ws:List V}{o:HO}(h:dA H sd S f)(e:H p=some (.lst ws))(n:p∉f.fp):dA (upd H p o) sd S f:=
 h.keep (fun b u hb z=>by
  have nb:b≠p:=by
   rcases hb with hb|hb
   ·rw[hb]
    exact mM h.dict e (by intro q; cases q)
   ·exact fun q=>n (q▸hb)
  rw[az nb]
  exact z) (dY e)
inductive KZ (vs:List V)(H:Hp)(Q:VK)(E':XK):Prop
 |mk (pa:Addr)(ds:List bg)(ms:List V)(h1:vs=[.ref pa])(h2:H pa=some (.lst ms))(h3:eI H ds ms)(h4:ds.length<=59)(h5:(∀d∈ds,d.ok))(h6: ∀(t:Addr) (v:V) (ps sd:Addr) (us:List V) (f:fP) (H':Hp),aF H H'->H' t=some (.tup [v,.ref ps,.ref sd])->H' ps=some (.lst us)->gY H' (dQ ds hV.new 0).2.steps us->dA H' sd (dQ ds hV.new 0).2.bk f->(∀x∈f.fp,H x=none)->ps∉f.fp->Good (dQ ds hV.new 0).2 ds.length->Q (.ref t) H'):KZ vs H Q E'
theorem jw:aU ["_law_asked","_law_steps","_law_state","_law_due","_law_number","_law_deed","_law_answer"] ["_law_asked"] (aA (top 63)):={}
theorem pz (T:Txt K mg):fC P w K mg base "_law_gone_through" 6 ["_law_asked"] KZ:=by
 have mD:=rJ (P:=P) (w:=w) (base:=base) T
 have A1:=Ak (P:=P) (w:=w) (base:=base) T
 have C4:=Cz (P:=P) (w:=w) (base:=base) T
 refine T.o9.fV (k:=5) jw (fun f cY A outer s H vs Q E hr h=>?_)
 ·obtain⟨pa,ds,ms,rfl,M5,KO,FV,cE,k⟩:=h
  have nd:=jw.nd
  have Iy:=eI.length KO
  refine⟨_,(ai (sv 1 nd (bS aw))
(ai (sv 2 nd (Jk mD (hr.mono (by decide)) rfl))
(ai (sv 3 nd (bS aw))
(ai (eN bB rfl (ja rfl T.my (aa (oP T.eJ (pv 0)) aw)) (gn 4 nd)
(ai (sv 5 nd (xl (pv 0) (pv 4)))
(ai (sv 6 nd aR)
(jN (bT (PW.pt (pw_or (fR (fc A1 hr (aa (pv 5) aw))) (pw_or1 (a0 dh (xt (pv 5) aj) aR (bb _)))))
(av (nv (fc C4 hr (aa (pv 1) (aa (pv 2) (aa (pv 4) (aa (pv 5) aw))))) (iH rfl (bW (gn 6 nd) (bW (gn 1 nd) (bW (gn 2 nd) gy))))))
bp)
(av (bM (qu (pv 3) (pv 6))))))))
(av (a9 (cM (aa (pv 3) (aa (pv 1) (aa (pv 2) aw)))))))))),?_⟩
  refine⟨bq _,fun ps Ey=>?_⟩
  have s6:=aF.new (o:= .lst []) Ey
  have QG:upd H ps (.lst []) ps=some (.lst []):=ag
  generalize upd H ps (.lst [])=H6 at s6 QG
  refine⟨rfl,fun sd g H7 s7 U2 Mw nf=>?_⟩
  have U3:=s7 _ _ QG
  have xT:=s6.trans s7
  have ZG:ps∉g.fp:=fun z=>by
   have:=nf _ z
   rw[QG] at this
   cases this
  have nf5: ∀b∈g.fp,H b=none:=fun b hb=>s6.free (nf b hb)
  refine⟨bq _,fun pu WB=>?_⟩
  have s8:=aF.new (o:= .lst []) WB
  have U4:upd H7 pu (.lst []) pu=some (.lst []):=ag
  have U5:=s8 _ _ U3
  have EK:=U2.same s8
  have ZH:pu∉g.fp:=U2.off WB
  have ZI:pu≠ps:=(aJ U3 WB).symm
  have ZJ:=xT.trans s8
  have ZK:H pu=none:=xT.free WB
  generalize upd H7 pu (.lst [])=H8 at s8 U4 U5 EK ZJ
  refine⟨_,rfl,pa,_,rfl,.inl (bG.of (ZJ _ _ M5)),(ms.length:Int),rfl,by lia,by lia,?_⟩
  rw[cW]
  refine jU (lo:=0) (n:=ms.length) (fun i σ H2=> ∃(ps sd:Addr) (us ws:List V) (f:fP) (x4 x5 x6:Option V),σ=[some (.ref pa),some (.ref ps),some (.ref sd),some (.ref pu),x4,x5,x6]/\aF H H2/\H2 ps=some (.lst us)/\gY H2 (dQ (ds.take i) hV.new 0).2.steps us/\dA H2 sd (dQ (ds.take i) hV.new 0).2.bk f/\(∀x∈f.fp,H x=none)/\ps∉f.fp/\Good (dQ (ds.take i) hV.new 0).2 i/\H2 pu=some (.lst ws)/\ws.length=i/\pu∉f.fp/\pu≠ps)
   ⟨ps,sd,[],[],g,none,none,none,rfl,ZJ,U5,.nil,EK,nf5,ZG,Good.new,U4,rfl,ZH,ZI⟩ ?_ ?_
  ·rintro i σ H2 hi ⟨ps,sd,us,ws,f,x4,x5,x6,rfl,s2,ni,QH,hB,N9,Ey,hG,hpu,yr,Lr,ZL⟩
   rw[jT]
   have zt:i < ds.length:=by lia
   have qM:=af zt
   obtain⟨v0,X1,Ur⟩:=eI.get KO qM
   obtain⟨pd,rfl,hd5⟩:=FN Ur
   have hd:=hd5.mono s2.tk
   have Na:=cE _ (bH zt)
   have Wx:=yV zt
   have pM:Good (dz (dQ (ds.take i) hV.new 0).2 (i:Int) ds[i]).2 (i + 1):=hG.step ds[i]
   rw[Wx]
   generalize ds[i]=d at hd Na pM
   generalize (dQ (ds.take i) hV.new 0).2=TT at QH hB hG pM
   clear Wx Ur hd5 qM
   refine⟨_,rfl,_,rfl,pa,_,_,.ref pd,rfl,rfl,bG.of (s2 _ _ M5),cA X1,?_⟩
   refine⟨fun σ' H'=> ∃(v:V) (v8 Dq:Addr) (Al:List V) (f':fP),σ'=[some (.ref pa),some (.ref v8),some (.ref Dq),some (.ref pu),some (.int (i:Int)),some (.ref pd),some v]/\aF H H'/\H' v8=some (.lst Al)/\gY H' (dz TT i d).2.steps Al/\dA H' Dq (dz TT i d).2.bk f'/\(∀x∈f'.fp,H x=none)/\v8∉f'.fp/\H' pu=some (.lst ws)/\pu∉f'.fp/\pu≠v8,?_,?_⟩
   ·obtain⟨r,hdw⟩:=Ie hd
    refine⟨_,rfl,pd,bg.word d,r,rfl,hdw,fun H3 s3=>⟨_,rfl,?_⟩⟩
    have NZ:=hd.mono s3.tk
    have ZM:=s3 _ _ hdw
    have HE:=s3 _ _ ni
    have Ni:gY H3 TT.steps us:=QH.mono s3.tk
    have KQ:=hB.same s3
    have WC:=s2.trans s3
    have K0:=s3 _ _ hpu
    have Oa: ∀(R:VK),(∀t v v8 Dq Al f' H',H' t=some (.tup [v,.ref v8,.ref Dq])->aF H H'->H' v8=some (.lst Al)->gY H' (dz TT i d).2.steps Al->dA H' Dq (dz TT i d).2.bk f'->(∀x∈f'.fp,H x=none)->v8∉f'.fp->H' pu=some (.lst ws)->pu∉f'.fp->pu≠v8->R (.ref t) H')->NY R H3 ps f (dz TT i d):=fun R h t v v8 Dq f' Al H' ht hv hp hS hb fr fi np nq=>
     h t v v8 Dq Al f' H' ht (fr.same WC N9) hp hS hb (fun x hx=>(fi x hx).elim (N9 x) fun z=>WC.free z) np (fr _ _ Lr K0) (fun z=>(fi pu z).elim Lr fun q=>by rw[K0] at q; cases q) (fun z=>ZL (z.trans (nq pu _ Lr K0 z.symm)))
    by_cases ht:d.tells=true
    ·rw[yW,ht]
     have Gp:H3 pd=some (.tup (bg.vs d)):=by cases d <;> first|exact NZ|cases ht
     refine fU (fU ⟨_,rfl,_,rfl,_,rfl,_,rfl,ps,sd,pd,i,TT,us,f,d,rfl,HE,Ni,KQ,Ey,Gp,.inl ht,hG,(by lia),Oa _ fun t v v8 Dq Al f' H' ht L5 hp hS hb hn ZN u1 u2 u3=>?_⟩)
     refine⟨t,_,rfl,cF.of ht,rfl,_,_,rfl,_,_,rfl,_,_,rfl,rfl,?_⟩
     exact⟨v,v8,Dq,Al,f',rfl,L5,hp,hS,hb,hn,ZN,u1,u2,u3⟩
    ·rw[yW,Bool.eq_false_iff.mpr ht]
     refine bX ⟨_,rfl,pd,_,_,.str (bg.word d),rfl,rfl,cF.of ZM,KD _ _,rfl,?_⟩
     cases d with
     |dP _ _ _ _=>exact absurd rfl ht
     |pF _ _ _=>exact absurd rfl ht
     |note _ _ _=>exact absurd rfl ht
     |set _ _ _=>exact absurd rfl ht
     |bU _=>exact absurd rfl ht
     |iC m=>
      refine⟨true,A8 _,fU ⟨_,rfl,_,rfl,_,rfl,_,rfl,ps,sd,pd,i,TT,us,f,.iC m,rfl,HE,Ni,KQ,Ey,NZ,.inr ⟨m,rfl⟩,hG,(by lia),Oa _ fun t v v8 Dq Al f' H' ht L5 hp hS hb hn ZN u1 u2 u3=>?_⟩⟩
      refine⟨t,_,rfl,cF.of ht,rfl,_,_,rfl,_,_,rfl,_,_,rfl,rfl,?_⟩
      exact⟨v,v8,Dq,Al,f',rfl,L5,hp,hS,hb,hn,ZN,u1,u2,u3⟩
     |ask o wh dy=>
      refine⟨false,jQ (by cases o; exact(show("free":Str)≠"undo" by decide +kernel); exact(show("owed":Str)≠"undo" by decide +kernel)),bX ?_⟩
      exact⟨_,ps,sd,us,f,rfl,WC,HE,Ni,KQ,N9,Ey,K0,Lr,ZL⟩
     |il wh dy dj=>
      refine⟨false,jQ (show("ages":Str)≠"undo" by decide +kernel),bX ?_⟩
      exact⟨_,ps,sd,us,f,rfl,WC,HE,Ni,KQ,N9,Ey,K0,Lr,ZL⟩
   ·rintro σ' H' ⟨v,v8,Dq,Al,f',rfl,s',NV,Zz,U6,ZO,ZP,u1,u2,u3⟩
    refine⟨_,rfl,.inl ⟨rfl,_,bG.of u1⟩,_,rfl,pu,ws,v,rfl,rfl,u1,bf (by lia),?_⟩
    exact⟨v8,Dq,Al,ws ++ [v],f',_,_,_,rfl,s'.dr ZK,by rw[az u3.symm]; exact NV,Zz.mono (dY u1),FW U6 u1 u2,ZO,ZP,pM,ag,by rw[ax,yr]; rfl,u2,u3⟩
  ·rintro σ H2 ⟨ps,sd,us,ws,f,x4,x5,x6,rfl,s2,ni,QH,hB,N9,Ey,hG,hpu,_⟩
   rw[← Iy,aZ] at QH hB hG
   refine⟨_,rfl,_,rfl,_,rfl,(by show 3<=sizeLine; decide),fun t nt=>?_⟩
   have s9:=aF.new (o:= .tup [V.ref pu,.ref ps,.ref sd]) nt
   exact k t _ ps sd us f _ (s2.trans s9) ag (s9 _ _ ni) (QH.mono s9.tk) (hB.same s9) N9 Ey hG
end
end eZ
namespace L2
open PySem
def C5 (ms:List (Nat×Nat×Int))(k:Nat):Int:=((ms.filter fun t=>decide (t.2.1=k)).map (·.2.2)).sum
def C6 (ms:List (Nat×Nat×Int))(k:Nat):Int:=((ms.filter fun t=>decide (t.1=k)).map (·.2.2)).sum
theorem Ig (ms:List (Nat×Nat×Int))(t:Nat×Nat×Int)(k:Nat):C5 (ms ++ [t]) k=C5 ms k + if t.2.1=k then t.2.2 else 0:=by
 unfold C5
 rw[gw,aL,Ly]
 by_cases h:t.2.1=k <;> simp[h]
theorem Ih (ms:List (Nat×Nat×Int))(t:Nat×Nat×Int)(k:Nat):C6 (ms ++ [t]) k=C6 ms k + if t.1=k then t.2.2 else 0:=by
 unfold C6
 rw[gw,aL,Ly]
 by_cases h:t.1=k <;> simp[h]
theorem Ij {ms:List (Nat×Nat×Int)}{k:Nat}(h: ∀t∈ms,t.2.1≠k):C5 ms k=0:=by
 unfold C5
 rw[List.filter_eq_nil_iff.mpr fun t ht=>by simp[h t ht]]
 rfl
theorem Ik {ms:List (Nat×Nat×Int)}{k:Nat}(h: ∀t∈ms,t.1≠k):C6 ms k=0:=by
 unfold C6
 rw[List.filter_eq_nil_iff.mpr fun t ht=>by simp[h t ht]]
 rfl
structure Acc (S:Bk):Prop where
 m: ∀t∈S.made,t.1 < S.credits.length/\t.2.1 < S.aE.length/\1<=t.2.2/\S.df t.1 t.2.1=true
 b: ∀k,k < S.aE.length->(S.bl k).d=(S.bl k).c - C5 S.made k/\0<=(S.bl k).d
 c: ∀k,k < S.credits.length->(S.cr k).d=(S.cr k).b - C6 S.made k/\0<=(S.cr k).d
theorem Acc.new:Acc Bk.new:=⟨(fun _ h=>by cases h),fun _ h=>absurd h (eA _),fun _ h=>absurd h (eA _)⟩
theorem Acc.iD {S:Bk}(h:Acc S){r:Rw}(e:r.d=r.c)(p:0<=r.d):Acc (S.iD r):=by
 have len:(S.iD r).aE.length=S.aE.length + 1:=by simp[Bk.iD]
 have old: ∀k,k < S.aE.length->(S.iD r).bl k=S.bl k:=fun k hk=>getD_snoc hk
 refine⟨fun t ht=>?_,fun k hk=>?_,h.c⟩
 ·obtain⟨a,b,c,d⟩:=h.m t ht
  refine⟨a,by rw[len]; lia,c,?_⟩
  rw[← d]
  unfold Bk.df
  rw[old _ b]
  rfl
 ·by_cases q:k < S.aE.length
  ·rw[old k q]
   exact h.b k q
  ·have q':k=S.aE.length:=by lia
   have e2:(S.iD r).bl k=r:=by rw[q']; exact getD_last
   rw[e2,show(S.iD r).made=S.made from rfl,Ij fun t ht=>by have:=(h.m t ht).2.1; lia]
   lia
theorem Acc.f7 {S:Bk}(h:Acc S){r:Rw}(e:r.d=r.b)(p:0<=r.d):Acc (S.f7 r):=by
 have len:(S.f7 r).credits.length=S.credits.length + 1:=by simp[Bk.f7]
 have old: ∀k,k < S.credits.length->(S.f7 r).cr k=S.cr k:=fun k hk=>getD_snoc hk
 refine⟨fun t ht=>?_,h.b,fun k hk=>?_⟩
 ·obtain⟨a,b,c,d⟩:=h.m t ht
  refine⟨by rw[len]; lia,b,c,?_⟩
  rw[← d]
  unfold Bk.df
  rw[old _ a]
  rfl
 ·by_cases q:k < S.credits.length
  ·rw[old k q]
   exact h.c k q
  ·have q':k=S.credits.length:=by lia
   have e2:(S.f7 r).cr k=r:=by rw[q']; exact getD_last
   rw[e2,show(S.f7 r).made=S.made from rfl,Ik fun t ht=>by have:=(h.m t ht).1; lia]
   lia
theorem Acc.put {S:Bk}(h:Acc S){c b:Nat}{x:Int}(hc:c < S.credits.length)(hb:b < S.aE.length)(hx:1<=x)(x1:x<=(S.cr c).d)(x2:x<=(S.bl b).d)(hg:S.df c b=true):Acc (S.put c b x):=by
 have L:Later S (S.put c b x):=Later.put hb hc (by lia)
 refine⟨fun t ht=>?_,fun k hk=>?_,fun k hk=>?_⟩
 ·rw[L.cl,L.bl,L.df]
  rcases bc.mp (show t∈S.made ++ [(c,b,x)] from ht) with ht|ht
  ·exact h.m t ht
  ·rw[ao.mp ht]
   exact⟨hc,hb,hx,hg⟩
 ·rw[L.bl] at hk
  rw[show(S.put c b x).made=S.made ++ [(c,b,x)] from rfl,Ig,lu hb]
  have:=h.b k hk
  by_cases e:k=b
  ·subst e
   rw[aY rfl,aY rfl]
   show(S.bl k).d - x=(S.bl k).c - (C5 S.made k + x)/\0<=(S.bl k).d - x
   lia
  ·rw[aN e,aN (fun z=>e z.symm)]
   lia
 ·rw[L.cl] at hk
  rw[show(S.put c b x).made=S.made ++ [(c,b,x)] from rfl,Ih,nL hc]
  have:=h.c k hk
  by_cases e:k=c
  ·subst e
   rw[aY rfl,aY rfl]
   show(S.cr k).d - x=(S.cr k).b - (C6 S.made k + x)/\0<=(S.cr k).d - x
   lia
  ·rw[aN e,aN (fun z=>e z.symm)]
   lia
theorem tq {ex:Bool}{c:Nat}: ∀{l:List Nat} {S:Bk},l.Nodup->Acc S->c < S.credits.length->(∀b∈l,b < S.aE.length/\0 < (S.bl b).d)->Acc (l.foldl (bu ex c) S)/\(l.foldl (bu ex c) S).credits.length=S.credits.length/\(l.foldl (bu ex c) S).aE.length=S.aE.length
 |[],S,_,h,_,_=>⟨h,rfl,rfl⟩
 |b :: l,S,nd,h,hc,hl=>by
  rw[cB]
  rw[dN] at nd
  obtain⟨hb,pb⟩:=hl b aS
  by_cases q:0 < (S.cr c).d/\S.df c b=true/\((S.cr c).d=(S.bl b).d∨ex=false)
  ·have e:bu ex c S b=S.put c b (eW (S.cr c).d (S.bl b).d):=aY q
   rw[e]
   have mn:1<=eW (S.cr c).d (S.bl b).d/\eW (S.cr c).d (S.bl b).d<=(S.cr c).d/\eW (S.cr c).d (S.bl b).d<=(S.bl b).d:=by
    unfold eW
    split <;> lia
   have L:Later S (S.put c b (eW (S.cr c).d (S.bl b).d)):=Later.put hb hc (by lia)
   obtain⟨r1,r2,r3⟩:=tq (ex:=ex) nd.2 (h.put hc hb mn.1 mn.2.1 mn.2.2 q.2.1) (by rw[L.cl]; exact hc) (fun b' mh=>by
    obtain⟨u1,u2⟩:=hl b' (aI _ mh)
    refine⟨by rw[L.bl]; exact u1,?_⟩
    have nb:b'≠b:=fun z=>nd.1 (z▸mh)
    rw[lu hb,aN nb]
    exact u2)
   exact⟨r1,r2.trans L.cl,r3.trans L.bl⟩
  ·have e:bu ex c S b=S:=aN q
   rw[e]
   exact tq nd.2 h hc fun b' mh=>hl b' (aI _ mh)
theorem oB {ex:Bool}{aH:Str}: ∀{l:List Nat} {S:Bk},Acc S->(∀c∈l,c < S.credits.length)->Acc (l.foldl (bC aH ex) S)
 |[],_,h,_=>h
 |c :: l,S,h,hl=>by
  rw[cB]
  obtain⟨r1,r2,_⟩:=tq (ex:=ex) (gT S.aE aH (·.b)) h (hl c aS) (fun b hb=>⟨(bP.mp hb).1,(bP.mp hb).2.2⟩)
  exact oB r1 fun c' Bl=>by
   show c' < (bC aH ex S c).credits.length
   rw[show(bC aH ex S c).credits.length=S.credits.length from r2]
   exact hl c' (aI _ Bl)
theorem Acc.dv {S:Bk}(h:Acc S)(aH:Str):Acc (S.dv aH):=
 oB (oB h fun c hc=>(bP.mp hc).1) fun c hc=>(bP.mp hc).1
theorem Acc.enter {S:Bk}(h:Acc S){d:bg}(hb:S.bar d=""):Acc (S.enter d):=by
 cases d with
 |dP w dy u a=>
  refine h.iD rfl ?_
  have mh:(if a < 1 then("no amount":Str) else if u < dy then("too early":Str) else("":Str))="":=hb
  split at mh
  ·exact absurd mh n4
  ·show 0<=a; lia
 |pF w dy a=>
  refine h.f7 rfl ?_
  have mh:(if a < 1 then("no amount":Str) else("":Str))="":=hb
  split at mh
  ·exact absurd mh n4
  ·show 0<=a; lia
 |note b dy a=>
  refine h.f7 rfl ?_
  have:=(oN hb).2
  show 0<=a
  lia
 |set c b a=>
  obtain⟨⟨c1,c2⟩,⟨b1,b2⟩,g,x,m1,m2⟩:=lO hb
  exact h.put (by lia) (by lia) x m1 m2 g
 |bU w=>exact h.dv w
 |iC m=>exact h
 |ask o w d=>exact h
 |il w d l=>exact h
theorem wH: ∀(l:List (Int×bg)) {S T:Bk},Acc S->cy l S=some T->Acc T
 |[],S,T,h,e=>by
  cases e
  exact h
 |(k,d) :: l,S,T,h,e=>by
  unfold cy at e
  split at e
  ·rename_i hb
   exact wH l (h.enter hb) e
  ·cases e
theorem Good.acc {T:hV}{n:Nat}(h:Good T n):Acc T.bk:=wH T.steps Acc.new h.w
def Quiet (S:Bk)(w:Str):Prop:= ∀c b,(S.cr c).aH=w->(S.bl b).aH=w->S.df c b=true->(S.cr c).d<=0∨(S.bl b).d<=0
theorem Quiet.later {S T:Bk}{w:Str}(h:Quiet S w)(l:Later S T):Quiet T w:=fun c b h1 h2 h3=>by
 rw[(l.c c).1.1] at h1
 rw[(l.b b).1.1] at h2
 rw[l.df] at h3
 have:=(l.c c).2
 have:=(l.b b).2
 rcases h c b h1 h2 h3 with z|z
 ·exact .inl (by lia)
 ·exact .inr (by lia)
theorem ua {ex:Bool}{c:Nat}{S:Bk}: ∀{l:List Nat},(∀b∈l,S.df c b=true->(S.cr c).d<=0)->l.foldl (bu ex c) S=S
 |[],_=>rfl
 |b :: l,h=>by
  rw[cB]
  have e:bu ex c S b=S:=by
   unfold bu
   rw[aN]
   rintro⟨z1,z2,_⟩
   have:=h b aS z2
   lia
  rw[e]
  exact ua fun b' mh=>h b' (aI _ mh)
theorem pW {ex:Bool}{w:Str}{S:Bk}(q:Quiet S w): ∀{l:List Nat},(∀c∈l,(S.cr c).aH=w)->l.foldl (bC w ex) S=S
 |[],_=>rfl
 |c :: l,h=>by
  rw[cB]
  have e:bC w ex S c=S:=ua fun b hb hg=>by
   obtain⟨_,b2,b3⟩:=bP.mp hb
   rcases q c b (h c aS) b2 hg with z|z
   ·exact z
   ·have:0 < (S.bl b).d:=b3
    lia
  rw[e]
  exact pW q fun c' Bl=>h c' (aI _ Bl)
theorem Quiet.round {S:Bk}{w:Str}(q:Quiet S w)(ex:Bool):bN w S ex=S:=pW q fun c hc=>(bP.mp hc).2.1
theorem Quiet.dv {S:Bk}{w:Str}(q:Quiet S w):S.dv w=S:=by
 unfold Bk.dv
 rw[q.round,q.round]
theorem yX {c:Nat}: ∀{l:List Nat} {S:Bk},l.Nodup->c < S.credits.length->(∀b∈l,b < S.aE.length/\0 < (S.bl b).d)->Later S (l.foldl (bu false c) S)/\ ∀b∈l,S.df c b=true->((l.foldl (bu false c) S).cr c).d<=0∨((l.foldl (bu false c) S).bl b).d<=0
 |[],S,_,_,_=>⟨Later.refl _,fun b h=>by cases h⟩
 |b :: l,S,nd,hc,hl=>by
  rw[cB]
  rw[dN] at nd
  obtain⟨hb,pb⟩:=hl b aS
  have key: ∀{T:Bk},Later S T->(∀b',b'≠b->T.bl b'=S.bl b')->(S.df c b=true->(T.cr c).d<=0∨(T.bl b).d<=0)->Later S (l.foldl (bu false c) T)/\ ∀b'∈b :: l,S.df c b'=true->((l.foldl (bu false c) T).cr c).d<=0∨((l.foldl (bu false c) T).bl b').d<=0:=fun{T} L ho hd=>by
   obtain⟨L2,r⟩:=yX (S:=T) nd.2 (by rw[L.cl]; exact hc) (fun b' mh=>by
    obtain⟨u1,u2⟩:=hl b' (aI _ mh)
    exact⟨by rw[L.bl]; exact u1,by rw[ho b' fun z=>nd.1 (z▸mh)]; exact u2⟩)
   refine⟨L.trans L2,fun b' mh hg=>?_⟩
   rcases au.mp mh with rfl|mh
   ·have h1:=(L2.c c).2
    have h2:=(L2.b b').2
    rcases hd hg with z|z
    ·exact .inl (by lia)
    ·exact .inr (by lia)
   ·exact r b' mh (by rw[L.df]; exact hg)
  by_cases q:0 < (S.cr c).d/\S.df c b=true/\((S.cr c).d=(S.bl b).d∨false=false)
  ·have e:bu false c S b=S.put c b (eW (S.cr c).d (S.bl b).d):=aY q
   rw[e]
   have mn:0<=eW (S.cr c).d (S.bl b).d:=by
    unfold eW
    split <;> lia
   refine key (Later.put hb hc mn) (fun b' nb=>by rw[lu hb,aN nb]) fun _=>?_
   rw[lu hb,nL hc,aY rfl,aY rfl]
   show(S.cr c).d - eW (S.cr c).d (S.bl b).d<=0∨(S.bl b).d - eW (S.cr c).d (S.bl b).d<=0
   unfold eW
   split <;> lia
  ·have e:bu false c S b=S:=aN q
   rw[e]
   refine key (Later.refl S) (fun _ _=>rfl) fun hg=> .inl ?_
   exact Classical.byContradiction fun z=>q ⟨by lia,hg,.inr rfl⟩
theorem ub {w:Str}: ∀{l:List Nat} {S:Bk},(∀c∈l,c < S.credits.length)->Later S (l.foldl (bC w false) S)/\ ∀c∈l,∀b,b < S.aE.length->(S.bl b).aH=w->S.df c b=true->((l.foldl (bC w false) S).cr c).d<=0∨((l.foldl (bC w false) S).bl b).d<=0
 |[],S,_=>⟨Later.refl _,fun c h=>by cases h⟩
 |c :: l,S,hl=>by
  rw[cB]
  obtain⟨L1,r1⟩:=yX (gT S.aE w (·.b)) (hl c aS) (fun b hb=>⟨(bP.mp hb).1,(bP.mp hb).2.2⟩)
  have L1:Later S (bC w false S c):=L1
  obtain⟨L2,r2⟩:=ub (w:=w) (l:=l) (S:=bC w false S c) (fun c' Bl=>by rw[L1.cl]; exact hl c' (aI _ Bl))
  refine⟨L1.trans L2,fun c' Bl b hb hw hg=>?_⟩
  rcases au.mp Bl with rfl|Bl
  ·have h1:=(L2.c c').2
   have h2:=(L2.b b).2
   by_cases p:0 < (S.bl b).d
   ·have h3:((bC w false S c').cr c').d<=0∨((bC w false S c').bl b).d<=0:=r1 b (bP.mpr ⟨hb,hw,p⟩) hg
    rcases h3 with z|z
    ·exact .inl (by lia)
    ·exact .inr (by lia)
   ·have h3:=(L1.b b).2
    exact .inr (by lia)
  ·exact r2 c' Bl b (by rw[L1.bl]; exact hb) (by rw[(L1.b b).1.1]; exact hw) (by rw[L1.df]; exact hg)
theorem Ob {l:List Rw}{k:Nat}(h: ¬ k < l.length):(l.getD k default).d=0:=by
 rw[ak,ma (by lia)]
 rfl
theorem C7 (S:Bk)(w:Str):Quiet (S.dv w) w:=by
 have L0:=(rj S w true).1
 unfold Bk.dv
 generalize bN w S true=T at L0
 obtain⟨L,r⟩:=ub (w:=w) (l:=inTurn T.credits w (·.a)) (S:=T) (fun c hc=>(bP.mp hc).1)
 have L:Later T (bN w T false):=L
 intro c b h1 h2 h3
 have h4:=(L.c c).2
 have h5:=(L.b b).2
 rw[(L.c c).1.1] at h1
 rw[(L.b b).1.1] at h2
 rw[L.df] at h3
 by_cases hb:b < T.aE.length
 ·by_cases hc:c < T.credits.length
  ·by_cases p:0 < (T.cr c).d
   ·exact r c (bP.mpr ⟨hc,h1,p⟩) b hb h2 h3
   ·exact .inl (by lia)
  ·have:(T.cr c).d=0:=Ob hc
   exact .inl (by lia)
 ·have:(T.bl b).d=0:=Ob hb
  exact .inr (by lia)
def gg (S:Bk)(ws:List Str):Bk:=ws.foldl Bk.dv S
theorem C8 (S:Bk)(ws:List Str)(w:Str):gg S (ws ++ [w])=(gg S ws).dv w:=by
 unfold gg
 rw[lG]
 rfl
theorem jR: ∀(ws:List Str) (S:Bk),Later S (gg S ws)
 |[],S=>Later.refl S
 |w :: ws,S=>(nN S w).1.trans (jR ws (S.dv w))
theorem r9: ∀(ws:List Str) (S:Bk) (w:Str),w∈ws->Quiet (gg S ws) w
 |w' :: ws,S,w,h=>by
  rcases au.mp h with rfl|h
  ·exact(C7 S w).later (jR ws _)
  ·exact r9 ws (S.dv w') w h
theorem wI: ∀(ws:List Str) {S:Bk},Acc S->Acc (gg S ws)
 |[],_,h=>h
 |w :: ws,S,h=>wI ws (h.dv w)
structure mT (S:Bk)(D:Int):Prop where
 b: ∀k,k < S.aE.length->(S.bl k).a<=D
 c: ∀k,k < S.credits.length->(S.cr k).a<=D
theorem mT.ny {S T:Bk}{D:Int}(h:mT S D)(l:Later S T):mT T D:=⟨fun k hk=>by rw[(l.b k).1.2.1]; exact h.b k (by rw[← l.bl]; exact hk),fun k hk=>by rw[(l.c k).1.2.1]; exact h.c k (by rw[← l.cl]; exact hk)⟩
theorem A3 {l:List Rw}{r:Rw}{D:Int}(h: ∀k,k < l.length->(l.getD k default).a<=D)(hr:r.a<=D)(k:Nat)(hk:k < (l ++ [r]).length):((l ++ [r]).getD k default).a<=D:=by
 rw[ax] at hk
 by_cases q:k < l.length
 ·rw[getD_snoc q]
  exact h k q
 ·have q':k=l.length:=by have e:[r].length=1:=rfl; lia
  rw[q',getD_last]
  exact hr
theorem mT.enter {S:Bk}{d:bg}(h:mT S eB)(hk:d.ok)(hb:S.bar d=""):mT (S.enter d) eB:=by
 cases d with
 |dP w dy u a=>exact⟨A3 h.b hk,h.c⟩
 |pF w dy a=>exact⟨h.b,A3 h.c hk⟩
 |note b dy a=>exact⟨h.b,A3 h.c hk⟩
 |set c b a=>exact h.ny (jd (d:= .set c b a) rfl hb)
 |bU w=>exact h.ny (jd (d:= .bU w) rfl hb)
 |iC m=>exact h
 |ask o w d=>exact h
 |il w d l=>exact h
theorem wJ: ∀(l:List (Int×bg)) {S T:Bk},(∀st∈l,st.2.ok)->mT S eB->cy l S=some T->mT T eB
 |[],S,T,_,h,e=>by
  cases e
  exact h
 |(k,d) :: l,S,T,hk,h,e=>by
  unfold cy at e
  split at e
  ·rename_i hb
   exact wJ l (fun st hs=>hk st (aI _ hs)) (h.enter (hk (k,d) aS) hb) e
  ·cases e
theorem K1 {T:hV}{n:Int}{d:bg}(h: ∀st∈T.steps,st.2.ok)(hd:d.ok): ∀st∈(dz T n d).2.steps,st.2.ok:=by
 have add: ∀(a:mO) (b:mO) (B:Bk) (c:Prop) [Decidable c],∀st∈(if c then(a,(⟨T.steps ++ [(n,d)],B⟩:hV)) else(b,T)).2.steps,st.2.ok:=fun a b B c _=>by
  split
  ·intro st hs
   rcases bc.mp hs with hs|hs
   ·exact h st hs
   ·rw[ao.mp hs]
    exact hd
  ·exact h
 cases d with
 |iC m=>
  show ∀st∈(if(T.steps.filter (cu m)).length=T.steps.length then(mO.txt "no setting",T) else
   match cy (T.steps.filter (cu m)) Bk.new with
   |none=>(.txt "needed",T)
   |some S=>(.txt "undone",⟨T.steps.filter (cu m),S⟩)).2.steps,st.2.ok
  split
  ·exact h
  ·split
   ·exact h
   ·exact fun st hs=>h st (en.mp hs).1
 |ask o w d=>exact h
 |il w d l=>exact h
 |dP w d u a=>exact add _ _ _ _
 |pF w d a=>exact add _ _ _ _
 |note b d a=>exact add _ _ _ _
 |set c b a=>exact add _ _ _ _
 |bU w=>exact add _ _ _ _
theorem FX: ∀(l:List bg) {T:hV} {n:Nat},(∀d∈l,d.ok)->(∀st∈T.steps,st.2.ok)-> ∀st∈(dQ l T n).2.steps,st.2.ok
 |[],_,_,_,h=>h
 |d :: l,T,n,hk,h=>FX l (fun e he=>hk e (aI _ he)) (K1 h (hk d aS))
theorem Good.day {T:hV}{n:Nat}(h:Good T n)(hk: ∀st∈T.steps,st.2.ok):mT T.bk eB:=
 wJ T.steps hk ⟨fun _ z=>absurd z (eA _),fun _ z=>absurd z (eA _)⟩ h.w
theorem C9 {S:Bk}{D:Int}(h:Acc S)(hd:mT S D){o:Bool}{k:Nat}(hk:k < (S.rows o).length):S.rest o k D=((S.rows o).getD k default).d:=by
 unfold Bk.rest
 have e:S.made.filter (S.cnt o k D)=S.made.filter fun t=>decide (spotOf o t=k):=by
  apply i9
  intro t ht
  obtain⟨m1,m2,_⟩:=h.m t ht
  have l1:=hd.c _ m1
  have l2:=hd.b _ m2
  have l:S.gx t<=D:=by
   unfold Bk.gx
   split <;> assumption
  unfold Bk.cnt
  rw[aK l,Bool.and_true]
 rw[e]
 cases o with
 |true=>
  have h1:=(h.b k hk).1
  show(S.bl k).c - C5 S.made k=(S.bl k).d
  lia
 |false=>
  have h1:=(h.c k hk).1
  show(S.cr k).b - C6 S.made k=(S.cr k).d
  lia
theorem tu {S:Bk}{D:Int}(h:Acc S)(hd:mT S D)(o:Bool)(aH:Str):S.eQ o aH D=(inTurn (S.rows o) aH (keyOf o)).map fun k=>(k,((S.rows o).getD k default).d):=by
 unfold Bk.eQ
 rw[gS]
 have hk: ∀k∈inOrder (S.rows o) aH (keyOf o),k < (S.rows o).length:=fun k z=>(jq.mp z).1
 have e:((inOrder (S.rows o) aH (keyOf o)).filter fun k=>decide (((S.rows o).getD k default).a<=D) && decide (0 < S.rest o k D))=(inOrder (S.rows o) aH (keyOf o)).filter fun k=>decide (0 < ((S.rows o).getD k default).d):=by
  apply i9
  intro k z
  have l:((S.rows o).getD k default).a<=D:=by
   cases o
   ·exact hd.c k (hk k z)
   ·exact hd.b k (hk k z)
  rw[C9 h hd (hk k z),aK l,Dy]
 rw[e]
 apply fY
 intro k z
 rw[C9 h hd (hk k (en.mp z).1)]
def eL (l:List Rw):Nat:=(l.filter fun r=>decide (0 < r.d)).length
theorem oU (r:Rw)(l:List Rw):eL (r :: l)=eL l + if 0 < r.d then 1 else 0:=by
 unfold eL
 by_cases h:0 < r.d
 ·rw[List.filter_cons_of_pos (by simpa using h),if_pos h]; rfl
 ·rw[List.filter_cons_of_neg (by simpa using h),if_neg h]; rfl
theorem wK: ∀{l:List Rw} {i:Nat} {r:Rw},i < l.length->r.d<=(l.getD i default).d->eL (l.set i r)<=eL l/\(0 < (l.getD i default).d->r.d<=0->eL (l.set i r) + 1=eL l)
 |[],_,_,h,_=>absurd h (eA _)
 |x :: l,0,r,_,hd=>by
  have Gp:r.d<=x.d:=hd
  show eL (r :: l)<=eL (x :: l)/\(0 < x.d->r.d<=0->eL (r :: l) + 1=eL (x :: l))
  rw[oU,oU]
  by_cases a:0 < r.d
  ·rw[aY a,aY (by lia)]
   exact⟨aD _,fun _ h=>by lia⟩
  ·rw[aN a]
   by_cases b:0 < x.d
   ·rw[aY b]
    exact⟨by lia,fun _ _=>rfl⟩
   ·rw[aN b]
    exact⟨aD _,fun h=>absurd h b⟩
 |x :: l,i + 1,r,h,hd=>by
  obtain⟨h1,h2⟩:=wK (l:=l) (i:=i) (r:=r) (Nat.lt_of_succ_lt_succ h) hd
  show eL (x :: l.set i r)<=eL (x :: l)/\(0 < (l.getD i default).d->r.d<=0->eL (x :: l.set i r) + 1=eL (x :: l))
  rw[oU,oU]
  exact⟨by lia,fun a b=>by have:=h2 a b; lia⟩
def Bk.wL (S:Bk):Nat:=S.made.length + eL S.aE + eL S.credits
theorem FY {S:Bk}{c b:Nat}{x:Int}(hc:c < S.credits.length)(hb:b < S.aE.length)(hx:0<=x):(S.put c b x).wL<=S.wL + 1/\(0 < (S.cr c).d->0 < (S.bl b).d->x=eW (S.cr c).d (S.bl b).d->(S.put c b x).wL<=S.wL):=by
 obtain⟨b1,b2⟩:=wK (l:=S.aE) (i:=b) (r:=(S.bl b).less x) hb (by show(S.bl b).d - x<=(S.bl b).d; lia)
 obtain⟨c1,c2⟩:=wK (l:=S.credits) (i:=c) (r:=(S.cr c).less x) hc (by show(S.cr c).d - x<=(S.cr c).d; lia)
 have e:(S.put c b x).wL=S.made.length + 1 + eL (S.aE.set b ((S.bl b).less x)) + eL (S.credits.set c ((S.cr c).less x)):=by
  show(S.made ++ [(c,b,x)]).length + _ + _ =_
  rw[ax]
  rfl
 rw[e]
 unfold Bk.wL
 refine⟨by lia,fun h1 h2 h3=>?_⟩
 by_cases q:(S.bl b).d < (S.cr c).d
 ·have hz:((S.bl b).less x).d<=0:=by
   show(S.bl b).d - x<=0
   rw[h3]
   unfold eW
   rw[aY q]
   lia
  have:=b2 h2 hz
  lia
 ·have hz:((S.cr c).less x).d<=0:=by
   show(S.cr c).d - x<=0
   rw[h3]
   unfold eW
   rw[aN q]
   lia
  have:=c2 h1 hz
  lia
theorem tw {ex:Bool}{c:Nat}: ∀{l:List Nat} {S:Bk},l.Nodup->c < S.credits.length->(∀b∈l,b < S.aE.length/\0 < (S.bl b).d)->(l.foldl (bu ex c) S).wL<=S.wL/\(l.foldl (bu ex c) S).credits.length=S.credits.length
 |[],S,_,_,_=>⟨aD _,rfl⟩
 |b :: l,S,nd,hc,hl=>by
  rw[cB]
  rw[dN] at nd
  obtain⟨hb,pb⟩:=hl b aS
  by_cases q:0 < (S.cr c).d/\S.df c b=true/\((S.cr c).d=(S.bl b).d∨ex=false)
  ·have e:bu ex c S b=S.put c b (eW (S.cr c).d (S.bl b).d):=aY q
   rw[e]
   have mn:0<=eW (S.cr c).d (S.bl b).d:=by
    unfold eW
    split <;> lia
   have L:Later S (S.put c b (eW (S.cr c).d (S.bl b).d)):=Later.put hb hc mn
   have p:=(FY hc hb mn).2 q.1 pb rfl
   obtain⟨r1,r2⟩:=tw (ex:=ex) (S:=S.put c b (eW (S.cr c).d (S.bl b).d)) nd.2 (by rw[L.cl]; exact hc) (fun b' mh=>by
    obtain⟨u1,u2⟩:=hl b' (aI _ mh)
    refine⟨by rw[L.bl]; exact u1,?_⟩
    have nb:b'≠b:=fun z=>nd.1 (z▸mh)
    rw[lu hb,aN nb]
    exact u2)
   exact⟨aV r1 p,r2.trans L.cl⟩
  ·have e:bu ex c S b=S:=aN q
   rw[e]
   exact tw nd.2 hc fun b' mh=>hl b' (aI _ mh)
theorem oC {ex:Bool}{aH:Str}: ∀{l:List Nat} {S:Bk},(∀c∈l,c < S.credits.length)->(l.foldl (bC aH ex) S).wL<=S.wL
 |[],_,_=>aD _
 |c :: l,S,hl=>by
  rw[cB]
  obtain⟨r1,r2⟩:=tw (ex:=ex) (gT S.aE aH (·.b)) (hl c aS) (fun b hb=>⟨(bP.mp hb).1,(bP.mp hb).2.2⟩)
  refine aV (oC fun c' Bl=>?_) r1
  show c' < (bC aH ex S c).credits.length
  rw[show(bC aH ex S c).credits.length=S.credits.length from r2]
  exact hl c' (aI _ Bl)
theorem tE (S:Bk)(aH:Str):(S.dv aH).wL<=S.wL:=
 aV (oC fun c hc=>(bP.mp hc).1) (oC fun c hc=>(bP.mp hc).1)
theorem tF (l:List Rw)(r:Rw):eL (l ++ [r])<=eL l + 1:=by
 unfold eL
 rw[gw,ax]
 have:=aW (fun r:Rw=>decide (0 < r.d)) [r]
 have e:[r].length=1:=rfl
 lia
theorem Il {S:Bk}{d:bg}(hb:S.bar d=""):(S.enter d).wL<=S.wL + 1:=by
 cases d with
 |dP w dy u a=>
  have:=tF S.aE ⟨w,dy,u,a,a⟩
  show S.made.length + eL (S.aE ++ [_]) + eL S.credits<=S.made.length + eL S.aE + eL S.credits + 1
  lia
 |pF w dy a=>
  have:=tF S.credits ⟨w,dy,a,-1,a⟩
  show S.made.length + eL S.aE + eL (S.credits ++ [_])<=S.made.length + eL S.aE + eL S.credits + 1
  lia
 |note b dy a=>
  have:=tF S.credits ⟨(S.bl b.toNat).aH,dy,a,b,a⟩
  show S.made.length + eL S.aE + eL (S.credits ++ [_])<=S.made.length + eL S.aE + eL S.credits + 1
  lia
 |set c b a=>
  obtain⟨⟨c1,c2⟩,⟨b1,b2⟩,g,x,m1,m2⟩:=lO hb
  exact(FY (by lia) (by lia) (by lia)).1
 |bU w=>exact su (tE S w)
 |iC m=>exact c8 _
 |ask o w d=>exact c8 _
 |il w d l=>exact c8 _
theorem wM: ∀(l:List (Int×bg)) {S T:Bk},cy l S=some T->T.wL<=S.wL + l.length
 |[],S,T,e=>by
  cases e
  exact aD _
 |(k,d) :: l,S,T,e=>by
  unfold cy at e
  split at e
  ·rename_i hb
   have h1:=wM l e
   have h2:=Il hb
   rw[bO]
   lia
  ·cases e
end L2
namespace eZ
open PySem L2 PyProof.Rows Lh
seal L2.pB L2.PS L2.PE L2.PT L2.PW L2.PA L2.PC L2.PG L2.Lb L2.PI L2.LW L2.Ld L2.PO L2.o6 L2.NC L2.iZ L2.I9 L2.OL
section
variable {P:Program}{w:World}{K:Frag}{mg:Str->Option Value}{base:Heap}
def jS (pr:List (Str×Int)):List bg:=pr.flatMap fun x=>[.ask true x.1 x.2,.ask false x.1 x.2]
theorem Io (pr:List (Str×Int))(x:Str×Int):jS (pr ++ [x])=jS pr ++ [.ask true x.1 x.2,.ask false x.1 x.2]:=by
 unfold jS
 rw[List.flatMap_append]
 simp
theorem se (pr:List (Str×Int)):(jS pr).length=2 * pr.length:=by
 induction pr with
 |nil=>rfl
 |cons x pr ih=>
  have e:jS (x :: pr)= .ask true x.1 x.2 :: .ask false x.1 x.2 :: jS pr:=rfl
  rw[e,bO,bO,ih,bO]
  lia
theorem Dc: ∀{pr:List (Str×Int)} {k:Nat} {x:Str×Int},pr[k]? =some x->(jS pr)[2 * k]? =some (.ask true x.1 x.2)/\(jS pr)[2 * k + 1]? =some (.ask false x.1 x.2)
 |[],_,_,h=>by simp at h
 |y :: pr,0,x,h=>by
  have e:y=x:=by simpa using h
  subst e
  exact⟨rfl,rfl⟩
 |y :: pr,k + 1,x,h=>by
  have e:jS (y :: pr)= .ask true y.1 y.2 :: .ask false y.1 y.2 :: jS pr:=rfl
  have ih:=Dc (pr:=pr) (k:=k) (x:=x) (by simpa using h)
  rw[e,show 2 * (k + 1)=2 * k + 1 + 1 by lia]
  exact⟨by simpa using ih.1,by simpa using ih.2⟩
theorem lh: ∀(l m:List bg) (T:hV) (n:Nat),dQ (l ++ m) T n=((dQ l T n).1 ++ (dQ m (dQ l T n).2 (n + l.length)).1,(dQ m (dQ l T n).2 (n + l.length)).2)
 |[],m,T,n=>rfl
 |d :: l,m,T,n=>by
  show((dz T n d).1 :: (dQ (l ++ m) (dz T n d).2 (n + 1)).1,(dQ (l ++ m) (dz T n d).2 (n + 1)).2)=_
  rw[lh l m,show n + 1 + l.length=n + (d :: l).length by rw[bO]; lia]
  rfl
theorem yY: ∀(m:List bg) (T:hV) (n:Nat),(∀d∈m,(∃o w y,d= .ask o w y)∨ ∃w y l,d= .il w y l)->(dQ m T n).2=T/\ ∀(i:Nat) (d:bg),m[i]? =some d->(dQ m T n).1[i]? =some (dz T 0 d).1
 |[],T,n,_=>⟨rfl,fun i d h=>by simp at h⟩
 |e :: m,T,n,h=>by
  have he:(dz T n e).2=T/\(dz T n e).1=(dz T 0 e).1:=by
   rcases h e aS with⟨o,w,y,rfl⟩|⟨w,y,l,rfl⟩
   ·exact⟨rfl,rfl⟩
   ·exact⟨rfl,rfl⟩
  obtain⟨h1,h2⟩:=yY m T (n + 1) fun d hd=>h d (aI _ hd)
  have eq:dQ (e :: m) T n=((dz T n e).1 :: (dQ m T (n + 1)).1,(dQ m T (n + 1)).2):=by
   show((dz T n e).1 :: (dQ m (dz T n e).2 (n + 1)).1,(dQ m (dz T n e).2 (n + 1)).2)=_
   rw[he.1]
  rw[eq]
  refine⟨h1,fun i d hd=>?_⟩
  cases i with
  |zero=>
   have e2:e=d:=by simpa using hd
   subst e2
   show some (dz T n e).1=_
   rw[he.2]
  |succ i=>exact h2 i d (by simpa using hd)
theorem yZ {H:Hp}{rs:List Rw}{ps:List Addr}(h:fe H rs ps){a:Addr}(ha:a∈ps): ∃xs,H a=some (.lst xs):=by
 induction h with
 |nil=>cases ha
 | @cons r p rs ps hr t ih=>
  rcases au.mp ha with ha|ha
  ·rw[ha]
   exact⟨_,hr⟩
  ·exact ih ha
theorem Nj {H:Hp}{sd a:Addr}{S:Bk}{f:fP}(h:dA H sd S f)(hb:a∈f.fp): ∃xs,H a=some (.lst xs):=by
 obtain⟨ms,m1,_⟩:=h.hm
 unfold fP.fp at hb
 rcases au.mp hb with z|z
 ·rw[z]; exact⟨_,h.hb⟩
 rcases au.mp z with z|z
 ·rw[z]; exact⟨_,h.hc⟩
 rcases au.mp z with z|z
 ·rw[z]; exact⟨_,m1⟩
 rcases bc.mp z with z|z
 ·exact yZ h.rb z
 ·exact yZ h.rc z
theorem QI {H H':Hp}{sd:Addr}{S:Bk}{f:fP}(h:dA H sd S f)(k: ∀a o,H a=some o->(∀ps,o≠ .ng ps)->H' a=some o):dA H' sd S f:=by
 refine h.keep (fun b o hb e=>?_) (fun a xs e=>k _ _ e (fun _ z=>by cases z))
 refine k _ _ e (fun ps z=>?_)
 rcases hb with hb|hb
 ·rw[hb,h.dict,z] at e
  cases e
 ·obtain⟨xs,q⟩:=Nj h hb
  rw[q,z] at e
  cases e
def eT:Bk->List Str->List mO
 |_,[]=>[]
 |S,w :: ws=> .sets ((S.dv w).made.drop S.made.length) :: eT (S.dv w) ws
theorem pX: ∀(ws:List Str) (S:Bk) (w:Str),eT S (ws ++ [w])=eT S ws ++ [.sets (((gg S ws).dv w).made.drop (gg S ws).made.length)]
 |[],S,w=>rfl
 |v :: ws,S,w=>by
  show _ :: eT (S.dv v) (ws ++ [w])=_
  rw[pX ws]
  rfl
theorem mI: ∀(ws:List Str) (S:Bk),(eT S ws).length=ws.length
 |[],_=>rfl
 |w :: ws,S=>cV (· + 1) (mI ws (S.dv w))
theorem qE: ∀(ws:List Str) (T:hV) (n:Nat),(dQ (ws.map bg.bU) T n).1=eT T.bk ws/\(dQ (ws.map bg.bU) T n).2.bk=gg T.bk ws
 |[],T,n=>⟨rfl,rfl⟩
 |w :: ws,T,n=>by
  have e:dz T n (.bU w)=(T.bk.Jw (.bU w),⟨T.steps ++ [((n:Int),.bU w)],T.bk.dv w⟩):=by
   show(if T.bk.bar (.bU w)="" then(T.bk.Jw (.bU w),(⟨T.steps ++ [((n:Int),bg.bU w)],T.bk.enter (.bU w)⟩:hV)) else(.txt (T.bk.bar (.bU w)),T))=_
   rw[aY (show T.bk.bar (.bU w)="" from rfl)]
   rfl
  obtain⟨h1,h2⟩:=qE ws (dz T n (.bU w)).2 (n + 1)
  show(dz T n (.bU w)).1 :: (dQ (ws.map bg.bU) (dz T n (.bU w)).2 (n + 1)).1=_/\(dQ (ws.map bg.bU) (dz T n (.bU w)).2 (n + 1)).2.bk=_
  rw[h1,h2,e]
  exact⟨rfl,rfl⟩
theorem oE: ∀(ws:List Str) (S:Bk),(∀w∈ws,Quiet S w)->eT S ws=ws.map fun _=> .sets []
 |[],_,_=>rfl
 |w :: ws,S,h=>by
  have q:=(h w aS).dv
  show .sets ((S.dv w).made.drop S.made.length) :: eT (S.dv w) ws=_
  rw[q,List.drop_length,oE ws S fun v hv=>h v (aI _ hv)]
  rfl
theorem qF: ∀(ws:List Str) (S:Bk),(gg S ws).wL<=S.wL
 |[],S=>aD _
 |w :: ws,S=>aV (qF ws (S.dv w)) (tE S w)
theorem Dd (S:Bk):S.made.length<=S.wL:=by unfold Bk.wL; lia
theorem lD: ∀(ws:List Str) (S:Bk),S.wL<=60-> ∀a∈eT S ws,a.dt.size<=300/\a.dt.plain=true
 |[],_,_,a,h=>by cases h
 |w :: ws,S,hp,a,h=>by
  have h1:=tE S w
  rcases au.mp h with rfl|h
  ·have h2:=Dd (S.dv w)
   have h3:=l7 (fun t:Nat×Nat×Int=>Dt.tup [.int t.1,.int t.2.1,.int t.2.2]) 4 ((S.dv w).made.drop S.made.length) (fun x _=>aD _)
   rw[ig] at h3
   refine⟨?_,mH _ _ fun x _=>rfl⟩
   show 1 + Dt.fI (((S.dv w).made.drop S.made.length).map fun t=>Dt.tup [.int t.1,.int t.2.1,.int t.2.2])<=300
   lia
  ·exact lD ws (S.dv w) (by lia) a h
theorem Nk (xs:List V)(n:Nat)(h:n<=xs.length):mW xs none (some (n:Int))=xs.take n:=by
 unfold mW
 rw[HT.Bu,HT.oJ,o4 h,Oq,Nat.sub_zero]
theorem QJ {α:Type}{l:List α}{i:Nat}{x y:α}(h1:l[i]? =some x)(h2:l[i + 1]? =some y):(l.drop i).take 2=[x,y]:=by
 obtain⟨a1,a2⟩:=ah.mp h1
 obtain⟨b1,b2⟩:=ah.mp h2
 rw[jB a1,a2,jB b1,b2]
 rfl
theorem K2 (xs:List V)(n:Nat){x y:V}(h1:xs[n]? =some x)(h2:xs[n + 1]? =some y):mW xs (some (n:Int)) (some ((n + 2:Nat):Int))=[x,y]:=by
 have a1:=(ah.mp h1).1
 have b1:=(ah.mp h2).1
 unfold mW
 rw[HT.oJ,HT.oJ,o4 (by lia),o4 (by lia),show n + 2 - n=2 by lia,QJ h1 h2]
theorem uc {α β:Type}{F:α->β->Prop}: ∀{l₁:List α} {l₂:List β} (n:Nat),Paired F l₁ l₂->Paired F (l₁.take n) (l₂.take n)
 |_,_,0,_=> .nil
 |_,_,_ + 1,.nil=> .nil
 |_,_,n + 1,.cons h t=> .cons h (uc n t)
theorem K3 {H:Hp}{sd pn:Addr}{S:Bk}{f:fP}{ws:List Str}(h:dA H sd S f)(e:H pn=some (.lst (ws.map V.str)))(hn:ws≠[]):pn∉f.fp:=fun z=>by
 obtain⟨ms,m1,m2⟩:=h.hm
 have rows: ∀(rs:List Rw) (ps:List Addr),fe H rs ps->pn∈ps->False:=fun rs ps hr hp=>by
  obtain⟨i,hi⟩:=jl hp
  have iI:i < rs.length:=by
   rw[hr.length]
   exact(ah.mp hi).1
  obtain⟨q,e1,e2⟩:=hr.at iI
  rw[e1] at hi
  cases hi
  rw[e] at e2
  have e3:ws.map V.str=(rs.getD i default).vs:=by injection (aG e2)
  rcases ws with _|⟨a,_|⟨b,l⟩⟩
  ·exact hn rfl
  ·have:=cV List.length e3
   cases this
  ·have e4:=(List.cons.inj (List.cons.inj e3).2).1
   cases e4
 have refs: ∀{ps:List V},H pn=some (.lst ps)->(∀v∈ps,∃a,v= .ref a)->False:=fun{ps} q hp=>by
  rw[e] at q
  have e3:ws.map V.str=ps:=by injection (aG q)
  rcases ws with _|⟨a,l⟩
  ·exact hn rfl
  ·obtain⟨b,hb⟩:=hp (.str a) (by rw[← e3]; exact aS)
   cases hb
 have rf: ∀(l:List Addr),∀v∈l.map V.ref,∃a,v= .ref a:=fun l v hv=>by
  obtain⟨a,_,rfl⟩:=bJ.mp hv
  exact⟨a,rfl⟩
 unfold fP.fp at z
 rcases au.mp z with z|z
 ·exact refs (z▸h.hb) (rf _)
 rcases au.mp z with z|z
 ·exact refs (z▸h.hc) (rf _)
 rcases au.mp z with z|z
 ·refine refs (z▸m1) fun v hv=>?_
  obtain⟨i,hi⟩:=jl hv
  have hl:=aO m2
  have iI:i < S.made.length:=by
   rw[hl]
   exact(ah.mp hi).1
  obtain⟨v',e1,p,e2,_⟩:=bK m2 (af iI)
  rw[hi] at e1
  cases e1
  exact⟨p,e2⟩
 rcases bc.mp z with z|z
 ·exact rows _ _ h.rb z
 ·exact rows _ _ h.rc z
theorem De {S:Bk}{o:Bool}{aH:Str}{D:Int}{t:Nat×Int}(ha:Acc S)(hd:mT S D)(h:t∈S.eQ o aH D):t.1 < (S.rows o).length/\((S.rows o).getD t.1 default).aH=aH/\0 < ((S.rows o).getD t.1 default).d:=by
 rw[tu ha hd] at h
 obtain⟨k,hk,rfl⟩:=bJ.mp h
 exact bP.mp hk
theorem K4:aU ["_law_script","_law_cells","_law_asked","_law_state","_law_names","_law_more","_law_who","_law_found","_law_many","_law_due","_law_k","_law_owed","_law_bill","_law_free","_law_credit","_law_spot","_law_amount","_law_left"] ["_law_script"] (aA (top 64)):={}
theorem QK {cps:List (Addr×Addr)}{f:Addr}{fd:FuncData}(F:gE K "law" "law" (top 64) f fd)(T:Txt K mg){A:ee}{tB tC:Addr}(G:jO K mg A)(DB:qN K mg "bills_in_order" (top 17) tB)(DC:qN K mg "credits_in_order" (top 18) tC)(jE:tB≠tC)(hnd:A.jf≠A.tooMuch)(KB:K.In base)(BM:BMain mg base)(X7: ∃c,(c,tB)∈cps)(hcC: ∃c,(c,tC)∈cps):mf P w K mg base sG 13 f fd ["_law_script"] (KY K cps):=by
 have Iq:fC P w K mg base "answers" 12 ["deeds"] (tj A tB tC):=Ic T G DB DC jE hnd KB BM
 have Dg:=C1 (P:=P) (w:=w) (base:=base) T
 have A4:=A0 (P:=P) (w:=w) (base:=base) T
 have mJ:=AR (P:=P) (w:=w) (base:=base) T
 have lA:=pH (P:=P) (w:=w) (base:=base) T
 have mC:=rM (P:=P) (w:=w) (base:=base) T
 have gN:=oj (P:=P) (w:=w) (base:=base) T
 have jv:=oh (P:=P) (w:=w) (base:=base) T
 have pA:=pz (P:=P) (w:=w) (base:=base) T
 refine F.ok (k:=12) K4 (fun vs H Q E h=>?_) (fun cY A' outer s H vs Q E hr h=>?_)
 ·obtain⟨a,ns,rfl,_⟩:=h
  rfl
 ·obtain⟨a,ns,rfl,hS,hz,hO,k⟩:=h
  have kF:l4 H tB:=let⟨c,hc⟩:=X7; KW (hO _ hc)
  have j7:mF H tC:=let⟨c,hc⟩:=hcC; KW (hO _ hc)
  have nd:=K4.nd
  have hu:=kW hr
  refine⟨_,(ai (sv 1 nd (jn kP (pv 0) (jh aj) (jh (aQ dk aj (fc Dg hr (aa (pv 0) (aa aj (aa aj aw))))))))
(ai (sv 2 nd (fc A4 hr (aa (pv 1) aw)))
(ai (sv 3 nd (xt (fc pA hr (aa (pv 2) aw)) aj))
(ai (sv 4 nd (fc lA hr (aa (pv 1) aw)))
(ai (jo (i:=5) nd rfl (Or.inl rfl) (tn:=["_law_who"]) (cn:=[]) (cj:=[]) rfl zl (cI (pv 4)) (fun _ _ _ _=>(eG (i:=0) (show(["_law_who"]:List Str).Nodup by decide +kernel) rfl (Or.inl rfl))) (fun _ _ _ _=>lq) (fun _ _ _ _=>(cM (aa aR (aa (pv 0) aw)))))
(ai (eN bB rfl (cI (pv 4)) (gn 6 nd)
(av (sv 5 nd (aQ lp (pv 5) (bS (aa (cM (aa aR (aa (pv 6) (aa (aQ iJ aj aj) aw)))) (aa (cM (aa aR (aa (pv 6) (aa (aQ iJ aj aj) aw)))) aw)))))))
(ai (sv 5 nd (aQ lp (pv 5) (iK (tn:=["_law_who"]) (cn:=[]) (cj:=[]) rfl zl (cI (pv 4)) (fun _ _ _ _=>(eG (i:=0) (show(["_law_who"]:List Str).Nodup by decide +kernel) rfl (Or.inl rfl))) (fun _ _ _ _=>lq) (fun _ _ _ _=>(cM (aa aR (aa (pv 0) aw)))))))
(ai (sv 7 nd (fc Iq hr (aa (aQ lp (pv 2) (pv 5)) aw)))
(ai (sv 8 nd (oP T.eJ (pv 4)))
(ai (bT (PW.pt (pw_or (jC (fR (dm fb (by rfl) T.dC eE (aa (pv 7) (aa (gP (v:= .ty "list") (by rfl) T.vI boot_list rfl) aw))))) (pw_or1 (a0 qT (oP T.eJ (pv 7)) (aQ dk (oP T.eJ (pv 2)) (aQ jD aj (pv 8))) (bb _)))))
(av (a9 kM))
bp)
(ai (sv 7 nd (jn kP (pv 7) (jh (oP T.eJ (pv 2))) oK))
(ai (jo (i:=9) nd rfl (Or.inl rfl) (tn:=["_law_who"]) (cn:=["_law_state"]) (cj:=[3]) rfl (iL (zo:=[(".0",.local),("_law_who",.local),("_law_swept",.globalImplicit),("_law_state",.cell)])) (cI (pv 4)) (fun _ _ _ _=>(eG (i:=0) (show(["_law_who","_law_state"]:List Str).Nodup by decide +kernel) rfl (Or.inl rfl))) (fun _ _ _ _=>lq) (fun _ _ _ _=>(fc mC hr (aa (pv 1) (aa (pv 0) aw)))))
(ai (bT (PW.pt (pw_or (jC (fR (fc mJ hr (aa (jn kP (pv 7) oK (jh (pv 8))) (aa (pv 9) aw))))) (pw_or1 (jC (fR (fc mJ hr (aa (jn kP (pv 7) (jh (aQ jD aj (pv 8))) oK) (aa (aQ zj (bS (aa (bS aw) aw)) (pv 8)) aw))))))))
(av (a9 kM))
bp)
(ai (eN bB rfl (ja rfl T.my (aa (pv 8) aw)) (gn 10 nd)
(ai (sv 11 nd (bS aw))
(ai (eN bB rfl (cI (fc gN hr (aa (cJ hu (pv 3) aR (fun _ _=>rfl)) (aa (xl (pv 4) (pv 10)) (aa aj aw))))) (gn 12 nd)
(av (bM (qu (pv 11) (cM (aa (pv 12) (aa (xl (xl (cJ hu (pv 3) aR (fun _ _=>rfl)) (pv 12)) aj) aw)))))))
(ai (sv 13 nd (bS aw))
(ai (eN bB rfl (cI (fc gN hr (aa (cJ hu (pv 3) aR (fun _ _=>rfl)) (aa (xl (pv 4) (pv 10)) (aa aj aw))))) (gn 14 nd)
(av (bM (qu (pv 13) (cM (aa (pv 14) (aa (xl (xl (cJ hu (pv 3) aR (fun _ _=>rfl)) (pv 14)) aj) aw)))))))
(ai (sv 15 nd (aQ dk (pv 8) (aQ jD aj (pv 10))))
(ai (bT (jC (fR (fc mJ hr (aa (jn kP (pv 7) (jh (pv 15)) (jh (aQ dk (pv 15) aj))) (aa (bS (aa (pv 11) (aa (pv 13) aw))) aw)))))
(av (a9 kM))
bp)
(av (eN bB rfl (cI (xl (pv 7) (aQ dk (pv 15) aj))) (iH rfl (bW (gn 14 nd) (bW (gn 16 nd) gy)))
(av (eN bB rfl (cI (xl (pv 7) (pv 15))) (iH rfl (bW (gn 12 nd) (bW (gn 17 nd) gy)))
(av (bT (fR (fc jv hr (aa (pv 3) (aa (pv 14) (aa (pv 12) aw)))))
(av (a9 kM))
bp)))))))))))))
(av (a9 kM)))))))))))))))),?_⟩
  refine⟨_,rfl,_,rfl,_,rfl,a,_,30,140,rfl,hS,(by rw[ae]; exact hz),_,_,rfl,rfl,_,rfl,a,_,rfl,hS,fun pc nc=>?_⟩
  obtain⟨cs,ecs⟩:=Nh ns (some 1) (some (1 + 30))
  have rq:cs.length<=30:=by
   have h:=Ng (ns.map V.int) 1 31 (by decide)
   have e:mW (ns.map V.int) (some ((1:Nat):Int)) (some ((31:Nat):Int))=cs.map V.int:=ecs
   rw[e,ae] at h
   exact h
  rw[ecs]
  have s1:=aF.new (o:= .lst (cs.map V.int)) nc
  have WD:upd H pc (.lst (cs.map V.int)) pc=some (.lst (cs.map V.int)):=ag
  generalize upd H pc (.lst (cs.map V.int))=H1 at s1 WD
  refine⟨_,rfl,pc,cs,rfl,bG.of WD,(by lia),fun pa ds ms H2 s2 M5 KO FV cE=>?_⟩
  have S2:=s1.trans s2
  have U7:=s2 _ _ WD
  refine⟨_,rfl,pa,ds,ms,rfl,M5,KO,(by lia),cE,fun t v ps sd us g H3 s3 ht ni QH U2 N9 Ey hG=>?_⟩
  refine⟨t,_,_,.ref sd,rfl,rfl,cF.of ht,rfl,?_⟩
  have U8:=s3 _ _ M5
  have QL:=KO.mono s3.tk
  have U9:=s3 _ _ U7
  have S3:=S2.trans s3
  have rW:l4 H3 tB:=bQ kF S3
  have rX:mF H3 tC:=bQ j7 S3
  clear s1 s2 s3 S2 S3 kF j7 M5 KO WD U7 hS ht ni QH Ey N9
  have Iy:=eI.length QL
  refine⟨_,rfl,pc,cs,rfl,bG.of U9,fun pn names H4 s4 Hx ZQ TM=>?_⟩
  have Va:=s4 _ _ U8
  have Vb:=QL.mono s4.tk
  have sV:l4 H4 tB:=bQ rW s4
  have sW:mF H4 tC:=bQ rX s4
  have Vc:=U2.same s4
  clear s4 U8 QL rW rX U9 U2
  have Vd: ∀{H':Hp} {q:Addr} {aH:Str},H' q=some (.tup [.str "sweep",.str aH])->Rp H' (bg.dt (.bU aH)) (.ref q):=fun e=>eP e (br.mpr ⟨_,_,rfl,fv.mpr rfl,br.mpr ⟨_,_,rfl,fv.mpr rfl,cv.mpr rfl⟩⟩)
  refine⟨_,rfl,pn,rfl,⟨_,bG.of Hx⟩,?_⟩
  refine dX (K:=K) (a:=pn) (xs:=names.map V.str) (fun D i σ H'=>H4 D=none/\ ∃(v:Option V) (ws:List V),σ=[v]/\aF H4 H'/\H' D=some (.lst ws)/\eI H' ((names.take i).map bg.bU) ws) (fun D hD=>⟨hD,none,[],rfl,aF.new hD,ag,cv.mpr rfl⟩) (fun D i σ H' _ ⟨_,_,_,_,t3,_⟩=>bG.of (t3 _ _ Hx)) ?_ ?_
  ·rintro D i x σ H' hx ⟨hD,v,ws,rfl,t3,Au,hM⟩
   rw[aC] at hx
   obtain⟨aH,hw,rfl⟩:=a8.mp hx
   have hi:i < names.length:=(ah.mp hw).1
   have yr:=eI.length hM
   rw[ae,ba] at yr
   refine⟨_,rfl,(by show 2<=sizeLine; decide),fun q nq=>?_⟩
   have u:=aF.new (o:= .tup [V.str "sweep",.str aH]) nq
   refine⟨ws,u _ _ Au,bf (by lia),hD,_,ws ++ [.ref q],rfl,(t3.trans u).dr hD,ag,?_⟩
   rw[gZ hi,(ah.mp hw).2,aL]
   exact(hM.mono (u.tk.trans (dY (u _ _ Au)))).snoc (Vd (dY (u _ _ Au) _ _ ag))
  rintro pm0 σ H5 YA ⟨_,v5,mw0,rfl,s5,Ve,Ls⟩
  rw[ae,aZ] at Ls
  have Nl:=s5 _ _ Hx
  have e62:(10:Int) ^ (62:Int).toNat=eB:=rfl
  refine⟨_,rfl,pn,rfl,⟨_,bG.of Nl⟩,?_⟩
  refine fG (K:=K) (a:=pn) (xs:=names.map V.str) (fun i σ H'=> ∃(x6:Option V) (pm:Addr) (mw:List V),σ=[some (.ref a),some (.ref pc),some (.ref pa),some (.ref sd),some (.ref pn),some (.ref pm),x6,none,none,none,none,none,none,none,none,none,none,none]/\aF H5 H'/\H' pm=some (.lst mw)/\eI H' (names.map bg.bU ++ jS ((names.take i).map fun n=>(n,eB))) mw)
   ⟨_,pm0,mw0,rfl,aF.refl _,Ve,by simpa[jS] using Ls⟩ (fun i σ H' _ ⟨_,_,_,_,t2,_⟩=>bG.of (t2 _ _ Nl)) ?_ ?_
  ·rintro i x σ H' hx ⟨x6,pm,mw,rfl,t2,UA,hM⟩
   rw[aC] at hx
   obtain⟨aH,hw,rfl⟩:=a8.mp hx
   have hi:i < names.length:=(ah.mp hw).1
   have QM:=eI.length hM
   rw[ax,ae,se,ae,ba] at QM
   refine⟨_,rfl,_,rfl,_,_,rfl,rfl,⟨by decide,by decide,by decide⟩,(by show 3<=sizeLine; decide),fun q1 n1=>?_⟩
   have u1:=aF.new (o:= .tup [V.str "owed",.str aH,.int eB]) n1
   refine⟨_,rfl,_,_,rfl,rfl,⟨by decide,by decide,by decide⟩,(by show 3<=sizeLine; decide),fun q2 n2=>?_⟩
   have u2:=aF.new (o:= .tup [V.str "free",.str aH,.int eB]) n2
   refine⟨(by show 2<=sizeLine; decide),fun q3 n3=>?_⟩
   have u3:=aF.new (o:= .lst [V.ref q1,.ref q2]) n3
   have ZR:=(u1.trans u2).trans u3
   refine⟨pm,q3,mw,_,rfl,rfl,ZR _ _ UA,ag,?_,fun q4 n4=>?_⟩
   ·refine cL (bf ?_)
    show mw.length + 2<=1000
    lia
   have u4:=aF.new (o:= .lst (mw ++ [V.ref q1,.ref q2])) n4
   refine⟨_,q4,mw ++ [.ref q1,.ref q2],rfl,(t2.trans ZR).trans u4,ag,?_⟩
   rw[gZ hi,(ah.mp hw).2,aL,cO,qH,Io,← b0]
   have e1:Rp _ (bg.dt (.ask true aH eB)) (.ref q1):=eP ((u2.trans (u3.trans u4)) _ _ ag) (br.mpr ⟨_,_,rfl,fv.mpr rfl,br.mpr ⟨_,_,rfl,fv.mpr rfl,br.mpr ⟨_,_,rfl,dD.mpr rfl,cv.mpr rfl⟩⟩⟩)
   have e2:Rp _ (bg.dt (.ask false aH eB)) (.ref q2):=eP ((u3.trans u4) _ _ ag) (br.mpr ⟨_,_,rfl,fv.mpr rfl,br.mpr ⟨_,_,rfl,fv.mpr rfl,br.mpr ⟨_,_,rfl,dD.mpr rfl,cv.mpr rfl⟩⟩⟩)
   have h3:=((hM.mono (ZR.trans u4).tk).snoc e1).snoc e2
   rw[show mw ++ [V.ref q1] ++ [V.ref q2]=mw ++ [V.ref q1,.ref q2] by rw[b0]; rfl,b0,b0] at h3
   rw[b0]
   exact h3
  rintro σ H6 ⟨x6,pm1,Nm,rfl,s6,Vf,WE⟩
  rw[ae,aZ] at WE
  have QN:=s6 _ _ Nl
  refine⟨_,rfl,_,rfl,pn,rfl,⟨_,bG.of QN⟩,?_⟩
  refine dX (K:=K) (a:=pn) (xs:=names.map V.str) (fun D i σ H'=>H6 D=none/\ ∃(v:Option V) (ws:List V),σ=[v]/\aF H6 H'/\H' D=some (.lst ws)/\eI H' ((names.take i).map bg.bU) ws) (fun D hD=>⟨hD,none,[],rfl,aF.new hD,ag,cv.mpr rfl⟩) (fun D i σ H' _ ⟨_,_,_,_,t3,_⟩=>bG.of (t3 _ _ QN)) ?_ ?_
  ·rintro D i x σ H' hx ⟨hD,v,ws,rfl,t3,Au,hM⟩
   rw[aC] at hx
   obtain⟨aH,hw,rfl⟩:=a8.mp hx
   have hi:i < names.length:=(ah.mp hw).1
   have yr:=eI.length hM
   rw[ae,ba] at yr
   refine⟨_,rfl,(by show 2<=sizeLine; decide),fun q nq=>?_⟩
   have u:=aF.new (o:= .tup [V.str "sweep",.str aH]) nq
   refine⟨ws,u _ _ Au,bf (by lia),hD,_,ws ++ [.ref q],rfl,(t3.trans u).dr hD,ag,?_⟩
   rw[gZ hi,(ah.mp hw).2,aL]
   exact(hM.mono (u.tk.trans (dY (u _ _ Au)))).snoc (Vd (dY (u _ _ Au) _ _ ag))
  rintro pm2 σ H7 nm2 ⟨_,v7,Nn,rfl,s7,Vg,WG⟩
  rw[ae,aZ] at WG
  have Vh:=WE.mono s7.tk
  have MK:=eI.length WE
  have VQ:=eI.length WG
  rw[ax,ae,se,ae] at MK
  rw[ae] at VQ
  refine⟨pm1,pm2,Nm,Nn,rfl,rfl,s7 _ _ Vf,Vg,?_,fun pm npm=>?_⟩
  ·refine cL (bf ?_)
   lia
  have u8:=aF.new (o:= .lst (Nm ++ Nn)) npm
  have Oc:=((s5.trans s6).trans s7).trans u8
  have Np:upd H7 pm (.lst (Nm ++ Nn)) pm=some (.lst (Nm ++ Nn)):=ag
  have WH:eI (upd H7 pm (.lst (Nm ++ Nn))) (names.map bg.bU ++ jS (names.map fun n=>(n,eB)) ++ names.map bg.bU) (Nm ++ Nn):=by
   unfold eI
   rw[aL]
   exact g9.append (Vh.mono u8.tk) (WG.mono u8.tk)
  generalize upd H7 pm (.lst (Nm ++ Nn))=H8 at Oc Np WH
  have QO:=Oc _ _ Va
  have Vi:=Vb.mono Oc.tk
  have HS:l4 H8 tB:=bQ sV Oc
  have HU:mF H8 tC:=bQ sW Oc
  have EK:=Vc.same Oc
  have Vj:=Oc _ _ Hx
  have QM:(Nm ++ Nn).length=4 * names.length:=by rw[ax]; lia
  generalize Nm ++ Nn=mw at Np WH QM
  clear s5 s6 s7 u8 Oc Ve Vf Vg Ls WE WG Vh MK VQ Hx Nl QN Va Vb sV sW Vc YA nm2 npm
  refine⟨_,rfl,_,rfl,pa,pm,ms,mw,rfl,rfl,QO,Np,?_,fun ph nh=>?_⟩
  ·refine cL (bf ?_)
   lia
  have u9:=aF.new (o:= .lst (ms ++ mw)) nh
  have hda:eI (upd H8 ph (.lst (ms ++ mw))) (ds ++ (names.map bg.bU ++ jS (names.map fun n=>(n,eB)) ++ names.map bg.bU)) (ms ++ mw):=by
   unfold eI
   rw[aL]
   exact g9.append (Vi.mono u9.tk) (WH.mono u9.tk)
  have Vk: ∀d∈names.map bg.bU ++ jS (names.map fun n=>(n,eB)) ++ names.map bg.bU,d.ok:=fun d hd=>by
   have sw:d∈names.map bg.bU->d.ok:=fun z=>by
    obtain⟨_,_,rfl⟩:=bJ.mp z
    exact trivial
   rcases bc.mp hd with hd|hd
   ·rcases bc.mp hd with hd|hd
    ·exact sw hd
    ·unfold jS at hd
     obtain⟨y,_,hy⟩:=List.mem_flatMap.mp hd
     simp only[List.mem_cons,List.not_mem_nil,or_false] at hy
     rcases hy with rfl|rfl <;> exact trivial
   ·exact sw hd
  have K5:(names.map bg.bU ++ jS (names.map fun n=>(n,eB)) ++ names.map bg.bU).length=4 * names.length:=by
   rw[ax,ax,se,ae,ae]
   lia
  refine⟨ph,_,ms ++ mw,rfl,ag,hda,(by rw[ax,K5]; lia),(fun d hd=>(bc.mp hd).elim (cE d) (Vk d)),bQ HS u9,bQ HU u9,fun pt vs Uc F10 Vl Vm nt wO hA=>?_⟩
  have N6: ∀t∈[tB,tC],∃ps,(upd H8 ph (.lst (ms ++ mw))) t=some (.ng ps):=fun t z=>by
   simp only[List.mem_cons,List.not_mem_nil,or_false] at z
   rcases z with rfl|rfl
   ·exact c9 (bQ HS u9)
   ·exact c9 (bQ HU u9)
  have kk: ∀a o,H8 a=some o->(∀ps,o≠ .ng ps)->Uc a=some o:=fun a o e n=>yT F10 N6 (u9 _ _ e) n
  have K6:=kk _ _ QO (fun _ z=>by cases z)
  have K7:=kk _ _ Vj (fun _ z=>by cases z)
  have FZ:=QI EK kk
  have QP:=EK.same u9
  have hvl:=aO hA
  rw[jr,ax,K5] at hvl
  have QQ:=hG.acc
  have lV:=hG.day (FX ds cE (fun _ z=>by cases z))
  have wf:=hG.wf (by lia:ds.length<=60)
  have Nq:(dQ ds hV.new 0).2.bk.wL<=60:=by
   have h1:=wM _ hG.w
   have h2:=hG.len
   have h3:Bk.new.wL=0:=rfl
   lia
  have yO:=k8 ds.length hA
  have Vn:=jr ds hV.new 0
  rw[lh,IF (by lia),List.drop_of_length_le (by lia),Lu,lh,lh] at yO
  dsimp only at yO
  generalize (dQ ds hV.new 0).2=T0 at yO FZ EK QP QQ lV wf Nq
  clear Vn hG
  obtain⟨r1,r2⟩:=qE names T0 (0 + ds.length)
  rw[r1] at yO
  generalize (dQ (names.map bg.bU) T0 (0 + ds.length)).2=T1 at yO r2
  have FG:T1.bk=gg T0.bk names:=r2
  obtain⟨r3,r4⟩:=yY (jS (names.map fun n=>(n,eB))) T1 (0 + ds.length + (names.map bg.bU).length) (fun d hd=>by
   unfold jS at hd
   obtain⟨y,_,hy⟩:=List.mem_flatMap.mp hd
   simp only[List.mem_cons,List.not_mem_nil,or_false] at hy
   rcases hy with rfl|rfl
   ·exact .inl ⟨_,_,_,rfl⟩
   ·exact .inl ⟨_,_,_,rfl⟩)
  rw[r3,(qE names T1 _).1,r2] at yO
  have hq: ∀w∈names,Quiet (gg T0.bk names) w:=fun w hw=>r9 names T0.bk w hw
  rw[oE names _ hq] at yO
  have F6: ∀(i:Nat) (d:bg),(jS (names.map fun n=>(n,eB)))[i]? =some d->(dQ (jS (names.map fun n=>(n,eB))) T1 (0 + ds.length + (names.map bg.bU).length)).1[i]? =some (dz T1 0 d).1:=r4
  have Rh:(dQ (jS (names.map fun n=>(n,eB))) T1 (0 + ds.length + (names.map bg.bU).length)).1.length=2 * names.length:=by rw[jr,se,ae]
  generalize (dQ (jS (names.map fun n=>(n,eB))) T1 (0 + ds.length + (names.map bg.bU).length)).1=A2 at yO F6 Rh
  have Kq:=mI names T0.bk
  have hL:=jR names T0.bk
  have Dh:=wI names QQ
  have Di:=lV.ny hL
  have Vo:=qF names T0.bk
  have hrp:Rp Uc (.lst ((dQ (ds ++ (names.map bg.bU ++ jS (names.map fun n=>(n,eB)) ++ names.map bg.bU)) hV.new 0).1.map mO.dt)) (.ref pt):=fk wO (KU hA)
  refine⟨_,rfl,pn,_,rfl,.inl (bG.of K7),?_⟩
  rw[ae]
  refine⟨_,rfl,_,_,_,true,rfl,hrp.ty,E9 (.lst _),_,rfl,bX ?_⟩
  refine⟨_,rfl,pt,_,rfl,.inl (bG.of wO),_,rfl,pa,_,rfl,.inl (bG.of K6),_,rfl,_,_,rfl,rfl,.inl ⟨by decide,by decide⟩,_,_,rfl,rfl,rfl,_,rfl,cH (fun z=>?_) (fun _=>?_)⟩
  ·exfalso
   have e:(vs.length:Int)=(ms.length:Int) + 4 * (names.length:Int):=by lia
   simp[e] at z
  refine⟨_,rfl,_,rfl,pa,_,rfl,.inl (bG.of K6),_,rfl,pt,_,rfl,bG.of wO,fun pf Lr=>?_⟩
  rw[show((ms.length:Nat):Int)=((ds.length:Nat):Int) by lia,sT vs ds.length (by lia)] at *
  have RQ:=aF.new (o:= .lst (vs.drop ds.length)) Lr
  have HC:upd Uc pf (.lst (vs.drop ds.length)) pf=some (.lst (vs.drop ds.length)):=ag
  have Vp:pf∉g.fp:=FZ.off Lr
  have Nr:=Paired.g8 yO fun _ _ q=>lZ.keep (RA:=fun D=>D∉g.fp) q (fun b xs ok e=>⟨QP.off ok.2,RQ _ _ e⟩) RQ.tk
  have y0:=FZ.same RQ
  have y1:=RQ _ _ K7
  have Rz:(vs.drop ds.length).length=4 * names.length:=by rw[ig]; lia
  generalize upd Uc pf (.lst (vs.drop ds.length))=H12 at RQ HC Nr y0 y1
  generalize vs.drop ds.length=fw at HC Nr Rz
  clear hA yO hrp wO K6 K7 FZ QP EK kk N6 u9 hda F10 Vl Vm HS HU QO Np Vj Vi WH nt nh RQ Lr r1 r2 r3 r4 Vk K5 cE
  have QR:pn∉g.fp:=K3 y0 y1 ZQ
  refine⟨_,rfl,pn,rfl,⟨_,bG.of y1⟩,?_⟩
  refine dX (K:=K) (a:=pn) (xs:=names.map V.str) (fun D i σ H'=>H12 D=none/\ ∃(v:Option V) (us:List V),σ=[v,some (.ref sd)]/\Frame g.fp H12 H'/\dA H' sd (gg T0.bk (names.take i)) g/\H' D=some (.lst us)/\Paired (lZ H' (fun b=>b≠D/\b∉g.fp)) (eT T0.bk (names.take i)) us) (fun D hD=>⟨hD,none,[],rfl,(aF.new hD).frame,y0.same (aF.new hD),ag,.nil⟩) (fun D i σ H' _ ⟨_,_,_,_,f3,_⟩=>bG.of (f3 _ _ QR y1)) ?_ ?_
  ·rintro D i x σ H' hx ⟨hD,v,Al,rfl,f3,U6,Au,hU⟩
   rw[aC] at hx
   obtain⟨aH,hw,rfl⟩:=a8.mp hx
   have hi:i < names.length:=(ah.mp hw).1
   have nDg:D∉g.fp:=y0.off hD
   have hul:=aO hU
   rw[mI,ba] at hul
   have hLi:=jR (names.take i) T0.bk
   have hpi:=qF (names.take i) T0.bk
   have hmi:=Dd (gg T0.bk (names.take i))
   have hlb:=wf.lb
   have YF:=wf.lc
   refine⟨_,rfl,_,rfl,sd,_,g,aH,rfl,U6,(by rw[hLi.cl]; lia),(by rw[hLi.bl]; lia),(by rw[eU]; lia),fun D2 Lo H4 F4 Zm Dr Em DT=>?_⟩
   have WI:=F4 _ _ nDg Au
   refine⟨Al,WI,bf (by lia),hD,_,Al ++ [.ref D2],rfl,?_,?_,ag,?_⟩
   ·exact fun b o hb e=>by
     have nb:b≠D:=aJ e hD
     rw[az nb]
     exact F4 _ _ hb (f3 _ _ hb e)
   ·rw[gZ hi,(ah.mp hw).2,C8]
    exact FW Zm WI nDg
   ·rw[gZ hi,(ah.mp hw).2,pX]
    have nD:D2≠D:=fun z=>by rw[z,Au] at Dr; cases Dr
    refine cw (Paired.g8 hU fun _ _ q=>q.keep (fun b xs ok e=>⟨ok,by rw[az ok.1]; exact F4 _ _ ok.2 e⟩) ((U6.tk F4).trans (dY WI))) ⟨D2,Lo,rfl,⟨nD,U6.off Dr⟩,by rw[az nD]; exact Em,DT.mono (dY WI)⟩
  rintro pD σ H14 npD ⟨_,v14,aeS,rfl,Vq,K8,Uz,hU⟩
  rw[ae,aZ] at hU K8
  have F9:=Vq _ _ Vp HC
  have Od:=Vq _ _ QR y1
  have Nt:=Paired.g8 Nr fun _ _ q=>lZ.keep (RA:=fun _=>True) q (fun b xs ok e=>⟨trivial,Vq _ _ ok e⟩) (y0.tk Vq)
  clear HC y1 Nr y0 Vq Vp QR npD
  have ZS:(fw.take names.length).length=names.length:=by rw[ba]; lia
  refine⟨_,rfl,_,rfl,_,rfl,pf,_,rfl,bG.of F9,fun p1 n1=>?_⟩
  rw[Nk fw names.length (by lia)]
  have u1:=aF.new (o:= .lst (fw.take names.length)) n1
  have RD:Paired (lZ H14 (fun _=>True)) (eT T0.bk names) (fw.take names.length):=by
   have:=uc names.length Nt
   rwa [b0,List.take_append_of_le_length (by lia),List.take_of_length_le (by lia)] at this
  have QS:(Dt.lst ((eT T0.bk names).map mO.dt)).size<=100000/\(Dt.lst ((eT T0.bk names).map mO.dt)).plain=true:=by
   have h1:=l7 mO.dt 300 (eT T0.bk names) fun a ha=>(lD names T0.bk Nq a ha).1
   rw[Kq] at h1
   refine⟨?_,mH _ _ fun a ha=>(lD names T0.bk Nq a ha).2⟩
   show 1 + Dt.fI _<=100000
   lia
  refine⟨_,rfl,_,.ref p1,.ref pD,rfl,fk ag (g9.mono u1 _ (KU RD)),fk (u1 _ _ Uz) (g9.mono u1 _ (KU hU)),QS.1,QS.2,fun H15 QT=>⟨_,rfl,bX ?_⟩⟩
  have QT:=u1.trans QT
  have Oe:=QT _ _ F9
  refine⟨_,rfl,_,rfl,_,_,rfl,rfl,.inl ⟨by decide,by decide⟩,_,rfl,pf,_,rfl,bG.of Oe,fun p2 n2=>?_⟩
  rw[show(3:Int) * ((names.length:Nat):Int)=((3 * names.length:Nat):Int) by lia,sT fw (3 * names.length) (by lia)]
  have u2:=aF.new (o:= .lst (fw.drop (3 * names.length))) n2
  refine⟨bq _,fun e0 ne0=>?_⟩
  have u3:=aF.new (o:= .lst []) ne0
  refine⟨(by show 1<=sizeLine; decide),fun e1 ne1=>?_⟩
  have u4:=aF.new (o:= .lst [V.ref e0]) ne1
  refine⟨_,rfl,e1,_,_,rfl,rfl,ag,(by lia),(by lia),?_,fun p3 n3=>?_⟩
  ·rw[cW]
   refine cL (bf ?_)
   show 1 * names.length<=1000
   lia
  rw[cW]
  have u5:=aF.new (o:= .lst (List.replicate names.length [V.ref e0]).flatten) n3
  have RK:Paired (lZ H15 (fun _=>True)) (names.map fun _=>mO.sets []) (fw.drop (3 * names.length)):=by
   have h1:=k8 (3 * names.length) Nt
   rw[IF (by rw[ax]; lia),List.drop_of_length_le (by rw[ax]; lia),Lu] at h1
   exact Paired.g8 h1 fun _ _ q=>lZ.keep (RA:=fun _=>True) q (fun b xs ok e=>⟨trivial,QT _ _ e⟩) QT.tk
  have QU:(Dt.lst ((names.map fun _=>mO.sets []).map mO.dt)).size<=100000/\(Dt.lst ((names.map fun _=>mO.sets []).map mO.dt)).plain=true:=by
   rw[fq]
   have h1:=l7 (mO.dt ∘ fun _:Str=>mO.sets []) 1 names fun a ha=>aD _
   refine⟨?_,mH _ _ fun a ha=>rfl⟩
   show 1 + Dt.fI _<=100000
   lia
  have Vr: ∀{H':Hp},H' e0=some (.lst [])-> ∀l:List Str,g9 H' ((l.map fun _=>mO.sets []).map mO.dt) (List.replicate l.length [V.ref e0]).flatten:=fun{H'} z l=>by
   induction l with
   |nil=>exact cv.mpr rfl
   |cons x l ih=>exact br.mpr ⟨_,_,rfl,fk z (cv.mpr rfl),ih⟩
  have ZT:=(u3.trans u4).trans u5
  have ZU:=u2.trans ZT
  refine⟨_,.ref p2,.ref p3,rfl,fk (ZT _ _ ag) (g9.mono ZU _ (KU RK)),fk ag (Vr ((u4.trans u5) _ _ ag) names),QU.1,QU.2,fun Ir t16=>⟨_,rfl,bX ?_⟩⟩
  have RS:=(QT.trans ZU).trans t16
  have K9:=RS _ _ F9
  have Of:=RS _ _ Od
  have mU:=K8.same RS
  have QV:=Paired.g8 Nt fun _ _ q=>lZ.keep (RA:=fun _=>True) q (fun b xs ok e=>⟨trivial,RS _ _ e⟩) RS.tk
  clear F9 Od K8 Nt RD RK hU Uz Oe QT t16 RS u1 u2 u3 u4 u5 ZT ZU QS QU Vr ZS
  have lc:=mU.rc.length
  have lb:=mU.rb.length
  have Vs:(gg T0.bk names).aE.length<=60:=by rw[hL.bl]; have:=wf.lb; lia
  have Vt:(gg T0.bk names).credits.length<=60:=by rw[hL.cl]; have:=wf.lc; lia
  have Vu: ∀(i:Nat) (aH:Str),names[i]? =some aH-> ∃D1 m1 D2 m2,fw[names.length + 2 * i]? =some (.ref D1)/\Ir D1=some (.lst m1)/\eR Ir ((gg T0.bk names).eQ true aH eB) m1/\fw[names.length + 2 * i + 1]? =some (.ref D2)/\Ir D2=some (.lst m2)/\eR Ir ((gg T0.bk names).eQ false aH eB) m2:=fun i aH hw=>by
   have hi:i < names.length:=(ah.mp hw).1
   obtain⟨g1,g2⟩:=Dc (pr:=names.map fun n=>(n,eB)) (k:=i) (x:=(aH,eB)) (by rw[aC,hw]; rfl)
   have a1:=F6 _ _ g1
   have a2:=F6 _ _ g2
   have b1:(eT T0.bk names ++ A2 ++ names.map fun _=>mO.sets [])[names.length + 2 * i]? =some (mO.pairs (T1.bk.eQ true aH eB)):=by
    rw[b0,gj (by lia),Kq,show names.length + 2 * i - names.length=2 * i by lia,jA (by lia)]
    exact a1
   have b2:(eT T0.bk names ++ A2 ++ names.map fun _=>mO.sets [])[names.length + 2 * i + 1]? =some (mO.pairs (T1.bk.eQ false aH eB)):=by
    rw[b0,gj (by lia),Kq,show names.length + 2 * i + 1 - names.length=2 * i + 1 by lia,jA (by lia)]
    exact a2
   rw[FG] at b1 b2
   obtain⟨v1,e1,D1,m1,rfl,_,f1,f2⟩:=bK QV b1
   obtain⟨v2,e2,D2,m2,rfl,_,f3,f4⟩:=bK QV b2
   exact⟨D1,m1,D2,m2,e1,f1,f2,e2,f3,f4⟩
  generalize gg T0.bk names=S at Vu mU Dh Di hq lc lb Vs Vt
  clear QV F6 Nq Vo hL QQ lV wf Rh Kq
  have Vv: ∀(o:Bool) (aH:Str),(mO.pairs (S.eQ o aH eB)).dt.size<=1000/\(mO.pairs (S.eQ o aH eB)).dt.plain=true:=fun o aH=>by
   have h1:=l7 (fun t:Nat×Int=>Dt.tup [.int t.1,.int t.2]) 3 (S.eQ o aH eB) (fun x _=>aD _)
   have h2:(S.eQ o aH eB).length<=(S.rows o).length:=HG
   have h3:(S.rows o).length<=60:=by
    cases o
    ·exact Vt
    ·exact Vs
   refine⟨?_,mH _ _ fun x _=>rfl⟩
   show 1 + Dt.fI ((S.eQ o aH eB).map fun t=>Dt.tup [.int t.1,.int t.2])<=1000
   lia
  refine⟨_,rfl,(names.length:Int),rfl,by lia,by lia,?_⟩
  rw[cW]
  refine jU (lo:=0) (n:=names.length) (fun i σ H'=> ∃(CM CO xZ FQ AY C2 AZ Nu:Option V),σ=[some (.ref a),some (.ref pc),some (.ref pa),some (.ref sd),some (.ref pn),some (.ref pm),x6,some (.ref pf),some (.int (names.length:Int)),some (.ref pD),CM,CO,xZ,FQ,AY,C2,AZ,Nu]/\aF Ir H') ⟨_,_,_,_,_,_,_,_,rfl,aF.refl _⟩ ?_ ?_
  ·rintro i σ H' hi ⟨CM,CO,xZ,FQ,AY,C2,AZ,Nu,rfl,t1⟩
   rw[jT]
   have hw:=af hi
   have hwm:=bH hi
   obtain⟨D1,m1,D2,m2,e1,f1,f2,e2,f3,f4⟩:=Vu i _ hw
   have hqw:=hq _ hwm
   generalize names[i]=aH at hw f2 f4 hqw
   have hwv:(names.map V.str)[i]? =some (.str aH):=by rw[aC,hw]; rfl
   refine⟨bq _,fun po npo=>?_⟩
   have v1:=aF.new (o:= .lst []) npo
   have Ui:upd H' po (.lst []) po=some (.lst []):=ag
   have t2:=t1.trans v1
   have Vw:Ir po=none:=t1.free npo
   generalize upd H' po (.lst [])=Ha at v1 Ui t2
   refine⟨_,rfl,sd,_,rfl,(mU.same t2).gB,_,rfl,_,rfl,pn,_,_,.str aH,rfl,rfl,bG.of (t2 _ _ Of),cA hwv,g.pb,g.iP,S.aE,aH,2,(·.b),rfl,(mU.same t2).hb,(mU.same t2).rb,(by lia),(fun r=>rfl),fun ZV Hb t3 nDb ZW=>?_⟩
   have Vx:=t3 _ _ Ui
   have ZX:ZV≠po:=fun z=>by rw[z,Ui] at nDb; cases nDb
   have Vy:=t2.trans t3
   refine⟨ZV,rfl,⟨_,bG.of ZW⟩,?_⟩
   refine fG (K:=K) (a:=ZV) (xs:=(inTurn S.aE aH (·.b)).map fun(k:Nat)=>V.int (k:Int)) (fun j σ qk=> ∃(xZ:Option V) (ws:List V),σ=[some (.ref a),some (.ref pc),some (.ref pa),some (.ref sd),some (.ref pn),some (.ref pm),x6,some (.ref pf),some (.int (names.length:Int)),some (.ref pD),some (.int (i:Int)),some (.ref po),xZ,FQ,AY,C2,AZ,Nu]/\Frame [po] Hb qk/\qk po=some (.lst ws)/\eR qk (((inTurn S.aE aH (·.b)).take j).map fun k=>(k,(S.bl k).d)) ws)
    ⟨_,[],rfl,Frame.refl,Vx,.nil⟩ (fun j σ qk _ ⟨_,_,_,f5,_⟩=>bG.of (f5 _ _ (by simpa using ZX) ZW)) ?_ ?_
   ·rintro j x σ qk hx ⟨y12,ws,rfl,f5,Nv,Vz⟩
    rw[aC] at hx
    obtain⟨b,Mr,rfl⟩:=a8.mp hx
    have hj:j < (inTurn S.aE aH (·.b)).length:=(ah.mp Mr).1
    have HA:=(bP.mp (eD Mr)).1
    have t5:aF Ir qk:=fun c o e=>f5 _ _ (by simpa using aJ e Vw) (Vy _ _ e)
    have QW:=mU.same t5
    obtain⟨q,q1,q2,q3⟩:=QW.lb HA
    have yr:=aO Vz
    rw[ae,ba] at yr
    have Y7:=iq S.aE aH (·.b)
    refine⟨_,rfl,.inl ⟨rfl,_,bG.of Nv⟩,_,rfl,_,rfl,sd,_,rfl,QW.gB,_,rfl,g.pb,_,_,.ref q,rfl,rfl,bG.of QW.hb,q2,q,_,_,.int (S.bl b).d,rfl,rfl,bG.of q3,rfl,(by show 2<=sizeLine; decide),fun p8 n8=>?_⟩
    have u8:=aF.new (o:= .tup [V.int (b:Int),.int (S.bl b).d]) n8
    refine⟨po,ws,_,rfl,rfl,u8 _ _ Nv,bf (by lia),?_⟩
    have tk:=u8.tk.trans (dY (o:= .lst (ws ++ [V.ref p8])) (u8 _ _ Nv))
    refine⟨_,ws ++ [.ref p8],rfl,(f5.cU u8).tr (Frame.upd (by simp)),ag,?_⟩
    rw[gZ hj,(ah.mp Mr).2,aL]
    exact cw (eR.mono Vz tk) ⟨p8,rfl,dY (u8 _ _ Nv) _ _ ag⟩
   rintro σ Hc ⟨y12,wo,rfl,f6,QX,WJ⟩
   rw[ae,aZ] at WJ
   have t6:aF Ir Hc:=fun c o e=>f6 _ _ (by simpa using aJ e Vw) (Vy _ _ e)
   have eo:((inTurn S.aE aH (·.b)).map fun k=>(k,(S.bl k).d))=S.eQ true aH eB:=(tu Dh Di true aH).symm
   rw[eo] at WJ
   refine⟨bq _,fun pr ZY=>?_⟩
   have w1:=aF.new (o:= .lst []) ZY
   have En:upd Hc pr (.lst []) pr=some (.lst []):=ag
   have t7:=t6.trans w1
   have VA:Ir pr=none:=t6.free ZY
   have QY:=w1 _ _ QX
   have QZ:=eR.mono WJ w1.tk
   generalize upd Hc pr (.lst [])=Hd at w1 En t7 QY QZ
   refine⟨_,rfl,sd,_,rfl,(mU.same t7).gC,_,rfl,_,rfl,pn,_,_,.str aH,rfl,rfl,bG.of (t7 _ _ Of),cA hwv,g.pc,g.cps,S.credits,aH,1,(·.a),rfl,(mU.same t7).hc,(mU.same t7).rc,(by lia),(fun r=>rfl),fun ZZ He t8 nDc Z0=>?_⟩
   have Q0:=t8 _ _ En
   have Z1:ZZ≠pr:=fun z=>by rw[z,En] at nDc; cases nDc
   have Z2:po≠pr:=aJ QX ZY
   have VB:=t8 _ _ QY
   have VC:=eR.mono QZ t8.tk
   have Ru:=t7.trans t8
   refine⟨ZZ,rfl,⟨_,bG.of Z0⟩,?_⟩
   refine fG (K:=K) (a:=ZZ) (xs:=(inTurn S.credits aH (·.a)).map fun(k:Nat)=>V.int (k:Int)) (fun j σ qk=> ∃(AY:Option V) (ws:List V),σ=[some (.ref a),some (.ref pc),some (.ref pa),some (.ref sd),some (.ref pn),some (.ref pm),x6,some (.ref pf),some (.int (names.length:Int)),some (.ref pD),some (.int (i:Int)),some (.ref po),y12,some (.ref pr),AY,C2,AZ,Nu]/\Frame [pr] He qk/\qk pr=some (.lst ws)/\eR qk (((inTurn S.credits aH (·.a)).take j).map fun k=>(k,(S.cr k).d)) ws)
    ⟨_,[],rfl,Frame.refl,Q0,.nil⟩ (fun j σ qk _ ⟨_,_,_,f5,_⟩=>bG.of (f5 _ _ (by simpa using Z1) Z0)) ?_ ?_
   ·rintro j x σ qk hx ⟨y14,ws,rfl,f5,Nw,Vz⟩
    rw[aC] at hx
    obtain⟨b,Mr,rfl⟩:=a8.mp hx
    have hj:j < (inTurn S.credits aH (·.a)).length:=(ah.mp Mr).1
    have HA:=(bP.mp (eD Mr)).1
    have t5:aF Ir qk:=fun c o e=>f5 _ _ (by simpa using aJ e VA) (Ru _ _ e)
    have QW:=mU.same t5
    obtain⟨q,q1,q2,q3⟩:=QW.lc HA
    have yr:=aO Vz
    rw[ae,ba] at yr
    have Y7:=iq S.credits aH (·.a)
    refine⟨_,rfl,.inl ⟨rfl,_,bG.of Nw⟩,_,rfl,_,rfl,sd,_,rfl,QW.gC,_,rfl,g.pc,_,_,.ref q,rfl,rfl,bG.of QW.hc,q2,q,_,_,.int (S.cr b).d,rfl,rfl,bG.of q3,rfl,(by show 2<=sizeLine; decide),fun p8 n8=>?_⟩
    have u8:=aF.new (o:= .tup [V.int (b:Int),.int (S.cr b).d]) n8
    refine⟨pr,ws,_,rfl,rfl,u8 _ _ Nw,bf (by lia),?_⟩
    have tk:=u8.tk.trans (dY (o:= .lst (ws ++ [V.ref p8])) (u8 _ _ Nw))
    refine⟨_,ws ++ [.ref p8],rfl,(f5.cU u8).tr (Frame.upd (by simp)),ag,?_⟩
    rw[gZ hj,(ah.mp Mr).2,aL]
    exact cw (eR.mono Vz tk) ⟨p8,rfl,dY (u8 _ _ Nw) _ _ ag⟩
   rintro σ Hf ⟨y14,wf',rfl,f9,Z3,Z4⟩
   rw[ae,aZ] at Z4
   have t9:aF Ir Hf:=fun c o e=>f9 _ _ (by simpa using aJ e VA) (Ru _ _ e)
   have ef:((inTurn S.credits aH (·.a)).map fun k=>(k,(S.cr k).d))=S.eQ false aH eB:=(tu Dh Di false aH).symm
   rw[ef] at Z4
   have Z5:=f9 _ _ (by simpa using Z2) VB
   have Z6:eR Hf (S.eQ true aH eB) wo:=eR.mono VC (fun c xs e=>f9 _ _ (fun z=>by rw[ao.mp z,Q0] at e; cases e) e)
   clear WJ QZ VC Ui Vx QX QY VB En Q0 f6 f9 t2 t3 t6 t7 t8 Vy Ru v1 w1 ZW Z0 eo ef
   refine⟨_,rfl,_,rfl,_,_,rfl,rfl,.inl ⟨by decide,by decide⟩,_,_,rfl,rfl,?_⟩
   dsimp only
   rw[show(names.length:Int) + 2 * (i:Int)=((names.length + 2 * i:Nat):Int) by lia]
   generalize aeX:names.length + 2 * i=rL at e1 e2
   refine⟨_,rfl,_,rfl,_,rfl,_,rfl,_,_,rfl,rfl,_,rfl,pf,_,rfl,bG.of (t9 _ _ K9),fun p5 n5=>?_⟩
   rw[show(rL:Int) + 2=((rL + 2:Nat):Int) by lia,K2 fw rL e1 e2]
   have u5:=aF.new (o:= .lst [V.ref D1,.ref D2]) n5
   refine⟨_,rfl,_,rfl,(by show 2<=sizeLine; decide),fun p6 n6=>?_⟩
   have u6:=aF.new (o:= .lst [V.ref po,.ref pr]) n6
   have VD:=u5.trans u6
   have VE:=t9.trans VD
   obtain⟨z1,pl1⟩:=Vv true aH
   obtain⟨z2,pl2⟩:=Vv false aH
   refine⟨.lst [(mO.pairs (S.eQ true aH eB)).dt,(mO.pairs (S.eQ false aH eB)).dt],.ref p5,.ref p6,rfl,fk (u6 _ _ ag) (br.mpr ⟨_,_,rfl,fk (VE _ _ f1) (eR.Lm (eR.mono f2 VE.tk)),br.mpr ⟨_,_,rfl,fk (VE _ _ f3) (eR.Lm (eR.mono f4 VE.tk)),cv.mpr rfl⟩⟩),fk ag (br.mpr ⟨_,_,rfl,fk (VD _ _ Z5) (eR.Lm (eR.mono Z6 VD.tk)),br.mpr ⟨_,_,rfl,fk (VD _ _ Z3) (eR.Lm (eR.mono Z4 VD.tk)),cv.mpr rfl⟩⟩),?_,?_,fun H19 t19=>⟨_,rfl,bX ?_⟩⟩
   ·simp only[Dt.size,Dt.fI] at z1 z2 ⊢
    lia
   ·simp only[Dt.plain,Dt.nJ,Bool.and_true] at pl1 pl2 ⊢
    rw[pl1,pl2]
    rfl
   have Z7:=VE.trans t19
   have MK:=aO f2
   have VQ:=aO f4
   refine⟨_,rfl,_,rfl,_,_,rfl,rfl,pf,_,_,.ref D2,rfl,rfl,bG.of (Z7 _ _ K9),(by rw[show(rL:Int) + 1=((rL + 1:Nat):Int) by lia]; exact cA e2),D2,rfl,⟨_,bG.of (Z7 _ _ f3)⟩,?_⟩
   refine fG (K:=K) (a:=D2) (xs:=m2) (fun j σ qk=> ∃(xZ AY AZ Nu:Option V),σ=[some (.ref a),some (.ref pc),some (.ref pa),some (.ref sd),some (.ref pn),some (.ref pm),x6,some (.ref pf),some (.int (names.length:Int)),some (.ref pD),some (.int (i:Int)),some (.ref po),xZ,some (.ref pr),AY,some (.int (rL:Int)),AZ,Nu]/\aF Ir qk) ⟨_,_,_,_,rfl,Z7⟩ (fun j σ qk _ ⟨_,_,_,_,_,t⟩=>bG.of (t _ _ f3)) ?_ ?_
   ·rintro j x σ qk hx ⟨z12,z14,z16,z17,rfl,RT⟩
    have hj:j < (S.eQ false aH eB).length:=by have:=(ah.mp hx).1; lia
    obtain⟨v',VN,p,rfl,hp⟩:=bK f4 (af hj)
    rw[hx] at VN
    obtain rfl:x= .ref p:=aG VN
    obtain⟨c1,c2,c3⟩:=De Dh Di (bH hj)
    generalize (S.eQ false aH eB)[j]=tc at hp c1 c2 c3
    refine⟨p,_,rfl,cF.of (RT _ _ hp),rfl,_,_,rfl,_,_,rfl,rfl,?_⟩
    refine⟨_,rfl,_,rfl,pf,_,_,.ref D1,rfl,rfl,bG.of (RT _ _ K9),cA e1,D1,rfl,⟨_,bG.of (RT _ _ f1)⟩,?_⟩
    refine fG (K:=K) (a:=D1) (xs:=m1) (fun l σ WK=> ∃(xZ Nu:Option V),σ=[some (.ref a),some (.ref pc),some (.ref pa),some (.ref sd),some (.ref pn),some (.ref pm),x6,some (.ref pf),some (.int (names.length:Int)),some (.ref pD),some (.int (i:Int)),some (.ref po),xZ,some (.ref pr),some (.int (tc.1:Int)),some (.int (rL:Int)),some (.int tc.2),Nu]/\aF Ir WK) ⟨_,_,rfl,RT⟩ (fun l σ WK _ ⟨_,_,_,t⟩=>bG.of (t _ _ f1)) ?_ ?_
    ·rintro l x σ WK hx2 ⟨w12,w17,rfl,VF⟩
     have hl:l < (S.eQ true aH eB).length:=by have:=(ah.mp hx2).1; lia
     obtain⟨v'',VG,p',rfl,NV⟩:=bK f2 (af hl)
     rw[hx2] at VG
     obtain rfl:x= .ref p':=aG VG
     obtain⟨b1,b2,b3⟩:=De Dh Di (bH hl)
     generalize (S.eQ true aH eB)[l]=tb at NV b1 b2 b3
     refine⟨p',_,rfl,cF.of (VF _ _ NV),rfl,_,_,rfl,_,_,rfl,rfl,?_⟩
     refine⟨_,rfl,_,rfl,_,rfl,sd,S,g,tc.1,tb.1,rfl,mU.same VF,c1,b1,fun H4' Vy=>⟨_,rfl,cH (fun z=>?_) (fun _=>⟨_,_,rfl,VF.trans Vy⟩)⟩⟩
     exfalso
     have z1:0 < (S.cr tc.1).d:=c3
     have z2:0 < (S.bl tb.1).d:=b3
     rcases hqw tc.1 tb.1 c2 b2 z with y|y <;> lia
    ·rintro σ WK ⟨w12,w17,rfl,VF⟩
     exact⟨_,_,_,_,rfl,VF⟩
   ·rintro σ qk ⟨z12,z14,z16,z17,rfl,RT⟩
    exact⟨_,_,_,_,_,_,_,_,rfl,RT⟩
  ·rintro σ H' ⟨CM,CO,xZ,FQ,AY,C2,AZ,Nu,rfl,_⟩
   exact k H'
section
variable {h:Heap}{x q:Str}{st:Stmt}{f C R:Addr}{oc kV dc pm cd ct:Value}{od an:Option Addr}{sl:Array (Option Value)}
abbrev Og (K:Frag)(f:Addr)(x q:Str)(st:Stmt)(oc:Value)(od an:Option Addr)(kV dc pm cd ct:Value)(sl:Array (Option Value)):Prop:=K.lookup f=some ⟨oc,od,.func (fnOf x q (gR st) (dI st) (aA st) .none kV dc pm an cd ct),sl⟩
theorem di (X:K.In h)(G:h.Ns mainGlobals mg)(a:nsIn K mainGlobals x=some (some (.ref f)))(l:Og K f x x st oc od an kV dc pm cd ct sl)(c:codeIn K cd x=true)(k:keepIn K (.ref f)=true):Df K mg x st:=⟨_,_,qh l c k,de X G a⟩
theorem l8 (a:findIn K (.ref C) x=some (some (.ref f)))(i:PySem.W.isFn K (.ref f)=true)(l:Og K f x q st oc od an kV dc pm cd ct sl)(c:codeIn K cd q=true)(k:keepIn K (.ref f)=true): ∃f fd,gE K x q st f fd/\Meth K C x f:=⟨_,_,qh l c k,a,i,k⟩
theorem Ga (a:findIn K (.ref C) "__init__"=some (some (.ref f)))(i:PySem.W.isFn K (.ref f)=true)(l:Og K f "__init__" q st oc od an kV dc pm cd ct sl)(c:codeIn K cd q=true)(k:keepIn K (.ref f)=true)(m:makesIn K C=true)(kc:keepIn K (.ref C)=true): ∃f fd,gE K "__init__" q st f fd/\Mk K C f:=⟨_,_,qh l c k,m,a,i,kc⟩
theorem ud (a:findIn K (.ref C) "__init__"=some (some (.ref f)))(t:typeIn K (.ref f)=some (.type "function"))(l:Og K f "__init__" q st oc od an kV dc pm cd ct sl)(c:codeIn K cd q=true)(k:keepIn K (.ref f)=true): ∃f fd,gE K "__init__" q st f fd/\findIn K (.ref C) "__init__"=some (some (.ref f))/\typeIn K (.ref f)=some (.type "function"):=⟨_,_,qh l c k,a,t⟩
theorem Q1 (r:readsIn K C (.type "type")=true)(s:specialIn K (.ref C) "__getattribute__"=some (some (.builtin "type.__getattribute__")))(a:findCls K (.ref C) (.type "type") "__init__"=some (.val (.ref f)))(l:Og K f "__init__" q st oc od an kV dc pm cd ct sl)(c:codeIn K cd q=true)(k:keepIn K (.ref f)=true): ∃f fd,gE K "__init__" q st f fd/\Fp K C f:=⟨_,_,qh l c k,r,s,a,k⟩
theorem ue {nm:Str}{N:Addr}{bs:List Value}{sn:List Str}{sub:List Value}{ab:Bool}{col:Option Bool}{dd:Option Addr}{k0 k1 k2 k3 k5:Option Value}(o:K.lookup C=some (excClassObj nm q C N bs [.ref R,.type "Exception",.type "BaseException",.type "object"] true sn sub ab col dd k0 k1 k2 k3 k5 "Exception.__new__"))
  (a:findIn K (.ref C) "__setattr__"=some (some (.builtin "object.__setattr__"))) (b:findIn K (.ref C) "__getattribute__"=some (some (.builtin "BaseException.__getattribute__"))) (c:findIn K (.ref C) "__getattr__"=some none) (d:findIn K (.ref C) "text"=some none):hX K C R:=⟨⟨_,_,_,_,_,_,_,_,_,_,_,_,_,_,_,o,.inr rfl⟩,a,b,c,d⟩
theorem Q2 {nm:Str}{N:Addr}{bs:List Value}{sn:List Str}{sub:List Value}{ab:Bool}{col:Option Bool}{dd:Option Addr}{k0 k1 k2 k3 k5:Option Value}(o:K.lookup C=some (excClassObj nm q C N bs [.type "Exception",.type "BaseException",.type "object"] true sn sub ab col dd k0 k1 k2 k3 k5 "Exception.__new__"))
  (a:findIn K (.ref C) "__setattr__"=some (some (.builtin "object.__setattr__"))) (b:findIn K (.ref C) "__getattribute__"=some (some (.builtin "BaseException.__getattribute__"))) (c:findIn K (.ref C) "__getattr__"=some none) (d:findIn K (.ref C) "text"=some none):hX K C C:=⟨⟨_,_,_,_,_,_,_,_,_,_,_,_,_,_,_,o,.inl ⟨rfl,rfl⟩⟩,a,b,c,d⟩
theorem Oh {c tb:Addr}(X:K.In h)(G:h.Ns mainGlobals mg)(a:nsIn K mainGlobals x=some (some (.ref f)))(l:Og K f x x st oc od an kV dc pm (.ref c) ct sl)(cd:codeIn K (.ref c) x=true)(k:keepIn K (.ref f)=true)(hd:codeHdIn K c tb=true)(n:K.lookup tb=none):qN K mg x st tb/\ ∃c,codeHdIn K c tb=true/\K.lookup tb=none:=⟨⟨f,c,oc,od,kV,dc,pm,an,ct,sl,l,cd,k,de X G a,hd⟩,c,hd,n⟩
end
end
theorem Q3 {K:Frag}{mg:Str->Option Value}{mK iU gh mL eM kB oF jx kC kE l9 jy oG:Addr}(h1:mg "Refusal"=some (.ref eM))(h2:hX K eM eM)(h3:keepIn K (.ref eM)=true)(h4: ∃f fd,gE K "__init__" "Refusal.__init__" (mem 3 0) f fd/\Fp K eM f)(h5:mg "NoCredit"=some (.ref kB))(h6:hX K kB eM)(h7:keepIn K (.ref kB)=true)(h8: ∃f fd,gE K "__init__" "NoCredit.__init__" (mem 4 0) f fd/\findIn K (.ref kB) "__init__"=some (some (.ref f))/\typeIn K (.ref f)=some (.type "function"))(h9:mg "NoBill"=some (.ref oF))(Lg:hX K oF eM)(XT:keepIn K (.ref oF)=true)(V0: ∃f fd,gE K "__init__" "NoBill.__init__" (mem 5 0) f fd/\findIn K (.ref oF) "__init__"=some (some (.ref f))/\typeIn K (.ref f)=some (.type "function"))(h13:mg "NotTheirs"=some (.ref jx))(h14:hX K jx eM)(Xz:keepIn K (.ref jx)=true)(h16: ∃f fd,gE K "__init__" "NotTheirs.__init__" (mem 6 0) f fd/\findIn K (.ref jx) "__init__"=some (some (.ref f))/\typeIn K (.ref f)=some (.type "function"))(h17:mg "NoAmount"=some (.ref kC))(h18:hX K kC eM)(h19:keepIn K (.ref kC)=true)(h20: ∃f fd,gE K "__init__" "NoAmount.__init__" (mem 7 0) f fd/\findIn K (.ref kC) "__init__"=some (some (.ref f))/\typeIn K (.ref f)=some (.type "function"))(h21:mg "TooEarly"=some (.ref kE))(h22:hX K kE eM)(h23:keepIn K (.ref kE)=true)(Yr: ∃f fd,gE K "__init__" "TooEarly.__init__" (mem 8 0) f fd/\findIn K (.ref kE) "__init__"=some (some (.ref f))/\typeIn K (.ref f)=some (.type "function"))(h25:mg "TooMuch"=some (.ref l9))(h26:hX K l9 eM)(h27:keepIn K (.ref l9)=true)(h28: ∃f fd,gE K "__init__" "TooMuch.__init__" (mem 9 0) f fd/\findIn K (.ref l9) "__init__"=some (some (.ref f))/\typeIn K (.ref f)=some (.type "function"))(h29:mg "NoSetting"=some (.ref jy))(h30:hX K jy eM)(h31:keepIn K (.ref jy)=true)(h32: ∃f fd,gE K "__init__" "NoSetting.__init__" (mem 10 0) f fd/\findIn K (.ref jy) "__init__"=some (some (.ref f))/\typeIn K (.ref f)=some (.type "function"))(h33:mg "Needed"=some (.ref oG))(Ys:hX K oG eM)(h35:keepIn K (.ref oG)=true)(h36: ∃f fd,gE K "__init__" "Needed.__init__" (mem 11 0) f fd/\findIn K (.ref oG) "__init__"=some (some (.ref f))/\typeIn K (.ref f)=some (.type "function"))(h37:mg "Bill"=some (.ref mK))(h38:w6 K mK)(h39:cf K mK "number")(h40:cf K mK "who")(h41:cf K mK "day")(h42:cf K mK "due")(h43:cf K mK "amount")(h44: ∃f fd,gE K "__init__" "Bill.__init__" (mem 13 0) f fd/\Mk K mK f)(h45:mg "Credit"=some (.ref iU))(h46:w6 K iU)(h47:cf K iU "number")(h48:cf K iU "who")(h49:cf K iU "day")(h50:cf K iU "amount")(h51:cf K iU "only")(h52: ∃f fd,gE K "__init__" "Credit.__init__" (mem 14 0) f fd/\Mk K iU f)(h53:mg "Work"=some (.ref gh))(Yt:w6 K gh)(h55:cf K gh "bills")(h56:cf K gh "all_credits")(h57:cf K gh "lefts")(h58:cf K gh "frees")(h59:cf K gh "made")(h60: ∃f fd,gE K "__init__" "Work.__init__" (mem 25 0) f fd/\Mk K gh f)(h61: ∃f fd,gE K "tell_bill" "Work.tell_bill" (mem 25 1) f fd/\Meth K gh "tell_bill" f)(h62: ∃f fd,gE K "tell_payment" "Work.tell_payment" (mem 25 2) f fd/\Meth K gh "tell_payment" f)(h63: ∃f fd,gE K "tell_note" "Work.tell_note" (mem 25 3) f fd/\Meth K gh "tell_note" f)(Dl: ∃f fd,gE K "tell_credit" "Work.tell_credit" (mem 25 4) f fd/\Meth K gh "tell_credit" f)(h65: ∃f fd,gE K "set_by_hand" "Work.set_by_hand" (mem 25 5) f fd/\Meth K gh "set_by_hand" f)(h66: ∃f fd,gE K "sweep" "Work.sweep" (mem 25 6) f fd/\Meth K gh "sweep" f)(h67: ∃f fd,gE K "one_round" "Work.one_round" (mem 25 7) f fd/\Meth K gh "one_round" f)(h68: ∃f fd,gE K "put" "Work.put" (mem 25 8) f fd/\Meth K gh "put" f)(h69: ∃f fd,gE K "credit_at" "Work.credit_at" (mem 25 9) f fd/\Meth K gh "credit_at" f)(h70: ∃f fd,gE K "bill_at" "Work.bill_at" (mem 25 10) f fd/\Meth K gh "bill_at" f)(h71:mg "Book"=some (.ref mL))(h72:w6 K mL)(h73:cf K mL "kept")(h74:cf K mL "work")(h75: ∃f fd,gE K "__init__" "Book.__init__" (mem 29 0) f fd/\Mk K mL f)(h76: ∃f fd,gE K "do" "Book.do" (mem 29 1) f fd/\Meth K mL "do" f)(h77: ∃f fd,gE K "undo" "Book.undo" (mem 29 2) f fd/\Meth K mL "undo" f)(h78: ∃f fd,gE K "in_force" "Book.in_force" (mem 29 3) f fd/\Meth K mL "in_force" f):jO K mg ⟨mK,iU,gh,mL,eM,kB,oF,jx,kC,kE,l9,jy,oG⟩:=⟨h1,h2,h3,h4,h5,h6,h7,h8,h9,Lg,XT,V0,h13,h14,Xz,h16,h17,h18,h19,h20,h21,h22,h23,Yr,h25,h26,h27,h28,h29,h30,h31,h32,h33,Ys,h35,h36,h37,h38,h39,h40,h41,h42,h43,h44,h45,h46,h47,h48,h49,h50,h51,h52,h53,Yt,h55,h56,h57,h58,h59,h60,h61,h62,h63,Dl,h65,h66,h67,h68,h69,h70,h71,h72,h73,h74,h75,h76,h77,h78⟩
theorem all_mk {l:PySem.W.OpenLaw}{w:World}{K:Frag}{h:Heap}{mg:Str->Option Value}{f fa:Addr}{oc kV dc pm cd ct:Value}{od an:Option Addr}{sl:Array (Option Value)}(X:K.In h)(G:h.Ns mainGlobals mg)(ZS:mg "law"=some (.ref fa)){A:ee}(GP:jO K mg A)(hnd:A.jf≠A.tooMuch)(T:Txt K mg)(DB:qN K mg "bills_in_order" (top 17) 249/\ ∃c,codeHdIn K c 249=true/\K.lookup 249=none)(DC:qN K mg "credits_in_order" (top 18) 254/\ ∃c,codeHdIn K c 254=true/\K.lookup 254=none)(a:nsIn K mainGlobals "law"=some (some (.ref f)))(lk:Og K f "law" "law" (top 64) oc od an kV dc pm cd ct sl)(c:codeIn K cd "law"=true)(k:keepIn K (.ref f)=true):
  ∃(fd:FuncData) (cps:List (Addr×Addr)),(∀cp∈cps,cp.2∈[254,249])/\(∀cp∈cps,codeHdIn K cp.1 cp.2=true/\K.lookup cp.2=none)/\(∀(s:Shared) (u:Value),BindsTo s fd ⟨[u],[]⟩ [("_law_script",u)])/\
   ∀base:Heap,K.In base->base.Ns mainGlobals mg->BMain mg base->mf l.prog w K mg base sG 13 fa fd ["_law_script"] (KY K cps):=by
 have e:=ZS.symm.trans (de X G a)
 cases e
 obtain⟨DB,cb,b1,b2⟩:=DB
 obtain⟨DC,cc,c1,c2⟩:=DC
 refine⟨_,[(cb,249),(cc,254)],fun cp hc=>?_,fun cp hc=>?_,fun s v=> .of_eq rfl,fun base KB _ BM=>QK (qh (st:=top 64) lk c k) T GP DB DC (by decide) hnd KB BM ⟨cb,by simp⟩ ⟨cc,by simp⟩⟩
 ·simp only[List.mem_cons,List.not_mem_nil,or_false] at hc
  rcases hc with rfl|rfl <;> simp
 ·simp only[List.mem_cons,List.not_mem_nil,or_false] at hc
  rcases hc with rfl|rfl
  ·exact⟨b1,b2⟩
  ·exact⟨c1,c2⟩
end eZ
open PySem PySem.W PyProof.Rows L2
set_option maxRecDepth 100000 in
set_option maxHeartbeats 0 in
theorem PySem.Challenge.cw_spikebook_k08_whole_sweeps_leave_nothing_holds : PySem.Challenge.rw_spikebook_k08_whole_sweeps_leave_nothing.Holds := by
 w_on; o_law; k_head; (case hw=>w_witness2)
 k_fill
 refine L2.JL (n:=63) (k:=13) (ts:=[254,249]) (x:="_law_script") (sp:=fun K cps=>eZ.KY K cps) rfl (by decide) rfl ⟨rfl,by decide,by decide⟩ (fun w h Y=>⟨PySem.W.km_in_of Y,PySem.W.km_tabs_of Y⟩) ?F (fun _ cps _ a ns hl hO hS=>⟨a,ns,rfl,hS,hl,hO,fun _=>rfl⟩)
 case F=>
  intro w mg fa h KX G SG
  refine' eZ.all_mk KX G SG (eZ.Q3 (de KX G ?q1) (eZ.Q2 ?q2 ?q3 ?q4 ?q5 ?q6) ?q7 (eZ.Q1 ?q8 ?q9 ?q10 ?q11 ?q12 ?q13) (de KX G ?q14) (eZ.ue ?q15 ?q16 ?q17 ?q18 ?q19) ?q20 (eZ.ud ?q21 ?q22 ?q23 ?q24 ?q25) (de KX G ?q26) (eZ.ue ?q27 ?q28 ?q29 ?q30 ?q31) ?q32 (eZ.ud ?q33 ?q34 ?q35 ?q36 ?q37) (de KX G ?q38) (eZ.ue ?q39 ?q40 ?q41 ?q42 ?q43) ?q44 (eZ.ud ?q45 ?q46 ?q47 ?q48 ?q49) (de KX G ?q50) (eZ.ue ?q51 ?q52 ?q53 ?q54 ?q55) ?q56 (eZ.ud ?q57 ?q58 ?q59 ?q60 ?q61) (de KX G ?q62) (eZ.ue ?q63 ?q64 ?q65 ?q66 ?q67) ?q68 (eZ.ud ?q69 ?q70 ?q71 ?q72 ?q73) (de KX G ?q74) (eZ.ue ?q75 ?q76 ?q77 ?q78 ?q79) ?q80 (eZ.ud ?q81 ?q82 ?q83 ?q84 ?q85) (de KX G ?q86) (eZ.ue ?q87 ?q88 ?q89 ?q90 ?q91) ?q92 (eZ.ud ?q93 ?q94 ?q95 ?q96 ?q97) (de KX G ?q98) (eZ.ue ?q99 ?q100 ?q101 ?q102 ?q103) ?q104 (eZ.ud ?q105 ?q106 ?q107 ?q108 ?q109) (de KX G ?q110) ⟨?q111,?q112,?q113,?q114⟩ ?q115 ?q116 ?q117 ?q118 ?q119 (eZ.Ga ?q120 ?q121 ?q122 ?q123 ?q124 ?q125 ?q126) (de KX G ?q127) ⟨?q128,?q129,?q130,?q131⟩ ?q132 ?q133 ?q134 ?q135 ?q136 (eZ.Ga ?q137 ?q138 ?q139 ?q140 ?q141 ?q142 ?q143) (de KX G ?q144) ⟨?q145,?q146,?q147,?q148⟩ ?q149 ?q150 ?q151 ?q152 ?q153 (eZ.Ga ?q154 ?q155 ?q156 ?q157 ?q158 ?q159 ?q160) (eZ.l8 ?q161 ?q162 ?q163 ?q164 ?q165) (eZ.l8 ?q166 ?q167 ?q168 ?q169 ?q170) (eZ.l8 ?q171 ?q172 ?q173 ?q174 ?q175) (eZ.l8 ?q176 ?q177 ?q178 ?q179 ?q180) (eZ.l8 ?q181 ?q182 ?q183 ?q184 ?q185) (eZ.l8 ?q186 ?q187 ?q188 ?q189 ?q190) (eZ.l8 ?q191 ?q192 ?q193 ?q194 ?q195) (eZ.l8 ?q196 ?q197 ?q198 ?q199 ?q200) (eZ.l8 ?q201 ?q202 ?q203 ?q204 ?q205) (eZ.l8 ?q206 ?q207 ?q208 ?q209 ?q210) (de KX G ?q211) ⟨?q212,?q213,?q214,?q215⟩ ?q216 ?q217 (eZ.Ga ?q218 ?q219 ?q220 ?q221 ?q222 ?q223 ?q224) (eZ.l8 ?q225 ?q226 ?q227 ?q228 ?q229) (eZ.l8 ?q230 ?q231 ?q232 ?q233 ?q234) (eZ.l8 ?q235 ?q236 ?q237 ?q238 ?q239)) ?hnd ⟨eZ.di KX G ?q240 ?q241 ?q242 ?q243,eZ.di KX G ?q244 ?q245 ?q246 ?q247,eZ.di KX G ?q248 ?q249 ?q250 ?q251,eZ.di KX G ?q252 ?q253 ?q254 ?q255,eZ.di KX G ?q256 ?q257 ?q258 ?q259,eZ.di KX G ?q260 ?q261 ?q262 ?q263,eZ.di KX G ?q264 ?q265 ?q266 ?q267,eZ.di KX G ?q268 ?q269 ?q270 ?q271,eZ.di KX G ?q272 ?q273 ?q274 ?q275,eZ.di KX G ?q276 ?q277 ?q278 ?q279,eZ.di KX G ?q280 ?q281 ?q282 ?q283,eZ.di KX G ?q284 ?q285 ?q286 ?q287,eZ.di KX G ?q288 ?q289 ?q290 ?q291,eZ.di KX G ?q292 ?q293 ?q294 ?q295,eZ.di KX G ?q296 ?q297 ?q298 ?q299,eZ.di KX G ?q300 ?q301 ?q302 ?q303,eZ.di KX G ?q304 ?q305 ?q306 ?q307,eZ.di KX G ?q308 ?q309 ?q310 ?q311,eZ.di KX G ?q312 ?q313 ?q314 ?q315,eZ.di KX G ?q316 ?q317 ?q318 ?q319,eZ.di KX G ?q320 ?q321 ?q322 ?q323,eZ.di KX G ?q324 ?q325 ?q326 ?q327,eZ.di KX G ?q328 ?q329 ?q330 ?q331,eZ.di KX G ?q332 ?q333 ?q334 ?q335,eZ.di KX G ?q336 ?q337 ?q338 ?q339,eZ.di KX G ?q340 ?q341 ?q342 ?q343,eZ.di KX G ?q344 ?q345 ?q346 ?q347,eZ.di KX G ?q348 ?q349 ?q350 ?q351,eZ.di KX G ?q352 ?q353 ?q354 ?q355,eZ.di KX G ?q356 ?q357 ?q358 ?q359,eZ.di KX G ?q360 ?q361 ?q362 ?q363,eZ.di KX G ?q364 ?q365 ?q366 ?q367,eZ.di KX G ?q368 ?q369 ?q370 ?q371,eZ.di KX G ?q372 ?q373 ?q374 ?q375,eZ.di KX G ?q376 ?q377 ?q378 ?q379,eZ.di KX G ?q380 ?q381 ?q382 ?q383,eZ.di KX G ?q384 ?q385 ?q386 ?q387,eZ.di KX G ?q388 ?q389 ?q390 ?q391,eZ.di KX G ?q392 ?q393 ?q394 ?q395,eZ.di KX G ?q396 ?q397 ?q398 ?q399,eZ.di KX G ?q400 ?q401 ?q402 ?q403,eZ.di KX G ?q404 ?q405 ?q406 ?q407,eZ.di KX G ?q408 ?q409 ?q410 ?q411,eZ.di KX G ?q412 ?q413 ?q414 ?q415,bY KX G ?q416,bY KX G ?q417,bY KX G ?q418,bY KX G ?q419,bY KX G ?q420,bY KX G ?q421,bY KX G ?q422,bY KX G ?q423,bY KX G ?q424,bY KX G ?q425,bY KX G ?q426,bY KX G ?q427,bY KX G ?q428,bY KX G ?q429,bY KX G ?q430⟩ (eZ.Oh KX G ?q431 ?q432 ?q433 ?q434 ?u1 ?u2) (eZ.Oh KX G ?q435 ?q436 ?q437 ?q438 ?u3 ?u4) ?q439 ?q440 ?q441 ?q442
  case q1|q2|q3|q4|q5|q6|q7|q8|q9|q10|q11|q12|q13|q14|q15|q16|q17|q18|q19|q20|q21|q22|q23|q24|q25|q26|q27|q28|q29|q30|q31|q32|q33|q34|q35|q36|q37|q38|q39|q40|q41|q42|q43|q44|q45|q46|q47|q48|q49|q50|q51|q52|q53|q54|q55|q56|q57|q58|q59|q60|q61|q62|q63|q64|q65|q66|q67|q68|q69|q70|q71|q72|q73|q74|q75|q76|q77|q78|q79|q80|q81|q82|q83|q84|q85|q86|q87|q88|q89|q90|q91|q92|q93|q94|q95|q96|q97|q98|q99|q100|q101|q102|q103|q104|q105|q106|q107|q108|q109|q110|q111|q112|q113|q114|q115|q116|q117|q118|q119|q120|q121|q122|q123|q124|q125|q126|q127|q128|q129|q130|q131|q132|q133|q134|q135|q136|q137|q138|q139|q140|q141|q142|q143|q144|q145|q146|q147|q148|q149|q150|q151|q152|q153|q154|q155|q156|q157|q158|q159|q160|q161|q162|q163|q164|q165|q166|q167|q168|q169|q170|q171|q172|q173|q174|q175|q176|q177|q178|q179|q180|q181|q182|q183|q184|q185|q186|q187|q188|q189|q190|q191|q192|q193|q194|q195|q196|q197|q198|q199|q200|q201|q202|q203|q204|q205|q206|q207|q208|q209|q210|q211|q212|q213|q214|q215|q216|q217|q218|q219|q220|q221|q222|q223|q224|q225|q226|q227|q228|q229|q230|q231|q232|q233|q234|q235|q236|q237|q238|q239|q240|q241|q242|q243|q244|q245|q246|q247|q248|q249|q250|q251|q252|q253|q254|q255|q256|q257|q258|q259|q260|q261|q262|q263|q264|q265|q266|q267|q268|q269|q270|q271|q272|q273|q274|q275|q276|q277|q278|q279|q280|q281|q282|q283|q284|q285|q286|q287|q288|q289|q290|q291|q292|q293|q294|q295|q296|q297|q298|q299|q300|q301|q302|q303|q304|q305|q306|q307|q308|q309|q310|q311|q312|q313|q314|q315|q316|q317|q318|q319|q320|q321|q322|q323|q324|q325|q326|q327|q328|q329|q330|q331|q332|q333|q334|q335|q336|q337|q338|q339|q340|q341|q342|q343|q344|q345|q346|q347|q348|q349|q350|q351|q352|q353|q354|q355|q356|q357|q358|q359|q360|q361|q362|q363|q364|q365|q366|q367|q368|q369|q370|q371|q372|q373|q374|q375|q376|q377|q378|q379|q380|q381|q382|q383|q384|q385|q386|q387|q388|q389|q390|q391|q392|q393|q394|q395|q396|q397|q398|q399|q400|q401|q402|q403|q404|q405|q406|q407|q408|q409|q410|q411|q412|q413|q414|q415|q416|q417|q418|q419|q420|q421|q422|q423|q424|q425|q426|q427|q428|q429|q430|q431|q432|q433|q434|q435|q436|q437|q438|q439|q440|q441|q442=>((try unfold eZ.Og); (try unfold L2.cf); k_is)
  (case hnd=>decide)
  (case u1=>kernel_rfl)
  (case u2=>kernel_rfl)
  (case u3=>kernel_rfl)
  (case u4=>kernel_rfl)
