import PyProof.Rows.All
import Wide.All
import OpenK.AllK
import Wide.FinOn
import Lean
import PyProof.EqAt
import PyProof.EqKinds
import PyProof.TupleCall
import PySem.Str
import PyProof.StationsW
import PyProof.PassesOwn
import PyProof.RulesAs
import PyProof.ExcClass2
import PyProof.InstStore
import PyProof.ExcArgs
import PyProof.ExcClass
import PyProof.InstStoreFacts
import PyProof.ExcBaseAll.Exception
import PyProof.ExcAttrAll.Exception
import PyProof.DictValues
import PyProof.DictWalks
import PyProof.MinMaxWalk
import PyProof.SeqI3
import PyProof.WalkInts
import PyProof.Walks
import PySem.Challenge.RW_spikebook_k06_whole_never_twice
set_option Elab.async false
set_option linter.all false
set_option maxRecDepth 100000
set_option maxHeartbeats 4000000
def ae:=@List.length_map
def af:=@List.getElem?_eq_getElem
def ai:=@List.getD_eq_getElem?_getD
def ao:=@List.mem_singleton
def au:=@List.getElem?_eq_some_iff
def aw:=@List.mem_cons
def ax:=@PySem.Heap.get?_push_of_some
def az:=@PySem.wpAny_bind
def aB:=@Nat.le_refl
def aD:=@List.getElem?_map
def aE:=@Option.some.inj
def aF:=@List.length_append
def aH:=@PySem.F.slot_list_append
def aI:=@PySem.F.type_list_append
def aJ:=@PySem.F.plainAttrs_list
def aK:=@PySem.Heap.lt_size
def aM:=@decide_eq_true
def aQ:=@if_neg
def aR:=@List.map_append
def aU:=@List.mem_cons_of_mem
def aX:=@PySem.Paired.length
def aY:=@Nat.ne_of_lt
def aZ:=@Bool.false_ne_true
def a0:=@of_decide_eq_true
def a6:=@Nat.le_trans
def a7:=@List.length_filter_le
def a8:=@if_pos
def bf:=@List.take_length
def bp:=@Nat.lt_of_lt_of_le
def bq:=@List.mem_append
def bA:=@List.size_toArray
def bB:=@PySem.boot_len
def bC:=@List.mem_cons_self
def bD:=@List.length_take
def bE:=@List.mem_append_right
def bF:=@Nat.zero_le
def bH:=@PySem.wpAny_loadPart_at
def bL:=@PySem.wpAny_pure
def bM:=@Option.map_eq_some_iff
def bN:=@decide_eq_false
def bO:=@List.getElem_mem
def bP:=@List.mem_map
def bS:=@PySem.Heap.get?_push_size
def bY:=@PySem.PassesOwn.never
def cm:=@PySem.W.mg_none_of
def cu:=@List.length_cons
def cA:=@List.append_nil
def cB:=@PySem.mem_of_lookup
def cD:=@PySem.wpAny_mono
def cG:=@Int.eq_ofNat_of_zero_le
def cV:=@PySem.Paired.snoc
def cW:=@List.filter_cons_of_pos
def c9:=@List.mem_range
def de:=@PySem.wpAny_isSubtype_exc
def df:=@List.mem_append_left
def dg:=@Nat.le_succ
def di:=@congrArg
def dj:=@List.map_cons
def dk:=@PySem.W.mg_of
def dB:=@Nat.le_of_lt
def dC:=@List.replicate_succ
def dE:=@List.length_range
def dQ:=@List.length_set
def dR:=@List.foldl_cons
def dY:=@PySem.wpAny_passesOwn
def ez:=@PySem.W.kia_one
def eA:=@List.nodup_cons
def eB:=@PySem.W.kia_tup
def eM:=@PySem.wpAny_Call_Name_kw
def eN:=@Int.toNat_natCast
def eO:=@Int.le_refl
def eP:=@List.map_congr_left
def eX:=@PyProof.Rows.boot_isinstance
def eZ:=@PySem.sizeLine_eq
def fh:=@List.pairwise_cons
def fk:=@Nat.lt_succ_self
def fJ:=@List.map_map
def fR:=@List.mem_filter
def fS:=@Nat.not_lt_zero
def fY:=@PySem.wpAny_truthy_bool
def gh:=@List.filter_append
def gG:=@List.mem_of_getElem?
def gH:=@List.append_assoc
def gI:=@Nat.lt_succ_of_lt
def gS:=@beq_eq_false_iff_ne
def ix:=@PySem.wpAny_holding
def iy:=@PySem.wpAny_standAt
def iM:=@Nat.le_of_eq
def iN:=@List.length_replicate
def iS:=@Nat.lt_irrefl
def iT:=@PySem.Calls.callWith_builtin
def iU:=@List.flatten_cons
def jq:=@PySem.wpAny_execs_nil
def kj:=@PySem.Heap.size_push
def km:=@PySem.W.callWith_K
def ko:=@List.filter_cons_of_neg
def kY:=@List.getElem?_set_self
def kZ:=@PySem.W.cellsFrom_some
def lK:=@Int.zero_add
def ma:=@PyProof.Rows.take_snoc
def mq:=@List.length_drop
def mr:=@decide_eq_decide
def mx:=@List.getElem?_set_ne
def my:=@PySem.Heap.get?_update_other
def mz:=@PySem.Heap.get?_push_ne
def oh:=@PyProof.Rows.callWith_type1
def oj:=@Bool.eq_iff_iff
def om:=@List.of_mem_zip
def oo:=@Option.map_some
def oq:=@Array.length_toList
def ou:=@Int.emod_nonneg
def o4:=@List.getElem?_append_right
def o5:=@PySem.Heap.size_update
def pW:=@Nat.ne_of_gt
def pX:=@Nat.lt_of_le_of_lt
def qc:=@List.getElem?_eq_none_iff
def qd:=@Nat.mul_le_mul
def ra:=@List.any_eq_false
def rg:=@PySem.W.kitx_list
def rh:=@PySem.W.kitx_dict
def rj:=@List.pairwise_map
def rm:=@List.foldl_append
def rn:=@Nat.le_succ_of_le
def rq:=@PySem.Heap.SameBut.update
def rz:=@Array.size_setIfInBounds
def sS:=@PySem.wpAny_newFunctionEnv_cells
def sT:=@List.any_cons
def tE:=@PySem.tupleKind_room_in1
def tF:=@List.nodup_range
def vv:=@PyProof.Rows.listUpdate_at
def vw:=@Ne.symm
def vx:=@PySem.W.methodCall_KW
def vy:=@List.map_nil
def vz:=@Nat.succ_mul
def vA:=@List.length_nil
def vB:=@List.getElem?_eq_none
def vC:=@Int.le_trans
def vD:=@List.map_set
def vE:=@List.range_succ
def wR:=@Nat.not_lt
def xW:=@List.getElem?_of_mem
def zL:=@List.take_succ
def zR:=@PySem.W.plainGet_of
def zS:=@PySem.W.callWith_K0
def zT:=@List.toList_toArray
def B6:=@PySem.codeAny_mono
def B7:=@PySem.Heap.get?_update_self
def B8:=@List.filter_filter
def Ca:=@Int.emod_lt_of_pos
def Du:=@PySem.wpAny_call
def EO:=@beq_iff_eq
def ER:=@PySem.Calls.evalArgs_plain
def ES:=@Option.isSome_map
def ET:=@List.take_add_one
def EU:=@List.filter_congr
def EV:=@Classical.not_not
def EW:=@PySem.codeAny_call_builtin
def G0:=@Bool.and_eq_true
def G1:=@PySem.Heap.get?_update_ne
def G2:=@List.getElem_map
def G3:=@PySem.wpAny_field
def JW:=@Array.getD_eq_getD_getElem?
def JX:=@Array.Perm.refl
def JY:=@PySem.wpAny_newList
def JZ:=@List.sum_append
def J0:=@List.map_id
def L6:=@PyProof.Rows.get?_update_seq
def MN:=@Bool.false_and
def MO:=@PySem.wpAny_pyIter_list
def MP:=@PySem.plainObj_wpAny_Assign_Attribute
def MQ:=@List.Perm.refl
def MR:=@List.mem_of_find?_eq_some
def MS:=@List.getElem?_append_left
def MT:=@PySem.F.excBase_Exception
def MU:=@List.drop_eq_getElem_cons
def Pg:=@Option.isSome_iff_exists
def Ph:=@PySem.F.slot_dict_values
namespace L2
open PySem PySem.Spec PyProof.Rows
abbrev Key:=Sum Int Str
def wU:Key->Value->Bool
 | .inl k,v=>Value.isInt k v
 | .inr x,v=>Value.isStrOf x v
def Uz (w:World):Key->Int
 | .inl k=>hashInt k
 | .inr x=>hashStr w x
theorem fm: ∀{k:Key} {v:Value},wU k v=true->(∃i t,k=Sum.inl i/\v=Value.int i t)∨(∃x t,k=Sum.inr x/\v=Value.str x t)
 | .inl i,v,h=>by
  obtain⟨t,e⟩:=Value.isInt_shape (k:=i) (v:=v) h
  exact .inl ⟨i,t,rfl,e⟩
 | .inr x,v,h=>by
  obtain⟨t,e⟩:=Value.isStrOf_shape (x:=x) (v:=v) h
  exact .inr ⟨x,t,rfl,e⟩
theorem EY (i:Int)(t:Tok):wU (.inl i) (.int i t)=true:=by simp[wU,Value.isInt]
theorem EZ (x:Str)(t:Tok):wU (.inr x) (.str x t)=true:=by simp[wU,Value.isStrOf]
theorem MV (a b:Int):decide ((Sum.inl a:Key)=Sum.inl b)=(a == b):=by
 by_cases e:a=b
 ·subst e; simp
 ·have h: ¬ (Sum.inl a:Key)=Sum.inl b:=fun q=>e (Sum.inl.inj q)
  rw[bN h]
  exact(gS.mpr e).symm
theorem MW (a b:Str):decide ((Sum.inr a:Key)=Sum.inr b)=decide (a=b):=by
 by_cases e:a=b
 ·subst e; simp
 ·have h: ¬ (Sum.inr a:Key)=Sum.inr b:=fun q=>e (Sum.inr.inj q)
  rw[bN h,bN e]
theorem MX (a:Int)(b:Str):decide ((Sum.inl a:Key)=Sum.inr b)=false:=bN (fun q=>nomatch q)
theorem MY (a:Str)(b:Int):decide ((Sum.inr a:Key)=Sum.inl b)=false:=bN (fun q=>nomatch q)
def d8 (prog:Program)(w:World):PySem.KeyKind prog w Key where
 is:=wU
 hash:=Uz w
 inj:=fun v a b ha hb=>by
  rcases fm ha with⟨i,t,rfl,rfl⟩|⟨x,t,rfl,rfl⟩
  ·rcases fm hb with⟨j,u,rfl,e⟩|⟨y,u,rfl,e⟩
   ·injection e with e1 _; rw[e1]
   ·exact nomatch e
  ·rcases fm hb with⟨j,u,rfl,e⟩|⟨y,u,rfl,e⟩
   ·exact nomatch e
   ·injection e with e1 _; rw[e1]
 byValue:=fun k v h=>by
  rcases fm h with⟨i,t,rfl,rfl⟩|⟨x,t,rfl,rfl⟩ <;> rfl
 pyHash:=fun hv h=>by
  rcases fm hv with⟨i,t,rfl,rfl⟩|⟨x,t,rfl,rfl⟩
  ·exact wpAny_pyHash_int h
  ·exact wpAny_pyHash_str h
 eqBool:=fun hu hv h=>by
  rcases fm hu with⟨i,t,rfl,rfl⟩|⟨x,t,rfl,rfl⟩
  ·rcases fm hv with⟨j,u,rfl,rfl⟩|⟨y,u,rfl,rfl⟩
   ·rw[MV] at h; exact wpAny_eqBool_int h
   ·rw[MX] at h; exact SeqAt.EqAt.int_str i t y u _ _ _ _ h
  ·rcases fm hv with⟨j,u,rfl,rfl⟩|⟨y,u,rfl,rfl⟩
   ·rw[MY] at h; exact SeqAt.EqAt.str_int x t j u _ _ _ _ h
   ·rw[MW] at h; exact wpAny_eqBool_str h
 «strs»:=fun k x t v h=>by
  rcases fm h with⟨i,u,rfl,e⟩|⟨y,u,rfl,e⟩
  ·exact nomatch e
  ·injection e with e1 _
   subst e1
   cases v <;> rfl
theorem zU (prog:Program)(w:World)(i:Int)(t:Tok):(d8 prog w).is (.inl i) (.int i t)=true:=EY i t
theorem zV (prog:Program)(w:World)(x:Str)(t:Tok):(d8 prog w).is (.inr x) (.str x t)=true:=EZ x t
inductive V where
 |eI|bl (b:Bool)|int (i:Int)|str (x:Str)|E1 (b:Array UInt8)|J1 (b:UInt64)|ref (a:Addr)|ty (n:String)
 deriving DecidableEq
def RelV:V->Value->Prop
 | .eI,u=>u=Value.none
 | .bl b,u=>u=Value.bool b
 | .int i,u=> ∃t,u=Value.int i t
 | .str x,u=> ∃t,u=Value.str x t
 | .E1 b,u=> ∃t,u=Value.bytes b t
 | .J1 b,u=> ∃t,u=Value.float b t
 | .ref a,u=>u=Value.ref a
 | .ty n,u=>u=Value.type n
abbrev Vals:List V->List Value->Prop:=Paired RelV
theorem Vals.length {xs:List V}{us:List Value}(r:Vals xs us):xs.length=us.length:=aX r
theorem Vals.get: ∀{xs:List V} {us:List Value} {i:Nat} {x:V},Vals xs us->xs[i]? =some x-> ∃u,us[i]? =some u/\RelV x u
 |_,_,_,_,.nil,e=>by simp at e
 |_,_,0,_,.cons r _,e=>by simp at e; subst e; exact⟨_,rfl,r⟩
 |_,_,i + 1,x,.cons _ t,e=>by
  obtain⟨u,h1,h2⟩:=Vals.get (i:=i) (x:=x) t (by simpa using e)
  exact⟨u,by simpa using h1,h2⟩
theorem Vals.set {x:V}{u:Value}(r:RelV x u): ∀{xs:List V} {us:List Value} (i:Nat),Vals xs us->Vals (xs.set i x) (us.set i u)
 |_,_,_,.nil=> .nil
 |_,_,0,.cons _ t=> .cons r t
 |_,_,i + 1,.cons q t=> .cons q (Vals.set r i t)
theorem Vals.append: ∀{xs ys:List V} {us ws:List Value},Vals xs us->Vals ys ws->Vals (xs ++ ys) (us ++ ws)
 |_,_,_,_,.nil,s=>s
 |_,_,_,_,.cons r t,s=> .cons r (Vals.append t s)
theorem Vals.take: ∀{xs:List V} {us:List Value} (n:Nat),Vals xs us->Vals (xs.take n) (us.take n)
 |_,_,0,_=> .nil
 |_,_,_ + 1,.nil=> .nil
 |_,_,n + 1,.cons r t=> .cons r (Vals.take n t)
theorem Vals.drop: ∀{xs:List V} {us:List Value} (n:Nat),Vals xs us->Vals (xs.drop n) (us.drop n)
 |_,_,0,r=>r
 |_,_,_ + 1,.nil=> .nil
 |_,_,n + 1,.cons _ t=>Vals.drop n t
theorem Vals.none_of: ∀{xs:List V} {us:List Value} {i:Nat},Vals xs us->xs[i]? =none->us[i]? =none:=fun{xs us i} r e=>by
 have h1:=r.length
 have h2:xs.length<=i:=qc.mp e
 exact qc.mpr (by omega)
def k4:Option V->Option Value->Prop
 |some v,some u=>RelV v u
 |none,none=>True
 |_,_=>False
def KV {κ:Type}:List (κ×V)->List (κ×Value)->Prop:=Paired fun(p:κ×V) (q:κ×Value)=>p.1=q.1/\RelV p.2 q.2
def kV:Key->V
 | .inl i=> .int i
 | .inr x=> .str x
inductive HO where
 |lst (xs:List V)
 |tup (xs:List V)
 |dK (bo:List (Key×V))|dT (bo:List (List Key×V))
 |set (S:Int->Bool) (n:Nat)
 |ins (C dx:Addr) (fs:List (Str×V))
 |own (x:Addr)
 |xd (fs:List (Str×V))
 |met (f x:Addr)
 |UA (lo hi:Int)
 |BQ (o:Obj) (u:HO)
 |mB (ps:Array Value)
 |ext (φ:Heap->Prop)
abbrev Hp:=Addr->Option HO
def upd (H:Hp)(a:Addr)(o:HO):Hp:=fun b=>if b=a then some o else H b
theorem ag {H:Hp}{a:Addr}{o:HO}:upd H a o a=some o:=by unfold upd; rw[if_pos rfl]
theorem ay {H:Hp}{a b:Addr}{o:HO}(h:b≠a):upd H a o b=H b:=by unfold upd; rw[if_neg h]
theorem md {H:Hp}{a b:Addr}{o u:HO}(h:H a=some o)(h':H b=some u)(d:o≠u):a≠b:=by
 intro e; subst e; rw[h] at h'; exact d (aE h')
theorem aL {H:Hp}{a b:Addr}{o:HO}(h:H a=some o)(h':H b=none):a≠b:=by
 intro e; subst e; rw[h] at h'; cases h'
section
variable (P:Program)(w:World)
def dI (H:Hp)(h:Heap)(a:Addr):HO->Prop
 | .lst xs=>xs.length<=sizeLine/\ ∃(cy:List Value) (n:Nat),Vals xs cy/\h.get? a=some {cls:= .type "list",data:= .seq cy.toArray n}
 | .tup xs=>xs.length<=sizeLine/\ ∃cy:List Value,Vals xs cy/\IsTup h a cy.toArray
 | .dK bo=>bo.length<=sizeLine/\(a == sysModules)=false/\ ∃vs,KV bo vs/\h.DictOf (d8 P w) a vs
 | .dT bo=>bo.length<=sizeLine/\(a == sysModules)=false/\ ∃xs:List (List Key×Addr×Value),
   Paired (fun(p:List Key×V) (q:List Key×Addr×Value)=>p.1=q.1/\H q.2.1=some (.tup (p.1.map kV))/\RelV p.2 q.2.2) bo xs/\
   ∃o es ep,h.get? a=some o/\o.ExactDict/\o.data= .dict es ep/\es.toList=xs.map (entryOfKey (tupleKind (d8 P w)))/\(xs.map (·.1)).Nodup
 | .set S n=>h.SetOf (intKind P w) a S n
 | .ins C dx fs=>H dx=some (.own a)/\fs.length<=1000/\dx≠a/\h.get? a=some (PySem.W.instObj C dx)/\
   ∃mA,h.Ns1 dx mA/\(∀f,k4 (fs.lookup f) (mA f))/\PySem.Within mA (fs.map (·.1))
 | .own _=> ∃o,h.get? a=some o
 | .xd fs=> ∃mA,h.Ns1 a mA/\ ∀f,k4 (fs.lookup f) (mA f)
 | .UA lo hi=> ∃t u v,h.get? a=some {cls:= .type "range",data:= .fields #[.int lo t,.int hi u,.int 1 v]}
 | .BQ o u=>h.get? a=some o/\dI H h a u
 | .mB ps=>h.get? a=some {cls:= .none,data:= .fields ps}
 | .met f x=>h.get? a=some (PySem.W.methodObj (.ref f) (.ref x))
 | .ext φ=>φ h/\(∃o,h.get? a=some o)/\ ∀h1 h2:Heap,φ h1->(∀o,h1.get? a=some o->h2.get? a=some o)->φ h2
def ow (H:Hp)(h:Heap):Prop:= ∀a o,H a=some o->dI P w H h a o
end
section
variable {P:Program}{w:World}{H H':Hp}{h h':Heap}{a:Addr}{o:HO}
theorem dI.lt (x:dI P w H h a o):a < h.objs.size:=by
 cases o with
 |lst xs=>obtain⟨_,_,_,_,e⟩:=x; exact aK e
 |tup xs=>obtain⟨_,_,_,p⟩:=x; exact p.lt
 |dK bo=>obtain⟨_,_,_,_,o,_,_,e,_⟩:=x; exact aK e
 |dT bo=>obtain⟨_,_,_,_,o,_,_,e,_⟩:=x; exact aK e
 |set S n=>obtain⟨o,_,_,_,e,_⟩:=x; exact aK e
 |ins C dx fs=>obtain⟨_,_,_,e,_⟩:=x; exact aK e
 |own y=>obtain⟨_,e⟩:=x; exact aK e
 |xd fs=>obtain⟨_,⟨_,_,_,e,_⟩,_⟩:=x; exact aK e
 |UA lo hi=>obtain⟨_,_,_,e⟩:=x; exact aK e
 |BQ ob u=>obtain⟨e,_⟩:=x; exact aK e
 |mB ps=>exact aK (show h.get? a=some _ from x)
 |met f y=>exact aK (show h.get? a=some _ from x)
 |ext φ=>obtain⟨_,⟨_,e⟩,_⟩:=x; exact aK e
theorem Paired.iV {α β:Type}{F G:α->β->Prop}: ∀{l₁:List α} {l₂:List β},Paired F l₁ l₂->(∀a b,F a b->G a b)->Paired G l₁ l₂
 |_,_,.nil,_=> .nil
 |_,_,.cons r t,f=> .cons (f _ _ r) (Paired.iV t f)
theorem dI.sU (x:dI P w H h a o)(k: ∀b u,(b=a∨H b=some (.own a))->h.get? b=some u->h'.get? b=some u)
  (ho: ∀b,H b=some (.own a)->H' b=some (.own a)) (ht: ∀b xs,H b=some (.tup xs)->H' b=some (.tup xs)):dI P w H' h' a o:=by
 induction o with
 |lst xs=>obtain⟨z,cy,n,r,e⟩:=x; exact⟨z,cy,n,r,k _ _ (.inl rfl) e⟩
 |tup xs=>obtain⟨z,cy,r,ob,e,c⟩:=x; exact⟨z,cy,r,ob,k _ _ (.inl rfl) e,c⟩
 |dK bo=>obtain⟨z,y,vs,r,ob,es,ep,e,c⟩:=x; exact⟨z,y,vs,r,ob,es,ep,k _ _ (.inl rfl) e,c⟩
 |dT bo=>
  obtain⟨z,y,xs,r,ob,es,ep,e,c⟩:=x
  exact⟨z,y,xs,Paired.iV r fun p q z=>⟨z.1,ht _ _ z.2.1,z.2.2⟩,ob,es,ep,k _ _ (.inl rfl) e,c⟩
 |set S n=>obtain⟨ob,es,ep,t,e,c⟩:=x; exact⟨ob,es,ep,t,k _ _ (.inl rfl) e,c⟩
 |ins C dx fs=>
  obtain⟨d,z,ne,e,mA,⟨od,es,ep,e2,c⟩,r⟩:=x
  exact⟨ho _ d,z,ne,k _ _ (.inl rfl) e,mA,⟨od,es,ep,k _ _ (.inr d) e2,c⟩,r⟩
 |own y=>obtain⟨ob,e⟩:=x; exact⟨ob,k _ _ (.inl rfl) e⟩
 |xd fs=>obtain⟨mA,⟨od,es,ep,e,c⟩,r⟩:=x; exact⟨mA,⟨od,es,ep,k _ _ (.inl rfl) e,c⟩,r⟩
 |UA lo hi=>obtain⟨t,u,v,e⟩:=x; exact⟨t,u,v,k _ _ (.inl rfl) e⟩
 |BQ ob u ih=>obtain⟨e,q⟩:=x; exact⟨k _ _ (.inl rfl) e,ih q⟩
 |mB ps=>
  have e:h.get? a=some {cls:= .none,data:= .fields ps}:=x
  show h'.get? a=some {cls:= .none,data:= .fields ps}
  exact k a _ (.inl rfl) e
 |met f y=>
  have e:h.get? a=some (PySem.W.methodObj (.ref f) (.ref y)):=x
  show h'.get? a=some (PySem.W.methodObj (.ref f) (.ref y))
  exact k a _ (.inl rfl) e
 |ext φ=>obtain⟨p,⟨o,e⟩,st⟩:=x; exact⟨st _ _ p fun o q=>k _ _ (.inl rfl) q,⟨o,k _ _ (.inl rfl) e⟩,st⟩
theorem ow.lt (x:ow P w H h)(e:H a=some o):a < h.objs.size:=(x a o e).lt
theorem ow.fresh (x:ow P w H h)(e:h.objs.size<=a):H a=none:=by
 cases q:H a with
 |none=>rfl
 |some u=>exact absurd (bp (x.lt q) e) (iS _)
theorem ow.kept (x:ow P w H h)(k: ∀b u,h.get? b=some u->h'.get? b=some u):ow P w H h':=fun a o e=>
 (x a o e).sU (fun b u _ q=>k b u q) (fun _ q=>q) fun _ _ q=>q
theorem ow.laid (x:ow P w H h)(k: ∀b u,h.get? b=some u->h'.get? b=some u)(hp:h.objs.size<=a)(new:dI P w (upd H a o) h' a o):ow P w (upd H a o) h':=fun b u e=>by
 have hn:=x.fresh hp
 by_cases hb:b=a
 ·subst hb; rw[ag] at e; cases e; exact new
 ·rw[ay hb] at e
  exact(x b u e).sU (fun c v _ q=>k c v q) (fun c q=>by rw[ay (aL q hn)]; exact q) fun c xs q=>by rw[ay (aL q hn)]; exact q
end
def Rd (H:Hp)(a:Addr)(u:HO):Prop:=H a=some u∨ ∃o,H a=some (.BQ o u)
theorem Rd.ok {P:Program}{w:World}{H:Hp}{h:Heap}{a:Addr}{u:HO}(r:Rd H a u)(x:ow P w H h):dI P w H h a u:=by
 rcases r with r|⟨o,r⟩
 ·exact x a u r
 ·obtain⟨_,q⟩:=x a _ r
  exact q
def P7:Option HO->Prop
 |some (.lst _)=>True
 |some (.dK _)=>True
 |some (.dT _)=>True
 |some (.set _ _)=>True
 |some (.ins _ _ _)=>True
 |some (.ext _)=>True
 |_=>False
section
variable {P:Program}{w:World}{H:Hp}{h h':Heap}{x e:Addr}{o':HO}
theorem ow.write (ok:ow P w H h)(mu:P7 (H x))(he:e=x∨H e=some (.own x))(k: ∀b u,b≠e->h.get? b=some u->h'.get? b=some u)(Pj: ∃u,h'.get? e=some u)
  (new:dI P w (upd H x o') h' x o'):ow P w (upd H x o') h':=fun b u q=>by
 have P8: ∀c y,H c=some (.own y)->c≠x:=fun c y r z=>by subst z; rw[r] at mu; exact mu
 have UB: ∀c xs,H c=some (.tup xs)->c≠x:=fun c xs r z=>by subst z; rw[r] at mu; exact mu
 by_cases hb:b=x
 ·subst hb; rw[ag] at q; cases q; exact new
 ·rw[ay hb] at q
  by_cases MZ:b=e
  ·have q':H b=some (.own x):=by
    rcases he with z|z
    ·exact absurd (MZ.trans z) hb
    ·rw[MZ]; exact z
   rw[q] at q'; cases q'
   obtain⟨v,hv⟩:=Pj
   exact⟨v,by rw[MZ]; exact hv⟩
  ·refine(ok b u q).sU (fun c v hc r=>k c v ?_ r) (fun c r=>by rw[ay (P8 c b r)]; exact r) fun c xs r=>by rw[ay (UB c xs r)]; exact r
   rcases hc with rfl|hc
   ·exact MZ
   ·rintro rfl
    rcases he with z|z
    ·exact P8 c b hc z
    ·rw[hc] at z; cases z; exact hb rfl
end
structure Un (fs ex:List Addr)(H H':Hp)(h h':Heap):Prop where
 keep: ∀b o,h.get? b=some o->H b=none->b∉fs->b∉ex->h'.get? b=some o
 slot: ∀b o,h.get? b=some o->H b=none->b∈fs->b∉ex-> ∃sl,h'.get? b=some {o with slots:=sl}
 free: ∀b o,h.get? b=some o->H b=none->b∉ex->H' b=none
 there: ∀b o,h.get? b=some o->b∉ex-> ∃o',h'.get? b=some o'
 qe: ∀b xs,H b=some (.tup xs)->H' b=some (.tup xs)
 o6: ∀b o u,H b=some (.BQ o u)->H' b=some (.BQ o u)
 o7: ∀b ps,H b=some (.mB ps)-> ∃more,H' b=some (.mB (ps ++ more))
section
variable {fs Zx ex ex':List Addr}{H H1 H2:Hp}{h h1 h2 h':Heap}{a x e:Addr}{o:HO}
theorem Un.any (u:Un fs ex H H1 h h1){b:Addr}{ob:Obj}(q:h.get? b=some ob)(n:H b=none)(hx:b∉ex): ∃sl,h1.get? b=some {ob with slots:=sl}:=by
 by_cases hb:b∈fs
 ·exact u.slot b ob q n hb hx
 ·exact⟨ob.slots,u.keep b ob q n hb hx⟩
theorem Un.kept (k: ∀b u,h.get? b=some u->h'.get? b=some u):Un fs ex H H h h':=
 ⟨fun b ob q _ _ _=>k b ob q,fun b ob q _ _ _=>⟨ob.slots,k b ob q⟩,fun _ _ _ n _=>n,fun b ob q _=>⟨ob,k b ob q⟩,fun _ _ q=>q,fun _ _ _ q=>q,fun _ ps q=>⟨#[],by rw[q]; simp⟩⟩
theorem Un.refl:Un fs ex H H h h:=Un.kept fun _ _ q=>q
theorem Un.laid (k: ∀b u,h.get? b=some u->h'.get? b=some u)(hp:h.objs.size<=a)(hn:H a=none):Un fs ex H (upd H a o) h h' where
 keep:=fun b u q _ _ _=>k b u q
 slot:=fun b u q _ _ _=>⟨u.slots,k b u q⟩
 free:=fun b u q n _=>by rw[ay (aY (bp (aK q) hp))]; exact n
 there:=fun b u q _=>⟨u,k b u q⟩
 qe:=fun b xs q=>by rw[ay (aL q hn)]; exact q
 o6:=fun b u xs q=>by rw[ay (aL q hn)]; exact q
 o7:=fun b ps q=>⟨#[],by rw[ay (aL q hn),q]; simp⟩
theorem Un.write (mu:P7 (H x))(he:e=x∨H e=some (.own x))(k: ∀b u,b≠e->h.get? b=some u->h'.get? b=some u)(Pj: ∃u,h'.get? e=some u):Un fs ex H (upd H x o) h h':=by
 have hx: ∀b,H b=none->b≠x:=fun b n z=>by subst z; rw[n] at mu; exact mu
 have hb: ∀b,H b=none->b≠e:=fun b n z=>by
  subst z
  rcases he with r|r
  ·exact hx b n r
  ·rw[n] at r; cases r
 have hm: ∀b u,H b=some u-> ¬ P7 (some u)->b≠x:=fun b u q nm z=>by subst z; rw[q] at mu; exact nm mu
 refine⟨fun b u q n _ _=>k b u (hb b n) q,fun b u q n _ _=>⟨u.slots,k b u (hb b n) q⟩,fun b u q n _=>by rw[ay (hx b n)]; exact n,fun b u q _=>?_,
  fun b xs q=>by rw[ay (hm b _ q fun z=>z)]; exact q,fun b u xs q=>by rw[ay (hm b _ q fun z=>z)]; exact q,fun b ps q=>⟨#[],by rw[ay (hm b _ q fun z=>z),q]; simp⟩⟩
 by_cases MZ:b=e
 ·subst MZ; exact Pj
 ·exact⟨u,k b u MZ q⟩
end
def Tp (h:Heap)(H:Hp):List Addr:=(List.range h.objs.size).filter fun a=>(H a).isSome
def vF (h:Heap)(H:Hp):Heap:=PySem.W.hideAll h (Tp h H)
theorem E2 (h:Heap)(H:Hp):(vF h H).objs.size=h.objs.size:=PySem.W.hideAll_size _ _
theorem G4 {h:Heap}{H:Hp}{b:Addr}{o:Obj}(e:h.get? b=some o)(n:H b=none):(vF h H).get? b=some o:=
 PySem.W.hideAll_get _ e fun hm=>by
  have q:(H b).isSome=true:=(fR.mp hm).2
  rw[n] at q; simp at q
theorem J2 {h:Heap}{H:Hp}{b:Addr}{o:Obj}(e:(vF h H).get? b=some o):h.get? b=some o/\H b=none:=by
 have e':h.get? b=some o:=PySem.W.of_hideAll (Tp h H) e
 refine⟨e',?_⟩
 cases q:H b with
 |none=>rfl
 |some x=>
  have hm:b∈Tp h H:=List.mem_filter.mpr ⟨List.mem_range.mpr (Heap.lt_size e'),by simp[q]⟩
  have z:(vF h H).get? b=none:=PySem.W.hideAll_none (Tp h H) hm
  rw[z] at e; cases e
structure Mod (K:PySem.W.Frag)(mg:Str->Option Value)(base:Heap):Prop where
 Ka:K.In base
 glob:base.Ns mainGlobals mg
 blt: ∃mb,base.Ns builtinsNs mb/\ ∀x:Str,x≠"__name__"->mb x=bootBuiltins x
 nolimit:base.NoLimit
structure Cx where
 prog:Program
 w:World
 K:PySem.W.Frag
 mg:Str->Option Value
 base:Heap
 A:Around
 N:List Str
 s₀:Shared
 H₀:Hp
 env:Env
 outer:List Env
 stack:List Env
 ex:List Addr
 fn:Str->Bool
 calm:Bool
 pn:List (Addr×Obj)
 xe:Value->Shared->Prop
def Cb (l:List Env):List Addr:=l.filterMap (·.frame)
abbrev Cx.fs (X:Cx):List Addr:=Cb X.outer
def P9 (sc:Scope)(x:Str):Prop:=sc.names.lookup x=some .local∨sc.names.lookup x=some .cell∨sc.names.lookup x=some .free
def Loc (sc:Scope)(x:Str):Prop:=sc.names.lookup x=some .local∨sc.names.lookup x=some .cell
def Look (env:Env)(h:Heap)(m:Str->Option Value)(x:Str)(u:Value):Prop:=
 (env.kindOf x=some .local/\m x=some u)∨((env.kindOf x=some .cell∨env.kindOf x=some .free)/\ ∃c,env.cells.lookup x=some c/\h.IsCell c (some u))
structure Cx.Ok (X:Cx):Prop where
 mod:Mod X.K X.mg X.base
 kind:X.env.scope.kind= .function
 glob:X.env.globals=mainGlobals
 blt:X.env.builtins=builtinsNs
 above:X.s₀.heap.objs.size<=X.env.locals
 inj: ∀x y c,X.env.cells.lookup x=some c->X.env.cells.lookup y=some c->x=y
 has: ∀x,(X.env.kindOf x=some .cell∨X.env.kindOf x=some .free)-> ∃c,X.env.cells.lookup x=some c
 JE: ∀x c,X.fn x=true->X.env.cells.lookup x=some c->X.s₀.heap.objs.size<=c
 hd:X.calm=true->X.A.handled=none
 frames:X.A.frames=some X.stack
 GO:X.stack=X.outer∨(X.stack=X.env :: X.outer/\X.env.frame=some X.env.locals)
 Kb: ∀b∈X.ex,b≠X.env.locals/\ ∀x c,X.env.cells.lookup x=some c->c≠b
 bs: ∀b o,X.base.get? b=some o->X.s₀.heap.get? b=some o/\X.H₀ b=none
 zW:X.base.objs.size<=X.s₀.heap.objs.size
 vG: ∀b o,X.base.get? b=some o->b∉X.ex
 vH: ∀b∈X.ex,b∉X.fs
 lL:X.s₀.heap.FunFrames X.base X.outer
 Dv: ∀b∈X.fs,X.H₀ b=none
structure Inv (X:Cx)(pins:List (Addr×Obj))(σ:List (Option V))(H:Hp)(s:Shared):Prop where
 ok:X.Ok
 os:s.os=X.s₀.os
 bare:AllBare s.gens
 base:Un X.fs X.ex X.H₀ H X.s₀.heap s.heap
 loc: ∃m,s.heap.Ns X.env.locals m/\ ∀(i:Nat) (x:Str) (v:V),X.N[i]? =some x->σ[i]? =some (some v)->P9 X.env.scope x-> ∃u,RelV v u/\Look X.env s.heap m x u
 cell: ∀x c,X.env.cells.lookup x=some c-> ∃v,s.heap.IsCell c v
 free:H X.env.locals=none
 iR: ∀x c,X.env.cells.lookup x=some c->H c=none
 pin: ∀p∈X.pn ++ pins,s.heap.get? p.1=some p.2/\H p.1=none/\p.1≠X.env.locals/\p.1∉X.fs/\ ∀v,p.2.data≠ .cell v
 cH:ow X.prog X.w H s.heap
 len:σ.length=X.N.length
section
variable {X:Cx}{pins:List (Addr×Obj)}{σ:List (Option V)}{H H':Hp}{s:Shared}{h':Heap}
theorem Cx.Ok.UC (ok:X.Ok){b:Addr}{o:Obj}(e:X.base.get? b=some o):b∉X.fs:=fun hb=>by
 have:=(ok.lL.mem hb).1
 rw[e] at this; cases this
theorem Inv.bs (I:Inv X pins σ H s): ∀b o,X.base.get? b=some o->s.heap.get? b=some o/\H b=none:=fun b o e=>
 ⟨I.base.keep b o (I.ok.bs b o e).1 (I.ok.bs b o e).2 (I.ok.UC e) (I.ok.vG b o e),I.base.free b o (I.ok.bs b o e).1 (I.ok.bs b o e).2 (I.ok.vG b o e)⟩
theorem Inv.bk (I:Inv X pins σ H s): ∀b o,X.base.get? b=some o->s.heap.get? b=some o:=fun b o e=>(I.bs b o e).1
theorem Inv.mod (I:Inv X pins σ H s):Mod X.K X.mg X.base:=I.ok.mod
theorem Inv.gP (I:Inv X pins σ H s):X.K.In s.heap:=I.ok.mod.Ka.keeps I.bk
theorem Inv.nolimit (I:Inv X pins σ H s):s.heap.NoLimit:=I.ok.mod.nolimit.keeps I.bk
theorem Inv.fr (I:Inv X pins σ H s): ∃m,Fr X.base X.env.locals s.heap m:=
 let⟨m,hn,_⟩:=I.loc
 ⟨m,hn,I.bk,a6 I.ok.zW I.ok.above⟩
theorem Inv.lt (I:Inv X pins σ H s):X.env.locals < s.heap.objs.size:=let⟨_,hn,_⟩:=I.loc; hn.lt
theorem Inv.sz (I:Inv X pins σ H s):X.s₀.heap.objs.size<=s.heap.objs.size:=a6 I.ok.above (dB I.lt)
theorem Inv.E3 (I:Inv X pins σ H s){a:Addr}(h:s.heap.objs.size<=a):a∉X.fs:=fun hb=>by
 obtain⟨_,o,ho,_⟩:=I.ok.lL.mem hb
 exact absurd (bp (aK ho) (a6 I.sz h)) (iS _)
theorem Inv.L8 (I:Inv X pins σ H s): ∀x c,X.env.cells.lookup x=some c->c≠X.env.locals:=fun x c e z=>by
 obtain⟨v,o,ho,hd⟩:=I.cell x c e
 obtain⟨m,⟨o',es,ep,Kc,E4,_⟩,_⟩:=I.loc
 rw[z,Kc] at ho; cases ho; rw[E4] at hd; cases hd
theorem Inv.lL (I:Inv X pins σ H s):s.heap.FunFrames X.base X.outer:=by
 have all: ∀(l:List Env),(∀b∈Cb l,b∈X.fs)->X.s₀.heap.FunFrames X.base l->s.heap.FunFrames X.base l:=by
  intro l
  induction l with
  |nil=>intro _ _; trivial
  |cons env r ih=>
   intro hs hl
   obtain⟨hk,⟨L,o,hf,hn,ho,hd⟩,hr⟩:=hl
   have hL:L∈X.fs:=hs L (by unfold Cb; rw[List.filterMap_cons,hf]; exact List.mem_cons_self)
   obtain⟨sl,e⟩:=I.base.slot L o ho (I.ok.Dv L hL) hL fun z=>I.ok.vH L z hL
   exact⟨hk,⟨L,_,hf,hn,e,hd⟩,ih (fun b hb=>hs b (by unfold Cb; rw[List.filterMap_cons,hf]; exact List.mem_cons_of_mem _ hb)) hr⟩
 exact all X.outer (fun _ hb=>hb) I.ok.lL
theorem Inv.stack (I:Inv X pins σ H s):s.heap.FunFrames X.base X.stack:=by
 rcases I.ok.GO with e|⟨e,hf⟩
 ·rw[e]; exact I.lL
 ·rw[e]
  obtain⟨m,hn,_⟩:=I.loc
  refine .cons (by rw[I.ok.kind]; decide) hf hn ?_ I.lL
  exact Heap.get?_none_of_le (a6 I.ok.zW I.ok.above)
theorem Inv.tS (I:Inv X pins σ H s): ∀b∈Cb X.stack,b∈X.env.locals :: X.fs:=fun b hb=>by
 rcases I.ok.GO with e|⟨e,hf⟩
 ·rw[e] at hb; exact aU _ hb
 ·rw[e] at hb
  unfold Cb at hb
  rw[List.filterMap_cons,hf] at hb
  exact hb
theorem Inv.qf (I:Inv X pins σ H s): ∀b∈Cb X.stack,H b=none:=fun b hb=>by
 rcases aw.mp (I.tS b hb) with e|hb
 ·rw[e]; exact I.free
 ·obtain⟨_,o,ho,_⟩:=I.ok.lL.mem hb
  exact I.base.free b o ho (I.ok.Dv b hb) fun z=>I.ok.vH b z hb
theorem Inv.step {g':Array GenState}{t':Nat}{d':Drawn}{ch:List Addr}(I:Inv X pins σ H s)
  (zX: ∀b∈ch,(b∈X.ex∨X.s₀.heap.objs.size<=b)/\b≠X.env.locals/\(∀x c,X.env.cells.lookup x=some c->c≠b)/\ ∀p∈X.pn ++ pins,p.1≠b)
  (keep: ∀b o,b≠X.env.locals->b∉X.fs->b∉ch->s.heap.get? b=some o->H b=none->h'.get? b=some o)
  (slot: ∀b o,b≠X.env.locals->b∈X.fs->b∉ch->s.heap.get? b=some o->H b=none-> ∃sl,h'.get? b=some {o with slots:=sl}) (free: ∀b o,b∉ch->s.heap.get? b=some o->H b=none->H' b=none)
  (there: ∀b o,b∉ch->s.heap.get? b=some o-> ∃o',h'.get? b=some o')
  (qe: ∀b xs,H b=some (.tup xs)->H' b=some (.tup xs)) (o6: ∀b o u,H b=some (.BQ o u)->H' b=some (.BQ o u)) (o7: ∀b ps,H b=some (.mB ps)-> ∃more,H' b=some (.mB (ps ++ more)))
  (ns: ∀m,s.heap.Ns X.env.locals m->h'.Ns X.env.locals m) (cH:ow X.prog X.w H' h') (hg:AllBare g'):
  Inv X pins σ H' {s with heap:=h',gens:=g',drawn:=d',toks:=t'}:=by
 have XI: ∀b o,X.s₀.heap.get? b=some o->b≠X.env.locals:=fun b o e=>aY (bp (aK e) I.ok.above)
 have Tq: ∀b o,X.s₀.heap.get? b=some o->b∉X.ex->b∉ch:=fun b o e hx hb=>by
  rcases(zX b hb).1 with z|z
  ·exact hx z
  ·exact absurd (bp (aK e) z) (iS _)
 have cellK: ∀x c,X.env.cells.lookup x=some c-> ∀v,s.heap.IsCell c v->h'.IsCell c v:=fun x c e v ⟨o,ho,hd⟩=>by
  have Qa:c∉ch:=fun z=>(zX c z).2.2.1 x c e rfl
  by_cases hc:c∈X.fs
  ·obtain⟨sl,q⟩:=slot c o (I.L8 x c e) hc Qa ho (I.iR x c e)
   exact⟨_,q,hd⟩
  ·exact⟨o,keep c o (I.L8 x c e) hc Qa ho (I.iR x c e),hd⟩
 refine⟨I.ok,I.os,hg,⟨fun b o e n hb hx=>?_,fun b o e n hb hx=>?_,fun b o e n hx=>?_,fun b o e hx=>?_,fun b xs e=>qe b xs (I.base.qe b xs e),fun b o xs e=>o6 b o xs (I.base.o6 b o xs e),fun b ps e=>?_⟩,?_,fun x c e=>?_,?_,fun x c e=>?_,fun p hp=>?_,cH,I.len⟩
 ·exact keep b o (XI b o e) hb (Tq b o e hx) (I.base.keep b o e n hb hx) (I.base.free b o e n hx)
 ·obtain⟨sl,e1⟩:=I.base.slot b o e n hb hx
  obtain⟨Zy,e2⟩:=slot b _ (XI b o e) hb (Tq b o e hx) e1 (I.base.free b o e n hx)
  exact⟨Zy,e2⟩
 ·obtain⟨o',e1⟩:=I.base.there b o e hx
  exact free b o' (Tq b o e hx) e1 (I.base.free b o e n hx)
 ·obtain⟨o',e1⟩:=I.base.there b o e hx
  exact there b o' (Tq b o e hx) e1
 ·obtain⟨m1,e1⟩:=I.base.o7 b ps e
  obtain⟨m2,e2⟩:=o7 b _ e1
  exact⟨m1 ++ m2,by rw[e2,Array.append_assoc]⟩
 ·obtain⟨m,hn,hl⟩:=I.loc
  refine⟨m,ns m hn,fun i x v e1 e2 e3=>?_⟩
  obtain⟨u,r,l⟩:=hl i x v e1 e2 e3
  refine⟨u,r,?_⟩
  rcases l with l|⟨k,c,e,z⟩
  ·exact .inl l
  ·exact .inr ⟨k,c,e,cellK x c e _ z⟩
 ·obtain⟨v,z⟩:=I.cell x c e
  exact⟨v,cellK x c e v z⟩
 ·obtain⟨m,⟨o,_,_,ho,_⟩,_⟩:=I.loc
  exact free _ o (fun z=>(zX _ z).2.1 rfl) ho I.free
 ·obtain⟨v,o,ho,hd⟩:=I.cell x c e
  exact free c o (fun z=>(zX c z).2.2.1 x c e rfl) ho (I.iR x c e)
 ·obtain⟨e,n,ne,nf,d⟩:=I.pin p hp
  have Qa:p.1∉ch:=fun z=>(zX p.1 z).2.2.2 p hp rfl
  exact⟨keep p.1 p.2 ne nf Qa e n,free p.1 p.2 Qa e n,ne,nf,d⟩
theorem Inv.un {t':Nat}(I:Inv X pins σ H s)(u:Un X.fs [] H H' s.heap h')(cH:ow X.prog X.w H' h'):Inv X pins σ H' {s with heap:=h',toks:=t'}:=by
 obtain⟨m,⟨o,es,ep,ho,r⟩,_⟩:=id I.loc
 obtain⟨sl,hL⟩:=u.any ho I.free (by simp)
 exact I.step (g':=s.gens) (d':=s.drawn) (ch:=[]) (fun _ z=>nomatch z) (fun b o _ hb _ e n=>u.keep b o e n hb (by simp)) (fun b o _ hb _ e n=>u.slot b o e n hb (by simp)) (fun b o _ e n=>u.free b o e n (by simp)) (fun b o _ e=>u.there b o e (by simp)) u.qe u.o6 u.o7 (fun m' hm=>by
  obtain⟨o',UD,UE,Kc,r'⟩:=hm
  rw[ho] at Kc; cases Kc
  exact⟨_,UD,UE,hL,r'⟩) cH I.bare
theorem Inv.call {g':Array GenState}{t':Nat}{d':Drawn}{ch:List Addr}(I:Inv X pins σ H s)(u:Un (Cb X.stack) ch H H' s.heap h')(cH:ow X.prog X.w H' h')(hg:AllBare g')
  (zX: ∀b∈ch,(b∈X.ex∨X.s₀.heap.objs.size<=b)/\b≠X.env.locals/\(∀x c,X.env.cells.lookup x=some c->c≠b)/\ ∀p∈X.pn ++ pins,p.1≠b):
  Inv X pins σ H' {s with heap:=h',gens:=g',drawn:=d',toks:=t'}:=by
 obtain⟨m,⟨o,es,ep,ho,r⟩,_⟩:=id I.loc
 obtain⟨sl,hL⟩:=u.any ho I.free fun z=>(zX _ z).2.1 rfl
 exact I.step (ch:=ch) zX (fun b o hL hb hc e n=>u.keep b o e n (fun z=>(aw.mp (I.tS b z)).elim hL hb) hc) (fun b o _ _ hc e n=>u.any e n hc) (fun b o hc e n=>u.free b o e n hc) (fun b o hc e=>u.there b o e hc) u.qe u.o6 u.o7 (fun m' hm=>by
  obtain⟨o',UD,UE,Kc,r'⟩:=hm
  rw[ho] at Kc; cases Kc
  exact⟨_,UD,UE,hL,r'⟩) cH hg
theorem Inv.turned {t':Nat}{it:Addr}(I:Inv X pins σ H s)(k: ∀b o,b≠it->s.heap.get? b=some o->h'.get? b=some o)(hn:H it=none)(hL:it≠X.env.locals)
  (h1:it∈X.ex∨X.s₀.heap.objs.size<=it) (h2: ∀x c,X.env.cells.lookup x=some c->c≠it) (h3: ∀p∈X.pn ++ pins,p.1≠it):Inv X pins σ H {s with heap:=h',toks:=t'}:=by
 have Qb: ∀b u,H b=some u->b≠it:=fun b u e z=>by rw[z,hn] at e; cases e
 refine I.step (g':=s.gens) (d':=s.drawn) (ch:=[it]) (fun b hb=>?_) (fun b o _ _ hc e _=>k b o (fun z=>hc (by simp[z])) e) (fun b o _ _ hc e _=>⟨o.slots,k b o (fun z=>hc (by simp[z])) e⟩) (fun _ _ _ _ n=>n)
  (fun b o hc e=>⟨o,k b o (fun z=>hc (by simp[z])) e⟩) (fun _ _ e=>e) (fun _ _ _ e=>e) (fun b ps e=>⟨#[],by rw[e]; simp⟩) (fun m hm=>?_) (fun b u e=>?_) I.bare
 ·have e:b=it:=by simpa using hb
  subst e
  exact⟨h1,hL,h2,h3⟩
 ·obtain⟨o,es,ep,ho,r⟩:=hm
  exact⟨o,es,ep,k _ o (vw hL) ho,r⟩
 ·refine(I.cH b u e).sU (fun c v hc q=>k c v ?_ q) (fun _ q=>q) fun _ _ q=>q
  rcases hc with z|z
  ·rw[z]; exact Qb b u e
  ·exact Qb c _ z
theorem Inv.tok (I:Inv X pins σ H s)(t:Nat):Inv X pins σ H {s with toks:=t}:=I.un (h':=s.heap) (t':=t) Un.refl I.cH
theorem Inv.kept {t':Nat}(I:Inv X pins σ H s)(k: ∀b u,s.heap.get? b=some u->h'.get? b=some u):Inv X pins σ H {s with heap:=h',toks:=t'}:=I.un (Un.kept k) (I.cH.kept k)
theorem Inv.laid {a:Addr}{o:HO}{t':Nat}(I:Inv X pins σ H s)(k: ∀b u,s.heap.get? b=some u->h'.get? b=some u)(hp:s.heap.objs.size<=a)(new:dI X.prog X.w (upd H a o) h' a o):
  Inv X pins σ (upd H a o) {s with heap:=h',toks:=t'}:=I.un (Un.laid k hp (I.cH.fresh hp)) (I.cH.laid k hp new)
theorem Inv.write {x e:Addr}{o:HO}{t':Nat}(I:Inv X pins σ H s)(mu:P7 (H x))(he:e=x∨H e=some (.own x))(k: ∀b u,b≠e->s.heap.get? b=some u->h'.get? b=some u)(Pj: ∃u,h'.get? e=some u)
  (new:dI X.prog X.w (upd H x o) h' x o):Inv X pins σ (upd H x o) {s with heap:=h',toks:=t'}:=I.un (Un.write mu he k Pj) (I.cH.write mu he k Pj new)
theorem Inv.tG {zY:List (Addr×Obj)}(I:Inv X pins σ H s)(h: ∀p∈zY,s.heap.get? p.1=some p.2/\H p.1=none/\p.1≠X.env.locals/\p.1∉X.fs/\ ∀v,p.2.data≠ .cell v):Inv X zY σ H s:=
 ⟨I.ok,I.os,I.bare,I.base,I.loc,I.cell,I.free,I.iR,fun p hp=>(bq.mp hp).elim (fun z=>I.pin p (df _ z)) (h p),I.cH,I.len⟩
theorem zZ {N:List Str}(hN:N.Nodup){i j:Nat}{x:Str}(a:N[i]? =some x)(b:N[j]? =some x):i=j:=by
 obtain⟨h1,e1⟩:=au.mp a
 obtain⟨h2,e2⟩:=au.mp b
 exact(List.getElem_inj hN).mp (e1.trans e2.symm)
theorem wV {M:Model}{A:Around}{E:Value->Shared->Prop}{i:Nat}{x:Str}{v:V}{u:Value}{Q:Unit->Shared->Prop}(I:Inv X pins σ H s)(hN:X.N.Nodup)(hi:X.N[i]? =some x)(hx:Loc X.env.scope x)(r:RelV v u)
  (h: ∀s',Inv X pins (σ.set i (some v)) H s'->(∃a,Heap.SameBut a s.heap s'.heap/\(a=X.env.locals∨X.env.cells.lookup x=some a))->Q () s') (hf:X.fn x=true∨X.env.scope.names.lookup x=some .local:=by first|exact .inl rfl|exact .inr rfl|assumption):wpAny M A (storeName X.env x u) Q E s:=by
 obtain⟨m,hn,hl⟩:=id I.loc
 have M0:(X.env.scope.kind == .class || (X.env.scope.kind == .module && X.env.locals != X.env.globals))=false:=by rw[I.ok.kind]; rfl
 have XJ:i < σ.length:=by rw[I.len]; exact(au.mp hi).1
 have L8:=I.L8
 have tracked: ∀{a:Addr} {h':Heap},(∃o,s.heap.get? a=some o/\H a=none)->Heap.SameBut a s.heap h'->ow X.prog X.w H h':=fun{a h'} ha hs b ob e=>by
  obtain⟨_,_,wW⟩:=ha
  refine(I.cH b ob e).sU (fun c w' hc q=>(hs.2 c ?_).trans q) (fun _ q=>q) fun _ _ q=>q
  rintro rfl
  rcases hc with rfl|hc
  ·rw[wW] at e; cases e
  ·rw[wW] at hc; cases hc
 rcases hx with hk|hk
 ·refine wpAny_storeName_local hk hn (fun h' UG hs=>?_) M0
  obtain⟨oL,_,_,M3,_⟩:=id hn
  refine h _ ⟨I.ok,I.os,I.bare,⟨fun b o e n hb hx=>?_,fun b o e n hb hx=>?_,I.base.free,fun b o e hx=>?_,I.base.qe,I.base.o6,I.base.o7⟩,⟨_,UG,fun j y v' e1 e2 e3=>?_⟩,fun y c e=>?_,I.free,I.iR,fun p hp=>?_,tracked ⟨oL,M3,I.free⟩ hs,by simpa using I.len⟩ ⟨_,hs,.inl rfl⟩
  ·exact(hs.2 b (aY (bp (aK e) I.ok.above))).trans (I.base.keep b o e n hb hx)
  ·obtain⟨sl,e1⟩:=I.base.slot b o e n hb hx
   exact⟨sl,(hs.2 b (aY (bp (aK e) I.ok.above))).trans e1⟩
  ·obtain⟨o',e1⟩:=I.base.there b o e hx
   exact⟨o',(hs.2 b (aY (bp (aK e) I.ok.above))).trans e1⟩
  ·by_cases hj:j=i
   ·subst hj
    rw[hi] at e1; cases e1
    rw[kY XJ] at e2
    cases e2
    exact⟨u,r,.inl ⟨hk,by simp⟩⟩
   ·rw[mx (vw hj)] at e2
    obtain⟨u',r',q⟩:=hl j y v' e1 e2 e3
    refine⟨u',r',?_⟩
    rcases q with⟨k,e⟩|⟨k,c,e,z⟩
    ·refine .inl ⟨k,?_⟩
     have:y≠x:=fun e=>hj (zZ hN e1 (e▸hi))
     simp[this,e]
    ·exact .inr ⟨k,c,e,z.sameBut hs (L8 y c e)⟩
  ·obtain⟨w',z⟩:=I.cell y c e
   exact⟨w',z.sameBut hs (L8 y c e)⟩
  ·obtain⟨e,n,ne,nf,d⟩:=I.pin p hp
   exact⟨(hs.2 p.1 ne).trans e,n,ne,nf,d⟩
 ·have Kd:X.fn x=true:=by
   rcases hf with z|z
   ·exact z
   ·rw[z] at hk; cases hk
  obtain⟨c,hc⟩:=I.ok.has x (.inl hk)
  obtain⟨w',z⟩:=I.cell x c hc
  refine wpAny_storeName_cell I.ok.kind hk hc z (fun h' Ke hs=>?_)
  obtain⟨oc,Pk,UH⟩:=id z
  refine h {s with heap:=h'} ⟨I.ok,I.os,I.bare,⟨fun b o e n hb hx=>?_,fun b o e n hb hx=>?_,I.base.free,fun b o e hx=>?_,I.base.qe,I.base.o6,I.base.o7⟩,⟨m,hn.sameBut hs (Ne.symm (L8 x c hc)),fun j y v' e1 e2 e3=>?_⟩,fun y c' e=>?_,I.free,I.iR,fun p hp=>?_,tracked ⟨oc,Pk,I.iR x c hc⟩ hs,by simpa using I.len⟩ ⟨c,hs,.inr hc⟩
  ·exact(hs.2 b (aY (bp (aK e) (I.ok.JE x c Kd hc)))).trans (I.base.keep b o e n hb hx)
  ·obtain⟨sl,e1⟩:=I.base.slot b o e n hb hx
   exact⟨sl,(hs.2 b (aY (bp (aK e) (I.ok.JE x c Kd hc)))).trans e1⟩
  ·obtain⟨o',e1⟩:=I.base.there b o e hx
   exact⟨o',(hs.2 b (aY (bp (aK e) (I.ok.JE x c Kd hc)))).trans e1⟩
  ·by_cases hj:j=i
   ·subst hj
    rw[hi] at e1; cases e1
    rw[kY XJ] at e2
    cases e2
    exact⟨u,r,.inr ⟨.inl hk,c,hc,Ke⟩⟩
   ·rw[mx (vw hj)] at e2
    obtain⟨u',r',q⟩:=hl j y v' e1 e2 e3
    refine⟨u',r',?_⟩
    rcases q with q|⟨k,c',e,z'⟩
    ·exact .inl q
    ·refine .inr ⟨k,c',e,z'.sameBut hs ?_⟩
     rintro rfl
     exact hj (zZ hN e1 (I.ok.inj _ _ _ e hc▸hi))
  ·by_cases Tr:c'=c
   ·subst Tr; exact⟨_,Ke⟩
   ·obtain⟨w2,z2⟩:=I.cell y c' e
    exact⟨w2,z2.sameBut hs Tr⟩
  ·obtain⟨e,n,ne,nf,d⟩:=I.pin p hp
   refine⟨(hs.2 p.1 ?_).trans e,n,ne,nf,d⟩
   intro q
   rw[q,Pk] at e
   have q':oc=p.2:=aE e
   exact d w' (by rw[← q']; exact UH)
theorem tT {M:Model}{A:Around}{E:Value->Shared->Prop}{i:Nat}{x:Str}{v:V}{u:Value}{Q:Unit->Shared->Prop}(I:Inv X pins σ H s)(hN:X.N.Nodup)(hi:X.N[i]? =some x)(hx:Loc X.env.scope x)(r:RelV v u)
  (h: ∀s',Inv X pins (σ.set i (some v)) H s'->Q () s') (hf:X.fn x=true∨X.env.scope.names.lookup x=some .local:=by first|exact .inl rfl|exact .inr rfl|assumption):wpAny M A (storeName X.env x u) Q E s:=
 wV I hN hi hx r (fun s' I' _=>h s' I') hf
theorem Inv.Dw {s':Shared}{ch:List Addr}(I:Inv X pins σ H s)(ho:s'.os=s.os)(u:Un (Cb X.stack) ch H H' s.heap s'.heap)(cH:ow X.prog X.w H' s'.heap)(hg:AllBare s'.gens)
  (zX: ∀b∈ch,(b∈X.ex∨X.s₀.heap.objs.size<=b)/\b≠X.env.locals/\(∀x c,X.env.cells.lookup x=some c->c≠b)/\ ∀p∈X.pn ++ pins,p.1≠b):Inv X pins σ H' s':=by
 obtain⟨h',g',d',t',o'⟩:=s'
 have e:o'=s.os:=ho
 subst e
 exact I.call (g':=g') (t':=t') (d':=d') u cH hg zX
end
abbrev XK:=Value->Option Addr->Hp->Prop
abbrev St:=List (Option V)
abbrev VK:=V->Hp->Prop
abbrev TE:=St->Hp->VK->Prop
abbrev TT:=St->Hp->(Bool->Hp->Prop)->Prop
abbrev TA:=St->Hp->(List V->Hp->Prop)->Prop
structure Ends where
 nx:St->Hp->Prop
 rt:VK
 bk:St->Hp->Prop:=fun _ _=>False
 ct:St->Hp->Prop:=fun _ _=>False
abbrev TS:=Ends->St->Hp->Prop
def EP (X:Cx)(pins:List (Addr×Obj))(σ:St)(Q:VK)(u:Value)(s':Shared):Prop:= ∃v H',Inv X pins σ H' s'/\RelV v u/\Q v H'
def TP (X:Cx)(pins:List (Addr×Obj))(σ:St)(Q:Bool->Hp->Prop)(b:Bool)(s':Shared):Prop:= ∃H',Inv X pins σ H' s'/\Q b H'
def AP (X:Cx)(pins:List (Addr×Obj))(σ:St)(Q:List V->Hp->Prop)(us:List Value)(s':Shared):Prop:= ∃vs H',Inv X pins σ H' s'/\Vals vs us/\Q vs H'
def SP (X:Cx)(pins:List (Addr×Obj))(D:Ends)(f:Flow)(s':Shared):Prop:=
 match f with
 | .next=> ∃σ' H',Inv X pins σ' H' s'/\D.nx σ' H'
 | .brk=> ∃σ' H',Inv X pins σ' H' s'/\D.bk σ' H'
 | .cont=> ∃σ' H',Inv X pins σ' H' s'/\D.ct σ' H'
 | .ret u=> ∃v σ' H',Inv X pins σ' H' s'/\RelV v u/\D.rt v H'
def PE (X:Cx)(e:Expr)(t:TE):Prop:=
 ∀(pins:List (Addr×Obj)) (s:Shared) (σ:St) (H:Hp) (Q:VK),Inv X pins σ H s->t σ H Q->wpAny (model X.prog X.w) X.A (eval e X.env) (EP X pins σ Q) X.xe s
def PT (X:Cx)(e:Expr)(t:TT):Prop:=
 ∀(pins:List (Addr×Obj)) (s:Shared) (σ:St) (H:Hp) (Q:Bool->Hp->Prop),Inv X pins σ H s->t σ H Q->wpAny (model X.prog X.w) X.A (isTrue e X.env (eval e X.env)) (TP X pins σ Q) X.xe s
def PW (X:Cx)(e:Expr)(t:TT):Prop:=
 ∀(whole:Sem Value) (pins:List (Addr×Obj)) (s:Shared) (σ:St) (H:Hp) (Q:Bool->Hp->Prop),Inv X pins σ H s->t σ H Q->wpAny (model X.prog X.w) X.A (isTrue e X.env whole) (TP X pins σ Q) X.xe s
theorem PW.pt {X:Cx}{e:Expr}{t:TT}(h:PW X e t):PT X e t:=h _
def PA (X:Cx)(es:List Expr)(t:TA):Prop:=
 ∀(pos:Pos) (pins:List (Addr×Obj)) (s:Shared) (σ:St) (H:Hp) (Q:List V->Hp->Prop),Inv X pins σ H s->t σ H Q->wpAny (model X.prog X.w) X.A (spliced (backTo pos (starEach es X.env))) (AP X pins σ Q) X.xe s
def PS (X:Cx)(st:Stmt)(t:TS):Prop:=
 ∀(pins:List (Addr×Obj)) (s:Shared) (σ:St) (H:Hp) (D:Ends),Inv X pins σ H s->t D σ H->wpAny (model X.prog X.w) X.A (exec st X.env) (SP X pins D) X.xe s
def o8 (X:Cx)(st:List Stmt)(t:TS):Prop:=
 ∀(pins:List (Addr×Obj)) (s:Shared) (σ:St) (H:Hp) (D:Ends),Inv X pins σ H s->t D σ H->wpAny (model X.prog X.w) X.A (execs st X.env) (SP X pins D) X.xe s
theorem ej {α:Type}{t:Sem α}{Q Q':α->Shared->Prop}{M:Model}{A:Around}{E:Value->Shared->Prop}{s:Shared}(h:wpAny M A t Q E s)(hQ: ∀a s,Q a s->Q' a s):wpAny M A t Q' E s:=cD h hQ fun _ _ x=>x
section
variable {X:Cx}
def Qc (i:Nat):TE:=fun σ H Q=> ∃v,σ[i]? =some (some v)/\Q v H
def tC (v:V):TE:=fun _ H Q=>Q v H
theorem Cc {i:Nat}{x:Str}{pos:Pos}(hN:X.N[i]? =some x)(hv:P9 X.env.scope x)(hd:(x == ("__debug__":Str))=false:=by decide)(q0:(x == ("__classdict__":Str))=false:=by decide):PE X (.Name x pos) (Qc i):=by
 intro pins s σ H Q I h
 obtain⟨v,e,h⟩:=h
 obtain⟨m,hn,hl⟩:=I.loc
 obtain⟨u,r,l⟩:=hl i x v hN e hv
 have fin:EP X pins σ Q u s:=⟨v,H,I,r,h⟩
 rcases l with⟨hk,hm⟩|⟨hk,c,hc,me⟩
 ·exact wpAny_Name (wpAny_loadName_local I.ok.kind hk hn hm fin) hd
 ·rcases hk with hk|hk
  ·exact wpAny_Name (wpAny_loadName_cell I.ok.kind hk hc me fin) hd
  ·exact wpAny_Name (wpAny_loadName_free I.ok.kind hk hc me fin q0) hd
theorem aj {i j pos}:PE X (.Constant (.int i) j pos) (tC (.int i)):=fun _ _ _ H _ I h=>wpAny_Constant_int ⟨.int i,H,I.tok _,⟨_,rfl⟩,h⟩
theorem mC {b j pos}:PE X (.Constant (.bool b) j pos) (tC (.bl b)):=fun _ _ _ H _ I h=>Constant_bool ⟨.bl b,H,I,rfl,h⟩
theorem Cd {j pos}:PE X (.Constant .none j pos) (tC .eI):=fun _ _ _ H _ I h=>Constant_none ⟨.eI,H,I,rfl,h⟩
theorem aS {x j pos}:PE X (.Constant (.str x) j pos) (tC (.str x)):=fun _ _ _ H _ I h=>Calls.Constant_str ⟨.str x,H,I.tok _,⟨_,rfl⟩,h⟩
def Gl (X:Cx)(x:Str):Prop:=X.env.kindOf x=some .globalImplicit
theorem jy {E:Value->Shared->Prop}{pins:List (Addr×Obj)}{s:Shared}{σ:St}{H:Hp}{x:Str}{u:Value}{pos:Pos}{Q:Value->Shared->Prop}(I:Inv X pins σ H s)(hg:Gl X x)(hm:X.mg x=some u)(h:Q u s)
  (hd:(x == ("__debug__":Str))=false:=by decide):wpAny (model X.prog X.w) X.A (eval (.Name x pos) X.env) Q E s:=
 Calls.Name_function_global I.ok.kind hg (Calls.loadGlobal_global (by rw[I.ok.glob]; exact I.mod.glob.keeps I.bk) hm h) hd
theorem o9 {E:Value->Shared->Prop}{pins:List (Addr×Obj)}{s:Shared}{σ:St}{H:Hp}{x:Str}{u:Value}{pos:Pos}{Q:Value->Shared->Prop}(I:Inv X pins σ H s)(hg:Gl X x)(hm:X.mg x=none)(hv:bootBuiltins x=some u)(h:Q u s)
  (hn:x≠"__name__":=by decide) (hd:(x == ("__debug__":Str))=false:=by decide):wpAny (model X.prog X.w) X.A (eval (.Name x pos) X.env) Q E s:=by
 obtain⟨mb,h1,h2⟩:=I.mod.blt
 exact Calls.Name_function_global I.ok.kind hg (Calls.loadGlobal_builtin (by rw[I.ok.glob]; exact I.mod.glob.keeps I.bk) hm (by rw[I.ok.blt]; exact h1.keeps I.bk) ((h2 x hn).trans hv) h) hd
theorem Dx {x:Str}{v:V}{u:Value}{pos:Pos}(hg:Gl X x)(hm:X.mg x=some u)(r:RelV v u)(hd:(x == ("__debug__":Str))=false:=by decide):PE X (.Name x pos) (tC v):=
 fun _ _ _ H _ I h=>jy I hg hm ⟨v,H,I,r,h⟩ hd
theorem g6 {x:Str}{v:V}{u:Value}{pos:Pos}(hg:Gl X x)(hm:X.mg x=none)(hv:bootBuiltins x=some u)(r:RelV v u)(hn:x≠"__name__":=by decide)(hd:(x == ("__debug__":Str))=false:=by decide):PE X (.Name x pos) (tC v):=
 fun _ _ _ H _ I h=>o9 I hg hm hv ⟨v,H,I,r,h⟩ hn hd
variable {a b:Expr}{ta tb:TE}{pos:Pos}
def PC (X:Cx)(op:CmpOp)(a b:Expr)(t:TE):Prop:=
 ∀(pins:List (Addr×Obj)) (s:Shared) (σ:St) (H:Hp) (Q:VK),Inv X pins σ H s->t σ H Q->
  wpAny (model X.prog X.w) X.A (eval a X.env) (fun v s₁=>wpAny (model X.prog X.w) X.A (eval b X.env) (fun u s₂=>wpAny (model X.prog X.w) X.A (compareOp op v u) (EP X pins σ Q) X.xe s₂) X.xe s₁) X.xe s
theorem z5 (b:Expr){op:CmpOp}(h:op≠ .In)(h2:op≠ .NotIn):behindInMarks op b=false:=by
 have e1:(op == CmpOp.In)=false:=by cases op <;> first|rfl|exact absurd rfl h
 have e2:(op == CmpOp.NotIn)=false:=by cases op <;> first|rfl|exact absurd rfl h2
 cases b <;> simp[behindInMarks,e1,e2]
def UI (ta:TE):TE:=fun σ H Q=>ta σ H fun x H1=>Q (.bl (decide (x= .eI))) H1
def Qd (ta:TE):TE:=fun σ H Q=>ta σ H fun x H1=>Q (.bl (!decide (x= .eI))) H1
theorem RelV.z6 {x:V}{v:Value}(r:RelV x v):(v == Value.none)=decide (x= .eI):=by
 cases x with
 |eI=>cases r; rfl
 |bl _=>cases r; rfl
 |int _=>obtain⟨t,rfl⟩:=r; rfl
 |str _=>obtain⟨t,rfl⟩:=r; rfl
 |E1 _=>obtain⟨t,rfl⟩:=r; rfl
 |J1 _=>obtain⟨t,rfl⟩:=r; rfl
 |ref _=>cases r; rfl
 |ty _=>cases r; rfl
theorem G5 {j pos'}(ha:PE X a ta):PC X .Is a (.Constant .none j pos') (UI ta):=by
 intro pins s σ H Q I h
 refine ej (ha pins s σ H _ I h) fun v s1 ⟨x,H1,I1,r1,q1⟩=>?_
 exact Constant_none (is_none_gen ⟨.bl _,H1,I1,by rw[r1.z6]; rfl,q1⟩)
theorem Kf {j pos'}(ha:PE X a ta):PC X .IsNot a (.Constant .none j pos') (Qd ta):=by
 intro pins s σ H Q I h
 refine ej (ha pins s σ H _ I h) fun v s1 ⟨x,H1,I1,r1,q1⟩=>?_
 exact Constant_none (isnot_none_gen ⟨.bl _,H1,I1,by rw[r1.z6]; rfl,q1⟩)
def tB (t:TE):TT:=fun σ H Q=>t σ H fun x H1=> ∃c,x= .bl c/\Q c H1
theorem M4 {op:CmpOp}{t:TE}(h:PC X op a b t)(h1:behindInMarks op b=false:=by first|exact z5 _ (by decide) (by decide)|rfl):PE X (.Compare a [op] [b] pos) t:=fun pins s σ H Q I hw=>wpAny_Compare1 (h pins s σ H Q I hw) h1
theorem xX {op:CmpOp}{t:TE}(h:PC X op a b t)(h1:behindInMarks op b=false:=by first|exact z5 _ (by decide) (by decide)|rfl):PT X (.Compare a [op] [b] pos) (tB t):=by
 intro pins s σ H Q I hw
 refine wpAny_isTrue_Compare1 (ej (h pins s σ H _ I hw) fun v s1 h1=>ej h1 fun u s2 h2=>ej h2 fun c s3 ⟨x,H1,I1,r1,q1⟩=>?_) h1
 obtain⟨d,rfl,q⟩:=q1
 cases r1
 exact fY ⟨H1,I1,q⟩
theorem gi {e:Expr}{t:TE}(h:PE X e t)(he: ∀whole,isTrue e X.env whole=(do let v ← whole; standAt e.pos; holding [v] (truthy v)):=by intro _; rfl):PT X e (tB t):=by
 intro pins s σ H Q I hw
 refine isTrue_plain (ej (h pins s σ H _ I hw) fun v s1 ⟨x,H1,I1,r1,q1⟩=>?_) (he _)
 obtain⟨d,rfl,q⟩:=q1
 cases r1
 exact fY ⟨H1,I1,q⟩
variable {tA Ts:TT}{rest:List Expr}
def UJ (t u:TT):TT:=fun σ H Q=>t σ H fun c H1=>if c=true then u σ H1 Q else Q false H1
def Zz (t u:TT):TT:=fun σ H Q=>t σ H fun c H1=>if c=true then Q true H1 else u σ H1 Q
def UK (t:TT):TT:=fun σ H Q=>t σ H fun c H1=>Q (!c) H1
theorem pw_and1 (ha:PT X a tA):PW X (.BoolOp .And [a] pos) tA:=by
 intro wh pins s σ H Q I h
 refine isTrue_and (ej (ha pins s σ H Q I h) fun c s1 e=>?_)
 cases c with
 |true=>exact isTrue_and_nil e
 |false=>exact e
theorem pw_or1 (ha:PT X a tA):PW X (.BoolOp .Or [a] pos) tA:=by
 intro wh pins s σ H Q I h
 refine isTrue_or (ej (ha pins s σ H Q I h) fun c s1 e=>?_)
 cases c with
 |false=>exact isTrue_or_nil e
 |true=>exact e
theorem pw_and (ha:PT X a tA)(hb:PW X (.BoolOp .And (b :: rest) pos) Ts):PW X (.BoolOp .And (a :: b :: rest) pos) (UJ tA Ts):=by
 intro wh pins s σ H Q I h
 refine isTrue_and (ej (ha pins s σ H _ I h) fun c s1 ⟨H1,I1,q1⟩=>?_)
 cases c with
 |true=>exact hb wh pins s1 σ H1 Q I1 q1
 |false=>exact⟨H1,I1,q1⟩
theorem pw_or (ha:PT X a tA)(hb:PW X (.BoolOp .Or (b :: rest) pos) Ts):PW X (.BoolOp .Or (a :: b :: rest) pos) (Zz tA Ts):=by
 intro wh pins s σ H Q I h
 refine isTrue_or (ej (ha pins s σ H _ I h) fun c s1 ⟨H1,I1,q1⟩=>?_)
 cases c with
 |true=>exact⟨H1,I1,q1⟩
 |false=>exact hb wh pins s1 σ H1 Q I1 q1
theorem jN (ha:PT X a tA):PT X (.UnaryOp .Not a pos) (UK tA):=by
 intro pins s σ H Q I h
 exact isTrue_not (ha pins s σ H (fun c H1=>Q (!c) H1) I h)
def Qe (ta tb:TE):TE:=fun σ H Q=>ta σ H fun x H1=> ∃c,x= .bl c/\if c=true then tb σ H1 Q else Q (.bl false) H1
def UL (ta tb:TE):TE:=fun σ H Q=>ta σ H fun x H1=> ∃c,x= .bl c/\if c=true then Q (.bl true) H1 else tb σ H1 Q
def Qf (ta:TE):TE:=fun σ H Q=>ta σ H fun x H1=> ∃c,x= .bl c/\Q (.bl (!c)) H1
theorem mD {op}{t:TE}(h:PE X a t):PE X (.BoolOp op [a] pos) t:=fun pins s σ H Q I hw=>BoolOp_one (h pins s σ H Q I hw)
theorem pj (ha:PE X a ta)(hb:PE X (.BoolOp .And (b :: rest) pos) tb):PE X (.BoolOp .And (a :: b :: rest) pos) (Qe ta tb):=by
 intro pins s σ H Q I h
 refine BoolOp_and (ej (ha pins s σ H _ I h) fun v s1 ⟨x,H1,I1,r1,q1⟩=>?_)
 obtain⟨c,rfl,q1⟩:=q1
 cases r1
 refine fY ?_
 cases c with
 |true=>exact hb pins s1 σ H1 Q I1 q1
 |false=>exact⟨.bl false,H1,I1,rfl,q1⟩
theorem Qg (ha:PE X a ta)(hb:PE X (.BoolOp .Or (b :: rest) pos) tb):PE X (.BoolOp .Or (a :: b :: rest) pos) (UL ta tb):=by
 intro pins s σ H Q I h
 refine BoolOp_or (ej (ha pins s σ H _ I h) fun v s1 ⟨x,H1,I1,r1,q1⟩=>?_)
 obtain⟨c,rfl,q1⟩:=q1
 cases r1
 refine fY ?_
 cases c with
 |false=>exact hb pins s1 σ H1 Q I1 q1
 |true=>exact⟨.bl true,H1,I1,rfl,q1⟩
theorem M5 (ha:PE X a ta):PE X (.UnaryOp .Not a pos) (Qf ta):=by
 intro pins s σ H Q I h
 refine UnaryOp_ (ej (ha pins s σ H _ I h) fun v s1 ⟨x,H1,I1,r1,q1⟩=>?_)
 obtain⟨c,rfl,q1⟩:=q1
 cases r1
 exact not_of (fY ⟨.bl (!c),H1,I1,rfl,q1⟩)
end
def bQ (K:PySem.W.Frag)(H:Hp)(a:Addr)(xs:List V):Prop:=
 Rd H a (.lst xs)∨
  ∃(o:Obj) (cy:Array Value) (n:Nat),K.lookup a=some o/\o.cls= .type "list"/\o.dict=none/\o.data= .seq cy n/\cy.size<=sizeLine/\Vals xs cy.toList
def cM (K:PySem.W.Frag)(H:Hp)(a:Addr)(xs:List V):Prop:=
 Rd H a (.tup xs)∨
  ∃(o:Obj) (cy:Array Value) (n:Nat),K.lookup a=some o/\o.cls= .type "tuple"/\o.data= .seq cy n/\cy.size<=sizeLine/\Vals xs cy.toList
def UM:Value->Option V
 | .none=>some .eI
 | .bool b=>some (.bl b)
 | .int i _=>some (.int i)
 | .str x _=>some (.str x)
 | .bytes b _=>some (.E1 b)
 | .float b _=>some (.J1 b)
 | .ref a=>some (.ref a)
 | .type n=>some (.ty n)
 |_=>none
theorem RelV.abs {x:V}{u:Value}(r:RelV x u):UM u=some x:=by
 cases x with
 |eI=>cases r; rfl
 |bl _=>cases r; rfl
 |int _=>obtain⟨t,rfl⟩:=r; rfl
 |str _=>obtain⟨t,rfl⟩:=r; rfl
 |E1 _=>obtain⟨t,rfl⟩:=r; rfl
 |J1 _=>obtain⟨t,rfl⟩:=r; rfl
 |ref _=>cases r; rfl
 |ty _=>cases r; rfl
theorem RelV.inj {x y:V}{u:Value}(r:RelV x u)(q:RelV y u):x=y:=aE (r.abs.symm.trans q.abs)
theorem Vals.inj: ∀{xs ys:List V} {us:List Value},Vals xs us->Vals ys us->xs=ys
 |_,_,_,.nil,.nil=>rfl
 |_,_,_,.cons r t,.cons r' t'=>by rw[r.inj r',Vals.inj t t']
section
variable {X:Cx}{pins:List (Addr×Obj)}{σ:St}{H:Hp}{s:Shared}{a:Addr}{xs ys:List V}
theorem bQ.of {K:PySem.W.Frag}(h:H a=some (.lst xs)):bQ K H a xs:= .inl (.inl h)
theorem cM.of {K:PySem.W.Frag}(h:H a=some (.tup xs)):cM K H a xs:= .inl (.inl h)
theorem Inv.list (I:Inv X pins σ H s)(h:bQ X.K H a xs): ∃cy:List Value,Vals xs cy/\PlainL s.heap a cy.toArray/\xs.length<=sizeLine:=by
 rcases h with h|⟨o,cy,n,hk,hc,hd,hs,hz,r⟩
 ·obtain⟨z,cy,n,r,e⟩:=h.ok I.cH
  exact⟨cy,r,⟨_,n,e,rfl,rfl,rfl⟩,z⟩
 ·refine⟨cy.toList,r,⟨o,n,I.gP a o hk,hc,hd,by simpa using hs⟩,?_⟩
  have e:=r.length
  simp only[Array.length_toList] at e
  omega
theorem Inv.tuple (I:Inv X pins σ H s)(h:cM X.K H a xs): ∃cy:List Value,Vals xs cy/\IsTup s.heap a cy.toArray/\xs.length<=sizeLine:=by
 rcases h with h|⟨o,cy,n,hk,hc,hs,hz,r⟩
 ·obtain⟨z,cy,r,p⟩:=h.ok I.cH
  exact⟨cy,r,p,z⟩
 ·refine⟨cy.toList,r,⟨o,I.gP a o hk,hc,n,by simpa using hs⟩,?_⟩
  have e:=r.length
  simp only[Array.length_toList] at e
  omega
theorem Inv.z7 (I:Inv X pins σ H s)(h:bQ X.K H a xs)(h':bQ X.K H a ys):xs=ys:=by
 obtain⟨cy,r,⟨o,n,e,_,_,d⟩,_⟩:=I.list h
 obtain⟨qg,r',⟨o',n',e',_,_,d'⟩,_⟩:=I.list h'
 rw[e] at e'; cases e'
 rw[d] at d'
 injection d' with d1 _
 have:cy=qg:=by simpa using congrArg Array.toList d1
 subst this
 exact r.inj r'
theorem Inv.E5 (I:Inv X pins σ H s)(h:cM X.K H a xs)(h':cM X.K H a ys):xs=ys:=by
 obtain⟨cy,r,⟨o,e,_,n,d⟩,_⟩:=I.tuple h
 obtain⟨qg,r',⟨o',e',_,n',d'⟩,_⟩:=I.tuple h'
 rw[e] at e'; cases e'
 rw[d] at d'
 injection d' with d1 _
 have:cy=qg:=by simpa using congrArg Array.toList d1
 subst this
 exact r.inj r'
end
abbrev Cx.tU (X:Cx)(E:Value->Shared->Prop):Cx:={X with xe:=E}
abbrev Cx.E6 (X:Cx):Cx:=X.tU fun _ _=>False
theorem Cx.Ok.tU {X:Cx}(ok:X.Ok)(E:Value->Shared->Prop):(X.tU E).Ok:=
 ⟨ok.mod,ok.kind,ok.glob,ok.blt,ok.above,ok.inj,ok.has,ok.JE,ok.hd,ok.frames,ok.GO,ok.Kb,ok.bs,ok.zW,ok.vG,ok.vH,ok.lL,ok.Dv⟩
theorem Cx.Ok.mE {X:Cx}{E:Value->Shared->Prop}(ok:(X.tU E).Ok):X.Ok:=
 ⟨ok.mod,ok.kind,ok.glob,ok.blt,ok.above,ok.inj,ok.has,ok.JE,ok.hd,ok.frames,ok.GO,ok.Kb,ok.bs,ok.zW,ok.vG,ok.vH,ok.lL,ok.Dv⟩
section
variable {X:Cx}{pins:List (Addr×Obj)}{σ:St}{H:Hp}{s:Shared}{E:Value->Shared->Prop}
theorem Inv.tU (I:Inv X pins σ H s)(E:Value->Shared->Prop):Inv (X.tU E) pins σ H s:=⟨I.ok.tU E,I.os,I.bare,I.base,I.loc,I.cell,I.free,I.iR,I.pin,I.cH,I.len⟩
theorem Inv.mE (I:Inv (X.tU E) pins σ H s):Inv X pins σ H s:=⟨I.ok.mE,I.os,I.bare,I.base,I.loc,I.cell,I.free,I.iR,I.pin,I.cH,I.len⟩
theorem SP.mE {D:Ends}{f:Flow}{s':Shared}(h:SP (X.tU E) pins D f s'):SP X pins D f s':=by
 cases f with
 |next=>obtain⟨σ',H',I,q⟩:=h; exact⟨σ',H',I.mE,q⟩
 |brk=>obtain⟨σ',H',I,q⟩:=h; exact⟨σ',H',I.mE,q⟩
 |cont=>obtain⟨σ',H',I,q⟩:=h; exact⟨σ',H',I.mE,q⟩
 |ret u=>obtain⟨v,σ',H',I,r,q⟩:=h; exact⟨v,σ',H',I.mE,r,q⟩
theorem o8.E6 {st:List Stmt}{t:TS}(h:o8 X.E6 st t):o8 X st t:=fun pins s σ H D I hw=>
 cD (h pins s σ H D (I.tU _) hw) (fun _ _ q=>q.mE) fun _ _ z=>False.elim z
end
section
variable {X:Cx}{st:Stmt}{rest:List Stmt}{t u:TS}{e:Expr}{te:TE}{pos:Pos}
def Qh:TS:=fun D σ H=>D.nx σ H
def UN (t u:TS):TS:=fun D σ H=>t {D with nx:=u D} σ H
theorem bw:o8 X [] Qh:=fun _ _ σ H _ I h=>jq ⟨σ,H,I,h⟩
theorem ah (h1:PS X st t)(h2:o8 X rest u):o8 X (st :: rest) (UN t u):=by
 intro pins s σ H D I h
 refine wpAny_execs_cons (ej (h1 pins s σ H {D with nx:=u D} I h) fun f s1 q=>?_)
 cases f with
 |next=>
  obtain⟨σ',H',I',q⟩:=q
  exact h2 pins s1 σ' H' D I' q
 |ret v=>exact q
 |brk=>exact q
 |cont=>exact q
theorem av (h1:PS X st t):o8 X [st] t:=by
 intro pins s σ H D I h
 refine wpAny_execs_cons (ej (h1 pins s σ H D I h) fun f s1 q=>?_)
 cases f with
 |next=>exact jq q
 |ret v=>exact q
 |brk=>exact q
 |cont=>exact q
theorem Inv.quiet {pins:List (Addr×Obj)}{σ:St}{H:Hp}{s:Shared}(I:Inv X pins σ H s):interactive X.env=false:=by simp[interactive,I.ok.kind]
def Qi (te:TE):TS:=fun D σ H=>te σ H fun _ H1=>D.nx σ H1
theorem bR (he:PE X e te)(hs:swapsWith e none pos.line X.env=pure false:=by rfl):PS X (.Expr e pos) (Qi te):=by
 intro pins s σ H D I h
 exact wpAny_Expr_any (ej (he pins s σ H _ I h) fun v s1 ⟨x,H1,I1,r1,q1⟩=>⟨σ,H1,I1,q1⟩) I.quiet hs
def UO (te:TE):TS:=fun D σ H=>te σ H D.rt
theorem ba (he:PE X e te):PS X (.Return (some e) pos) (UO te):=by
 intro pins s σ H D I h
 exact wpAny_Return_some (ej (he pins s σ H _ I h) fun v s1 ⟨x,H1,I1,r1,q1⟩=>⟨x,σ,H1,I1,r1,q1⟩)
def UP (c:TT)(t u:TS):TS:=fun D σ H=>c σ H fun b H1=>if b=true then t D σ H1 else u D σ H1
theorem b0 {c:Expr}{a b:List Stmt}{tc:TT}(hc:PT X c tc)(ha:o8 X a t)(hb:o8 X b u):PS X (.If c a b pos) (UP tc t u):=by
 intro pins s σ H D I h
 refine wpAny_If (ej (hc pins s σ H _ I h) fun d s1 ⟨H1,I1,q1⟩=>?_)
 cases d with
 |true=>exact ha pins s1 σ H1 D I1 q1
 |false=>exact hb pins s1 σ H1 D I1 q1
end
abbrev TG:=V->St->Hp->(St->Hp->Prop)->Prop
abbrev L9:=List V->St->Hp->(St->Hp->Prop)->Prop
def PG (X:Cx)(target:Expr)(t:TG):Prop:=
 ∀(pins:List (Addr×Obj)) (s:Shared) (σ:St) (H:Hp) (v:V) (u:Value) (Q:St->Hp->Prop),Inv X pins σ H s->RelV v u->t v σ H Q->
  wpAny (model X.prog X.w) X.A (assign target X.env u) (fun _ s'=> ∃σ' H',Inv X pins σ' H' s'/\Q σ' H') X.xe s
def JF (X:Cx)(ts:List Expr)(t:L9):Prop:=
 ∀(pins:List (Addr×Obj)) (s:Shared) (σ:St) (H:Hp) (vs:List V) (us:List Value) (Q:St->Hp->Prop),Inv X pins σ H s->Vals vs us->t vs σ H Q->
  wpAny (model X.prog X.w) X.A (assignInOrder ((assignEach ts X.env).map (·.2)) us) (fun _ s'=> ∃σ' H',Inv X pins σ' H' s'/\Q σ' H') X.xe s
abbrev M6:=V->V->V->Hp->(Hp->Prop)->Prop
def Qj (X:Cx)(t:M6):Prop:=
 ∀(pins:List (Addr×Obj)) (s:Shared) (σ:St) (H:Hp) (o i v:V) (ov iv u:Value) (Q:Hp->Prop),Inv X pins σ H s->RelV o ov->RelV i iv->RelV v u->t o i v H Q->
  wpAny (model X.prog X.w) X.A (setItem ov iv u) (fun _ s'=> ∃H',Inv X pins σ H' s'/\Q H') X.xe s
section
variable {X:Cx}{pos:Pos}
def G6 (i:Nat):TG:=fun v σ H Q=>Q (σ.set i (some v)) H
theorem bG {i:Nat}{x:Str}(hN:X.N.Nodup)(hi:X.N[i]? =some x)(hx:Loc X.env.scope x)(hf:X.fn x=true∨X.env.scope.names.lookup x=some .local:=by first|exact .inl rfl|exact .inr rfl|assumption):PG X (.Name x pos) (G6 i):=by
 intro pins s σ H v u Q I r h
 exact wpAny_assign_Name (tT I hN hi hx r (fun s' I'=>⟨_,H,I',h⟩) hf)
def UQ:L9:=fun vs σ H Q=>vs=[]/\Q σ H
def Qk (t:TG)(u:L9):L9:=fun vs σ H Q=> ∃v r,vs=v :: r/\t v σ H fun σ' H'=>u r σ' H' Q
theorem gJ:JF X [] UQ:=by
 intro pins s σ H vs us Q I r h
 obtain⟨e,h⟩:=h
 subst e
 cases r
 exact assignInOrder_nil ⟨σ,H,I,h⟩
theorem cw {e:Expr}{es:List Expr}{t:TG}{u:L9}(h1:PG X e t)(h2:JF X es u)
  (hs:(assignEach (e :: es) X.env).map (·.2)=assign e X.env :: (assignEach es X.env).map (·.2):=by rfl):JF X (e :: es) (Qk t u):=by
 intro pins s σ H vs us Q I r h
 obtain⟨v,vr,e1,h⟩:=h
 subst e1
 cases r with
 |cons r rr=>
  rw[hs]
  refine assignInOrder_cons (ej (h1 pins s σ H _ _ _ I r h) fun _ s1 ⟨σ1,H1,I1,q1⟩=>?_)
  exact h2 pins s1 σ1 H1 _ _ Q I1 rr q1
def Ql (K:PySem.W.Frag)(n:Nat)(t:L9):TG:=fun v σ H Q=> ∃a xs,v= .ref a/\cM K H a xs/\xs.length=n/\t xs σ H Q
theorem iW {es:List Expr}{k:Nat}{t:L9}{n:Nat}(hc:X.calm=true)(h:JF X es t)
  (hn:(assignEach es X.env).length=n:=by rfl) (r9:(assignEach es X.env).findIdx? (·.1)=none:=by rfl):PG X (.Tuple es k pos) (Ql X.K n t):=by
 intro pins s σ H v u Q I r hw
 obtain⟨a,xs,e1,hq,hl,hw⟩:=hw
 subst e1
 cases r
 obtain⟨cy,rv,ht,hz⟩:=I.tuple hq
 refine assign_Tuple_tuple (I.ok.hd hc) ht (by simp[hn,← hl,rv.length]) r9 fun h' hx=>?_
 have I1:Inv X pins σ H {s with heap:=h'}:=I.kept (t':=s.toks) fun b o e=>hx b o (aY (aK e)) e
 exact h pins _ σ H xs _ Q I1 (by simpa using rv) hw
def UR (to ti:TE)(t:M6):TG:=fun v σ H Q=>to σ H fun o H1=>ti σ H1 fun i H2=>t o i v H2 fun H3=>Q σ H3
theorem mF {o i:Expr}{to ti:TE}{t:M6}(ho:PE X o to)(hi:PE X i ti)(hs:Qj X t)
  (ha: ∀v,assign (.Subscript o i pos) X.env v=(do
   let ov ← holding [v] (eval o X.env)
   let iv ← holding [v,ov] (eval i X.env)
   standAt pos
   holding [v,ov,iv] (setItem ov iv v)
   release [v,ov,iv] []):=by intro _; rfl):PG X (.Subscript o i pos) (UR to ti t):=by
 intro pins s σ H v u Q I r h
 rw[ha]
 refine az (ix (ej (ho pins s σ H _ I h) fun ov s1 ⟨x,H1,I1,r1,q1⟩=>?_))
 refine az (ix (ej (hi pins s1 σ H1 _ I1 q1) fun iv s2 ⟨y,H2,I2,r2,q2⟩=>?_))
 refine az (iy (az (ix (ej (hs pins s2 σ H2 x y v ov iv u _ I2 r1 r2 r q2) fun _ s3 ⟨H3,I3,q3⟩=>?_))))
 exact wpAny_release ⟨σ,H3,I3,q3⟩
def M7 (te:TE)(g:TG):TS:=fun D σ H=>te σ H fun x H1=>g x σ H1 D.nx
theorem kM {tg e:Expr}{te:TE}{g:TG}(he:PE X e te)(hg:PG X tg g)(hs:swapsWithSole [tg] e pos.line X.env=pure false:=by rfl)(hw:swappedStores [tg] e X.env=pure none:=by rfl)
  (h1:(assignEach [tg] X.env).map (·.2)=[assign tg X.env]:=by rfl):PS X (.Assign [tg] e pos) (M7 te g):=by
 intro pins s σ H D I h
 refine wpAny_Assign_stores (ej (he pins s σ H _ I h) fun v s1 ⟨x,H1,I1,r1,q1⟩=>?_) hs hw
 rw[h1]
 exact ej (hg pins s1 σ H1 x v _ I1 r1 q1) fun _ s2 q=>q
theorem bb {i:Nat}{x:Str}{e:Expr}{te:TE}{pos':Pos}(hN:X.N.Nodup)(hi:X.N[i]? =some x)(hx:Loc X.env.scope x)(he:PE X e te)(hs:swapsWith e (some (.Name x pos')) pos.line X.env=pure false:=by rfl)(hf:X.fn x=true∨X.env.scope.names.lookup x=some .local:=by first|exact .inl rfl|exact .inr rfl|assumption):
  PS X (.Assign [.Name x pos'] e pos) (M7 te (G6 i)):=by
 intro pins s σ H D I h
 refine wpAny_Assign_Name (ej (he pins s σ H _ I h) fun v s1 ⟨y,H1,I1,r1,q1⟩=>?_) hs
 exact tT I1 hN hi hx r1 (fun s2 I2=>⟨_,H1,I2,q1⟩) hf
def M8 (c:TT)(tb:TS):TS:=fun D σ H=> ∃W:Nat->St->Hp->Prop,(∃m,W m σ H)/\ ∀m σ H,W m σ H->
 c σ H fun b H1=>if b=true then ∃N:St->Hp->Prop,(∀σ' H',N σ' H'-> ∃m',m' < m/\W m' σ' H')/\tb {D with nx:=N,ct:=N,bk:=D.nx} σ H1 else D.nx σ H1
theorem G7 {c:Expr}{body:List Stmt}{tc:TT}{tb:TS}(hp:PassesOwn (model X.prog X.w) X.A X.env X.xe)(hc:PT X c tc)(hb:o8 X body tb):PS X (.While c body [] pos) (M8 tc tb):=by
 intro pins s σ H D I h
 obtain⟨W,⟨m0,w0⟩,turn⟩:=h
 refine wpAny_While (codeAny_whileLoop (fun n s'=> ∃σ' H',Inv X pins σ' H' s'/\W n σ' H') ?_ m0 ⟨σ,H,I,w0⟩)
 rintro n s1 ⟨σ1,H1,I1,w1⟩
 refine dY hp (ej (hc pins s1 σ1 H1 _ I1 (turn n σ1 H1 w1)) fun b s2 ⟨H2,I2,q2⟩=>?_)
 cases b with
 |true=>
  obtain⟨N,hN,q2⟩:=q2
  rw[a8 rfl]
  refine dY hp (ej (hb pins s2 σ1 H2 _ I2 q2) fun f s3 q3=>?_)
  cases f with
  |next=>
   obtain⟨σ3,H3,I3,n3⟩:=q3
   obtain⟨m',hm,w3⟩:=hN σ3 H3 n3
   exact⟨m',hm,σ3,H3,I3,w3⟩
  |cont=>
   obtain⟨σ3,H3,I3,n3⟩:=q3
   obtain⟨m',hm,w3⟩:=hN σ3 H3 n3
   exact⟨m',hm,σ3,H3,I3,w3⟩
  |brk=>exact q3
  |ret v=>exact q3
 |false=>
  rw[aQ aZ]
  exact jq ⟨σ1,H2,I2,q2⟩
end
structure It where
 go:Nat->Hp->Prop
 Pl:Nat->Hp->V->Hp->Prop
 stop:Nat->Hp->Prop
def tV (X:Cx)(pins:List (Addr×Obj))(H:Hp)(b:Addr):Prop:=
 H b=none/\b≠X.env.locals/\b∉X.fs/\(b∈X.ex∨X.s₀.heap.objs.size<=b)/\(∀x c,X.env.cells.lookup x=some c->c≠b)/\ ∀p∈X.pn ++ pins,p.1≠b
theorem Inv.E7 {X:Cx}{pins:List (Addr×Obj)}{σ:St}{H H':Hp}{s:Shared}{b:Addr}(I:Inv X pins σ H s)(hb:s.heap.objs.size<=b)(hn:H' b=none):tV X pins H' b:=by
 refine⟨hn,pW (bp I.lt hb),I.E3 hb,.inr (a6 I.sz hb),fun x c e z=>?_,fun p hp z=>?_⟩
 ·obtain⟨v,q⟩:=I.cell x c e
  exact absurd (bp q.lt (by rw[z]; exact hb)) (iS _)
 ·exact absurd (bp (aK (I.pin p hp).1) (by rw[z]; exact hb)) (iS _)
structure Turn (P:Program)(w:World)(K:PySem.W.Frag)(tg:Expr)(J:It)(fp:List Addr)(it:Addr)(tn:Nat->Heap->Prop):Prop where
 mem:it∈fp
 obj: ∀i h,tn i h-> ∀b∈fp,∃o,h.get? b=some o/\ ∀v,o.data≠ .cell v
 keep: ∀i h h',tn i h->(∀b∈fp,∀o,h.get? b=some o->h'.get? b=some o)->tn i h'
 item: ∀(X:Cx),X.prog=P->X.w=w->X.K=K->X.calm=true-> ∀(i:Nat) (pins:List (Addr×Obj)) (s:Shared) (σ:St) (H:Hp) (E:Value->Shared->Prop),Inv X pins σ H s->(∀b∈fp,tV X pins H b)->tn i s.heap->J.go i H->
  wpAny (model P w) X.A (pyNext (.ref it)) (fun r s1=> ∃u,r=some u/\
   wpAny (model P w) X.A (letOwnedTupleGo tg (.ref it) u) (fun _ s2=> ∃x H',Inv X pins σ H' s2/\RelV x u/\J.Pl i H x H'/\tn (i + 1) s2.heap/\ ∀b∈fp,H' b=none) E s1) E s
 done: ∀(X:Cx),X.prog=P->X.w=w->X.K=K->X.calm=true-> ∀(i:Nat) (pins:List (Addr×Obj)) (s:Shared) (σ:St) (H:Hp) (E:Value->Shared->Prop),Inv X pins σ H s->(∀b∈fp,tV X pins H b)->tn i s.heap->J.stop i H->
  wpAny (model P w) X.A (pyNext (.ref it)) (fun r s1=>r=none/\Inv X pins σ H s1) E s
 self: ∀(A:Around) (i:Nat) (s:Shared) (Q:Value->Shared->Prop) (E:Value->Shared->Prop),tn i s.heap->Q (.ref it) s->wpAny (model P w) A (pyIter (.ref it)) Q E s
abbrev TI:=St->Hp->(It->Hp->Prop)->Prop
def XM (X:Cx)(pins:List (Addr×Obj))(σ:St)(tg:Expr)(R:It->Hp->Prop)(Tt:Value)(s2:Shared):Prop:=
 ∃(it:Addr) (fp:List Addr) (tn:Nat->Heap->Prop) (J:It) (H':Hp),Tt= .ref it/\Inv X pins σ H' s2/\Turn X.prog X.w X.K tg J fp it tn/\tn 0 s2.heap/\(∀b∈fp,tV X pins H' b)/\R J H'
def PI (X:Cx)(tg iter:Expr)(wi:TI):Prop:=
 ∀(pins:List (Addr×Obj)) (s:Shared) (σ:St) (H:Hp) (R:It->Hp->Prop),Inv X pins σ H s->wi σ H R->
  wpAny (model X.prog X.w) X.A (eval iter X.env) (fun v s1=>wpAny (model X.prog X.w) X.A (pyIter v) (XM X pins σ tg R) X.xe s1) X.xe s
theorem Dy {M:Model}{A:Around}{E:Value->Shared->Prop}{s:Shared}{tg:Expr}{it:Addr}{u:Value}{o:Obj}{n:String}{vs:Array Value}{Q:Unit->Shared->Prop}(ho:s.heap.get? it=some o)(hc:o.cls= .type n)(hd:o.data= .fields vs)
  (hn:["enumerate","zip","dict_itemiterator","dict_reverseitemiterator","odict_iterator","itertools.zip_longest","itertools.pairwise"].contains n=false) (hQ:Q () s):wpAny M A (letOwnedTupleGo tg (.ref it) u) Q E s:=by
 unfold letOwnedTupleGo
 cases tg <;> first
  |exact bL hQ
  |(cases u <;> first
    |exact bL hQ
    |(refine az (wpAny_load ho ?_)
      rw[hc,hd]
      show wpAny M A (if(["enumerate","zip","dict_itemiterator","dict_reverseitemiterator","odict_iterator","itertools.zip_longest","itertools.pairwise"].contains n && vs[0]? == some (rawInt _))=true then _ else _) Q E s
      rw[aQ (by intro h; rw[hn,MN] at h; cases h)]
      exact bL hQ))
def Pm (K:PySem.W.Frag)(a:Addr):It:=
 ⟨fun i H=> ∃xs x,bQ K H a xs/\xs[i]? =some x,fun i H x H'=>H'=H/\ ∀xs,bQ K H a xs->xs[i]? =some x,fun i H=> ∃xs,bQ K H a xs/\xs.length<=i⟩
def US (K:PySem.W.Frag)(a:Addr):It:=
 ⟨fun i H=> ∃xs x,cM K H a xs/\xs[i]? =some x,fun i H x H'=>H'=H/\ ∀xs,cM K H a xs->xs[i]? =some x,fun i H=> ∃xs,cM K H a xs/\xs.length<=i⟩
def Ma (lo:Int)(n:Nat):It:=⟨fun i _=>i < n,fun i H x H'=>H'=H/\x= .int (lo + i),fun i _=>n<=i⟩
theorem E8 {P:Program}{w:World}{K:PySem.W.Frag}{tg:Expr}(a it:Addr):Turn P w K tg (Pm K a) [it] it (fun i h=>h.IsListIter it a i) where
 mem:=by simp
 obj:=fun i h st b hb=>by
  have e:b=it:=by simpa using hb
  subst e
  obtain⟨o,e,c,d⟩:=st
  exact⟨o,e,fun v z=>by rw[d] at z; cases z⟩
 keep:=fun i h h' st k=>st.at fun o e=>k it (by simp) o e
 item:=by
  intro X hP hw hK hc i pins s σ H E I hf st hg
  subst hP hw hK
  obtain⟨xs,x,hq,hx⟩:=hg
  obtain⟨cy,rv,p,hz⟩:=I.list hq
  obtain⟨u,hu,ru⟩:=rv.get hx
  obtain⟨f0,f1,f2,f3,f4,f5⟩:=hf it (by simp)
  refine wpAny_pyNext_list_item st p.isList (x:=u) (by simpa using hu) fun h' zM sb=>?_
  have I1:Inv X pins σ H {s with heap:=h'}:=I.turned (t':=s.toks) (fun b o hb e=>(sb.2 b hb).trans e) f0 f1 f3 f4 f5
  obtain⟨o,e,c,d⟩:=id zM
  exact⟨u,rfl,Dy (s:={s with heap:=h'}) e c d (by decide) ⟨x,H,I1,ru,⟨rfl,fun ys hy=>by rw[I.z7 hy hq]; exact hx⟩,zM,fun b hb=>(hf b hb).1⟩⟩
 done:=by
  intro X hP hw hK hc i pins s σ H E I hf st hg
  subst hP hw hK
  obtain⟨xs,hq,hx⟩:=hg
  obtain⟨cy,rv,p,hz⟩:=I.list hq
  obtain⟨f0,f1,f2,f3,f4,f5⟩:=hf it (by simp)
  have hl:=rv.length
  exact wpAny_pyNext_list_end (I.ok.hd hc) st p.isList (by simp; omega) fun h' eb=>⟨rfl,I.turned (t':=s.toks) (fun b o hb e=>eb b o hb e) f0 f1 f3 f4 f5⟩
 self:=fun _ _ _ _ _ st h=>wpAny_pyIter_listiter st h
theorem Ce {P:Program}{w:World}{K:PySem.W.Frag}{tg:Expr}(a it:Addr):Turn P w K tg (US K a) [it] it (fun i h=>h.IsTupleIter it a i) where
 mem:=by simp
 obj:=fun i h st b hb=>by
  have e:b=it:=by simpa using hb
  subst e
  obtain⟨o,e,c,d⟩:=st
  exact⟨o,e,fun v z=>by rw[d] at z; cases z⟩
 keep:=fun i h h' st k=>st.at fun o e=>k it (by simp) o e
 item:=by
  intro X hP hw hK hc i pins s σ H E I hf st hg
  subst hP hw hK
  obtain⟨xs,x,hq,hx⟩:=hg
  obtain⟨cy,rv,p,hz⟩:=I.tuple hq
  obtain⟨u,hu,ru⟩:=rv.get hx
  obtain⟨f0,f1,f2,f3,f4,f5⟩:=hf it (by simp)
  refine wpAny_pyNext_tuple_item st (show s.heap.IsTuple a cy.toArray from p) (x:=u) (by simpa using hu) fun h' zM sb=>?_
  have I1:Inv X pins σ H {s with heap:=h'}:=I.turned (t':=s.toks) (fun b o hb e=>(sb.2 b hb).trans e) f0 f1 f3 f4 f5
  obtain⟨o,e,c,d⟩:=id zM
  exact⟨u,rfl,Dy (s:={s with heap:=h'}) e c d (by decide) ⟨x,H,I1,ru,⟨rfl,fun ys hy=>by rw[I.E5 hy hq]; exact hx⟩,zM,fun b hb=>(hf b hb).1⟩⟩
 done:=by
  intro X hP hw hK hc i pins s σ H E I hf st hg
  subst hP hw hK
  obtain⟨xs,hq,hx⟩:=hg
  obtain⟨cy,rv,p,hz⟩:=I.tuple hq
  obtain⟨f0,f1,f2,f3,f4,f5⟩:=hf it (by simp)
  have hl:=rv.length
  exact wpAny_pyNext_tuple_end (I.ok.hd hc) st (show s.heap.IsTuple a cy.toArray from p) (by simp; omega) fun h' eb=>⟨rfl,I.turned (t':=s.toks) (fun b o hb e=>eb b o hb e) f0 f1 f3 f4 f5⟩
 self:=fun _ _ _ _ _ st h=>wpAny_pyIter_tupleiter st h
theorem Cf {P:Program}{w:World}{K:PySem.W.Frag}{tg:Expr}(it:Addr)(lo:Int)(n:Nat):Turn P w K tg (Ma lo n) [it] it (fun i h=>IsRangeIter h it (lo + (i:Nat) * 1) ((n:Int) - (i:Nat)) 1) where
 mem:=by simp
 obj:=fun i h st b hb=>by
  have e:b=it:=by simpa using hb
  subst e
  exact⟨_,st,fun v z=>by
   have z':Data.fields _ =Data.cell v:=z
   cases z'⟩
 keep:=fun i h h' st k=>k it (by simp) _ st
 item:=by
  intro X hP hw hK hc i pins s σ H E I hf st hg
  subst hP hw hK
  obtain⟨f0,f1,f2,f3,f4,f5⟩:=hf it (by simp)
  have W:=Walks.range (prog:=X.prog) (w:=X.w) (I.ok.hd hc) it lo 1 n
  refine W.item i s _ _ hg st fun v h' tk hv zM kk=>?_
  obtain⟨t,rfl⟩:=hv
  have I1:Inv X pins σ H {s with heap:=h',toks:=tk}:=I.turned (fun b o hb e=>kk b o (by simpa using hb) e) f0 f1 f3 f4 f5
  refine⟨_,rfl,Dy (s:={s with heap:=h',toks:=tk}) (n:="range_iterator") zM rfl rfl (by decide) ⟨.int (lo + i),H,I1,⟨t,?_⟩,⟨rfl,rfl⟩,zM,fun b hb=>(hf b hb).1⟩⟩
  rw[Int.mul_one]
 done:=by
  intro X hP hw hK hc i pins s σ H E I hf st hg
  subst hP hw hK
  obtain⟨f0,f1,f2,f3,f4,f5⟩:=hf it (by simp)
  exact wpAny_pyNext_range_end (I.ok.hd hc) st (by have:n<=i:=hg; omega) fun h' eb=>⟨rfl,I.turned (t':=s.toks) (fun b o hb e=>eb b o hb e) f0 f1 f3 f4 f5⟩
 self:=fun _ _ _ _ _ st h=>wpAny_pyIter_rangeiter st h
section
variable {X:Cx}{tg:Expr}
def Qm (K:PySem.W.Frag)(tl:TE):TI:=fun σ H R=>tl σ H fun x H1=> ∃a,x= .ref a/\(∃xs,bQ K H1 a xs)/\R (Pm K a) H1
def UT (K:PySem.W.Frag)(tl:TE):TI:=fun σ H R=>tl σ H fun x H1=> ∃a,x= .ref a/\(∃xs,cM K H1 a xs)/\R (US K a) H1
theorem dF {l:Expr}{tl:TE}(hl:PE X l tl):PI X tg l (Qm X.K tl):=by
 intro pins s σ H R I h
 refine ej (hl pins s σ H _ I h) fun v s1 ⟨x,H1,I1,r1,q1⟩=>?_
 obtain⟨a,e,⟨xs,hq⟩,q⟩:=q1
 subst e
 cases r1
 obtain⟨cy,rv,p,hz⟩:=I1.list hq
 refine MO p.isList ?_
 refine⟨s1.heap.objs.size,[s1.heap.objs.size],_,_,H1,rfl,I1.kept (t':=s1.toks) fun b o e=>ax _ e,E8 a _,⟨_,bS _ rfl,rfl,rfl⟩,fun b hb=>?_,q⟩
 have e:b=s1.heap.objs.size:=by simpa using hb
 subst e
 exact I1.E7 (aB _) (I1.cH.fresh (aB _))
theorem M9 {l:Expr}{tl:TE}(hl:PE X l tl):PI X tg l (UT X.K tl):=by
 intro pins s σ H R I h
 refine ej (hl pins s σ H _ I h) fun v s1 ⟨x,H1,I1,r1,q1⟩=>?_
 obtain⟨a,e,⟨xs,hq⟩,q⟩:=q1
 subst e
 cases r1
 obtain⟨cy,rv,p,hz⟩:=I1.tuple hq
 refine wpAny_pyIter_tuple (show s1.heap.IsTuple a cy.toArray from p) ?_
 refine⟨s1.heap.objs.size,[s1.heap.objs.size],_,_,H1,rfl,I1.kept (t':=s1.toks) fun b o e=>ax _ e,Ce a _,⟨_,bS _ rfl,rfl,rfl⟩,fun b hb=>?_,q⟩
 have e:b=s1.heap.objs.size:=by simpa using hb
 subst e
 exact I1.E7 (aB _) (I1.cH.fresh (aB _))
theorem G8 {pins:List (Addr×Obj)}{σ:St}{H:Hp}{s:Shared}{R:It->Hp->Prop}{E:Value->Shared->Prop}{lo hi:Int}{t u v:Tok}{tk:Nat}(I:Inv X pins σ H s)(h1: -(2 ^ 62)<=lo)(h2:lo < 2 ^ 62)(h3: -(2 ^ 62)<=hi)(h4:hi < 2 ^ 62)
  (q:R (Ma lo (hi - lo).toNat) H):wpAny (model X.prog X.w) X.A (pyIter (.ref s.heap.objs.size)) (XM X pins σ tg R) E {s with heap:=s.heap.push {cls:= .type "range",data:= .fields #[.int lo t,.int hi u,.int 1 v]},toks:=tk}:=by
 refine wpAny_pyIter_range (IsRange.new ..) (small_one h1 h2 h3 h4) ?_
 have I1:Inv X pins σ H {s with heap:=s.heap.push {cls:= .type "range",data:= .fields #[.int lo t,.int hi u,.int 1 v]},toks:=tk}:=I.kept fun b o e=>ax _ e
 refine⟨(s.heap.push {cls:= .type "range",data:= .fields #[.int lo t,.int hi u,.int 1 v]}).objs.size,[(s.heap.push {cls:= .type "range",data:= .fields #[.int lo t,.int hi u,.int 1 v]}).objs.size],_,_,H,rfl,
  I1.kept (t':=tk) fun b o e=>ax _ e,Cf _ lo (hi - lo).toNat,?_,fun b hb=>?_,q⟩
 ·have e1:lo + ((0:Nat):Int) * 1=lo:=by simp
  have e2:(((hi - lo).toNat:Nat):Int) - ((0:Nat):Int)=Builtin.Range.rangeSize lo hi 1:=by rw[rangeSize_one]; split <;> omega
  show IsRangeIter _ _ (lo + ((0:Nat):Int) * 1) ((((hi - lo).toNat:Nat):Int) - ((0:Nat):Int)) 1
  rw[e1,e2]
  exact bS _ rfl
 ·have e:b=(s.heap.push {cls:= .type "range",data:= .fields #[.int lo t,.int hi u,.int 1 v]}).objs.size:=by simpa using hb
  subst e
  exact I1.E7 (aB _) (I1.cH.fresh (aB _))
def Qn (ta:TA):TI:=fun σ H R=>ta σ H fun vs H1=> ∃j:Int,vs=[.int j]/\ -(2 ^ 62)<=j/\j < 2 ^ 62/\R (Ma 0 j.toNat) H1
theorem jF {a:Expr}{ta:TA}{p pos:Pos}(hg:Gl X "range")(hm:X.mg "range"=none)(ha:PA X [a] ta)(hs:starEach [a] X.env=[(false,eval a X.env)]:=by rfl):PI X tg (.Call (.Name "range" p) [a] [] pos) (Qn ta):=by
 intro pins s σ H R I h
 refine Call_ (o9 I hg hm boot_range (oh (ej (ha pos pins s σ H _ I h) fun us s1 ⟨vs,H1,I1,r1,q1⟩=>?_) hs rfl))
 obtain⟨j,e,q1,q2,q⟩:=q1
 subst e
 cases r1 with
 |cons r rr=>
  cases rr
  obtain⟨t,rfl⟩:=r
  exact call_range_1 (G8 I1 (by omega) (by omega) q1 q2 (by simpa using q))
def UU (wi:TI)(g:TG)(tb:TS):TS:=fun D σ H=>wi σ H fun J H1=> ∃W:Nat->Nat->St->Hp->Prop,(∃m,W 0 m σ H1)/\ ∀i m σ H,W i m σ H->
 (J.stop i H/\D.nx σ H)∨(J.go i H/\ ∃N:St->Hp->Prop,(∀σ' H',N σ' H'-> ∃m',m' < m/\W (i + 1) m' σ' H')/\ ∀x H',J.Pl i H x H'->g x σ H' fun σ2 H2=>tb {D with nx:=N,ct:=N,bk:=D.nx} σ2 H2)
def pq (fp:List Addr)(h:Heap):List (Addr×Obj):=fp.filterMap fun b=>(h.get? b).map fun o=>(b,o)
theorem jO {fp:List Addr}{h:Heap}{b:Addr}{o:Obj}(hb:b∈fp)(e:h.get? b=some o):(b,o)∈pq fp h:=List.mem_filterMap.mpr ⟨b,hb,by rw[e]; rfl⟩
theorem E9 {fp:List Addr}{h:Heap}{p:Addr×Obj}(hp:p∈pq fp h):p.1∈fp/\h.get? p.1=some p.2:=by
 obtain⟨b,hb,e⟩:=List.mem_filterMap.mp hp
 cases q:h.get? b with
 |none=>rw[q] at e; cases e
 |some o=>
  rw[q] at e
  have e':(b,o)=p:=aE e
  subst e'
  exact⟨hb,q⟩
theorem Inv.pinned {pins:List (Addr×Obj)}{σ:St}{H:Hp}{s:Shared}{fp:List Addr}(I:Inv X pins σ H s)(hf: ∀b∈fp,tV X pins H b)(ho: ∀b∈fp,∃o,s.heap.get? b=some o/\ ∀v,o.data≠ .cell v):Inv X (pins ++ pq fp s.heap) σ H s:=
 I.tG fun p hp=>(bq.mp hp).elim (fun z=>I.pin p (bE _ z)) fun z=>by
  obtain⟨hb,e⟩:=E9 z
  obtain⟨f0,f1,f2,_⟩:=hf p.1 hb
  obtain⟨o,e',d⟩:=ho p.1 hb
  rw[e] at e'; cases e'
  exact⟨e,f0,f1,f2,d⟩
theorem Inv.jc {pins pl:List (Addr×Obj)}{σ:St}{H:Hp}{s:Shared}(I:Inv X (pins ++ pl) σ H s):Inv X pins σ H s:=I.tG fun p hp=>I.pin p (bE _ (df _ hp))
theorem fM {iter:Expr}{body:List Stmt}{wi:TI}{g:TG}{tb:TS}{pos:Pos}(hp:PassesOwn (model X.prog X.w) X.A X.env X.xe)(hc:X.calm=true)(hi:PI X tg iter wi)(hg:PG X tg g)(hb:o8 X body tb)
  (hs: ∀x,foldedSetIterable iter X.env x=pure x:=by intro _; rfl):PS X (.For tg iter body [] pos) (UU wi g tb):=by
 intro pins s σ H D I h
 refine wpAny_For (ej (hi pins s σ H _ I h) fun v s1 h1=>ej h1 fun Tt s2 h2=>?_) hs
 obtain⟨it,fp,tn,J,H2,e,I2,T,Mb,f2,W,⟨m0,w0⟩,turn⟩:=h2
 subst e
 have rA: ∀{H':Hp},(∀b∈fp,H' b=none)-> ∀b∈fp,tV X pins H' b:=fun hn b hb=>⟨hn b hb,(f2 b hb).2⟩
 refine codeAny_forLoop_any (fun n s'=> ∃i σ' H',Inv X pins σ' H' s'/\tn i s'.heap/\(∀b∈fp,H' b=none)/\W i n σ' H') ?_ m0 ⟨0,σ,H2,I2,Mb,fun b hb=>(f2 b hb).1,w0⟩
 rintro n s3 ⟨i,σ3,H3,I3,Qo,Kg,w3⟩
 rcases turn i n σ3 H3 w3 with⟨stop,qn⟩|⟨go,N,hN,step⟩
 ·refine dY hp (ej (T.done X rfl rfl rfl hc i pins s3 σ3 H3 X.xe I3 (rA Kg) Qo stop) fun r s4 ⟨hr,I4⟩=>?_)
  subst hr
  exact jq ⟨σ3,H3,I4,qn⟩
 ·refine dY hp (ej (T.item X rfl rfl rfl hc i pins s3 σ3 H3 X.xe I3 (rA Kg) Qo go) fun r s4 ⟨u,hr,h4⟩=>?_)
  subst hr
  refine dY hp (ej h4 fun _ s5 ⟨x,H5,I5,r5,y5,Na,Pn⟩=>?_)
  have ZA:=I5.pinned (rA Pn) (T.obj _ _ Na)
  refine dY hp (ej (hg _ s5 σ3 H5 x u _ ZA r5 (step x H5 y5)) fun _ s6 ⟨σ6,H6,I6,q6⟩=>?_)
  refine dY hp (ej (hb _ s6 σ6 H6 _ I6 q6) fun f s7 q7=>?_)
  have again: ∀{σ7:St} {H7:Hp},Inv X (pins ++ pq fp s5.heap) σ7 H7 s7->N σ7 H7-> ∃m,m < n/\ ∃i σ' H',Inv X pins σ' H' s7/\tn i s7.heap/\(∀b∈fp,H' b=none)/\W i m σ' H':=fun{σ7 H7} I7 n7=>by
   obtain⟨m',hm,w7⟩:=hN σ7 H7 n7
   refine⟨m',hm,i + 1,σ7,H7,I7.jc,T.keep _ _ _ Na fun b hb o e=>(I7.pin (b,o) (bE _ (bE _ (jO hb e)))).1,fun b hb=>?_,w7⟩
   obtain⟨o,e,d⟩:=T.obj _ _ Na b hb
   exact(I7.pin (b,o) (bE _ (bE _ (jO hb e)))).2.1
  cases f with
  |next=>obtain⟨σ7,H7,I7,n7⟩:=q7; exact again I7 n7
  |cont=>obtain⟨σ7,H7,I7,n7⟩:=q7; exact again I7 n7
  |brk=>obtain⟨σ7,H7,I7,q7⟩:=q7; exact⟨σ7,H7,I7.jc,q7⟩
  |ret v=>obtain⟨x7,σ7,H7,I7,r7,q7⟩:=q7; exact⟨x7,σ7,H7,I7.jc,r7,q7⟩
end
theorem gT {K:PySem.W.Frag}{a:Addr}{xs:List V}{g:TG}{tb:TS}{D:Ends}{σ:St}{H:Hp}(Pv:Nat->St->Hp->Prop)(h0:Pv 0 σ H)(hl: ∀i σ H,i<=xs.length->Pv i σ H->bQ K H a xs)
  (hs: ∀i x σ H,xs[i]? =some x->Pv i σ H->g x σ H fun σ2 H2=>tb {D with nx:=Pv (i + 1),ct:=Pv (i + 1),bk:=D.nx} σ2 H2) (hd: ∀σ H,Pv xs.length σ H->D.nx σ H):
  ∃W:Nat->Nat->St->Hp->Prop,(∃m,W 0 m σ H)/\ ∀i m σ H,W i m σ H->
   ((Pm K a).stop i H/\D.nx σ H)∨((Pm K a).go i H/\ ∃N:St->Hp->Prop,(∀σ' H',N σ' H'-> ∃m',m' < m/\W (i + 1) m' σ' H')/\ ∀x H',(Pm K a).Pl i H x H'->g x σ H' fun σ2 H2=>tb {D with nx:=N,ct:=N,bk:=D.nx} σ2 H2):=by
 refine⟨fun i m σ H=>m=xs.length - i/\i<=xs.length/\Pv i σ H,⟨xs.length,by simp,Nat.zero_le _,h0⟩,?_⟩
 rintro i m σ H ⟨rfl,hi,p⟩
 have q:=hl i σ H hi p
 by_cases iX:i < xs.length
 ·refine .inr ⟨⟨xs,xs[i],q,by simp[iX]⟩,Pv (i + 1),fun σ' H' p'=>⟨xs.length - (i + 1),by omega,rfl,iX,p'⟩,fun x H' y=>?_⟩
  obtain⟨e,y⟩:=y
  subst e
  exact hs i x σ _ (y xs q) p
 ·have e:i=xs.length:=by omega
  subst e
  exact .inl ⟨⟨xs,q,aB _⟩,hd σ H p⟩
theorem k6 {lo:Int}{n:Nat}{g:TG}{tb:TS}{D:Ends}{σ:St}{H:Hp}(Pv:Nat->St->Hp->Prop)(h0:Pv 0 σ H)
  (hs: ∀i σ H,i < n->Pv i σ H->g (.int (lo + i)) σ H fun σ2 H2=>tb {D with nx:=Pv (i + 1),ct:=Pv (i + 1),bk:=D.nx} σ2 H2) (hd: ∀σ H,Pv n σ H->D.nx σ H):
  ∃W:Nat->Nat->St->Hp->Prop,(∃m,W 0 m σ H)/\ ∀i m σ H,W i m σ H->
   ((Ma lo n).stop i H/\D.nx σ H)∨((Ma lo n).go i H/\ ∃N:St->Hp->Prop,(∀σ' H',N σ' H'-> ∃m',m' < m/\W (i + 1) m' σ' H')/\ ∀x H',(Ma lo n).Pl i H x H'->g x σ H' fun σ2 H2=>tb {D with nx:=N,ct:=N,bk:=D.nx} σ2 H2):=by
 refine⟨fun i m σ H=>m=n - i/\i<=n/\Pv i σ H,⟨n,by simp,Nat.zero_le _,h0⟩,?_⟩
 rintro i m σ H ⟨rfl,hi,p⟩
 by_cases iX:i < n
 ·refine .inr ⟨iX,Pv (i + 1),fun σ' H' p'=>⟨n - (i + 1),by omega,rfl,iX,p'⟩,fun x H' y=>?_⟩
  obtain⟨e,y⟩:=y
  subst e y
  exact hs i σ _ iX p
 ·have e:i=n:=by omega
  subst e
  exact .inl ⟨aB _,hd σ H p⟩
abbrev R2:=V->V->Hp->VK->Prop
def ox (X:Cx)(f:Value->Value->Sem Value)(r:R2):Prop:=
 ∀(pins:List (Addr×Obj)) (s:Shared) (σ:St) (H:Hp) (x y:V) (v u:Value) (Q:VK),Inv X pins σ H s->RelV x v->RelV y u->r x y H Q->
  wpAny (model X.prog X.w) X.A (f v u) (EP X pins σ Q) X.xe s
def Mc (X:Cx)(f:Value->Sem Value)(r:V->Hp->VK->Prop):Prop:=
 ∀(pins:List (Addr×Obj)) (s:Shared) (σ:St) (H:Hp) (x:V) (v:Value) (Q:VK),Inv X pins σ H s->RelV x v->r x H Q->
  wpAny (model X.prog X.w) X.A (f v) (EP X pins σ Q) X.xe s
def iz (X:Cx)(f:Value)(r:List V->Hp->VK->Prop):Prop:=
 ∀(pins:List (Addr×Obj)) (s:Shared) (σ:St) (H:Hp) (xs:List V) (us:List Value) (Q:VK),Inv X pins σ H s->Vals xs us->r xs H Q->
  wpAny (model X.prog X.w) X.A (call f us) (EP X pins σ Q) X.xe s
def Tu (r:R2)(ta tb:TE):TE:=fun σ H Q=>ta σ H fun x H1=>tb σ H1 fun y H2=>r x y H2 Q
def ZC (r:V->Hp->VK->Prop)(ta:TE):TE:=fun σ H Q=>ta σ H fun x H1=>r x H1 Q
def rI (C:Int->Int->Prop)(g:Int->Int->V):R2:=fun x y H Q=> ∃i j,x= .int i/\y= .int j/\C i j/\Q (g i j) H
def JG (g:Int->Int->V):R2:=fun x y H Q=> ∃i j,x= .int i/\y= .int j/\Q (g i j) H
def rU (g:Int->V):V->Hp->VK->Prop:=fun x H Q=> ∃i,x= .int i/\Q (g i) H
section
variable {X:Cx}{a b c:Expr}{ta tb tc:TE}{pos:Pos}
theorem Nb (ha:PE X a ta)(hb:PE X b tb){pins:List (Addr×Obj)}{s:Shared}{σ:St}{H:Hp}{R:V->V->Hp->Prop}(I:Inv X pins σ H s)
  (h:ta σ H fun x H1=>tb σ H1 fun y H2=>R x y H2) {Q:Value->Shared->Prop} {f:Value->Value->Sem Value}
  (hf: ∀v u s2 x y H2,Inv X pins σ H2 s2->RelV x v->RelV y u->R x y H2->wpAny (model X.prog X.w) X.A (f v u) Q X.xe s2):
  wpAny (model X.prog X.w) X.A (eval a X.env) (fun v s₁=>wpAny (model X.prog X.w) X.A (eval b X.env) (fun u s₂=>wpAny (model X.prog X.w) X.A (f v u) Q X.xe s₂) X.xe s₁) X.xe s:=by
 refine ej (ha pins s σ H _ I h) fun v s1 ⟨x,H1,I1,r1,q1⟩=>?_
 refine ej (hb pins s1 σ H1 _ I1 q1) fun u s2 ⟨y,H2,I2,r2,q2⟩=>?_
 exact hf v u s2 x y H2 I2 r1 r2 q2
theorem aV {op:Operator}{r:R2}(ho:ox X (binaryOp op) r)(ha:PE X a ta)(hb:PE X b tb):PE X (.BinOp a op b pos) (Tu r ta tb):=by
 intro pins s σ H Q I h
 exact wpAny_BinOp (Nb ha hb I h fun v u s2 x y H2 I2 rx ry q=>ho pins s2 σ H2 x y v u Q I2 rx ry q)
theorem oH {op:UnaryOp}{r:V->Hp->VK->Prop}(ho:Mc X (unaryOp op) r)(ha:PE X a ta):PE X (.UnaryOp op a pos) (ZC r ta):=by
 intro pins s σ H Q I h
 exact UnaryOp_ (ej (ha pins s σ H _ I h) fun v s1 ⟨x,H1,I1,r1,q1⟩=>ho pins s1 σ H1 x v Q I1 r1 q1)
theorem Qp {f:Value->Value->Sem Value}{C:Int->Int->Prop}{g:Int->Int->Int}
  (rule: ∀(i j:Int) (t u:Tok) (s:Shared) (Q:Value->Shared->Prop) (E:Value->Shared->Prop),C i j->Q (.int (g i j) s.toks) {s with toks:=s.toks + 1}->wpAny (model X.prog X.w) X.A (f (.int i t) (.int j u)) Q E s):
  ox X f (rI C fun i j=> .int (g i j)):=by
 intro pins s σ H x y v u Q I rx ry h
 obtain⟨i,j,rfl,rfl,hc,q⟩:=h
 obtain⟨t,rfl⟩:=rx
 obtain⟨t',rfl⟩:=ry
 exact rule i j t t' s _ _ hc ⟨.int (g i j),H,I.tok _,⟨_,rfl⟩,q⟩
theorem Qq {f:Value->Value->Sem Value}{g:Int->Int->Int}
  (rule: ∀(i j:Int) (t u:Tok) (s:Shared) (Q:Value->Shared->Prop) (E:Value->Shared->Prop),Q (.int (g i j) s.toks) {s with toks:=s.toks + 1}->wpAny (model X.prog X.w) X.A (f (.int i t) (.int j u)) Q E s):
  ox X f (JG fun i j=> .int (g i j)):=by
 intro pins s σ H x y v u Q I rx ry h
 obtain⟨i,j,rfl,rfl,q⟩:=h
 obtain⟨t,rfl⟩:=rx
 obtain⟨t',rfl⟩:=ry
 exact rule i j t t' s _ _ ⟨.int (g i j),H,I.tok _,⟨_,rfl⟩,q⟩
theorem Kh {f:Value->Value->Sem Value}{g:Int->Int->Bool}
  (rule: ∀(i j:Int) (t u:Tok) (s:Shared) (Q:Value->Shared->Prop) (E:Value->Shared->Prop),Q (.bool (g i j)) s->wpAny (model X.prog X.w) X.A (f (.int i t) (.int j u)) Q E s):
  ox X f (JG fun i j=> .bl (g i j)):=by
 intro pins s σ H x y v u Q I rx ry h
 obtain⟨i,j,rfl,rfl,q⟩:=h
 obtain⟨t,rfl⟩:=rx
 obtain⟨t',rfl⟩:=ry
 exact rule i j t t' s _ _ ⟨.bl (g i j),H,I,rfl,q⟩
def UW (i j:Int):Prop:=0 < j/\j < 1073741824
def UX (i j:Int):Prop:=0<=j/\j<=1000000/\i.natAbs < 2 ^ 64
def Nc (i j:Int):Prop:=(-(2 ^ 64) < i/\i < 2 ^ 64)∨(-(2 ^ 64) < j/\j < 2 ^ 64)
theorem Nc.ok {i j:Int}(h:Nc i j):IntMulOk i j:=by
 rcases h with⟨h1,h2⟩|⟨h1,h2⟩
 ·exact .of_left (intBits_le_64 h1 h2)
 ·exact .of_right (intBits_le_64 h1 h2)
theorem dS:ox X (binaryOp .Add) (JG fun i j=> .int (i + j)):=Qq fun _ _ _ _ _ _ _ q=>add_int q
theorem fb:ox X (binaryOp .Sub) (JG fun i j=> .int (i - j)):=Qq fun _ _ _ _ _ _ _ q=>sub_int q
theorem lM:ox X (binaryOp .Mult) (rI Nc fun i j=> .int (i * j)):=Qp fun _ _ _ _ _ _ _ hc q=>mul_int q hc.ok
theorem jz:ox X (binaryOp .FloorDiv) (rI UW fun i j=> .int (i / j)):=Qp fun i j _ _ _ _ _ hc q=>by
 have h1:(0:Int) < j:=hc.1
 have h2:j < 1073741824:=hc.2
 exact floordiv_int (by omega) (by rw[Int.fdiv_eq_ediv_of_nonneg i (by omega)]; exact q) (.inl (PyProof.noPylong_small (by omega)))
theorem cE:ox X (binaryOp .Mod) (rI (fun _ j=>0 < j) fun i j=> .int (i % j)):=Qp fun i j _ _ _ _ _ hc q=>by
 have h1:(0:Int) < j:=hc
 exact mod_int' (by omega) (by rw[Int.fmod_eq_emod_of_nonneg i (by omega)]; exact q)
theorem jr:ox X (binaryOp .Pow) (rI UX fun i j=> .int (i ^ j.toNat)):=Qp fun _ _ _ _ _ _ _ hc q=>pow_int_small hc.1 hc.2.1 hc.2.2 q
theorem ZD {f:Value->Sem Value}{g:Int->Int}
  (rule: ∀(i:Int) (t:Tok) (s:Shared) (Q:Value->Shared->Prop) (E:Value->Shared->Prop),Q (.int (g i) s.toks) {s with toks:=s.toks + 1}->wpAny (model X.prog X.w) X.A (f (.int i t)) Q E s):
  Mc X f (rU fun i=> .int (g i)):=by
 intro pins s σ H x v Q I rx h
 obtain⟨i,rfl,q⟩:=h
 obtain⟨t,rfl⟩:=rx
 exact rule i t s _ _ ⟨.int (g i),H,I.tok _,⟨_,rfl⟩,q⟩
theorem kN:Mc X (unaryOp .USub) (rU fun i=> .int (-i)):=ZD fun _ _ _ _ _ q=>neg_int q
end
def Qr:V->V->Bool
 | .eI,.eI=>true| .eI,.int _=>true| .int _,.eI=>true| .eI,.bl _=>true| .bl _,.eI=>true| .eI,.str _=>true| .str _,.eI=>true
 | .int _,.int _=>true| .bl _,.bl _=>true| .str _,.str _=>true| .E1 _,.E1 _=>true
 | .int _,.str _=>true| .str _,.int _=>true| .bl _,.str _=>true| .str _,.bl _=>true
 |_,_=>false
def ZE:R2:=fun x y H Q=>Qr x y=true/\Q (.bl (decide (x=y))) H
def ZF:R2:=fun x y H Q=>Qr x y=true/\Q (.bl (!decide (x=y))) H
theorem Dz {i j:Int}:decide (V.int i=V.int j)=(i == j):=by
 rw[oj]
 simp
theorem G9 {i j:Bool}:decide (V.bl i=V.bl j)=(i == j):=by
 rw[oj]
 simp
theorem DA {i j:Str}:decide (V.str i=V.str j)=(i == j):=by
 rw[oj]
 simp
theorem DD {i j:Array UInt8}:decide (V.E1 i=V.E1 j)=(i.toList == j.toList):=by
 rw[oj]
 cases i
 cases j
 simp
section
variable {X:Cx}{a b c:Expr}{ta tb tc:TE}{pos:Pos}
theorem dG {pins:List (Addr×Obj)}{σ:St}{H:Hp}{s:Shared}{Q:VK}{k k':Bool}(I:Inv X pins σ H s)(q:Q (.bl k) H)(e:k=k'):EP X pins σ Q (.bool k') s:=by
 subst e
 exact⟨.bl k,H,I,rfl,q⟩
theorem dr:ox X (compareOp .Eq) ZE:=by
 intro pins s σ H x y v u Q I rx ry h
 obtain⟨hs,q⟩:=h
 cases x with
 |eI=>
  cases rx
  cases y with
  |eI=>cases ry; exact PySem.EqNone.eq_none_none (dG I q (by simp))
  |bl j=>cases ry; exact PySem.EqNone.eq_none_bool (dG I q (by simp))
  |int j=>obtain⟨t',rfl⟩:=ry; exact PySem.EqNone.eq_none_int (dG I q (by simp))
  |str j=>obtain⟨t',rfl⟩:=ry; exact PySem.EqNone.eq_none_str (dG I q (by simp))
  |_=>exact absurd (show false=true from hs) aZ
 |bl i=>
  cases rx
  cases y with
  |eI=>cases ry; exact PySem.EqNone.eq_bool_none (dG I q (by simp))
  |bl j=>cases ry; exact eq_bool (dG I q G9)
  |str j=>obtain⟨t',rfl⟩:=ry; exact PySem.EqMixed.eq_bool_str (dG I q (by simp))
  |_=>exact absurd (show false=true from hs) aZ
 |int i=>
  obtain⟨t,rfl⟩:=rx
  cases y with
  |eI=>cases ry; exact PySem.EqNone.eq_int_none (dG I q (by simp))
  |int j=>obtain⟨t',rfl⟩:=ry; exact eq_int (dG I q Dz)
  |str j=>obtain⟨t',rfl⟩:=ry; exact PySem.EqMixed.eq_int_str (dG I q (by simp))
  |_=>exact absurd (show false=true from hs) aZ
 |str i=>
  obtain⟨t,rfl⟩:=rx
  cases y with
  |eI=>cases ry; exact PySem.EqNone.eq_str_none (dG I q (by simp))
  |bl j=>cases ry; exact PySem.EqMixed.eq_str_bool (dG I q (by simp))
  |int j=>obtain⟨t',rfl⟩:=ry; exact PySem.EqMixed.eq_str_int (dG I q (by simp))
  |str j=>obtain⟨t',rfl⟩:=ry; exact eq_str (dG I q DA)
  |_=>exact absurd (show false=true from hs) aZ
 |E1 i=>
  obtain⟨t,rfl⟩:=rx
  cases y with
  |E1 j=>obtain⟨t',rfl⟩:=ry; exact PySem.W.eq_bytes (dG I q DD)
  |_=>exact absurd (show false=true from hs) aZ
 |_=>cases y <;> exact absurd (show false=true from hs) aZ
theorem se:ox X (compareOp .NotEq) ZF:=by
 intro pins s σ H x y v u Q I rx ry h
 obtain⟨hs,q⟩:=h
 cases x with
 |eI=>
  cases rx
  cases y with
  |eI=>cases ry; exact PySem.EqNone.ne_none_none (dG I q (by simp))
  |bl j=>cases ry; exact PySem.EqNone.ne_none_bool (dG I q (by simp))
  |int j=>obtain⟨t',rfl⟩:=ry; exact PySem.EqNone.ne_none_int (dG I q (by simp))
  |str j=>obtain⟨t',rfl⟩:=ry; exact PySem.EqNone.ne_none_str (dG I q (by simp))
  |_=>exact absurd (show false=true from hs) aZ
 |bl i=>
  cases rx
  cases y with
  |eI=>cases ry; exact PySem.EqNone.ne_bool_none (dG I q (by simp))
  |bl j=>cases ry; exact ne_bool (dG I q (di not G9))
  |str j=>obtain⟨t',rfl⟩:=ry; exact PySem.EqMixed.ne_bool_str (dG I q (by simp))
  |_=>exact absurd (show false=true from hs) aZ
 |int i=>
  obtain⟨t,rfl⟩:=rx
  cases y with
  |eI=>cases ry; exact PySem.EqNone.ne_int_none (dG I q (by simp))
  |int j=>obtain⟨t',rfl⟩:=ry; exact ne_int (dG I q (di not Dz))
  |str j=>obtain⟨t',rfl⟩:=ry; exact PySem.EqMixed.ne_int_str (dG I q (by simp))
  |_=>exact absurd (show false=true from hs) aZ
 |str i=>
  obtain⟨t,rfl⟩:=rx
  cases y with
  |eI=>cases ry; exact PySem.EqNone.ne_str_none (dG I q (by simp))
  |bl j=>cases ry; exact PySem.EqMixed.ne_str_bool (dG I q (by simp))
  |int j=>obtain⟨t',rfl⟩:=ry; exact PySem.EqMixed.ne_str_int (dG I q (by simp))
  |str j=>obtain⟨t',rfl⟩:=ry; exact ne_str (dG I q (di not DA))
  |_=>exact absurd (show false=true from hs) aZ
 |E1 i=>
  obtain⟨t,rfl⟩:=rx
  cases y with
  |E1 j=>obtain⟨t',rfl⟩:=ry; exact PySem.W.ne_bytes (dG I q (di not DD))
  |_=>exact absurd (show false=true from hs) aZ
 |_=>cases y <;> exact absurd (show false=true from hs) aZ
theorem jP:ox X (compareOp .Lt) (JG fun i j=> .bl (decide (i < j))):=Kh fun _ _ _ _ _ _ _ q=>lt_int q
theorem wX:ox X (compareOp .LtE) (JG fun i j=> .bl (decide (i<=j))):=Kh fun _ _ _ _ _ _ _ q=>le_int q
theorem ju:ox X (compareOp .Gt) (JG fun i j=> .bl (decide (j < i))):=Kh fun _ _ _ _ _ _ _ q=>gt_int q
theorem z8:ox X (compareOp .GtE) (JG fun i j=> .bl (decide (j<=i))):=Kh fun _ _ _ _ _ _ _ q=>ge_int q
theorem bc (b:Expr){op:CmpOp}(h:op≠ .In:=by decide)(h2:op≠ .NotIn:=by decide):behindInMarks op b=false:=by
 have e1:(op == CmpOp.In)=false:=by cases op <;> first|rfl|exact absurd rfl h
 have e2:(op == CmpOp.NotIn)=false:=by cases op <;> first|rfl|exact absurd rfl h2
 cases b <;> simp[behindInMarks,e1,e2]
theorem eW {op:CmpOp}{r:R2}(ho:ox X (compareOp op) r)(ha:PE X a ta)(hb:PE X b tb)(hm:behindInMarks op b=false):PE X (.Compare a [op] [b] pos) (Tu r ta tb):=by
 intro pins s σ H Q I h
 exact wpAny_Compare1 (Nb ha hb I h fun v u s2 x y H2 I2 rx ry q=>ho pins s2 σ H2 x y v u Q I2 rx ry q) hm
def Hb (t:TE):TT:=fun σ H Q=>t σ H fun x H'=> ∃k,x= .bl k/\Q k H'
theorem a9 {op:CmpOp}{r:R2}(ho:ox X (compareOp op) r)(ha:PE X a ta)(hb:PE X b tb)(hm:behindInMarks op b=false):PT X (.Compare a [op] [b] pos) (Hb (Tu r ta tb)):=by
 intro pins s σ H Q I h
 refine wpAny_isTrue_Compare1 (ej (ha pins s σ H _ I h) fun v s1 ⟨x,H1,I1,r1,q1⟩=>ej (hb pins s1 σ H1 _ I1 q1) fun u s2 ⟨y,H2,I2,r2,q2⟩=>
  ej (ho pins s2 σ H2 x y v u _ I2 r1 r2 q2) fun c s3 ⟨z,H3,I3,r3,k,e,q3⟩=>?_) hm
 subst e
 cases r3
 exact fY ⟨H3,I3,q3⟩
def Hc (r r':R2)(ta tb tc:TE):TE:=fun σ H Q=>ta σ H fun x H1=>tb σ H1 fun y H2=>r x y H2 fun z H3=> ∃k,z= .bl k/\
 (if k=true then tc σ H3 fun w' H4=>r' y w' H4 Q else Q (.bl false) H3)
theorem z9 {op UY:CmpOp}{r r':R2}(ho:ox X (compareOp op) r)(Kc:ox X (compareOp UY) r')(ha:PE X a ta)(hb:PE X b tb)(hc:PE X c tc)
  (hm:lastMarks [op,UY] [b,c]=false:=by with_unfolding_all rfl):PT X (.Compare a [op,UY] [b,c] pos) (Hb (Hc r r' ta tb tc)):=by
 intro pins s σ H Q I h
 refine isTrue_chain (ej (ha pins s σ H _ I h) fun v s1 ⟨x,H1,I1,r1,q1⟩=>test_link (ej (hb pins s1 σ H1 _ I1 q1) fun u s2 ⟨y,H2,I2,r2,q2⟩=>
  ej (ho pins s2 σ H2 x y v u _ I2 r1 r2 q2) fun d s3 ⟨z,H3,I3,r3,k,e,q3⟩=>?_)) hm
 subst e
 cases r3
 refine fY ?_
 cases k with
 |false=>
  obtain⟨k',e',q'⟩:=q3
  cases e'
  exact ite_ff ⟨H3,I3,q'⟩
 |true=>
  refine ite_tt (test_last (ej (hc pins s3 σ H3 _ I3 q3) fun w' s4 ⟨z',H4,I4,r4,q4⟩=>ej (Kc pins s4 σ H4 y z' u w' _ I4 r2 r4 q4) fun d' s5 ⟨z2,H5,I5,r5,k2,e2,q5⟩=>?_))
  subst e2
  cases r5
  exact fY ⟨H5,I5,q5⟩
theorem xY:(sizeLine:Nat) < 2 ^ 63:=by rw[eZ]; decide
theorem tW:ox X (binaryOp .Add) (fun x y H Q=> ∃i j,x= .str i/\y= .str j/\i.length + j.length<=sizeLine/\Q (.str (i ++ j)) H):=by
 intro pins s σ H x y v u Q I rx ry h
 obtain⟨i,j,rfl,rfl,hz,q⟩:=h
 obtain⟨t,rfl⟩:=rx
 obtain⟨t',rfl⟩:=ry
 exact add_str (fun t' tk=>⟨.str (i ++ j),H,I.tok _,⟨_,rfl⟩,q⟩) hz
theorem vals1 {x:V}{us:List Value}(r:Vals [x] us): ∃u,us=[u]/\RelV x u:=by
 cases r with
 |cons r1 r2=>cases r2; exact⟨_,rfl,r1⟩
theorem vals2 {x y:V}{us:List Value}(r:Vals [x,y] us): ∃u w',us=[u,w']/\RelV x u/\RelV y w':=by
 cases r with
 |cons r1 r2=>
  cases r2 with
  |cons r3 r4=>cases r4; exact⟨_,_,rfl,r1,r3⟩
theorem Fb (hc:X.calm=true):iz X (.builtin "max") (fun xs H Q=> ∃i j,xs=[.int i,.int j]/\Q (.int (if j > i then j else i)) H):=by
 intro pins s σ H xs us Q I r h
 obtain⟨i,j,rfl,q⟩:=h
 obtain⟨u,w',rfl,⟨t,rfl⟩,⟨t',rfl⟩⟩:=vals2 r
 refine max_two_ints (I.ok.hd hc) fun h' tk k=>⟨_,H,I.kept k,?_,q⟩
 by_cases hj:j > i
 ·rw[a8 hj,a8 hj]; exact⟨_,rfl⟩
 ·rw[aQ hj,aQ hj]; exact⟨_,rfl⟩
theorem rB (hc:X.calm=true):iz X (.builtin "min") (fun xs H Q=> ∃i j,xs=[.int i,.int j]/\Q (.int (if j < i then j else i)) H):=by
 intro pins s σ H xs us Q I r h
 obtain⟨i,j,rfl,q⟩:=h
 obtain⟨u,w',rfl,⟨t,rfl⟩,⟨t',rfl⟩⟩:=vals2 r
 refine min_two_ints (I.ok.hd hc) fun h' tk k=>⟨_,H,I.kept k,?_,q⟩
 by_cases hj:j < i
 ·rw[a8 hj,a8 hj]; exact⟨_,rfl⟩
 ·rw[aQ hj,aQ hj]; exact⟨_,rfl⟩
theorem k7:iz X (.type "int") (fun xs H Q=>(∃i,xs=[.int i]/\Q (.int i) H)∨ ∃k,xs=[.bl k]/\Q (.int (if k then 1 else 0)) H):=by
 intro pins s σ H xs us Q I r h
 rcases h with⟨i,rfl,q⟩|⟨k,rfl,q⟩
 ·obtain⟨u,rfl,t,rfl⟩:=vals1 r
  exact call_int_int ⟨.int i,H,I,⟨_,rfl⟩,q⟩
 ·obtain⟨u,rfl,r1⟩:=vals1 r
  cases r1
  exact call_int_bool ⟨.int (if k then 1 else 0),H,I.tok _,⟨_,rfl⟩,q⟩
end
structure Cg (h:Heap)(x dx C:Addr)(mA:Str->Option Value):Prop where
 obj:h.get? x=some (PySem.W.instObj C dx)
 ns:h.Ns1 dx mA
 ne:dx≠x
theorem Fc {h:Heap}{dx:Addr}{mA:Str->Option Value}(n:h.Ns1 dx mA): ∃od,h.get? dx=some od/\ ∀name,PySem.W.lookIn name od=some (mA name):=by
 obtain⟨o,es,ep,ho,hd,hk,_,hm⟩:=n
 refine⟨o,ho,fun name=>?_⟩
 have e:=hm name
 unfold nsFind findBy at e
 rw[← Array.find?_toList] at e
 unfold PySem.W.lookIn
 rw[hd]
 dsimp only
 split
 ·rename_i y q
  rw[q] at e
  exact di some e
 ·rename_i q
  rw[q] at e
  have a:es.toList.any (·.refKey)=false:=by
   rw[ra]
   intro y hy
   obtain⟨z,t,Hd⟩:=hk y (Array.mem_toList_iff.mp hy)
   simp[DictEntry.refKey,Hd]
  have a': ¬ es.toList.any (·.refKey)=true:=by rw[a]; exact aZ
  rw[aQ a']
  exact di some e
theorem Cg.look {h:Heap}{x dx C:Addr}{mA:Str->Option Value}(I:Cg h x dx C mA): ∃od,PySem.W.InstAt h x (PySem.W.instObj C dx) C (some od)/\ ∀name,PySem.W.lookIn name od=some (mA name):=
 let⟨od,ho,hl⟩:=Fc I.ns
 ⟨od,⟨I.obj,rfl,rfl,ho⟩,hl⟩
section
variable {prog:Program}{w:World}{A:Around}{E:Value->Shared->Prop}{s:Shared}{K:PySem.W.Frag}{x dx C f:Addr}{mA:Str->Option Value}{name:Str}{v:Value}
theorem get_map {expr:Bool}{Q:Value->Shared->Prop}(X:K.In s.heap)(I:Cg s.heap x dx C mA)(hg:PySem.W.plainGet K C name=true)(hh:PySem.W.hasDictIn K C=true)
  (ha:PySem.W.findIn K (.ref C) name=some none) (hv:mA name=some v) (ZG:PySem.W.handedIn v=true) (h:Q v {s with toks:=s.toks + 1}):
  wpAny (model prog w) A (getAttr (.ref x) name expr) Q E s:=by
 obtain⟨od,J,hl⟩:=I.look
 exact PySem.W.get_value X J (zR hg).1 (PySem.W.findObj_own hh ha rfl (by rw[hl,hv])) ZG h
theorem He {pl:Sem Bool}{Q:Value×List Value->Shared->Prop}(X:K.In s.heap)(I:Cg s.heap x dx C mA)(hg:PySem.W.plainGet K C name=true)
  (hf:PySem.W.findIn K (.ref C) name=some (some (.ref f))) (ht:PySem.W.isFn K (.ref f)=true) (hv:mA name=none) (h:Q (.ref f,[.ref x]) s):
  wpAny (model prog w) A (getMethod (.ref x) name pl) Q E s:=by
 obtain⟨od,J,hl⟩:=I.look
 exact PySem.W.method_fn X J (zR hg).1 (zR hg).2 hf (EO.mp ht) (by show(PySem.W.lookIn name od).map (·.isSome)=some false; rw[hl,hv]; rfl) h
theorem Ki {ns:List Str}{Q:Unit->Shared->Prop}(X:K.In s.heap)(I:Cg s.heap x dx C mA)
  (hs:PySem.W.findIn K (.ref C) "__setattr__"=some (some (.builtin "object.__setattr__"))) (hp:PySem.W.plainOver K C=true) (ht:PySem.W.takerIn K C name=some none) (hh:PySem.W.hasDictIn K C=true)
  (hw:PySem.Within mA ns) (hsz:ns.length<=sizeLine)
  (h: ∀h',Cg h' x dx C (fun y=>if y=name then some v else mA y)->Heap.SameBut dx s.heap h'->Q () {s with heap:=h',toks:=s.toks + 2}):
  wpAny (model prog w) A (setAttr (.ref x) name v) Q E s:=by
 obtain⟨od,J,hl⟩:=I.look
 refine PySem.W.set_plain X J hs (PySem.W.osa_open (s:={s with toks:=s.toks + 1}) (r:=none) X J hp ht fun b=>?_)
 obtain⟨cd,hc,E4⟩:=PySem.W.any_some hh
 have hx:s.heap.get? x=some ⟨.ref C,some dx,.plain,#[]⟩:=I.obj
 refine az (bL (az (az (wpAny_loadPart hx (az (PySem.W.Looks.here (s:={s with toks:=s.toks + 1}) (PySem.W.looks_clsIn X hc) ?_))))))
 rw[E4]
 refine bL (a:=some dx) (az (bL (az ?_)))
 refine wpAny_nsSet1 (s:={s with toks:=s.toks + 1}) I.ns fun h' Tv Pp=>?_
 obtain⟨oD,ZH,ZI,UZ,U0,U1⟩:=Tv.count (PySem.Within.cons name v hw)
 refine az (wpAny_lookBehind UZ (by rw[U0]; exact pastItsLine_dict (a6 U1 (by rw[cu]; omega))) ?_)
 exact bL (h _ ⟨(Pp.2 _ (vw I.ne)).trans I.obj,Tv,I.ne⟩ Pp)
theorem Hf {R:Result->Shared->Prop}{vs:List Value}{kw:List (Str×Value)}(X:K.In s.heap)(hm:PySem.W.makesIn K C=true)
  (hi:PySem.W.findIn K (.ref C) "__init__"=some (some (.ref f))) (hf:PySem.W.typeIn K (.ref f)=some (.type "function"))
  (h:codeAny (model prog w) (A.under (.builtin "type.__call__" ⟨.ref C :: vs,kw⟩)) (.call (.ref f) ⟨.ref (s.heap.objs.size + 1) :: vs,kw⟩) (PySem.W.InitBack (s.heap.objs.size + 1) R)
   {s with heap:=(s.heap.push PySem.W.emptyDict).push (PySem.W.instObj C s.heap.objs.size)}):
  codeAny (model prog w) A (.call (.ref C) ⟨vs,kw⟩) R s:=by
 obtain⟨hh,g,d,t,os⟩:=s
 exact PySem.W.make_core (PySem.W.makes_of X hm) (PySem.W.looks_findIn X hi) (fun self=>PySem.W.bind_fn X self hf) (.inl rfl) h
end
def eK (f:Str)(v:V):List (Str×V)->List (Str×V)
 |[]=>[(f,v)]
 |(g,x) :: r=>if g=f then(g,v) :: r else(g,x) :: eK f v r
theorem sf (f g:Str)(v:V): ∀fs:List (Str×V),(eK f v fs).lookup g=if g=f then some v else fs.lookup g
 |[]=>by
  show List.lookup g [(f,v)]=_
  by_cases h:g=f
  ·have hb:(g == f)=true:=EO.mpr h
   simp only[List.lookup,hb,if_pos h]
  ·have hb:(g == f)=false:=gS.mpr h
   simp only[List.lookup,hb,if_neg h]
 |(k,x) :: r=>by
  have ih:=sf f g v r
  rw[show eK f v ((k,x) :: r)=(if k=f then(k,v) :: r else(k,x) :: eK f v r) from rfl]
  by_cases hk:k=f
  ·rw[a8 hk]
   by_cases h:g=k
   ·have hb:(g == k)=true:=EO.mpr h
    simp only[List.lookup,hb,if_pos (h.trans hk)]
   ·have hb:(g == k)=false:=gS.mpr h
    simp only[List.lookup,hb,if_neg (fun e:g=f=>h (e.trans hk.symm))]
  ·rw[aQ hk]
   by_cases h:g=k
   ·have hb:(g == k)=true:=EO.mpr h
    simp only[List.lookup,hb,if_neg (fun e:g=f=>hk (h.symm.trans e))]
   ·have hb:(g == k)=false:=gS.mpr h
    simp only[List.lookup,hb]
    exact ih
theorem rC (f:Str)(v:V): ∀fs:List (Str×V),f∈(eK f v fs).map (·.1)/\ ∀g,g∈fs.map (·.1)->g∈(eK f v fs).map (·.1)
 |[]=>⟨by simp[eK],fun g h=>by simp at h⟩
 |(k,x) :: r=>by
  obtain⟨i1,i2⟩:=rC f v r
  rw[show eK f v ((k,x) :: r)=(if k=f then(k,v) :: r else(k,x) :: eK f v r) from rfl]
  by_cases hk:k=f
  ·rw[a8 hk]
   subst hk
   exact⟨by simp,fun g h=>by simpa using h⟩
  ·rw[aQ hk]
   refine⟨?_,fun g h=>?_⟩
   ·rw[dj]
    exact aU _ i1
   ·rw[dj] at h ⊢
    rcases aw.mp h with e|e
    ·exact aw.mpr (.inl e)
    ·exact aU _ (i2 g e)
theorem mG (f:Str)(v:V): ∀fs:List (Str×V),(eK f v fs).length<=fs.length + 1
 |[]=>by simp[eK]
 |(k,x) :: r=>by
  have ih:=mG f v r
  rw[show eK f v ((k,x) :: r)=(if k=f then(k,v) :: r else(k,x) :: eK f v r) from rfl]
  by_cases hk:k=f
  ·rw[a8 hk,cu,cu]; omega
  ·rw[aQ hk,cu,cu]; omega
theorem k4.some_of {v:V}{o:Option Value}(r:k4 (some v) o): ∃u,o=some u/\RelV v u:=by
 cases o with
 |none=>exact(show False from r).elim
 |some u=>exact⟨u,rfl,r⟩
theorem k4.none_of {o:Option Value}(r:k4 none o):o=none:=by
 cases o with
 |none=>rfl
 |some u=>exact(show False from r).elim
theorem Fd {v:V}{u:Value}(r:RelV v u):PySem.W.handedIn u=true:=by
 cases v with
 |eI=>cases(show u=Value.none from r); rfl
 |bl b=>cases(show u=Value.bool b from r); rfl
 |int i=>obtain⟨t,e⟩:=(show ∃t,u=Value.int i t from r); cases e; rfl
 |str x=>obtain⟨t,e⟩:=(show ∃t,u=Value.str x t from r); cases e; rfl
 |E1 b=>obtain⟨t,e⟩:=(show ∃t,u=Value.bytes b t from r); cases e; rfl
 |J1 b=>obtain⟨t,e⟩:=(show ∃t,u=Value.float b t from r); cases e; rfl
 |ref a=>cases(show u=Value.ref a from r); rfl
 |ty n=>cases(show u=Value.type n from r); rfl
section
variable {P:Program}{w:World}{H H':Hp}{h h':Heap}{a C dx:Addr}{fs Zx:List (Str×V)}
theorem qh (cH:ow P w H h)(e:H a=some (.ins C dx fs)): ∃mA,Cg h a dx C mA/\(∀f,k4 (fs.lookup f) (mA f))/\PySem.Within mA (fs.map (·.1))/\fs.length<=1000/\H dx=some (.own a):=by
 obtain⟨d,z,ne,ob,mA,n,r,q⟩:=(show dI P w H h a (.ins C dx fs) from cH a _ e)
 exact⟨mA,⟨ob,n,ne⟩,r,q,z,d⟩
end
structure vI (K:PySem.W.Frag)(C:Addr):Prop where
 pg:PySem.W.plainGet K C Str.empty=true
 hd:PySem.W.hasDictIn K C=true
 po:PySem.W.plainOver K C=true
 sa:PySem.W.findIn K (.ref C) "__setattr__"=some (some (.builtin "object.__setattr__"))
theorem vI.get {K:PySem.W.Frag}{C:Addr}(c:vI K C)(f:Str):PySem.W.plainGet K C f=true:=c.pg
def cz (K:PySem.W.Frag)(C:Addr)(f:Str):Prop:=PySem.W.findIn K (.ref C) f=some none
theorem cz.Qs {K:PySem.W.Frag}{C:Addr}{f:Str}(n:cz K C f):PySem.W.takerIn K C f=some none:=by
 unfold PySem.W.takerIn
 rw[show PySem.W.findIn K (.ref C) f=some none from n]
 rfl
structure Con (K:PySem.W.Frag)(C:Addr)(f:Str)(v:V)(u:Value):Prop where
 at_:PySem.W.findIn K (.ref C) f=some (some u)
 rel:RelV v u
 get:PySem.W.specialIn K u "__get__"=some none
 cp:PySem.W.copiedNames.contains f=false
structure Meth (K:PySem.W.Frag)(C:Addr)(m:Str)(f:Addr):Prop where
 at_:PySem.W.findIn K (.ref C) m=some (some (.ref f))
 fn:PySem.W.isFn K (.ref f)=true
 kp:PySem.W.keepIn K (.ref f)=true
section
variable {X:Cx}{pins:List (Addr×Obj)}{σ:St}{H:Hp}{s:Shared}{a C dx:Addr}{fs:List (Str×V)}{f:Str}{v:V}{A:Around}{E:Value->Shared->Prop}
theorem Ci {b:Bool}{Q:Value->Shared->Prop}(I:Inv X pins σ H s)(e:H a=some (.ins C dx fs))(c:vI X.K C)(n:cz X.K C f)(l:fs.lookup f=some v)
  (h: ∀u s',Inv X pins σ H s'->RelV v u->Q u s'):wpAny (model X.prog X.w) A (getAttr (.ref a) f b) Q E s:=by
 obtain⟨mA,O,r,_,_,_⟩:=qh I.cH e
 obtain⟨u,hu,ru⟩:=k4.some_of (v:=v) (o:=mA f) (by rw[← l]; exact r f)
 exact get_map I.gP O (c.get f) c.hd n hu (Fd ru) (h u _ (I.tok _) ru)
theorem Cj {m:Str}{g:Addr}{pl:Sem Bool}{Q:Value×List Value->Shared->Prop}(I:Inv X pins σ H s)(e:H a=some (.ins C dx fs))(c:vI X.K C)(k:Meth X.K C m g)(l:fs.lookup m=none)
  (h:Q (.ref g,[.ref a]) s):wpAny (model X.prog X.w) A (getMethod (.ref a) m pl) Q E s:=by
 obtain⟨mA,O,r,_,_,_⟩:=qh I.cH e
 have hn:mA m=none:=k4.none_of (by rw[← l]; exact r m)
 exact He I.gP O (c.get m) k.at_ k.fn hn h
theorem Ck {y:V}{u:Value}{Q:Unit->Shared->Prop}(I:Inv X pins σ H s)(e:H a=some (.ins C dx fs))(c:vI X.K C)(n:cz X.K C f)(hl:fs.length < 1000)(ry:RelV y u)
  (h: ∀s',Inv X pins σ (upd H a (.ins C dx (eK f y fs))) s'->Q () s'):wpAny (model X.prog X.w) A (setAttr (.ref a) f u) Q E s:=by
 obtain⟨mA,O,r,wi,_,ho⟩:=qh I.cH e
 have hz:(fs.map (·.1)).length<=sizeLine:=by rw[ae,eZ]; omega
 refine Ki I.gP O c.sa c.po n.Qs c.hd wi hz fun h' O' sb=>h _ ?_
 have hd: ∃o,h'.get? dx=some o:=let⟨o,_,_,e',_⟩:=O'.ns; ⟨o,e'⟩
 refine I.write (x:=a) (e:=dx) (by rw[e]; exact True.intro) (.inr ho) (fun b q hb z=>(sb.2 b hb).trans z) hd ?_
 refine⟨by rw[ay O.ne]; exact ho,?_,O.ne,O'.obj,_,O'.ns,fun g=>?_,fun g hg=>?_⟩
 ·have:=mG f y fs; omega
 ·show k4 ((eK f y fs).lookup g) (if g=f then some u else mA g)
  rw[sf]
  by_cases q:g=f
  ·rw[a8 q,a8 q]; exact ry
  ·rw[aQ q,aQ q]; exact r g
 ·by_cases q:g=f
  ·rw[q]; exact(rC f y fs).1
  ·refine(rC f y fs).2 g (wi g fun z=>hg ?_)
   show(if g=f then some u else mA g)=none
   rw[aQ q]; exact z
theorem Inv.made (I:Inv X pins σ H s):Inv X pins σ (upd (upd H s.heap.objs.size (.own (s.heap.objs.size + 1))) (s.heap.objs.size + 1) (.ins C s.heap.objs.size []))
  {s with heap:=(s.heap.push PySem.W.emptyDict).push (PySem.W.instObj C s.heap.objs.size)}:=by
 have e1:(s.heap.push PySem.W.emptyDict).get? s.heap.objs.size=some PySem.W.emptyDict:=bS s.heap rfl
 have e2:((s.heap.push PySem.W.emptyDict).push (PySem.W.instObj C s.heap.objs.size)).get? (s.heap.objs.size + 1)=some (PySem.W.instObj C s.heap.objs.size):=by
  have:=bS (s.heap.push PySem.W.emptyDict) (o:=PySem.W.instObj C s.heap.objs.size) rfl
  rwa [kj] at this
 have e3:(s.heap.push PySem.W.emptyDict).Ns s.heap.objs.size (fun _=>none):=⟨PySem.W.emptyDict,#[],_,e1,rfl,(fun e he=>absurd he (by simp)),fun _=>rfl⟩
 have I1:=I.laid (a:=s.heap.objs.size) (o:= .own (s.heap.objs.size + 1)) (h':=s.heap.push PySem.W.emptyDict) (t':=s.toks) (fun b u q=>ax _ q) (aB _) ⟨_,e1⟩
 refine I1.laid (a:=s.heap.objs.size + 1) (o:= .ins C s.heap.objs.size []) (t':=s.toks) (fun b u q=>ax _ q) (iM (kj _ _)) ?_
 have ne:s.heap.objs.size≠s.heap.objs.size + 1:=aY (fk _)
 refine⟨by rw[ay ne,ag],bF _,ne,e2,fun _=>none,(Heap.Ns1.of_empty e3).at fun o q=>ax _ q,fun _=>True.intro,fun y hy=>absurd rfl hy⟩
theorem DE {prog:Program}{w:World}{env:Env}{e:Expr}{f:Str}{pos:Pos}{s:Shared}{Q:Value->Shared->Prop}(hb:attributeBase e f env (eval e env)=eval e env)
  (h:wpAny (model prog w) A (eval e env) (fun o s₁=>wpAny (model prog w) A (getAttr o f true) Q E s₁) E s):wpAny (model prog w) A (eval (.Attribute e f pos) env) Q E s:=
 Attribute_any_ h (by rw[arm_eval_Attribute,hb])
end
def Qt (K:PySem.W.Frag)(ta:TE)(f:Str):TE:=fun σ H Q=>ta σ H fun x H1=> ∃a C dx fs v,x= .ref a/\H1 a=some (.ins C dx fs)/\vI K C/\cz K C f/\fs.lookup f=some v/\Q v H1
def U2 (K:PySem.W.Frag)(ta tv:TE)(f:Str):TS:=fun D σ H=>tv σ H fun y H1=>ta σ H1 fun x H2=> ∃a C dx fs,x= .ref a/\H2 a=some (.ins C dx fs)/\vI K C/\cz K C f/\fs.length < 1000/\
 D.nx σ (upd H2 a (.ins C dx (eK f y fs)))
section
variable {X:Cx}{o e value:Expr}{f:Str}{pos pos' Nd:Pos}{ta tv:TE}
theorem cq (he:PE X e ta)(hb:attributeBase e f X.env (eval e X.env)=eval e X.env):PE X (.Attribute e f pos) (Qt X.K ta f):=by
 intro pins s σ H Q I h
 refine DE hb (ej (he pins s σ H _ I h) fun u s1 ⟨x,H1,I1,rx,a,C,dx,fs,v,ex,ea,c,n,l,q⟩=>?_)
 subst ex
 obtain rfl:u=Value.ref a:=rx
 exact Ci I1 ea c n l fun u' s2 I2 ru=>⟨v,H1,I2,ru,q⟩
theorem fT (ha:PE X o ta)(hv:PE X value tv)(hs:swapsWith value (some (.Attribute o f pos')) pos.line X.env=pure false):PS X (.Assign [.Attribute o f pos'] value pos) (U2 X.K ta tv f):=by
 intro pins s σ H D I h
 refine MP (ej (hv pins s σ H _ I h) fun u s1 ⟨y,H1,I1,ry,q⟩=>ej (ha pins s1 σ H1 _ I1 q) fun ov s2 ⟨x,H2,I2,rx,a,C,dx,fs,ex,ea,c,n,l,q2⟩=>?_) hs
 subst ex
 obtain rfl:ov=Value.ref a:=rx
 exact Ck I2 ea c n l ry fun s3 I3=>⟨σ,_,I3,q2⟩
end
section
variable {X:Cx}{pins:List (Addr×Obj)}{σ:St}{H:Hp}{s:Shared}{A:Around}{E:Value->Shared->Prop}{Q:Value->Shared->Prop}{c:Value}{b:Bool}
inductive mH (K:PySem.W.Frag) (H:Hp):V->Value->Prop where
 |eI:mH K H .eI (.type "NoneType")
 |bl (x:Bool):mH K H (.bl x) (.type "bool")
 |int (i:Int):mH K H (.int i) (.type "int")
 |str (x:Str):mH K H (.str x) (.type "str")
 |J1 (x:UInt64):mH K H (.J1 x) (.type "float")
 |lst {a:Addr} {xs:List V} (e:H a=some (.lst xs)):mH K H (.ref a) (.type "list")
 |BQ {a:Addr} {o:Obj} {xs:List V} (e:H a=some (.BQ o (.lst xs))):mH K H (.ref a) (.type "list")
 |tup {a:Addr} {xs:List V} (e:H a=some (.tup xs)):mH K H (.ref a) (.type "tuple")
 |dK {a:Addr} {bo:List (Key×V)} (e:H a=some (.dK bo)):mH K H (.ref a) (.type "dict")
 |dT {a:Addr} {bo:List (List Key×V)} (e:H a=some (.dT bo)):mH K H (.ref a) (.type "dict")
 |ins {a C dx:Addr} {fs:List (Str×V)} (e:H a=some (.ins C dx fs)) (cl:vI K C) (ha:PySem.W.findIn K (.ref C) "__class__"=some (some (.builtin "object.__class__")))
   (hn:PySem.W.specialIn K (.builtin "object.__class__") "__get__"=some (some (.builtin "getset_descriptor.__get__"))) (mI:PySem.W.takesIn K (.builtin "object.__class__")=some true)
   (hm:PySem.W.mroIn K C (.type "object")=some true):mH K H (.ref a) (.ref C)
theorem Fe {x:V}{u t:Value}(I:Inv X pins σ H s)(rx:RelV x u)(ty:mH X.K H x t)(e:PySem.W.kitOne X.K t c=some b)(h: ∀tk,Q (.bool b) {s with toks:=tk}):
  wpAny (model X.prog X.w) A (call (.builtin "isinstance") [u,c]) Q E s:=by
 cases ty with
 |eI=>cases(show u=Value.none from rx); exact ez PySem.W.kitx_none I.gP True.intro e (fun z=>nomatch z) h
 |bl y=>cases(show u=Value.bool y from rx); exact ez PySem.W.kitx_bool I.gP True.intro e (fun z=>nomatch z) h
 |int i=>obtain⟨t,q⟩:=(show ∃t,u=Value.int i t from rx); cases q; exact ez PySem.W.kitx_int I.gP True.intro e (fun z=>nomatch z) h
 |str y=>obtain⟨t,q⟩:=(show ∃t,u=Value.str y t from rx); cases q; exact ez PySem.W.kitx_str I.gP True.intro e (fun z=>nomatch z) h
 |J1 y=>obtain⟨t,q⟩:=(show ∃t,u=Value.float y t from rx); cases q; exact ez PySem.W.kitx_float I.gP True.intro e (fun z=>nomatch z) h
 | @lst a xs ea=>
  cases(show u=Value.ref a from rx)
  obtain⟨_,_,n,_,h1⟩:=(show dI X.prog X.w H s.heap a (.lst xs) from I.cH a _ ea)
  exact ez rg I.gP ⟨_,h1,rfl⟩ e (fun z=>nomatch z) h
 | @BQ a ob xs ea=>
  cases(show u=Value.ref a from rx)
  obtain⟨_,_,_,n,_,h1⟩:=(show dI X.prog X.w H s.heap a (.BQ ob (.lst xs)) from I.cH a _ ea)
  exact ez rg I.gP ⟨_,h1,rfl⟩ e (fun z=>nomatch z) h
 | @tup a xs ea=>
  cases(show u=Value.ref a from rx)
  obtain⟨_,_,_,p⟩:=(show dI X.prog X.w H s.heap a (.tup xs) from I.cH a _ ea)
  obtain⟨o,h1,h2,_⟩:=p
  exact ez PySem.W.kitx_tuple I.gP ⟨o,h1,h2⟩ e (fun z=>nomatch z) h
 | @dK a bo ea=>
  cases(show u=Value.ref a from rx)
  obtain⟨_,_,vs,_,p⟩:=(show dI X.prog X.w H s.heap a (.dK bo) from I.cH a _ ea)
  obtain⟨o,es,ep,h1,h2,_⟩:=p
  exact ez rh I.gP ⟨o,h1,h2.1⟩ e (fun z=>nomatch z) h
 | @dT a bo ea=>
  cases(show u=Value.ref a from rx)
  obtain⟨_,_,xs,_,o,es,ep,h1,h2,_⟩:=(show dI X.prog X.w H s.heap a (.dT bo) from I.cH a _ ea)
  exact ez rh I.gP ⟨o,h1,h2.1⟩ e (fun z=>nomatch z) h
 | @ins a C dx fs ea cl ha hn mI hm=>
  cases(show u=Value.ref a from rx)
  obtain⟨mA,O,_⟩:=qh I.cH ea
  obtain⟨od,J,_⟩:=O.look
  exact ez (PySem.W.kitx_own (cl.get _) cl.hd ha hn mI hm) I.gP J e (fun z=>nomatch z) h
end
structure fA (k:Nat)(A:Around):Prop where
 hd:A.handled=none
 dp:A.depth + 3 * k + 5 < recursionLimit
 un:A.units + 16 * k + 200 < cLine
theorem fA.mono {j k:Nat}{A:Around}(r:fA k A)(h:j<=k):fA j A:=⟨r.hd,by have:=r.dp; omega,by have:=r.un; omega⟩
theorem fA.deeper {k:Nat}{A:Around}(r:fA (k + 1) A)(env:Env):fA k (A.deeper env):=
 ⟨r.hd,by have:=r.dp; show A.depth + 1 + 3 * k + 5 < _; omega,by have:=r.un; show A.units + 3 + 16 * k + 200 < _; omega⟩
theorem tX {A:Around}{C:Addr}{us:List Value}{kw:List (Str×Value)}:(A.under (.builtin "type.__call__" ⟨.ref C :: us,kw⟩)).depth=A.depth + 1:=by
 first|rfl|simp[Around.under,Code.weight,Code.isCreation,Code.isGuard,Code.isCaller,Code.frames,Code.isFrame,guardIds]
theorem tY {A:Around}{C:Addr}{us:List Value}{kw:List (Str×Value)}:(A.under (.builtin "type.__call__" ⟨.ref C :: us,kw⟩)).units=A.units + 1:=by
 first|rfl|simp[Around.under,Code.cUnits,Code.frames,Code.isFrame]
theorem fA.make {k:Nat}{A:Around}(r:fA (k + 1) A)(C:Addr)(us:List Value)(kw:List (Str×Value)):fA k (A.under (.builtin "type.__call__" ⟨.ref C :: us,kw⟩)):=
 ⟨r.hd,by have:=r.dp; rw[tX]; omega,by have:=r.un; rw[tY]; omega⟩
theorem fA.depth {k:Nat}{A:Around}(r:fA k A):A.depth < recursionLimit:=by have:=r.dp; omega
theorem fA.units {k:Nat}{A:Around}(r:fA k A):A.units + 64 < cLine:=by have:=r.un; omega
def Hg:TA:=fun _ H Q=>Q [] H
def Qu (ta:TE)(tr:TA):TA:=fun σ H Q=>ta σ H fun x H1=>tr σ H1 fun xs H2=>Q (x :: xs) H2
section
variable {X:Cx}{e:Expr}{es:List Expr}{te:TE}{t:TA}{pos:Pos}
theorem ak:PA X [] Hg:=fun _ _ _ _ H Q I h=>Calls.spliced_nil ⟨[],H,I,.nil,h⟩
theorem aa (ha:PE X e te)(hr:PA X es t)(hs:starEach (e :: es) X.env=(false,eval e X.env) :: starEach es X.env:=by rfl):PA X (e :: es) (Qu te t):=by
 intro pos pins s σ H Q I h
 rw[hs]
 show wpAny _ _ (spliced ((false,eval e X.env) :: backTo pos (starEach es X.env))) _ _ s
 refine Calls.spliced_cons (ej (ha pins s σ H _ I h) fun u s1 ⟨x,H1,I1,r1,q1⟩=>?_)
 exact ej (hr pos pins s1 σ H1 _ I1 q1) fun us s2 ⟨xs,H2,I2,r2,q2⟩=>⟨x :: xs,H2,I2,.cons r1 r2,q2⟩
def U3 (t:TA):TE:=fun σ H Q=>t σ H fun xs H1=>xs.length<=sizeLine/\ ∀p,H1 p=none->Q (.ref p) (upd H1 p (.tup xs))
def U4 (t:TA):TE:=fun σ H Q=>t σ H fun xs H1=>xs.length<=sizeLine/\ ∀p,H1 p=none->Q (.ref p) (upd H1 p (.lst xs))
theorem dH {x1}(h:PA X es t):PE X (.Tuple es x1 pos) (U3 t):=by
 intro pins s σ H Q I hq
 refine wpAny_Tuple_spliced (ej (h pos pins s σ H _ I hq) fun us s1 ⟨xs,H1,I1,r,z,q⟩=>⟨by rw[← r.length]; exact z,?_⟩)
 have hf:H1 s1.heap.objs.size=none:=I1.cH.fresh (aB _)
 refine⟨.ref s1.heap.objs.size,upd H1 s1.heap.objs.size (.tup xs),I1.laid (t':=s1.toks) (fun b u e=>ax _ e) (aB _) ?_,rfl,q _ hf⟩
 exact⟨z,us,r,⟨_,bS _ rfl,rfl,_,rfl⟩⟩
theorem b9 (h:PA X es t):PE X (.List es pos) (U4 t):=by
 intro pins s σ H Q I hq
 refine wpAny_List_spliced (ej (h pos pins s σ H _ I hq) fun us s1 ⟨xs,H1,I1,r,z,q⟩=>⟨by rw[← r.length]; exact z,?_⟩)
 have hf:H1 s1.heap.objs.size=none:=I1.cH.fresh (aB _)
 refine⟨.ref s1.heap.objs.size,upd H1 s1.heap.objs.size (.lst xs),I1.laid (t':=s1.toks) (fun b u e=>ax _ e) (aB _) ?_,rfl,q _ hf⟩
 exact⟨z,us,0,r,bS _ rfl⟩
end
abbrev Sp:=List V->Hp->VK->XK->Prop
abbrev Ff:=List Env->Hp->Shared->XK->Value->Shared->Prop
structure qj (P:Program)(w:World)(K:PySem.W.Frag)(mg:Str->Option Value)(base:Heap)(A:Around)(outer:List Env)(s:Shared)(H:Hp):Prop where
 frames:A.frames=some outer
 mod:Mod K mg base
 bs: ∀b o,base.get? b=some o->s.heap.get? b=some o/\H b=none
 zW:base.objs.size<=s.heap.objs.size
 lL:s.heap.FunFrames base outer
 Dv: ∀b∈Cb outer,H b=none
 cH:ow P w H s.heap
 bare:AllBare s.gens
def CE (outer:List Env)(P:Program)(w:World)(H:Hp)(s:Shared)(Q:VK)(u:Value)(s':Shared):Prop:=
 ∃v H',s'.os=s.os/\AllBare s'.gens/\Un (Cb outer) [] H H' s.heap s'.heap/\ow P w H' s'.heap/\RelV v u/\Q v H'
def CR (CX:Ff)(outer:List Env)(P:Program)(w:World)(H:Hp)(s:Shared)(Q:VK)(E:XK)(r:Result)(s':Shared):Prop:=
 match r with
 | .ok (.ret u)=>CE outer P w H s Q u s'
 | .ok _=>False
 | .error e=>CX outer H s E e s'
structure lN (P:Program)(w:World)(K:PySem.W.Frag)(mg:Str->Option Value)(base:Heap)(CX:Ff)(k:Nat)(f:Addr)(fd:FuncData)(ps:List Str)(sp:Sp):Prop where
 len: ∀vs H Q E,sp vs H Q E->vs.length=ps.length
 run: ∀(A:Around) (outer:List Env) (s:Shared) (H:Hp) (args:Args) (us:List Value) (vs:List V) (Q:VK) (E:XK),fA k A->qj P w K mg base A outer s H->BindsTo s fd args (ps.zip us)->Vals vs us->sp vs H Q E->
  codeAny (model P w) A (.call (.ref f) args) (CR CX outer P w H s Q E) s
theorem qj.make {P:Program}{w:World}{K:PySem.W.Frag}{mg:Str->Option Value}{base:Heap}{A:Around}{outer:List Env}{s:Shared}{H:Hp}(e:qj P w K mg base A outer s H)(C:Addr)(us:List Value)(kw:List (Str×Value)):
  qj P w K mg base (A.under (.builtin "type.__call__" ⟨.ref C :: us,kw⟩)) outer s H:=⟨by first|exact e.frames|(simpa[Around.under,Code.envs,Code.isFrame,pushEnvs] using e.frames),e.mod,e.bs,e.zW,e.lL,e.Dv,e.cH,e.bare⟩
theorem qj.in1 {P:Program}{w:World}{K:PySem.W.Frag}{mg:Str->Option Value}{base:Heap}{A:Around}{outer:List Env}{s:Shared}{H:Hp}(e:qj P w K mg base A outer s H):
  qj P w K mg base A.in1 outer s H:=⟨e.frames,e.mod,e.bs,e.zW,e.lL,e.Dv,e.cH,e.bare⟩
section
variable {X:Cx}{pins:List (Addr×Obj)}{σ:St}{H:Hp}{s s':Shared}
theorem Inv.Hh (I:Inv X pins σ H s):qj X.prog X.w X.K X.mg X.base X.A X.stack s H:=
 ⟨I.ok.frames,I.ok.mod,I.bs,a6 I.ok.zW I.sz,I.stack,I.qf,I.cH,I.bare⟩
theorem Inv.after {Q:VK}{u:Value}(I:Inv X pins σ H s)(h:CE X.stack X.prog X.w H s Q u s'):EP X pins σ Q u s':=by
 obtain⟨v,H',os,bare,un,cH,r,q⟩:=h
 obtain⟨hh,g,d,t,ZJ⟩:=s'
 obtain rfl:ZJ=s.os:=os
 exact⟨v,H',I.call (h':=hh) (g':=g) (d':=d) (t':=t) (ch:=[]) un cH bare (fun b z=>absurd z (by simp)),r,q⟩
end
def wY (sp:Sp)(tZ:List V)(E:XK)(t:TA):TE:=fun σ H Q=>t σ H fun vs H1=>sp (vs ++ tZ) H1 Q E
def Md (C:Addr)(m:Str)(sp:Sp)(tZ:List V)(E:XK)(ta:TE)(t:TA):TE:=fun σ H Q=>ta σ H fun x H1=> ∃a dx fs,x= .ref a/\H1 a=some (.ins C dx fs)/\fs.lookup m=none/\
 t σ H1 fun vs H2=>sp (x :: (vs ++ tZ)) H2 Q E
def DF (C:Addr)(sp:Sp)(tZ:List V)(E:XK)(t:TA):TE:=fun σ H Q=>t σ H fun vs H1=> ∀x dx,H1 x=none->H1 dx=none->dx≠x->
 sp (.ref x :: (vs ++ tZ)) (upd (upd H1 dx (.own x)) x (.ins C dx [])) (fun v H2=>v= .eI/\Q (.ref x) H2) E
def Binds (K:PySem.W.Frag)(fd:FuncData)(ps:List Str)(ds:List Value):Prop:=
 ∀(s:Shared) (us:List Value),K.In s.heap->(us ++ ds).length=ps.length->BindsTo s fd ⟨us,[]⟩ (ps.zip (us ++ ds))
theorem Binds.all {K:PySem.W.Frag}{fd:FuncData}{ps:List Str}(h: ∀us:List Value,us.length=ps.length->bindArgs fd ⟨us,[]⟩=pure (ps.zip us)):Binds K fd ps []:=fun s us _ hl=>by
 rw[cA] at hl ⊢
 exact .of_eq (h us hl)
def Passes (CX:Ff)(X:Cx)(E:XK):Prop:= ∀(pins:List (Addr×Obj)) (σ:St) (H:Hp) (s:Shared) (e:Value) (s':Shared),Inv X pins σ H s->CX X.stack H s E e s'->X.xe e s'
section
variable {X:Cx}{CX:Ff}{k:Nat}{f C:Addr}{fd:FuncData}{ps:List Str}{sp:Sp}{tZ:List V}{ds:List Value}{E:XK}{x m:Str}{p pos apos:Pos}{e o:Expr}{es:List Expr}{ta:TE}{t:TA}
theorem xZ {pins:List (Addr×Obj)}{σ:St}{H:Hp}{s:Shared}{Q:VK}{us:List Value}{vs:List V}(F:lN X.prog X.w X.K X.mg X.base CX k f fd ps sp)(hr:fA k X.A)(hb:Binds X.K fd ps ds)(hd:Vals tZ ds)(hx:Passes CX X E)
  (I:Inv X pins σ H s) (r:Vals vs us) (h:sp (vs ++ tZ) H Q E):wpAny (model X.prog X.w) X.A (call (.ref f) us) (EP X pins σ Q) X.xe s:=by
 have r2:Vals (vs ++ tZ) (us ++ ds):=r.append hd
 have hl:(us ++ ds).length=ps.length:=by rw[← r2.length]; exact F.len _ _ _ _ h
 refine Du (B6 (F.run X.A X.stack s H ⟨us,[]⟩ (us ++ ds) (vs ++ tZ) Q E hr I.Hh (hb s us I.gP hl) r2 h) fun r s' hq=>?_)
 cases r with
 |error e=>exact hx pins σ H s e s' I hq
 |ok fl=>
  cases fl with
  |ret u=>exact I.after hq
  |next=>exact False.elim hq
  |brk=>exact False.elim hq
  |cont=>exact False.elim hq
theorem DG (F:lN X.prog X.w X.K X.mg X.base CX k f fd ps sp)(hr:fA k X.A)(hg:Gl X x)(hm:X.mg x=some (.ref f))(hk:PySem.W.keepIn X.K (.ref f)=true)(hb:Binds X.K fd ps ds)(hd:Vals tZ ds)(hx:Passes CX X E)
  (ha:PA X (e :: es) t) (rD:(x == ("__debug__":Str))=false:=by decide) (he:starEach (e :: es) X.env=(false,eval e X.env) :: starEach es X.env:=by rfl) (iO:(backTo pos (starEach es X.env)).any (·.1)=false:=by rfl):
  PE X (.Call (.Name x p) (e :: es) [] pos) (wY sp tZ E t):=by
 intro pins s σ H Q I h
 refine eM (jy I hg hm ?_ rD)
 refine km (h₀:=X.base) I.ok.mod.Ka hk (ej (ha pos pins s σ H _ I h) fun us s1 ⟨vs,H1,I1,r,q⟩=>⟨I1.gP,?_⟩) he iO
 exact xZ F hr hb hd hx I1 r q
theorem Hj (F:lN X.prog X.w X.K X.mg X.base CX k f fd ps sp)(hr:fA k X.A)(hg:Gl X x)(hm:X.mg x=some (.ref f))(hk:PySem.W.keepIn X.K (.ref f)=true)(hb:Binds X.K fd ps ds)(hd:Vals tZ ds)(hx:Passes CX X E)
  (rD:(x == ("__debug__":Str))=false:=by decide):PE X (.Call (.Name x p) [] [] pos) (wY sp tZ E Hg):=by
 intro pins s σ H Q I h
 refine eM (jy I hg hm ?_ rD)
 exact zS I.gP hk (xZ (us:=[]) F hr hb hd hx I .nil h)
theorem Kj {pl:Sem Bool}(he:PE X o ta)(c:vI X.K C)(hm:Meth X.K C m f)(F:lN X.prog X.w X.K X.mg X.base CX k f fd ps sp)(hr:fA k X.A)(hb:Binds X.K fd ps ds)(hd:Vals tZ ds)(hx:Passes CX X E)(ha:PA X (e :: es) t)
  (r9:starEach (e :: es) X.env=(false,eval e X.env) :: starEach es X.env:=by rfl) (iO:(backTo pos (starEach es X.env)).any (·.1)=false:=by rfl)
  (ht:eval (.Call (.Attribute o m apos) (e :: es) [] pos) X.env=(do
   let ov ← eval o X.env
   standAt apos.atName
   let(f,first) ← holding [ov] (getMethod ov m pl)
   callWith pos f first (backTo pos (starEach (e :: es) X.env)) (backToKw pos (keywordEach [] X.env))):=by rfl):
  PE X (.Call (.Attribute o m apos) (e :: es) [] pos) (Md C m sp tZ E ta t):=by
 intro pins s σ H Q I h
 refine vx (pl:=pl) (ej (he pins s σ H _ I h) fun u s1 ⟨x,H1,I1,rx,a,dx,fs,ex,ea,l,q⟩=>?_) ht
 subst ex
 obtain rfl:u=Value.ref a:=rx
 refine Cj I1 ea c hm l ?_
 refine km (first:=[.ref a]) (h₀:=X.base) I.ok.mod.Ka hm.kp (ej (ha pos pins s1 σ H1 _ I1 q) fun us s2 ⟨vs,H2,I2,r,q2⟩=>⟨I2.gP,?_⟩) r9 iO
 exact xZ (us:= .ref a :: us) (vs:= .ref a :: vs) F hr hb hd hx I2 (.cons rfl r) q2
structure Mk (K:PySem.W.Frag)(C f:Addr):Prop where
 makes:PySem.W.makesIn K C=true
 init:PySem.W.findIn K (.ref C) "__init__"=some (some (.ref f))
 fn:PySem.W.isFn K (.ref f)=true
 kp:PySem.W.keepIn K (.ref C)=true
theorem Aa {pins:List (Addr×Obj)}{σ:St}{H:Hp}{s:Shared}{Q:VK}{us:List Value}{vs:List V}(M:Mk X.K C f)(F:lN X.prog X.w X.K X.mg X.base CX k f fd ps sp)(hr:fA (k + 1) X.A)(hb:Binds X.K fd ps ds)(hd:Vals tZ ds)
  (hx:Passes CX X E) (I:Inv X pins σ H s) (r:Vals vs us)
  (h: ∀x dx,H x=none->H dx=none->dx≠x->sp (.ref x :: (vs ++ tZ)) (upd (upd H dx (.own x)) x (.ins C dx [])) (fun v H2=>v= .eI/\Q (.ref x) H2) E):
  wpAny (model X.prog X.w) X.A (call (.ref C) us) (EP X pins σ Q) X.xe s:=by
 have hq:=h (s.heap.objs.size + 1) s.heap.objs.size (I.cH.fresh (dg _)) (I.cH.fresh (aB _)) (aY (fk _))
 have I2:=Inv.made (C:=C) I
 have r2:Vals (V.ref (s.heap.objs.size + 1) :: (vs ++ tZ)) (Value.ref (s.heap.objs.size + 1) :: (us ++ ds)):= .cons rfl (r.append hd)
 have hl:(Value.ref (s.heap.objs.size + 1) :: us ++ ds).length=ps.length:=by
  have e:=r2.length
  rw[F.len _ _ _ _ hq] at e
  exact e.symm
 refine Du (Hf (f:=f) I.gP M.makes M.init (EO.mp M.fn) (B6 (F.run _ X.stack _ _ ⟨Value.ref (s.heap.objs.size + 1) :: us,[]⟩ (Value.ref (s.heap.objs.size + 1) :: (us ++ ds)) _ _ E (hr.make C us [])
  (I2.Hh.make C us []) (hb _ (Value.ref (s.heap.objs.size + 1) :: us) I2.gP hl) r2 hq) fun r s' sh=>?_))
 cases r with
 |error e=>exact hx pins σ _ _ e s' I2 sh
 |ok fl=>
  cases fl with
  |ret u=>
   obtain⟨v,H',I3,rv,ev,q3⟩:=I2.after sh
   subst ev
   exact⟨rv,⟨V.ref (s.heap.objs.size + 1),H',I3,rfl,q3⟩⟩
  |next=>exact False.elim sh
  |brk=>exact False.elim sh
  |cont=>exact False.elim sh
theorem Kk (M:Mk X.K C f)(F:lN X.prog X.w X.K X.mg X.base CX k f fd ps sp)(hr:fA (k + 1) X.A)(hg:Gl X x)(hm:X.mg x=some (.ref C))(hb:Binds X.K fd ps ds)(hd:Vals tZ ds)(hx:Passes CX X E)
  (ha:PA X (e :: es) t) (rD:(x == ("__debug__":Str))=false:=by decide) (he:starEach (e :: es) X.env=(false,eval e X.env) :: starEach es X.env:=by rfl) (iO:(backTo pos (starEach es X.env)).any (·.1)=false:=by rfl):
  PE X (.Call (.Name x p) (e :: es) [] pos) (DF C sp tZ E t):=by
 intro pins s σ H Q I h
 refine eM (jy I hg hm ?_ rD)
 refine km (h₀:=X.base) I.ok.mod.Ka M.kp (ej (ha pos pins s σ H _ I h) fun us s1 ⟨vs,H1,I1,r,q⟩=>⟨I1.gP,?_⟩) he iO
 exact Aa M F hr hb hd hx I1 r q
theorem Hl (M:Mk X.K C f)(F:lN X.prog X.w X.K X.mg X.base CX k f fd ps sp)(hr:fA (k + 1) X.A)(hg:Gl X x)(hm:X.mg x=some (.ref C))(hb:Binds X.K fd ps ds)(hd:Vals tZ ds)(hx:Passes CX X E)
  (rD:(x == ("__debug__":Str))=false:=by decide):PE X (.Call (.Name x p) [] [] pos) (DF C sp tZ E Hg):=by
 intro pins s σ H Q I h
 refine eM (jy I hg hm ?_ rD)
 exact zS I.gP M.kp (Aa (us:=[]) M F hr hb hd hx I .nil h)
end
section
variable {X:Cx}{CX:Ff}{k:Nat}{f C:Addr}{fd:FuncData}{ps ks:List Str}{sp:Sp}{E:XK}{x m:Str}{p pos apos Qv:Pos}{e o:Expr}{es:List Expr}{kws:List Keyword}{te ta:TE}{t tk:TA}{nm:Option Str}
structure U5 (K:PySem.W.Frag)(fd:FuncData)(ps ks:List Str)(g:List Value->List Value->List Value)(gV:List V->List V->List V):Prop where
 to: ∀(s:Shared) (us ws:List Value),K.In s.heap->(g us ws).length=ps.length->BindsTo s fd ⟨us,ks.zip ws⟩ (ps.zip (g us ws))
 rel: ∀{vs:List V} {us:List Value} {zs:List V} {ws:List Value},Vals vs us->Vals zs ws->Vals (gV vs zs) (g us ws)
variable {g:List Value->List Value->List Value}{gV:List V->List V->List V}
end
structure aW (N P:List Str)(sc:Scope):Prop where
 kind:sc.kind= .function
 co:sc.isCoroutine=false
 gen:sc.isGenerator=false
 nd:N.Nodup
 pre:N.take P.length=P
 par: ∀x∈P,sc.names.lookup x=some .local∨sc.names.lookup x=some .cell
 Nf: ∀y∈sc.names,y.2≠ .free
theorem wZ {kindOf:Str->Option NameKind}{x:Str}: ∀{binds:List (Str×Value)} {m:Str->Option Value},(∀v,(x,v)∉binds)->bindL kindOf binds m x=m x
 |[],_,_=>rfl
 |(n,v) :: r,m,h=>by
  unfold bindL
  rw[wZ fun w hw=>h w (aU _ hw)]
  split
  ·have:x≠n:=by rintro rfl; exact h v bC
   simp[this]
  ·rfl
theorem w6 {kindOf:Str->Option NameKind}{x:Str}: ∀{binds:List (Str×Value)} {m:Str->Option Value},(∀v,(x,v)∉binds)->bindC kindOf binds m x=m x
 |[],_,_=>rfl
 |(n,v) :: r,m,h=>by
  unfold bindC
  rw[w6 fun w hw=>h w (aU _ hw)]
  split
  ·rfl
  ·have:x≠n:=by rintro rfl; exact h v bC
   simp[this]
theorem w9 {kindOf:Str->Option NameKind}{x:Str}{v:Value}: ∀{P:List Str} {vs:List Value} {i:Nat} {m:Str->Option Value},P.Nodup->P[i]? =some x->vs[i]? =some v->kindOf x=some .local->
  bindL kindOf (P.zip vs) m x=some v
 |[],_,_,_,_,h,_,_=>by simp at h
 |_ :: _,[],_,_,_,_,h,_=>by simp at h
 |p :: P,w :: vs,0,m,nd,h1,h2,hk=>by
  simp at h1 h2; subst h1; subst h2
  show bindL kindOf ((p,w) :: P.zip vs) m p=_
  unfold bindL
  rw[wZ fun v hv=>(eA.mp nd).1 (om hv).1,a8 hk]
  simp
 |p :: P,w :: vs,i + 1,m,nd,h1,h2,hk=>by
  show bindL kindOf ((p,w) :: P.zip vs) m x=_
  unfold bindL
  exact w9 (i:=i) (List.nodup_cons.mp nd).2 (by simpa using h1) (by simpa using h2) hk
theorem xa {kindOf:Str->Option NameKind}{x:Str}{v:Value}: ∀{P:List Str} {vs:List Value} {i:Nat} {m:Str->Option Value},P.Nodup->P[i]? =some x->vs[i]? =some v->kindOf x≠some .local->
  bindC kindOf (P.zip vs) m x=some v
 |[],_,_,_,_,h,_,_=>by simp at h
 |_ :: _,[],_,_,_,_,h,_=>by simp at h
 |p :: P,w :: vs,0,m,nd,h1,h2,hk=>by
  simp at h1 h2; subst h1; subst h2
  show bindC kindOf ((p,w) :: P.zip vs) m p=_
  unfold bindC
  rw[w6 fun v hv=>(eA.mp nd).1 (om hv).1,aQ hk]
  simp
 |p :: P,w :: vs,i + 1,m,nd,h1,h2,hk=>by
  show bindC kindOf ((p,w) :: P.zip vs) m x=_
  unfold bindC
  exact xa (i:=i) (List.nodup_cons.mp nd).2 (by simpa using h1) (by simpa using h2) hk
def start (N:List Str)(vs:List V):St:=vs.map some ++ List.replicate (N.length - vs.length) none
def lO (CX:Ff)(P:Program)(w:World)(K:PySem.W.Frag)(mg:Str->Option Value)(base:Heap)(N:List Str)(qual:Str)(scope:Scope)(f:Addr)(cd:Value)(A:Around)(outer:List Env)(s:Shared)(H:Hp)(E:XK):Cx where
 prog:=P
 w:=w
 K:=K
 mg:=mg
 base:=base
 A:=A.deeper (envOfC qual scope s.heap.objs.size f cd)
 N:=N
 s₀:=s
 H₀:=H
 env:=envOfC qual scope s.heap.objs.size f cd
 outer:=outer
 stack:=envOfC qual scope s.heap.objs.size f cd :: outer
 ex:=[]
 calm:=true
 fn:=fun _=>true
 pn:=[]
 xe:=fun e s'=>wpAny (model P w) (A.deeper (envOfC qual scope s.heap.objs.size f cd)) (leaving (envOfC qual scope s.heap.objs.size f cd) e) (fun _ DH=>CX outer H s E e DH) (fun e' DH=>CX outer H s E e' DH) s'
theorem Ab {sc:Scope}{n:Nat}{x:Str}(h:sc.names.lookup x=some .cell): ∃c,(cellsFrom n sc.names []).lookup x=some c:=by
 have q:=kZ sc.names n [] (.inl h)
 exact Pg.mp q
theorem xc {CX:Ff}{P:Program}{w:World}{K:PySem.W.Frag}{mg:Str->Option Value}{base:Heap}{N ps:List Str}{qual:Str}{scope:Scope}{f:Addr}{cd:Value}{A:Around}{outer:List Env}{s s1:Shared}{H:Hp}{E:XK}{us:List Value}{vs:List V}
  (S:aW N ps scope) (hd:A.handled=none) (e0:qj P w K mg base A outer s H) (hl:vs.length=ps.length) (r:Vals vs us)
  (x:InCallC s s.heap.objs.size (bindL (envOfC qual scope s.heap.objs.size f cd).kindOf (ps.zip us) fun _=>none) (cellsFrom (s.heap.objs.size + 1) scope.names []) (bindC (envOfC qual scope s.heap.objs.size f cd).kindOf (ps.zip us) fun _=>none) s1):
  Inv (lO CX P w K mg base N qual scope f cd A outer s H E) [] (start N vs) H s1:=by
 have iO:ps.length<=N.length:=by have:=di List.length S.pre; rw[bD] at this; omega
 obtain⟨h1,tk,rfl,hk⟩:=x.done
 have U6: ∀b:Addr,b∉(lO CX P w K mg base N qual scope f cd A outer s H E).ex:=fun b z=>absurd (show b∈([]:List Addr) from z) (by simp)
 refine⟨⟨e0.mod,S.kind,rfl,rfl,aB _,fun y z c h1 h2=>?_,fun y hy=>?_,fun y c _ h=>?_,fun _=>hd,Around.frames_deeper e0.frames,.inr ⟨rfl,rfl⟩,fun b z=>absurd z (U6 b),e0.bs,e0.zW,fun b _ _=>U6 b,fun b z=>absurd z (U6 b),e0.lL,e0.Dv⟩,
  rfl,e0.bare,Un.kept hk,⟨_,x.toInCall.ns,fun i y v h1 h2 h3=>?_⟩,fun y c h=>⟨_,x.cell y c h⟩,e0.cH.fresh (Nat.le_refl _),fun y c h=>?_,fun p hp=>absurd (show p∈([]:List (Addr×Obj)) from hp) (by simp),e0.cH.kept hk,?_⟩
 ·exact name_of_addr x.apart (cB h1) (cB h2)
 ·have hy:scope.names.lookup y=some .cell∨scope.names.lookup y=some .free:=hy
  rcases hy with hy|hy
  ·exact Ab hy
  ·exact absurd rfl (S.Nf _ (cB hy))
 ·exact dB (x.above y c (cB h))
 ·have hi:i < vs.length:=by
   unfold start at h2
   by_cases hi:i < vs.length
   ·exact hi
   ·rw[List.getElem?_append_right (by simpa using hi)] at h2
    rw[List.getElem?_replicate] at h2
    split at h2 <;> cases h2
  have ha:vs[i]? =some v:=by
   unfold start at h2
   rw[List.getElem?_append_left (by simpa using hi),List.getElem?_map] at h2
   cases e:vs[i]? with
   |none=>rw[e] at h2; cases h2
   |some a=>rw[e] at h2; cases h2; rfl
  obtain⟨u,hu,rv⟩:=r.get ha
  have hp:ps[i]? =some y:=by
   rw[← S.pre,List.getElem?_take_of_lt (by omega)]; exact h1
  have XN:ps.Nodup:=by rw[← S.pre]; exact S.nd.sublist (List.take_sublist _ _)
  refine⟨u,rv,?_⟩
  rcases S.par y (gG hp) with k|k
  ·exact .inl ⟨k,w9 XN hp hu k⟩
  ·obtain⟨c,e⟩:=Ab (n:=s.heap.objs.size + 1) k
   refine .inr ⟨.inl k,c,e,?_⟩
   have q:=x.cell y c e
   rw[xa XN hp hu (by show scope.names.lookup y≠_; rw[k]; decide)] at q
   exact q
 ·exact e0.cH.fresh (dB (x.above y c (cB h)))
 ·unfold start
  show _ =N.length
  rw[aF,ae,iN]
  omega
theorem Hm {CX:Ff}{P:Program}{w:World}{K:PySem.W.Frag}{mg:Str->Option Value}{base:Heap}{k:Nat}{f:Addr}{name qual:Str}{params:Arguments}{body:List Stmt}{scope:Scope}{dV kV doc pm dv ct oc:Value}{an od:Option Addr}
  {Fg:Array (Option Value)} {N ps:List Str} {sp:Sp} (lk:K.lookup f=some ⟨oc,od,.func (PySem.W.fnOf name qual params body scope dV kV doc pm an dv ct),Fg⟩) (q0:PySem.W.codeIn K dv qual=true) (S:aW N ps scope)
  (len: ∀vs H Q E,sp vs H Q E->vs.length=ps.length)
  (gu: ∀(A:Around) (outer:List Env) (s:Shared) (H:Hp) (vs:List V) (Q:VK) (E:XK),fA k (A.deeper (envOfC qual scope s.heap.objs.size f dv))->sp vs H Q E->
   ∃t,o8 (lO CX P w K mg base N qual scope f dv A outer s H E) body t/\t {nx:=fun _ H'=>Q .eI H',rt:=Q} (start N vs) H):
  lN P w K mg base CX (k + 1) f (PySem.W.fnOf name qual params body scope dV kV doc pm an dv ct) ps sp:=by
 refine⟨len,fun A outer s H args us vs Q E hr e0 hb r ya=>?_⟩
 have hl:=len _ _ _ _ ya
 have KX:K.In s.heap:=e0.mod.Ka.keeps fun b o e=>(e0.bs b o e).1
 have lim:s.heap.NoLimit:=e0.mod.nolimit.keeps fun b o e=>(e0.bs b o e).1
 have mJ: ∀y∈ps.zip us,scope.names.lookup y.1=some .local∨(scope.names.lookup y.1=some .cell/\((cellsFrom (s.heap.objs.size + 1) scope.names []).lookup y.1).isSome=true):=fun⟨n,v⟩ hy=>by
  rcases S.par n (om hy).1 with q|q
  ·exact .inl q
  ·exact .inr ⟨q,kZ _ _ _ (.inl q)⟩
 refine codeAny_call_function hr.depth (KX _ _ lk) rfl S.co S.gen rfl (PySem.W.codeRec_of KX q0) (hb _ _ _ _ ?_)
 refine sS S.kind mJ fun env he s1 x=>?_
 subst he
 refine⟨lim.keeps x.toInCall.keep,codeAny_func ?_⟩
 obtain⟨t,ht,hq⟩:=gu A outer s H vs Q E (hr.deeper _) ya
 have I:Inv (lO CX P w K mg base N qual scope f dv A outer s H E) [] (start N vs) H s1:=xc S hr.hd e0 hl r x
 refine cD (ht [] s1 (start N vs) H _ I hq) (fun fl s' hs=>?_) fun e s' hs=>hs
 have fin: ∀{σ':St} {H':Hp} {v:V} {u:Value},Inv (lO CX P w K mg base N qual scope f dv A outer s H E) [] σ' H' s'->RelV v u->Q v H'->CE outer P w H s Q u s':=
  fun{σ' H' v u} J rv q=>⟨v,H',J.os,J.bare,J.base,J.cH,rv,q⟩
 cases fl with
 |ret u=>
  obtain⟨v,σ',H',J,rv,q⟩:=hs
  exact fin J rv q
 |next=>
  obtain⟨σ',H',J,q⟩:=hs
  exact fin (v:=V.eI) (u:=Value.none) J rfl q
 |brk=>
  obtain⟨_,_,_,q⟩:=hs
  exact False.elim q
 |cont=>
  obtain⟨_,_,_,q⟩:=hs
  exact False.elim q
section
variable {X:Cx}{x:Str}{p pos:Pos}{e:Expr}{es:List Expr}{t:TA}{id T:String}{r:List V->Hp->VK->Prop}
def XO (r:List V->Hp->VK->Prop)(t:TA):TE:=fun σ H Q=>t σ H fun vs H1=>r vs H1 Q
theorem bu (hc:iz X (.builtin id) r)(hg:Gl X x)(hm:X.mg x=none)(hv:bootBuiltins x=some (.builtin id))(ha:PA X (e :: es) t)(hn:x≠"__name__":=by decide)(rD:(x == ("__debug__":Str))=false:=by decide)
  (he:starEach (e :: es) X.env=(false,eval e X.env) :: starEach es X.env:=by rfl) (iO:(backTo pos (starEach es X.env)).any (·.1)=false:=by rfl):PE X (.Call (.Name x p) (e :: es) [] pos) (XO r t):=by
 intro pins s σ H Q I h
 refine eM (o9 I hg hm hv ?_ hn rD)
 exact PyProof.Rows.callWith_builtin1 (ej (ha pos pins s σ H _ I h) fun us s1 ⟨vs,H1,I1,r1,q1⟩=>hc pins s1 σ H1 vs us Q I1 r1 q1) he iO
theorem f9 (hc:iz X (.type T) r)(hg:Gl X x)(hm:X.mg x=none)(hv:bootBuiltins x=some (.type T))(ha:PA X (e :: es) t)(hn:x≠"__name__":=by decide)(rD:(x == ("__debug__":Str))=false:=by decide)
  (he:starEach (e :: es) X.env=(false,eval e X.env) :: starEach es X.env:=by rfl) (iO:(backTo pos (starEach es X.env)).any (·.1)=false:=by rfl):PE X (.Call (.Name x p) (e :: es) [] pos) (XO r t):=by
 intro pins s σ H Q I h
 refine eM (o9 I hg hm hv ?_ hn rD)
 exact oh (ej (ha pos pins s σ H _ I h) fun us s1 ⟨vs,H1,I1,r1,q1⟩=>hc pins s1 σ H1 vs us Q I1 r1 q1) he iO
end
end L2
namespace HT
open PySem PyProof.Rows
def lexLt:List Int->List Int->Bool
 |[],[]=>false
 |[],_ :: _=>true
 |_ :: _,[]=>false
 |x :: xs,y :: ys=>if x=y then lexLt xs ys else decide (x < y)
theorem px (x y:Int)(xs ys:List Int):lexLt (x :: xs) (y :: ys)=if x=y then lexLt xs ys else decide (x < y):=rfl
section
open PySem.SeqAt
open PySem.AutoSeq1 (wpAny_loadPart')
open PySem.MeetsSeq PySem.MeetsSeq2 PySem.MeetsSeq3
end
section
variable {prog:Program}{w:World}{A:Around}{E:Value->Shared->Prop}{s:Shared}
def Ac (n d:Nat):Option Int->Nat
 |none=>d
 |some v=>if v < 0 then(v + (n:Int)).toNat else min v.toNat n
theorem Hn (n d:Nat):Ac n d none=d:=rfl
theorem yb (n d k:Nat):Ac n d (some (k:Int))=min k n:=by
 show(if(k:Int) < 0 then((k:Int) + (n:Int)).toNat else min (k:Int).toNat n)=min k n
 rw[aQ (by omega),eN]
end
end HT
namespace L2
open PySem PySem.Spec PyProof.Rows
abbrev TO:=St->Hp->(Option Int->Hp->Prop)->Prop
def PO (X:Cx)(e:Option Expr)(t:TO):Prop:=
 ∀(pins:List (Addr×Obj)) (s:Shared) (σ:St) (H:Hp) (Q:Option Int->Hp->Prop),Inv X pins σ H s->t σ H Q->
  wpAny (model X.prog X.w) X.A (evalPart e X.env) (fun u s'=> ∃o H',Inv X pins σ H' s'/\IsPart u o/\Q o H') X.xe s
def Kl:TO:=fun _ H Q=>Q none H
def Qw (t:TE):TO:=fun σ H Q=>t σ H fun x H1=> ∃i,x= .int i/\Q (some i) H1
theorem intsAre_of {ns:List Int}: ∀{us:List Value},Vals (ns.map V.int) us->IntsAre us ns:=by
 induction ns with
 |nil=>intro us r; rw[vy] at r; cases r; exact .nil
 |cons n ns ih=>
  intro us r
  rw[dj] at r
  cases r with
  |cons r1 r2=>
   obtain⟨t,e⟩:=r1
   subst e
   exact .cons n t (ih r2)
section
variable {X:Cx}{e:Expr}{te:TE}{lo hi:Option Expr}{tl th:TO}{pos p2:Pos}
theorem yc:PO X none Kl:=by
 intro pins s σ H Q I h
 rw[evalPart_none]
 exact bL ⟨none,H,I,.none,h⟩
theorem qk (h:PE X e te):PO X (some e) (Qw te):=by
 intro pins s σ H Q I hw
 rw[evalPart_some]
 refine ej (h pins s σ H _ I hw) fun u s1 ⟨x,H1,I1,r1,q1⟩=>?_
 obtain⟨i,rfl,q⟩:=q1
 obtain⟨t,rfl⟩:=r1
 exact⟨some i,H1,I1,.int i t,q⟩
def Ng (X:Cx)(r:V->Option Int->Option Int->Hp->VK->Prop):Prop:=
 ∀(pins:List (Addr×Obj)) (s:Shared) (σ:St) (H:Hp) (x:V) (v vl vu:Value) (lo hi:Option Int) (sl:Addr) (Q:VK),Inv X pins σ H s->RelV x v->s.heap.IsSliceOf sl vl vu .none->IsPart vl lo->IsPart vu hi->r x lo hi H Q->
  ∃T id,typeLookup (.type T) "__getitem__"=pure (some (.builtin id))/\s.TypeIs v T/\wpAny (model X.prog X.w) X.A (getItem v (.ref sl)) (EP X pins σ Q) X.xe s
def ZK (r:V->Option Int->Option Int->Hp->VK->Prop)(te:TE)(tl th:TO):TE:=fun σ H Q=>te σ H fun x H1=>tl σ H1 fun l H2=>th σ H2 fun u H3=>r x l u H3 Q
theorem ql {r:V->Option Int->Option Int->Hp->VK->Prop}(hr:Ng X r)(he:PE X e te)(hl:PO X lo tl)(hu:PO X hi th):PE X (.Subscript e (.Slice lo hi none p2) pos) (ZK r te tl th):=by
 intro pins s σ H Q I h
 refine Subscript_ (ej (he pins s σ H _ I h) fun v s1 ⟨x,H1,I1,r1,q1⟩=>?_)
 refine wpAny_Slice (ej (hl pins s1 σ H1 _ I1 q1) fun vl s2 ⟨l,H2,I2,pl,q2⟩=>ej (hu pins s2 σ H2 _ I2 q2) fun vu s3 ⟨u,H3,I3,pu,q3⟩=>?_)
 rw[evalPart_none]
 refine bL ?_
 have I4:Inv X pins σ H3 {s3 with heap:=s3.heap.push {cls:= .type "slice",data:= .fields #[vl,vu,.none]}}:=I3.kept (t':=s3.toks) fun b ob q=>ax _ q
 obtain⟨T,id,hT,ht,hg⟩:=hr pins {s3 with heap:=s3.heap.push {cls:= .type "slice",data:= .fields #[vl,vu,.none]}} σ H3 x v vl vu l u s3.heap.objs.size Q I4 r1 (Heap.IsSliceOf.new ..) pl pu q3
 show wpAny (model X.prog X.w) X.A (subscriptTail e (.Slice lo hi none p2) v (.ref s3.heap.objs.size)) (EP X pins σ Q) X.xe {s3 with heap:=s3.heap.push {cls:= .type "slice",data:= .fields #[vl,vu,.none]}}
 exact tail_any (ops:=[.ref s3.heap.objs.size,v]) ht hT hg (by with_unfolding_all rfl)
def qm (xs:List V)(lo hi:Option Int):List V:=(xs.drop (HT.Ac xs.length 0 lo)).take (HT.Ac xs.length xs.length hi - HT.Ac xs.length 0 lo)
theorem Ad (xs:List V)(lo hi:Option Int):(qm xs lo hi).length<=xs.length:=by
 unfold qm
 rw[bD,mq]
 omega
end
def Km (n:Nat)(i:Int):Option Nat:=if 0<=i then(if i < n then some i.toNat else none) else if -(n:Int)<=i then some (i + n).toNat else none
def sV {α:Type}(xs:List α)(i:Int):Option α:=(Km xs.length i).bind fun j=>xs[j]?
theorem DI {n:Nat}{i:Int}{j:Nat}(h:Km n i=some j):seqIndex? i n=some j/\j < n/\ -(n:Int)<=i/\i < n:=by
 unfold Km at h
 by_cases h0:0<=i
 ·rw[a8 h0] at h
  by_cases h1:i < n
  ·rw[a8 h1] at h
   have e:i.toNat=j:=aE h
   exact⟨by rw[seqIndex_of h0 h1,e],by omega,by omega,h1⟩
  ·rw[aQ h1] at h; cases h
 ·rw[aQ h0] at h
  by_cases h1: -(n:Int)<=i
  ·rw[a8 h1] at h
   have e:(i + n).toNat=j:=aE h
   exact⟨by rw[seqIndex_neg (by omega) h1,e],by omega,h1,by omega⟩
  ·rw[aQ h1] at h; cases h
theorem DJ {α:Type}{xs:List α}{i:Int}{v:α}(h:sV xs i=some v): ∃j,seqIndex? i xs.length=some j/\xs[j]? =some v/\j < xs.length/\ -(xs.length:Int)<=i/\i < xs.length:=by
 unfold sV at h
 cases e:Km xs.length i with
 |none=>rw[e] at h; cases h
 |some j=>
  rw[e] at h
  obtain⟨h1,h2,h3,h4⟩:=DI e
  exact⟨j,h1,h,h2,h3,h4⟩
theorem cS {α:Type}{xs:List α}{j:Nat}{v:α}(h:xs[j]? =some v):sV xs (j:Int)=some v:=by
 have hj:j < xs.length:=(au.mp h).1
 have e:Km xs.length (j:Int)=some j:=by
  unfold Km
  rw[if_pos (by omega),if_pos (by omega)]; simp
 unfold sV; rw[e]; exact h
def Kn (b:Expr):Prop:= ∀o i,subscripted b false o i=operate [o,i] (getItem o i)
def Ho (X:Cx)(r:R2):Prop:=
 ∀(value slice:Expr) (pins:List (Addr×Obj)) (s:Shared) (σ:St) (H:Hp) (x y:V) (v u:Value) (Q:VK),Inv X pins σ H s->RelV x v->RelV y u->r x y H Q->
  subscripted slice false v u=operate [v,u] (getItem v u)->wpAny (model X.prog X.w) X.A (subscriptTail value slice v u) (EP X pins σ Q) X.xe s
def XQ (X:Cx)(id:String)(r:V->List V->Hp->VK->Prop):Prop:=
 ∀(pins:List (Addr×Obj)) (s:Shared) (σ:St) (H:Hp) (x:V) (xs:List V) (v:Value) (us:List Value) (Q:VK),Inv X pins σ H s->RelV x v->Vals xs us->r x xs H Q->
  wpAny (model X.prog X.w) X.A (call (.builtin id) (v :: us)) (EP X pins σ Q) X.xe s
section
variable {X:Cx}{a b:Expr}{ta tb:TE}{pos:Pos}
theorem aO {r:R2}(hr:Ho X r)(ha:PE X a ta)(hb:PE X b tb)(hs:Kn b):PE X (.Subscript a b pos) (Tu r ta tb):=by
 intro pins s σ H Q I h
 exact Subscript_ (Nb ha hb I h fun v u s2 x y H2 I2 rx ry q=>hr a b pins s2 σ H2 x y v u Q I2 rx ry q (hs _ _))
def Qx (K:PySem.W.Frag):R2:=fun x y H Q=> ∃p xs i v,x= .ref p/\y= .int i/\bQ K H p xs/\sV xs i=some v/\Q v H
def Qy (K:PySem.W.Frag):R2:=fun x y H Q=> ∃p xs i v,x= .ref p/\y= .int i/\cM K H p xs/\sV xs i=some v/\Q v H
theorem bh:Ho X (Qx X.K):=by
 intro value slice pins s σ H x y v u Q I rx ry h hs
 obtain⟨p,xs,i,z,rfl,rfl,hq,he,q⟩:=h
 cases rx
 obtain⟨t,rfl⟩:=ry
 obtain⟨cy,r,pl,hz⟩:=I.list hq
 obtain⟨j,h1,h2,h3,h4,h5⟩:=DJ he
 obtain⟨w,ew,Fh⟩:=r.get h2
 have hl:=r.length
 have hn:=xY
 have fin:EP X pins σ Q w s:=⟨z,H,I,Fh,q⟩
 by_cases h0:0<=i
 ·have hj:i.toNat=j:=by
   rw[seqIndex_of h0 h5] at h1
   exact aE h1
  exact item_listR pl.isList h0 (by omega) (by rw[hj]; simpa using ew) fin hs
 ·have hj:(i + (cy.toArray.size:Int)).toNat=j:=by
   rw[seqIndex_neg (by omega) h4] at h1
   rw[bA,← hl]
   exact aE h1
  exact subscriptTail_builtinR (x:=w) pl.isList.typeIs slot_list_getitem.lookup
   (wpAny_getItem_list_neg (Q:=fun r s'=>r=w/\EP X pins σ Q r s') pl.isList (by omega) (by rw[List.size_toArray] <;> omega) (by omega) (by rw[hj]; simpa using ew) ⟨rfl,fin⟩) hs
theorem bg:Ho X (Qy X.K):=by
 intro value slice pins s σ H x y v u Q I rx ry h hs
 obtain⟨p,xs,i,z,rfl,rfl,hq,he,q⟩:=h
 cases rx
 obtain⟨t,rfl⟩:=ry
 obtain⟨cy,r,pl,hz⟩:=I.tuple hq
 obtain⟨j,h1,h2,h3,h4,h5⟩:=DJ he
 obtain⟨w,ew,Fh⟩:=r.get h2
 have hl:=r.length
 have hn:=xY
 have fin:EP X pins σ Q w s:=⟨z,H,I,Fh,q⟩
 exact subscriptTail_builtinR (x:=w) pl.typeIs slot_tuple_getitem.lookup
  (getItem_tuple (j:=j) (Q:=fun r s'=>r=w/\EP X pins σ Q r s') pl (by omega) (by omega) (by rw[List.size_toArray,← hl]; exact h1) (by simpa using ew) ⟨rfl,fin⟩) hs
theorem Cm (cy:List Value)(n j:Nat)(u:Value):Obj.mapSeq (·.setIfInBounds j u) {cls:= .type "list",data:= .seq cy.toArray n}={cls:= .type "list",data:= .seq (cy.set j u).toArray n}:=by
 simp[Obj.mapSeq]
theorem Inv.lst {pins:List (Addr×Obj)}{σ:St}{H:Hp}{s:Shared}{p:Addr}{xs:List V}(I:Inv X pins σ H s)(h:H p=some (.lst xs)):
  ∃(cy:List Value) (n:Nat),Vals xs cy/\s.heap.get? p=some {cls:= .type "list",data:= .seq cy.toArray n}/\xs.length<=sizeLine:=by
 obtain⟨z,cy,n,r,e⟩:=I.cH p _ h
 exact⟨cy,n,r,e,z⟩
theorem Inv.Nh {pins:List (Addr×Obj)}{σ:St}{H:Hp}{s:Shared}{p:Addr}{xs ys:List V}{cy qg:List Value}{n n':Nat}{f:Obj->Obj}(I:Inv X pins σ H s)(h:H p=some (.lst xs))
  (ho:s.heap.get? p=some {cls:= .type "list",data:= .seq cy.toArray n}) (hf:f {cls:= .type "list",data:= .seq cy.toArray n}={cls:= .type "list",data:= .seq qg.toArray n'}) (r:Vals ys qg) (hz:ys.length<=sizeLine) (t:Nat):
  Inv X pins σ (upd H p (.lst ys)) {s with heap:=s.heap.update p f,toks:=t}:=by
 have e:(s.heap.update p f).get? p=some {cls:= .type "list",data:= .seq qg.toArray n'}:=by
  rw[B7 f ho (by rw[hf] <;> rfl),hf]
 refine I.write (x:=p) (e:=p) (by rw[h]; trivial) (.inl rfl) (fun b u hb q=>(my _ _ (vw hb)).trans q) ⟨_,e⟩ ?_
 exact⟨hz,qg,n',r,e⟩
def Qz:V->V->V->Hp->(Hp->Prop)->Prop:=fun o i v H Q=> ∃p xs k j,o= .ref p/\i= .int k/\H p=some (.lst xs)/\Km xs.length k=some j/\Q (upd H p (.lst (xs.set j v)))
theorem set_list:Qj X Qz:=by
 intro pins s σ H o i v ov iv u Q I ro ri rv h
 obtain⟨p,xs,k,j,rfl,rfl,hp,hj,q⟩:=h
 cases ro
 obtain⟨t,rfl⟩:=ri
 obtain⟨cy,n,r,ho,hz⟩:=I.lst hp
 obtain⟨h1,h2,h3,h4⟩:=DI hj
 have hl:=r.length
 have hn:=xY
 have I':Inv X pins σ (upd H p (.lst (xs.set j v))) {s with heap:=s.heap.update p (Obj.mapSeq (·.setIfInBounds j u))}:=
  I.Nh hp ho (Cm cy n j u) (r.set rv j) (by rw[dQ]; exact hz) s.toks
 by_cases h0:0<=k
 ·have hk:k.toNat=j:=by
   rw[seqIndex_of h0 h4] at h1
   exact aE h1
  exact PySem.W.ki_setAt ho h0 (by omega) (by rw[bA,← hl]; exact h4) (by rw[hk]; exact⟨_,I',q⟩)
 ·have hk:(k + (cy.toArray.size:Int)).toNat=j:=by
   rw[seqIndex_neg (by omega) h3] at h1
   rw[bA,← hl]
   exact aE h1
  exact PySem.W.ki_setBack ho (by omega) (by rw[bA,← hl]; exact h3) (by omega) (by rw[hk]; exact⟨_,I',q⟩)
theorem yd (lo hi:Option Int)(n:Nat):(sliceBounds lo hi none n).1=((HT.Ac n 0 lo:Nat):Int)/\(sliceBounds lo hi none n).2.1=((HT.Ac n n hi:Nat):Int)/\(sliceBounds lo hi none n).2.2=1:=by
 refine⟨?_,?_,rfl⟩
 ·cases lo with
  |none=>simp[sliceBounds,HT.Ac]
  |some i=>
   simp only[sliceBounds,HT.Ac,Option.getD_none,show(1:Int) > 0 by decide,if_true]
   by_cases h:i < 0
   ·simp only[h,if_true] <;> omega
   ·simp only[h,if_false] <;> omega
 ·cases hi with
  |none=>simp[sliceBounds,HT.Ac]
  |some i=>
   simp only[sliceBounds,HT.Ac,Option.getD_none,show(1:Int) > 0 by decide,if_true]
   by_cases h:i < 0
   ·simp only[h,if_true] <;> omega
   ·simp only[h,if_false] <;> omega
theorem vJ (cy:List Value)(lo hi:Option Int):slicePick cy.toArray lo hi none=((cy.drop (HT.Ac cy.length 0 lo)).take (HT.Ac cy.length cy.length hi - HT.Ac cy.length 0 lo)).toArray:=by
 obtain⟨h1,h2,h3⟩:=yd lo hi cy.toArray.size
 unfold slicePick
 rw[h1,h2,h3]
 simp only[sliceRange_one,pick_run,List.size_toArray] <;> rfl
def U7 (K:PySem.W.Frag):V->Option Int->Option Int->Hp->VK->Prop:=fun x lo hi H Q=> ∃a xs,x= .ref a/\bQ K H a xs/\ ∀p,H p=none->Q (.ref p) (upd H p (.lst (qm xs lo hi)))
theorem tH:Ng X (U7 X.K):=by
 intro pins s σ H x v vl vu lo hi sl Q I rx hs pl pu h
 obtain⟨a,xs,rfl,hx,q⟩:=h
 cases rx
 obtain⟨cy,r,ht,hz⟩:=I.list hx
 have hlen:=r.length
 refine⟨"list",_,slot_list_getitem.lookup,ht.isList.typeIs,?_⟩
 refine wpAny_getItem_list_slice ht.isList hs pl pu .none (by simp) ?_ (by rw[List.size_toArray] <;> omega)
 rw[vJ,← hlen]
 refine⟨.ref s.heap.objs.size,_,I.laid (t':=s.toks) (o:= .lst (qm xs lo hi)) (fun b ob q=>ax _ q) (aB _) ?_,rfl,q _ (I.cH.fresh (aB _))⟩
 exact⟨a6 (Ad xs lo hi) hz,_,0,(r.drop (HT.Ac xs.length 0 lo)).take (HT.Ac xs.length xs.length hi - HT.Ac xs.length 0 lo),bS _ rfl⟩
def sj:V->Bool
 | .eI=>true
 | .bl _=>true
 | .int _=>true
 | .str _=>true
 |_=>false
def Ko:V->V->Bool
 | .eI,.eI=>true
 | .bl a,.bl b=>a == b
 | .bl a,.int b=>(if a then 1 else 0) == b
 | .int a,.bl b=>a == (if b then 1 else 0)
 | .int a,.int b=>a == b
 | .str a,.str b=>a == b
 |_,_=>false
theorem Ni {A:Around}{s:Shared}{y x:V}{u v:Value}(ry:RelV y u)(rx:RelV x v)(fy:sj y=true)(fx:sj x=true):SeqAt.EqAt A s u v (Ko y x):=by
 cases y with
 |eI=>
  cases ry
  cases x with
  |eI=>cases rx; exact SeqAt.EqAt.same _
  |bl b=>cases rx; exact SeqAt.EqAt.none_bool b
  |int b=>obtain⟨t,rfl⟩:=rx; exact SeqAt.EqAt.none_int b t
  |str b=>obtain⟨t,rfl⟩:=rx; exact SeqAt.EqAt.none_str b t
  |_=>exact absurd (show false=true from fx) aZ
 |bl a=>
  cases ry
  cases x with
  |eI=>cases rx; exact SeqAt.EqAt.bool_none a
  |bl b=>cases rx; exact SeqAt.EqAt.bool_bool a b
  |int b=>obtain⟨t,rfl⟩:=rx; exact SeqAt.EqAt.bool_int a b t
  |str b=>obtain⟨t,rfl⟩:=rx; exact SeqAt.EqAt.bool_str a b t
  |_=>exact absurd (show false=true from fx) aZ
 |int a=>
  obtain⟨t',rfl⟩:=ry
  cases x with
  |eI=>cases rx; exact SeqAt.EqAt.int_none a t'
  |bl b=>cases rx; exact SeqAt.EqAt.int_bool a t' b
  |int b=>obtain⟨t,rfl⟩:=rx; exact SeqAt.EqAt.int_int a t' b t
  |str b=>obtain⟨t,rfl⟩:=rx; exact SeqAt.EqAt.int_str a t' b t
  |_=>exact absurd (show false=true from fx) aZ
 |str a=>
  obtain⟨t',rfl⟩:=ry
  cases x with
  |eI=>cases rx; exact SeqAt.EqAt.str_none a t'
  |bl b=>cases rx; exact SeqAt.EqAt.str_bool a t' b
  |int b=>obtain⟨t,rfl⟩:=rx; exact SeqAt.EqAt.str_int a t' b t
  |str b=>obtain⟨t,rfl⟩:=rx; exact SeqAt.EqAt.str_str a t' b t
  |_=>exact absurd (show false=true from fx) aZ
 |_=>exact absurd (show false=true from fy) aZ
def Cn (x:V)(u:Value):Bool:=match u with
 | .none=>Ko .eI x
 | .bool b=>Ko (.bl b) x
 | .int i _=>Ko (.int i) x
 | .str z _=>Ko (.str z) x
 |_=>false
theorem Hq {x y:V}{u:Value}(r:RelV y u)(f:sj y=true):Cn x u=Ko y x:=by
 cases y with
 |eI=>cases r; rfl
 |bl b=>cases r; rfl
 |int i=>obtain⟨t,rfl⟩:=r; rfl
 |str z=>obtain⟨t,rfl⟩:=r; rfl
 |_=>exact absurd (show false=true from f) aZ
theorem qo {x:V}: ∀{xs:List V} {us:List Value},Vals xs us->xs.all sj=true->us.any (Cn x)=xs.any fun y=>Ko y x
 |_,_,.nil,_=>rfl
 |y :: xs,u :: us,.cons r t,f=>by
  rw[List.all_cons,G0] at f
  rw[sT,sT,Hq r f.1,qo t f.2]
theorem mK {A:Around}{s:Shared}{x:V}{v:Value}(rx:RelV x v)(fx:sj x=true): ∀{xs:List V} {us:List Value},Vals xs us->xs.all sj=true-> ∀u∈us,SeqAt.EqAt A s u v (Cn x u)
 |_,_,.nil,_=>fun u hu=>by cases hu
 |y :: xs,u :: us,.cons r t,f=>fun u' hu=>by
  rw[List.all_cons,G0] at f
  rcases aw.mp hu with rfl|hu
  ·rw[Hq r f.1]; exact Ni r rx f.1 fx
  ·exact mK rx fx t f.2 u' hu
def vK (x:V)(xs:List V):Bool:=xs.any fun y=>Ko y x
def XR (K:PySem.W.Frag)(neg:Bool):R2:=fun x y H Q=> ∃p xs,y= .ref p/\(bQ K H p xs∨cM K H p xs)/\sj x=true/\xs.all sj=true/\Q (.bl (if neg then !vK x xs else vK x xs)) H
theorem nQ:ox X (compareOp .In) (XR X.K false):=by
 intro pins s σ H x y v u Q I rx ry h
 obtain⟨p,xs,rfl,hq,fx,fs,q⟩:=h
 cases ry
 rcases hq with hq|hq
 ·obtain⟨cy,r,pl,hz⟩:=I.list hq
  refine SeqAt.in_listAt (Cn x) pl.isList (fun w hw=>mK rx fx r fs w (by simpa using hw)) ⟨.bl _,H,I,rfl,?_⟩
  rw[show cy.toArray.any (Cn x)=cy.any (Cn x) by simp,qo r fs]
  exact q
 ·obtain⟨cy,r,pl,hz⟩:=I.tuple hq
  refine SeqAt.in_tupleAt (Cn x) pl (fun w hw=>mK rx fx r fs w (by simpa using hw)) ⟨.bl _,H,I,rfl,?_⟩
  rw[show cy.toArray.any (Cn x)=cy.any (Cn x) by simp,qo r fs]
  exact q
theorem ye:ox X (compareOp .NotIn) (XR X.K true):=by
 intro pins s σ H x y v u Q I rx ry h
 obtain⟨p,xs,rfl,hq,fx,fs,q⟩:=h
 cases ry
 rcases hq with hq|hq
 ·obtain⟨cy,r,pl,hz⟩:=I.list hq
  refine SeqAt.notIn_listAt (Cn x) pl.isList (fun w hw=>mK rx fx r fs w (by simpa using hw)) ⟨.bl _,H,I,rfl,?_⟩
  rw[show cy.toArray.any (Cn x)=cy.any (Cn x) by simp,qo r fs]
  exact q
 ·obtain⟨cy,r,pl,hz⟩:=I.tuple hq
  refine SeqAt.notIn_tupleAt (Cn x) pl (fun w hw=>mK rx fx r fs w (by simpa using hw)) ⟨.bl _,H,I,rfl,?_⟩
  rw[show cy.toArray.any (Cn x)=cy.any (Cn x) by simp,qo r fs]
  exact q
theorem bz:iz X (.builtin "len") (fun xs H Q=> ∃p ys,xs=[.ref p]/\(bQ X.K H p ys∨cM X.K H p ys)/\Q (.int ys.length) H):=by
 intro pins s σ H xs us Q I r h
 obtain⟨p,ys,rfl,hq,q⟩:=h
 obtain⟨u,rfl,rx⟩:=vals1 r
 cases rx
 have hn:=xY
 rcases hq with hq|hq
 ·obtain⟨cy,r',pl,hz⟩:=I.list hq
  have hlen:=r'.length
  exact Calls.call_len_list pl.isList (by simp only[List.size_toArray] <;> omega) ⟨.int ys.length,H,I.tok _,⟨s.toks + 1,by rw[List.size_toArray,hlen]⟩,q⟩
 ·obtain⟨cy,r',pl,hz⟩:=I.tuple hq
  have hlen:=r'.length
  exact len_tuple pl (by simp only[List.size_toArray] <;> omega) ⟨.int ys.length,H,I.tok _,⟨s.toks + 1,by rw[List.size_toArray,hlen]⟩,q⟩
theorem lP:iz X (.type "list") (fun xs H Q=> ∃p ys,xs=[.ref p]/\(bQ X.K H p ys∨cM X.K H p ys)/\ ∀l,H l=none->Q (.ref l) (upd H l (.lst ys))):=by
 intro pins s σ H xs us Q I r h
 obtain⟨p,ys,rfl,hq,q⟩:=h
 obtain⟨u,rfl,rx⟩:=vals1 r
 cases rx
 have fin: ∀(cy:List Value),Vals ys cy->ys.length<=sizeLine-> ∀(h':Heap) (c':Nat),(∀b o',s.heap.get? b=some o'->h'.get? b=some o')->
   h'.get? s.heap.objs.size=some {cls:= .type "list",dict:=none,data:= .seq cy.toArray c',slots:= #[]}->EP X pins σ Q (.ref s.heap.objs.size) {s with heap:=h'}:=fun cy r' hz h' c' kp e=>
  ⟨.ref s.heap.objs.size,_,I.laid (t':=s.toks) kp (aB _) (show dI X.prog X.w _ h' _ (.lst ys) from⟨hz,cy,c',r',e⟩),rfl,q _ (I.cH.fresh (aB _))⟩
 rcases hq with hq|hq
 ·obtain⟨cy,r',pl,hz⟩:=I.list hq
  have hlen:=r'.length
  obtain⟨o,ho,hc,n,hd⟩:=pl.isList
  exact call_list_seq p (.inl rfl) ho hc hd (fun h' c' kp e=>fin cy r' hz h' c' kp e) (by simp only[List.size_toArray] <;> omega)
 ·obtain⟨cy,r',pl,hz⟩:=I.tuple hq
  have hlen:=r'.length
  obtain⟨o,ho,hc,n,hd⟩:=pl
  exact call_list_seq p (.inr rfl) ho hc hd (fun h' c' kp e=>fin cy r' hz h' c' kp e) (by simp only[List.size_toArray] <;> omega)
theorem vL:iz X (.type "tuple") (fun xs H Q=> ∃p ys,xs=[.ref p]/\((bQ X.K H p ys/\ ∀l,H l=none->Q (.ref l) (upd H l (.tup ys)))∨(cM X.K H p ys/\Q (.ref p) H))):=by
 intro pins s σ H xs us Q I r h
 obtain⟨p,ys,rfl,h⟩:=h
 obtain⟨u,rfl,rx⟩:=vals1 r
 cases rx
 rcases h with⟨hq,q⟩|⟨hq,q⟩
 ·obtain⟨cy,r',pl,hz⟩:=I.list hq
  have hlen:=r'.length
  refine call_tuple_list pl.isList (fun h' kp=>?_) (by simp only[List.size_toArray] <;> omega)
  have I1:Inv X pins σ H {s with heap:=h'}:=I.kept (t':=s.toks) kp
  have I2:Inv X pins σ (upd H h'.objs.size (.tup ys)) {s with heap:=h'.push {cls:= .type "tuple",data:= .seq cy.toArray}}:=
   I1.laid (t':=s.toks) (fun b o e=>ax _ e) (aB _) (show dI X.prog X.w _ _ _ (.tup ys) from⟨hz,cy,r',IsTup.new _ _⟩)
  exact⟨.ref h'.objs.size,_,I2,rfl,q _ (I1.cH.fresh (aB _))⟩
 ·obtain⟨cy,r',pl,hz⟩:=I.tuple hq
  exact call_tuple_same pl ⟨.ref p,H,I,rfl,q⟩
def U8 (K:PySem.W.Frag)(T:String)(x:V)(H:Hp):Prop:=match x with
 | .str _=>T="str"
 | .int _=>T="int"
 | .ref p=>(T="list"/\ ∃xs,bQ K H p xs)∨(T="tuple"/\ ∃o,K.lookup p=some o/\o.cls= .type "tuple"/\o.dict=none)∨
   (T="dict"/\((∃bo,H p=some (.dK bo))∨ ∃bo,H p=some (.dT bo)))∨(T="set"/\ ∃S n,H p=some (.set S n))
 |_=>False
theorem Hr {pins:List (Addr×Obj)}{σ:St}{H:Hp}{s:Shared}{T:String}{x:V}{v:Value}(I:Inv X pins σ H s)(r:RelV x v)(ty:U8 X.K T x H):
  s.TypeIs v T/\ ∀a,v= .ref a-> ∃ob,s.heap.get? a=some ob/\ob.dict=none:=by
 cases x with
 |str z=>
  obtain⟨t,rfl⟩:=r
  cases(show T="str" from ty)
  exact⟨typeIs_str s z t,fun _ e=>nomatch e⟩
 |int i=>
  obtain⟨t,rfl⟩:=r
  cases(show T="int" from ty)
  exact⟨typeIs_int s i t,fun _ e=>nomatch e⟩
 |ref p=>
  cases r
  rcases ty with⟨rfl,xs,hq⟩|⟨rfl,o,hk,hc,hd⟩|⟨rfl,hk⟩|⟨rfl,S,n,hk⟩
  ·obtain⟨cy,_,pl,_⟩:=I.list hq
   refine⟨pl.isList.typeIs,fun a e=>?_⟩
   cases e
   obtain⟨o,n,e,c,hd,_⟩:=pl
   exact⟨o,e,hd⟩
  ·refine⟨⟨o,I.gP p o hk,hc⟩,fun a e=>?_⟩
   cases e
   exact⟨o,I.gP _ o hk,hd⟩
  ·have z: ∃o,s.heap.get? p=some o/\o.ExactDict:=by
    rcases hk with⟨bo,hk⟩|⟨bo,hk⟩
    ·obtain⟨_,_,_,_,o,_,_,e,ex,_⟩:=I.cH p _ hk
     exact⟨o,e,ex⟩
    ·obtain⟨_,_,_,_,o,_,_,e,ex,_⟩:=I.cH p _ hk
     exact⟨o,e,ex⟩
   obtain⟨o,e,ex⟩:=z
   refine⟨⟨o,e,ex.1⟩,fun a e2=>?_⟩
   cases e2
   exact⟨o,e,ex.2.1⟩
  ·obtain⟨o,_,_,_,e,ex,_⟩:=I.cH p _ hk
   refine⟨⟨o,e,ex.1⟩,fun a e2=>?_⟩
   cases e2
   exact⟨o,e,ex.2.1⟩
 |_=>exact False.elim ty
def U9 (K:PySem.W.Frag)(T:String)(r:V->List V->Hp->VK->Prop)(to:TE):TE:=fun σ H Q=>to σ H fun x H1=>U8 K T x H1/\r x [] H1 Q
def ZL (K:PySem.W.Frag)(T:String)(r:V->List V->Hp->VK->Prop)(to:TE)(t:TA):TE:=fun σ H Q=>to σ H fun x H1=>U8 K T x H1/\t σ H1 fun xs H2=>r x xs H2 Q
variable {o e:Expr}{es:List Expr}{to:TE}{t:TA}{name:Str}{apos gR:Pos}{T id:String}{r:V->List V->Hp->VK->Prop}
theorem Nj (pa:PlainAttrs T)(slot:Slot T name id)(Tw:typeOf (.builtin id)=pure (.type "method_descriptor"))(hm:XQ X id r)(ho:PE X o to)
  (ua:attributeBase o name X.env (eval o X.env)=eval o X.env:=by rfl) (Ae:(apos.endLine == gR.line)=true:=by rfl):PE X (.Call (.Attribute o name apos) [] [] gR) (U9 X.K T r to):=by
 intro pins s σ H Q I h
 refine wpAny_Call_method0_late ua Ae (ej (ho pins s σ H _ I h) fun v s1 ⟨x,H1,I1,r1,ty,q1⟩=>?_)
 obtain⟨h1,h2⟩:=Hr I1 r1 ty
 exact⟨T,id,pa,slot,Tw,h1,h2,iT rfl (PySem.evalArgs_none (hm pins s1 σ H1 x [] v [] Q I1 r1 .nil q1))⟩
theorem fq (pa:PlainAttrs T)(slot:Slot T name id)(Tw:typeOf (.builtin id)=pure (.type "method_descriptor"))(hm:XQ X id r)(ho:PE X o to)(ha:PA X (e :: es) t)
  (ua:attributeBase o name X.env (eval o X.env)=eval o X.env:=by rfl)
  (Va:((backTo gR (starEach (e :: es) X.env)).all (fun x=> !x.1) && (backToKw gR (keywordEach [] X.env)).all (fun x=>x.1.isSome)
   && decide ((e :: es).length + ([]:List Keyword).length + (if([]:List Keyword).isEmpty then 0 else 1) < 30))=true:=by rfl)
  (Ae:(apos.endLine == gR.line)=true:=by rfl) (hs:starEach (e :: es) X.env=(false,eval e X.env) :: starEach es X.env:=by rfl) (Co:(backTo gR (starEach es X.env)).any (·.1)=false:=by rfl):
  PE X (.Call (.Attribute o name apos) (e :: es) [] gR) (ZL X.K T r to t):=by
 intro pins s σ H Q I h
 refine wpAny_Call_method_late ua Va Ae rfl (ej (ho pins s σ H _ I h) fun v s1 ⟨x,H1,I1,r1,ty,q1⟩=>?_)
 obtain⟨h1,h2⟩:=Hr I1 r1 ty
 refine⟨T,id,pa,slot,Tw,h1,h2,?_⟩
 have hA:=ha gR pins s1 σ H1 _ I1 q1
 rw[hs] at hA ⊢
 refine iT (by show(false || (backTo gR (starEach es X.env)).any (·.1))=false; rw[Co] <;> rfl) (ER ?_)
 exact ej hA fun us s2 ⟨vs,H2,I2,r2,q2⟩=>hm pins s2 σ H2 x vs v us Q I2 r1 r2 q2
end
def XS (X:Cx)(id:String)(r:V->List V->Hp->VK->Prop):Prop:=
 ∀(pins:List (Addr×Obj)) (s:Shared) (σ:St) (H:Hp) (x:V) (xs:List V) (v:Value) (us:List Value) (Q:VK),Inv X pins σ H s->RelV x v->Vals xs us->r x xs H Q->
  wpAny (model X.prog X.w) X.A (call (.builtin id) (v :: us)) (EP X pins σ Q) X.xe s
theorem Vals.one: ∀{x:V} {us:List Value},Vals [x] us-> ∃u,us=[u]/\RelV x u
 |_,_,.cons r .nil=>⟨_,rfl,r⟩
theorem Vals.zero: ∀{us:List Value},Vals [] us->us=[]
 |_,.nil=>rfl
theorem Vals.dropLast {xs:List V}{us:List Value}(h:Vals xs us):Vals xs.dropLast us.dropLast:=by
 induction h with
 |nil=>exact .nil
 |cons r t ih=>
  cases t with
  |nil=>exact .nil
  |cons q t'=>exact .cons r ih
theorem Vals.rep {xs:List V}{us:List Value}(h:Vals xs us): ∀k:Nat,Vals (List.replicate k xs).flatten (List.replicate k us).flatten
 |0=> .nil
 |k + 1=>by
  rw[dC,dC,iU,iU]
  exact Vals.append h (Vals.rep h k)
theorem Cp {α:Type}(l:List α):l.eraseIdx (l.length - 1)=l.dropLast:=by
 induction l with
 |nil=>rfl
 |cons a r ih=>
  cases r with
  |nil=>rfl
  |cons b r=>
   have e:(a :: b :: r).length - 1=((b :: r).length - 1) + 1:=by
    have h1:(a :: b :: r).length=r.length + 2:=rfl
    have h2:(b :: r).length=r.length + 1:=rfl
    omega
   rw[e,List.eraseIdx_cons_succ,ih]
   all_goals rfl
theorem foldl_rep (cy:List Value): ∀(k:Nat) (acc:List Value),
  List.foldl (fun x1 x2=>x1 ++ x2) acc.toArray (List.replicate k cy.toArray)=(acc ++ (List.replicate k cy).flatten).toArray
 |0,acc=>by simp
 |k + 1,acc=>by
  have e:acc.toArray ++ cy.toArray=(acc ++ cy).toArray:=by simp
  have e2:(acc ++ cy) ++ (List.replicate k cy).flatten=acc ++ (List.replicate (k + 1) cy).flatten:=by
   rw[dC,iU,gH]
  rw[← e2,← foldl_rep cy k (acc ++ cy),← e,dC,dR]
section
variable {X:Cx}{pins:List (Addr×Obj)}{σ:St}{H:Hp}{s:Shared}{l b:Addr}{xs ys zs:List V}
theorem Inv.QA {cy qg:List Value}{n:Nat}{f:Array Value->Array Value}{t':Nat}(I:Inv X pins σ H s)(hH:H l=some (.lst xs))
  (e:s.heap.get? l=some {cls:= .type "list",data:= .seq cy.toArray n}) (hf:f cy.toArray=qg.toArray) (hv:Vals ys qg) (hz:ys.length<=sizeLine):
  Inv X pins σ (upd H l (.lst ys)) {s with heap:=s.heap.update l (Obj.mapSeq f),toks:=t'}:=by
 have q:=PySem.IsL.update e f
 rw[hf] at q
 refine I.write (x:=l) (e:=l) (by rw[hH]; exact trivial) (.inl rfl) (fun b' u hb hu=>(my s.heap (Obj.mapSeq f) (vw hb)).trans hu) ⟨_,q⟩ ?_
 exact⟨hz,qg,_,hv,q⟩
theorem Inv.Nk {cy:List Value}{t':Nat}(I:Inv X pins σ H s)(hv:Vals ys cy)(hz:ys.length<=sizeLine):
  Inv X pins σ (upd H s.heap.objs.size (.lst ys)) {s with heap:=s.heap.push {cls:= .type "list",data:= .seq cy.toArray},toks:=t'}:=
 I.laid (fun _ _ q=>ax _ q) (aB _) ⟨hz,cy,0,hv,bS _ rfl⟩
theorem Inv.fresh (I:Inv X pins σ H s):H s.heap.objs.size=none:=I.cH.fresh (aB _)
theorem Inv.Hs (I:Inv X pins σ H s)(hH:H l=some (.lst xs)):xs.length<=sizeLine/\ ∃(cy:List Value) (n:Nat),Vals xs cy/\xs.length=cy.length/\s.heap.get? l=some {cls:= .type "list",data:= .seq cy.toArray n}:=by
 obtain⟨z,cy,n,r,e⟩:=I.cH l _ hH
 exact⟨z,cy,n,r,r.length,e⟩
theorem Ht {n:Nat}(h:n<=sizeLine):Builtin.List.listTooLong n=false:=by
 unfold Builtin.List.listTooLong
 exact bN (by omega)
end
section
variable {X:Cx}
def Kp:V->List V->Hp->VK->Prop:=fun x vs H Q=> ∃l xs y,x= .ref l/\vs=[y]/\H l=some (.lst xs)/\xs.length < sizeLine/\Q .eI (upd H l (.lst (xs ++ [y])))
theorem bZ:XS X "list.append" Kp:=by
 intro pins s σ H x vs v us Q I rx rv h
 obtain⟨l,xs,y,rfl,rfl,hH,hz,q⟩:=h
 cases rx
 obtain⟨u,rfl,ru⟩:=rv.one
 obtain⟨z,cy,n,r,hl,e⟩:=I.Hs hH
 refine call_meets aH ⟨_,e,rfl⟩ F.entry_list_append (F.args_list_append_2 _ _) (PySem.list_append l cy.toArray n u (by rw[bA]; omega)) ⟨e,?_⟩
 refine⟨.eI,_,I.QA (qg:=cy ++ [u]) hH e (by simp) (r.append (.cons ru .nil)) ?_,rfl,q⟩
 rw[aF,List.length_singleton]
 omega
def Vb:V->List V->Hp->VK->Prop:=fun x vs H Q=> ∃l xs y,x= .ref l/\vs=[]/\H l=some (.lst xs)/\xs[xs.length - 1]? =some y/\Q y (upd H l (.lst xs.dropLast))
theorem Nl:XS X "list.pop" Vb:=by
 intro pins s σ H x vs v us Q I rx rv h
 obtain⟨l,xs,y,rfl,rfl,hH,hy,q⟩:=h
 cases rx
 have Vc:=rv.zero
 subst Vc
 obtain⟨z,cy,n,r,hl,e⟩:=I.Hs hH
 obtain⟨u,hu,ru⟩:=r.get hy
 have ZM:cy.toArray[cy.toArray.size - 1]? =some u:=by
  show cy.toArray[cy.length - 1]? =some u
  rw[← Array.getElem?_toList,← hl]
  exact hu
 refine call_meets F.slot_list_pop ⟨_,e,rfl⟩ F.entry_list_pop (F.args_list_pop_1 _) (MeetsSeq.list_pop_last l cy.toArray n u ZM (by rw[bA]; omega)) ⟨e,?_⟩
 refine⟨y,_,I.QA (qg:=cy.dropLast) hH e ?_ r.dropLast ?_,ru,q⟩
 ·show cy.toArray.eraseIdxIfInBounds (cy.toArray.size - 1)=cy.dropLast.toArray
  rw[bA,List.eraseIdxIfInBounds_toArray,Cp]
 ·rw[List.length_dropLast]
  omega
def QB:R2:=fun x y H Q=> ∃l b xs zs,x= .ref l/\y= .ref b/\H l=some (.lst xs)/\H b=some (.lst zs)/\xs.length + zs.length<=sizeLine/\ ∀p,H p=none->Q (.ref p) (upd H p (.lst (xs ++ zs)))
theorem lQ:ox X (binaryOp .Add) QB:=by
 intro pins s σ H x y v u Q I rx ry h
 obtain⟨l,b,xs,zs,rfl,rfl,hH,hB,hz,q⟩:=h
 cases rx
 cases ry
 obtain⟨z,cy,n,r,hl,e⟩:=I.Hs hH
 obtain⟨z2,Fj,n2,r2,QC,e2⟩:=I.Hs hB
 refine PySem.P.add_list e e2 ?_ (by rw[bA,bA]; omega)
 have ea:cy.toArray ++ Fj.toArray=(cy ++ Fj).toArray:=by simp
 rw[ea]
 exact⟨.ref _,_,I.Nk (t':=s.toks) (r.append r2) (by rw[aF]; omega),rfl,q _ I.fresh⟩
def QD:R2:=fun x y H Q=> ∃l k xs,x= .ref l/\y= .int k/\H l=some (.lst xs)/\ -(2 ^ 63)<=k/\k < 2 ^ 63/\xs.length * k.toNat<=sizeLine/\
 ∀p,H p=none->Q (.ref p) (upd H p (.lst (List.replicate k.toNat xs).flatten))
theorem len_rep {α:Type}(xs:List α)(k:Nat):(List.replicate k xs).flatten.length=k * xs.length:=by
 induction k with
 |zero=>simp
 |succ k ih=>rw[dC,iU,aF,ih,vz,Nat.add_comm]
theorem Cq:ox X (binaryOp .Mult) QD:=by
 intro pins s σ H x y v u Q I rx ry h
 obtain⟨l,k,xs,rfl,rfl,hH,h1,h2,hz,q⟩:=h
 cases rx
 obtain⟨t,rfl⟩:=ry
 obtain⟨z,cy,n,r,hl,e⟩:=I.Hs hH
 have hlen:cy.toArray.size * k.toNat<=sizeLine:=by rw[bA,← hl]; exact hz
 have Vd: ¬ cy.toArray.size * k.toNat > (2 ^ 63 - 1) / 8:=by
  have:(sizeLine:Nat)<=(2 ^ 63 - 1) / 8:=by decide
  omega
 have Ve: ¬ (!Builtin.List.listFitsIndex k)=true:=by
  rw[fitsIndex_both h1 h2]
  exact aZ
 have QE: ¬ Builtin.List.listTooLong (cy.toArray.size * k.toNat)=true:=by
  rw[Ht hlen]
  exact aZ
 have Vf:List.foldl (fun x1 x2=>x1 ++ x2) #[] (List.replicate (if cy.toArray.isEmpty=true then 0 else k.toNat) cy.toArray)=(List.replicate k.toNat cy).flatten.toArray:=by
  have f0: ∀m:Nat,List.foldl (fun x1 x2=>x1 ++ x2) #[] (List.replicate m cy.toArray)=(List.replicate m cy).flatten.toArray:=fun m=>by
   have:=foldl_rep cy m []
   rw[List.nil_append] at this
   exact this
  rw[f0]
  cases cy with
  |nil=>simp
  |cons a r'=>rw[if_neg (by simp)]
 refine wpAny_binaryOp_repeat_ref (T:="list") (U:="int") (by decide) ⟨_,e,rfl⟩ (fun s'=>typeIs_int s' k t) noFill_list_mul F.fills_int_mul F.slot_int_rmul repeat_list F.slot_int_index.lookup
  (call_meets F.slot_int_rmul (typeIs_int s k t) F.entry_int_rmul (F.args_int_rmul_2 _ _) (int___rmul___int_list k t l cy.toArray n)
   ⟨e,rfl,⟨_,e,rfl⟩,call_meets F.slot_list_mul ⟨_,e,rfl⟩ F.entry_list_mul (F.args_list_mul_2 _ _) (AutoListH.list___mul___list_int_3 l cy.toArray n k t Ve Vd QE) ⟨e,?_⟩⟩)
 rw[Vf]
 exact⟨.ref _,_,I.Nk (t':=s.toks) (r.rep k.toNat) (by rw[len_rep,Nat.mul_comm]; exact hz),rfl,q _ I.fresh⟩
end
section
variable {prog:Program}{w:World}{A:Around}{E:Value->Shared->Prop}{s:Shared}
end
section
variable {X:Cx}
end
section
variable {κ:Type}[DecidableEq κ]
def gq (bo:List (κ×V))(k:κ):Option V:=(bo.find? fun kv=>decide (kv.1=k)).map (·.2)
def putK (bo:List (κ×V))(k:κ)(v:V):List (κ×V):=
 if(bo.any fun kv=>decide (kv.1=k))=true then bo.map (fun kv=>if kv.1=k then(kv.1,v) else kv) else bo ++ [(k,v)]
def k8 (bo:List (κ×V))(k:κ):List (κ×V):=bo.filter fun kv=>decide (kv.1≠k)
theorem fN {p:κ×V}{r:List (κ×V)}{k:κ}(e:p.1=k):gq (p :: r) k=some p.2:=by simp[gq,List.find?_cons,e]
theorem fu {p:κ×V}{r:List (κ×V)}{k:κ}(e: ¬ p.1=k):gq (p :: r) k=gq r k:=by simp[gq,List.find?_cons,e]
theorem mL (k:κ): ∀bo:List (κ×V),(bo.any fun kv=>decide (kv.1=k))=(gq bo k).isSome
 |[]=>rfl
 |p :: r=>by
  rw[sT]
  by_cases e:p.1=k
  ·simp only[fN e,decide_eq_true e,Bool.true_or,Option.isSome_some]
  ·rw[fu e,bN e,Bool.false_or]; exact mL k r
theorem Af (k j:κ)(y:V): ∀bo:List (κ×V),gq (bo.map fun kv=>if kv.1=k then(kv.1,y) else kv) j=(gq bo j).map fun x=>if j=k then y else x
 |[]=>rfl
 |p :: r=>by
  have ih:=Af k j y r
  rw[dj]
  by_cases h:p.1=k
  ·rw[a8 h]
   by_cases e:p.1=j
   ·rw[fN (p:=(p.1,y)) e,fN e,oo,a8 (e.symm.trans h)]
   ·rw[fu (p:=(p.1,y)) e,fu e,ih]
  ·rw[aQ h]
   by_cases e:p.1=j
   ·rw[fN (p:=p) e,fN e,oo,aQ (fun z=>h (e.trans z))]
   ·rw[fu (p:=p) e,fu e,ih]
theorem xg (k j:κ)(y:V): ∀bo:List (κ×V),gq bo k=none->gq (bo ++ [(k,y)]) j=if j=k then some y else gq bo j
 |[],_=>by
  by_cases e:k=j
  ·rw[a8 e.symm]; exact fN (p:=(k,y)) e
  ·rw[aQ (fun z=>e z.symm)]; exact fu (p:=(k,y)) e
 |p :: r,hn=>by
  rw[List.cons_append]
  have hk: ¬ p.1=k:=fun z=>by rw[fN z] at hn; cases hn
  rw[fu hk] at hn
  have ih:=xg k j y r hn
  by_cases e:p.1=j
  ·rw[fN e,fN e,aQ (fun z=>hk (e.trans z))]
  ·rw[fu e,fu e,ih]
theorem Hu (bo:List (κ×V))(k j:κ)(y:V):gq (putK bo k y) j=if j=k then some y else gq bo j:=by
 unfold putK
 by_cases a:(bo.any fun kv=>decide (kv.1=k))=true
 ·rw[a8 a,Af]
  rw[mL] at a
  by_cases e:j=k
  ·obtain⟨x,hx⟩:=Pg.mp a
   rw[a8 e,e,hx,oo,a8 rfl]
  ·rw[aQ e]
   cases gq bo j with
   |none=>rfl
   |some x=>rw[oo,aQ e]
 ·rw[aQ a]
  refine xg k j y bo ?_
  rw[mL] at a
  cases q:gq bo k with
  |none=>rfl
  |some x=>rw[q] at a; exact(a rfl).elim
theorem kz (bo:List (κ×V))(k:κ)(v:V):(putK bo k v).length<=bo.length + 1:=by
 unfold putK
 split
 ·rw[ae]; omega
 ·rw[aF,cu,vA]; omega
theorem Hv {bo:List (κ×V)}{k:κ}(v:V)(h:gq bo k=none):putK bo k v=bo ++ [(k,v)]:=by
 unfold putK
 rw[mL,h]
 exact aQ (by decide)
theorem k4.k9 {o:Option V}{u:Option Value}(r:k4 o u):o.isSome=u.isSome:=by
 cases o with
 |none=>cases u with
  |none=>rfl
  |some _=>exact(show False from r).elim
 |some _=>cases u with
  |none=>exact(show False from r).elim
  |some _=>rfl
theorem KV.val {bo:List (κ×V)}{vs:List (κ×Value)}(r:KV bo vs)(k:κ):k4 (gq bo k) (valueAt vs k):=by
 unfold KV at r
 induction r with
 |nil=>exact True.intro
 | @cons p q ps qs h t ih=>
  obtain⟨h1,h2⟩:=h
  by_cases e:p.1=k
  ·have e':q.1=k:=h1.symm.trans e
   have b:valueAt (q :: qs) k=some q.2:=by simp[valueAt,List.find?_cons,e']
   rw[fN e,b]; exact h2
  ·have e': ¬ q.1=k:=fun z=>e (h1.trans z)
   have b:valueAt (q :: qs) k=valueAt qs k:=by simp[valueAt,List.find?_cons,e']
   rw[fu e,b]; exact ih
theorem KV.any {bo:List (κ×V)}{vs:List (κ×Value)}(r:KV bo vs)(k:κ):(bo.any fun kv=>decide (kv.1=k))=vs.any fun kv=>decide (kv.1=k):=by
 unfold KV at r
 induction r with
 |nil=>rfl
 |cons h t ih=>rw[sT,sT,ih,h.1]
theorem KV.Nm {bo:List (κ×V)}{vs:List (κ×Value)}(r:KV bo vs)(k:κ){y:V}{u:Value}(ry:RelV y u):
  KV (bo.map fun kv=>if kv.1=k then(kv.1,y) else kv) (vs.map fun kv=>if kv.1=k then(kv.1,u) else kv):=by
 unfold KV at r ⊢
 induction r with
 |nil=>exact .nil
 | @cons p q ps qs h t ih=>
  rw[dj,dj]
  refine .cons ?_ ih
  obtain⟨h1,h2⟩:=h
  by_cases e:p.1=k
  ·rw[a8 e,a8 (h1.symm.trans e)]; exact⟨h1,ry⟩
  ·rw[aQ e,aQ (fun z=>e (h1.trans z))]; exact⟨h1,h2⟩
theorem KV.put {bo:List (κ×V)}{vs:List (κ×Value)}(r:KV bo vs)(k:κ){y:V}{u:Value}(ry:RelV y u):KV (putK bo k y) (stored vs k u):=by
 unfold putK stored
 rw[r.any k]
 by_cases e:(vs.any fun kv=>decide (kv.1=k))=true
 ·rw[a8 e,a8 e]; exact r.Nm k ry
 ·rw[aQ e,aQ e]; exact cV r ⟨rfl,ry⟩
theorem KV.drop {bo:List (κ×V)}{vs:List (κ×Value)}(r:KV bo vs)(k:κ):KV (k8 bo k) (without vs k):=by
 unfold KV at r ⊢
 unfold k8 without
 induction r with
 |nil=>exact .nil
 | @cons p q ps qs h t ih=>
  obtain⟨h1,h2⟩:=h
  rw[List.filter_cons,List.filter_cons]
  by_cases e:p.1=k
  ·have a: ¬ decide (p.1≠k)=true:=by simp[e]
   have b: ¬ decide (q.1≠k)=true:=by simp[h1.symm.trans e]
   rw[aQ a,aQ b]; exact ih
  ·have e': ¬ q.1=k:=fun z=>e (h1.trans z)
   have a:decide (p.1≠k)=true:=by simp[e]
   have b:decide (q.1≠k)=true:=by simp[e']
   rw[a8 a,a8 b]; exact .cons ⟨h1,h2⟩ ih
theorem KV.length {bo:List (κ×V)}{vs:List (κ×Value)}(r:KV bo vs):bo.length=vs.length:=aX r
theorem Hw (bo:List (κ×V))(k:κ):(k8 bo k).length<=bo.length:=a7 _ _
end
theorem ub {P:Program}{w:World}{k:Key}{u:Value}(r:RelV (kV k) u):(d8 P w).is k u=true:=by
 cases k with
 |inl i=>obtain⟨t,e⟩:=(show ∃t,u=Value.int i t from r); subst e; exact zU P w i t
 |inr x=>obtain⟨t,e⟩:=(show ∃t,u=Value.str x t from r); subst e; exact zV P w x t
theorem xh {P:Program}{w:World}: ∀{ks:List Key} {us:List Value},Vals (ks.map kV) us->ItemsAre (d8 P w) ks us
 |[],_,r=>by rw[vy] at r; cases r; exact .nil
 |k :: ks,_,r=>by
  rw[dj] at r
  cases r with
  |cons h t=>exact .cons (ub h) (xh t)
abbrev KT (H:Hp):List (List Key×V)->List (List Key×Addr×Value)->Prop:=Paired fun p q=>p.1=q.1/\H q.2.1=some (.tup (p.1.map kV))/\RelV p.2 q.2.2
theorem KT.val {H:Hp}{bo:List (List Key×V)}{xs:List (List Key×Addr×Value)}(r:KT H bo xs)(k:List Key):k4 (gq bo k) ((atKey xs k).map (·.2)):=by
 induction r with
 |nil=>exact True.intro
 | @cons p q ps qs h t ih=>
  obtain⟨h1,_,h2⟩:=h
  by_cases e:p.1=k
  ·have e':q.1=k:=h1.symm.trans e
   have b:atKey (q :: qs) k=some q.2:=by simp[atKey,List.find?_cons,e']
   rw[fN e,b]; exact h2
  ·have e': ¬ q.1=k:=fun z=>e (h1.trans z)
   have b:atKey (q :: qs) k=atKey qs k:=by simp[atKey,List.find?_cons,e']
   rw[fu e,b]; exact ih
theorem KT.Nm {H:Hp}{bo:List (List Key×V)}{xs:List (List Key×Addr×Value)}(r:KT H bo xs)(k:List Key){y:V}{u:Value}(ry:RelV y u):
  KT H (bo.map fun kv=>if kv.1=k then(kv.1,y) else kv) (xs.map (putAt k u)):=by
 induction r with
 |nil=>exact .nil
 | @cons p q ps qs h t ih=>
  rw[dj,dj]
  refine .cons ?_ ih
  obtain⟨h1,h2,h3⟩:=h
  unfold putAt
  by_cases e:p.1=k
  ·rw[a8 e,a8 (h1.symm.trans e)]; exact⟨h1,h2,ry⟩
  ·rw[aQ e,aQ (fun z=>e (h1.trans z))]; exact⟨h1,h2,h3⟩
theorem KT.put {H:Hp}{bo:List (List Key×V)}{xs:List (List Key×Addr×Value)}(r:KT H bo xs)(k:List Key){b:Addr}{y:V}{u:Value}(hb:H b=some (.tup (k.map kV)))(ry:RelV y u):
  KT H (putK bo k y) (storedH xs k b u):=by
 have e:(bo.any fun kv=>decide (kv.1=k))=(atKey xs k).isSome:=by
  rw[mL,(r.val k).k9,ES]
 unfold putK storedH
 rw[e]
 by_cases q:(atKey xs k).isSome=true
 ·rw[a8 q,a8 q]; exact r.Nm k ry
 ·rw[aQ q,aQ q]; exact cV r ⟨rfl,hb,ry⟩
theorem KT.keeps {H H':Hp}{bo:List (List Key×V)}{xs:List (List Key×Addr×Value)}(r:KT H bo xs)(ht: ∀b ys,H b=some (.tup ys)->H' b=some (.tup ys)):KT H' bo xs:=
 Paired.iV r fun _ _ z=>⟨z.1,ht _ _ z.2.1,z.2.2⟩
section
variable {P:Program}{w:World}{H:Hp}{h:Heap}{a:Addr}
theorem Me {u:HO}(ok:ow P w H h)(e:Rd H a u):dI P w H h a u:=e.ok ok
theorem uc {bo:List (Key×V)}(ok:ow P w H h)(e:Rd H a (.dK bo)):bo.length<=sizeLine/\(a == sysModules)=false/\ ∃vs,KV bo vs/\h.DictOf (d8 P w) a vs:=
 show dI P w H h a (.dK bo) from Me ok e
theorem DK {bo:List (Key×V)}(ok:ow P w H h)(e:H a=some (.dK bo)):bo.length<=sizeLine/\(a == sysModules)=false/\ ∃vs,KV bo vs/\h.DictOf (d8 P w) a vs:=uc ok (.inl e)
theorem ud {ks:List Key}(ok:ow P w H h)(e:H a=some (.tup (ks.map kV))):(tupleKind (d8 P w)).is h ks a:=by
 obtain⟨_,cy,r,o,h1,h2,n,h3⟩:=(show dI P w H h a (.tup (ks.map kV)) from ok a _ e)
 exact⟨o,cy.toArray,n,h1,h2,h3,by simpa using xh r⟩
theorem xi {bo:List (List Key×V)}(ok:ow P w H h)(e:Rd H a (.dT bo)):bo.length<=sizeLine/\(a == sysModules)=false/\
  ∃xs,KT H bo xs/\h.DictOfH (tupleKind (d8 P w)) a xs:=by
 obtain⟨z,y,xs,r,o,es,ep,h1,h2,h3,h4,h5⟩:=(show dI P w H h a (.dT bo) from Me ok e)
 refine⟨z,y,xs,r,o,es,ep,h1,h2,h3,h4,fun x hx=>?_,h5⟩
 have all: ∀{l:List (List Key×V)} {m:List (List Key×Addr×Value)},KT H l m-> ∀x∈m,(tupleKind (d8 P w)).is h x.1 x.2.1:=by
  intro l m q
  induction q with
  |nil=>intro x hx; exact nomatch hx
  | @cons p q ps qs hq t ih=>
   intro x hx
   rcases aw.mp hx with e|hx
   ·subst e
    exact ud ok (by rw[← hq.1]; exact hq.2.1)
   ·exact ih x hx
 exact all r x hx
theorem QF {bo:List (List Key×V)}(ok:ow P w H h)(e:H a=some (.dT bo)):bo.length<=sizeLine/\(a == sysModules)=false/\
  ∃xs,KT H bo xs/\h.DictOfH (tupleKind (d8 P w)) a xs:=xi ok (.inl e)
end
def mv (H:Hp)(a:Addr)(y:V)(r:Option V):Prop:=
 (∃bo k,Rd H a (.dK bo)/\y=kV k/\r=gq bo k)∨ ∃bo k b,Rd H a (.dT bo)/\y= .ref b/\H b=some (.tup (k.map kV))/\r=gq bo k
def Fl (H:Hp)(a:Addr)(y v:V)(H':Hp):Prop:=
 (∃bo k,H a=some (.dK bo)/\y=kV k/\bo.length < sizeLine/\H'=upd H a (.dK (putK bo k v)))∨
 ∃bo k b,H a=some (.dT bo)/\y= .ref b/\H b=some (.tup (k.map kV))/\bo.length < sizeLine/\H'=upd H a (.dT (putK bo k v))
theorem mv.k {H:Hp}{a:Addr}{bo:List (Key×V)}{k:Key}(e:H a=some (.dK bo)):mv H a (kV k) (gq bo k):= .inl ⟨bo,k,.inl e,rfl,rfl⟩
theorem Fl.k {H:Hp}{a:Addr}{bo:List (Key×V)}{k:Key}{v:V}(e:H a=some (.dK bo))(hl:bo.length < sizeLine):Fl H a (kV k) v (upd H a (.dK (putK bo k v))):= .inl ⟨bo,k,e,rfl,hl,rfl⟩
section
variable {X:Cx}{pins:List (Addr×Obj)}{σ:St}{H:Hp}{s:Shared}{a:Addr}{y v:V}{u r:Value}{o:Option V}{A:Around}{E:Value->Shared->Prop}
theorem Inv.big (I:Inv X pins σ H s):sysModules < s.heap.objs.size:=by
 have h:mainGlobals < s.heap.objs.size:=(I.mod.glob.keeps I.bk).lt
 exact Nat.lt_trans (by decide) h
theorem Fm {Q:Value->Shared->Prop}(hu:A.units + 1 < cLine)(I:Inv X pins σ H s)(g:mv H a y (some v))(ry:RelV y u)(h: ∀w' s',Inv X pins σ H s'->RelV v w'->Q w' s'):
  wpAny (model X.prog X.w) A (getItem (.ref a) u) Q E s:=by
 rcases g with⟨bo,k,e,ey,l⟩|⟨bo,k,b,e,ey,eb,l⟩
 ·subst ey
  obtain⟨z,hd,vs,rel,dd⟩:=uc I.cH e
  obtain⟨w',hw,Fh⟩:=k4.some_of (v:=v) (o:=valueAt vs k) (by rw[l]; exact rel.val k)
  exact wpAny_getItem_of (ub ry) dd.mapOf hw (h w' _ (I.tok _) Fh)
 ·subst ey
  cases(show u=Value.ref b from ry)
  obtain⟨z,hd,xs,rel,dd⟩:=xi I.cH e
  obtain⟨w',hw,Fh⟩:=k4.some_of (v:=v) (o:=(atKey xs k).map (·.2)) (by rw[l]; exact rel.val k)
  obtain⟨p,hp,xj⟩:=bM.mp hw
  refine wpAny_getItem_heap (tE hu) (ud I.cH eb) dd hp ?_
  rw[xj]
  exact h w' _ (I.tok _) Fh
theorem Vg {Q:Value->Shared->Prop}(hu:A.units + 1 < cLine)(I:Inv X pins σ H s)(g:mv H a y o)(ry:RelV y u)(h: ∀s',Inv X pins σ H s'->Q (.bool o.isSome) s'):
  wpAny (model X.prog X.w) A (compareOp .In u (.ref a)) Q E s:=by
 rcases g with⟨bo,k,e,ey,l⟩|⟨bo,k,b,e,ey,eb,l⟩
 ·subst ey
  obtain⟨z,hd,vs,rel,dd⟩:=uc I.cH e
  refine wpAny_in_of (ub ry) hd dd.mapOf ?_
  rw[← (rel.val k).k9,← l]
  exact h _ (I.tok _)
 ·subst ey
  cases(show u=Value.ref b from ry)
  obtain⟨z,hd,xs,rel,dd⟩:=xi I.cH e
  refine wpAny_in_heap (tE hu) (ud I.cH eb) hd dd ?_
  have q:=(rel.val k).k9
  rw[ES] at q
  rw[← q,← l]
  exact h _ (I.tok _)
theorem Kq {Q:Value->Shared->Prop}(hu:A.units + 1 < cLine)(I:Inv X pins σ H s)(g:mv H a y o)(ry:RelV y u)(h: ∀s',Inv X pins σ H s'->Q (.bool (!o.isSome)) s'):
  wpAny (model X.prog X.w) A (compareOp .NotIn u (.ref a)) Q E s:=by
 rcases g with⟨bo,k,e,ey,l⟩|⟨bo,k,b,e,ey,eb,l⟩
 ·subst ey
  obtain⟨z,hd,vs,rel,dd⟩:=uc I.cH e
  refine wpAny_notIn_of (ub ry) hd dd.mapOf ?_
  rw[← (rel.val k).k9,← l]
  exact h _ (I.tok _)
 ·subst ey
  cases(show u=Value.ref b from ry)
  obtain⟨z,hd,xs,rel,dd⟩:=xi I.cH e
  refine wpAny_notIn_heap (tE hu) (ud I.cH eb) hd dd ?_
  have q:=(rel.val k).k9
  rw[ES] at q
  rw[← q,← l]
  exact h _ (I.tok _)
theorem tI {h':Heap}{t':Nat}{ob:HO}(I:Inv X pins σ H s)(mu:P7 (H a))(hs:Heap.SameBut a s.heap h')(he: ∃q,h'.get? a=some q)(new:dI X.prog X.w (upd H a ob) h' a ob):
  Inv X pins σ (upd H a ob) {s with heap:=h',toks:=t'}:=
 I.write (x:=a) (e:=a) mu (.inl rfl) (fun b q hb z=>(hs.2 b hb).trans z) he new
theorem yf {P:Program}{w:World}{H':Hp}{h':Heap}{bo:List (Key×V)}{vs:List (Key×Value)}(z:bo.length<=sizeLine)(hd:(a == sysModules)=false)(rel:KV bo vs)(dd:h'.DictOf (d8 P w) a vs):
  dI P w H' h' a (.dK bo):=⟨z,hd,vs,rel,dd⟩
theorem Fn {H':Hp}{Q:Unit->Shared->Prop}(hu:A.units + 1 < cLine)(I:Inv X pins σ H s)(g:Fl H a y v H')(ry:RelV y u)(rv:RelV v r)(h: ∀s',Inv X pins σ H' s'->Q () s'):
  wpAny (model X.prog X.w) A (setItem (.ref a) u r) Q E s:=by
 rcases g with⟨bo,k,e,ey,l,eH⟩|⟨bo,k,b,e,ey,eb,l,eH⟩
 ·subst ey eH
  obtain⟨z,hd,vs,rel,dd⟩:=DK I.cH e
  have hz:vs.length<=sizeLine:=by rw[← rel.length]; exact z
  have hl:(putK bo k v).length<=sizeLine:=by have:=kz bo k v; omega
  refine wpAny_setItem_pairs (hsz:=hz) (ub ry) dd fun h' DM hs=>h _ ?_
  have he: ∃q,h'.get? a=some q:=let⟨q,_,_,hq,_⟩:=DM; ⟨q,hq⟩
  exact tI I (by rw[e]; exact True.intro) hs he (yf hl hd (rel.put k rv) DM)
 ·subst ey eH
  cases(show u=Value.ref b from ry)
  obtain⟨z,hd,xs,rel,dd⟩:=QF I.cH e
  have hz:xs.length<=sizeLine:=by rw[← aX rel]; exact z
  have hl:(putK bo k v).length<=sizeLine:=by have:=kz bo k v; omega
  refine wpAny_setItem_heap (hsz:=hz) (tE hu) (ud I.cH eb) dd fun h' DM hs=>h _ ?_
  obtain⟨q,es,ep,hq,h2,h3,h4,_,h5⟩:=DM
  refine tI I (by rw[e]; exact True.intro) hs ⟨q,hq⟩ ⟨hl,hd,_,(rel.put k eb rv).keeps fun c ys ec=>?_,q,es,ep,hq,h2,h3,h4,h5⟩
  rw[ay (md ec e (fun z=>nomatch z))]
  exact ec
end
section
variable {X:Cx}{pins:List (Addr×Obj)}{σ:St}{H:Hp}{s:Shared}{a:Addr}{bo:List (Key×V)}{k:Key}{u:Value}{A:Around}{E:Value->Shared->Prop}
theorem QG {v:V}{more:List Value}{Q:Value->Shared->Prop}(I:Inv X pins σ H s)(e:H a=some (.dK bo))(ry:RelV (kV k) u)(l:gq bo k=some v)(hm:more=[]∨ ∃x,more=[x])
  (h: ∀w' s',Inv X pins σ (upd H a (.dK (k8 bo k))) s'->RelV v w'->Q w' s'):wpAny (model X.prog X.w) A (call (.builtin "dict.pop") (.ref a :: u :: more)) Q E s:=by
 obtain⟨z,hd,vs,rel,dd⟩:=DK I.cH e
 obtain⟨w',hw,Fh⟩:=k4.some_of (v:=v) (o:=valueAt vs k) (by rw[← l]; exact rel.val k)
 have hp:(keyPart u).isSome=true:=by
  cases k with
  |inl i=>obtain⟨t,q⟩:=(show ∃t,u=Value.int i t from ry); subst q; rfl
  |inr x=>obtain⟨t,q⟩:=(show ∃t,u=Value.str x t from ry); subst q; rfl
 have ha:argsOk "dict.pop" ⟨.ref a :: u :: more,[]⟩:=by
  rcases hm with q|⟨x,q⟩
  ·subst q; exact PySem.F.args_dict_pop_2 _ _
  ·subst q; exact PySem.F.args_dict_pop_3 _ _ _
 refine call_meetsIn PySem.F.slot_dict_pop dd.typeIs PySem.F.entry_dict_pop ha (meets_dict_pop_there (d8 X.prog X.w) a (ub ry) more hm hp)
  ⟨vs,w',dd,by rw[← rel.length]; exact z,hw,fun h' DM hs=>h w' _ ?_ Fh⟩
 have he: ∃q,h'.get? a=some q:=let⟨q,_,_,hq,_⟩:=DM; ⟨q,hq⟩
 exact tI I (by rw[e]; exact True.intro) hs he (yf (a6 (Hw bo k) z) hd (rel.drop k) DM)
end
def QH (i:Expr):Prop:= ∀ov iv,subscripted i false ov iv=operate [ov,iv] (getItem ov iv)
theorem Kr {prog:Program}{w:World}{A:Around}{E:Value->Shared->Prop}{s:Shared}{env:Env}{value slice:Expr}{pos:Pos}{T id:String}{Q:Value->Shared->Prop}
  (hl:typeLookup (.type T) "__getitem__"=pure (some (.builtin id))) (hs:QH slice)
  (h:wpAny (model prog w) A (eval value env) (fun o s₁=>wpAny (model prog w) A (eval slice env) (fun i s₂=>s₂.TypeIs o T/\wpAny (model prog w) A (getItem o i) Q E s₂) E s₁) E s):
  wpAny (model prog w) A (eval (.Subscript value slice pos) env) Q E s:=by
 refine Subscript_ (cD h (fun o s₁ h₁=>cD h₁ (fun i s₂ h₂=>?_) fun _ _ x=>x) fun _ _ x=>x)
 obtain⟨hT,h₂⟩:=h₂
 unfold subscriptTail
 refine az ?_
 rw[getitemInPython_of_ne hT.not_modules]
 refine az (wpAny_specialOf hT hl ?_)
 have fin:wpAny (model prog w) A (subscripted slice false o i) (fun r s₃=>wpAny (model prog w) A (letTemporaryGo value o r >>=fun _=>pure r) Q E s₃) E s₂:=by
  rw[hs o i]
  exact wpAny_operating (cD h₂ (fun r s₃ h₃=>az (wpAny_letTemporaryGo (bL h₃))) fun _ _ x=>x)
 first
  |exact bL (az fin)
  |exact az (bL (az fin))
  |exact az fin
theorem Ag {X:Cx}{pins:List (Addr×Obj)}{σ:St}{H:Hp}{s:Shared}{a:Addr}{y:V}{o:Option V}(I:Inv X pins σ H s)(g:mv H a y o):s.TypeIs (.ref a) "dict":=by
 rcases g with⟨bo,k,e,_,_⟩|⟨bo,k,b,e,_,_,_⟩
 ·obtain⟨_,_,vs,_,dd⟩:=uc I.cH e
  exact dd.typeIs
 ·obtain⟨_,_,xs,_,dd⟩:=xi I.cH e
  exact dd.typeIs
def QI (td ty:TE):TE:=fun σ H Q=>td σ H fun x H1=>ty σ H1 fun y H2=> ∃a v,x= .ref a/\mv H2 a y (some v)/\Q v H2
def Vh (ty td:TE):TE:=fun σ H Q=>ty σ H fun y H1=>td σ H1 fun x H2=> ∃a o,x= .ref a/\mv H2 a y o/\Q (.bl o.isSome) H2
def Ks (ty td:TE):TE:=fun σ H Q=>ty σ H fun y H1=>td σ H1 fun x H2=> ∃a o,x= .ref a/\mv H2 a y o/\Q (.bl (!o.isSome)) H2
def QJ (td ty tv:TE):TS:=fun D σ H=>tv σ H fun v H1=>td σ H1 fun x H2=>ty σ H2 fun y H3=> ∃a H4,x= .ref a/\Fl H3 a y v H4/\D.nx σ H4
section
variable {X:Cx}{o i e value:Expr}{pos pos' Nd:Pos}{td ty tv:TE}
theorem cX (hu:X.A.units + 1 < cLine)(ho:PE X o td)(hi:PE X i ty)(hs:QH i):PE X (.Subscript o i pos) (QI td ty):=by
 intro pins s σ H Q I h
 refine Kr PySem.F.slot_dict_getitem.lookup hs (ej (ho pins s σ H _ I h) fun u s1 ⟨x,H1,I1,rx,q1⟩=>ej (hi pins s1 σ H1 _ I1 q1) fun iv s2 ⟨y,H2,I2,ry,a,v,ex,g,q2⟩=>?_)
 subst ex
 obtain rfl:u=Value.ref a:=rx
 exact⟨Ag I2 g,Fm hu I2 g ry fun w' s3 I3 Fh=>⟨v,H2,I3,Fh,q2⟩⟩
theorem Nn (hu:X.A.units + 1 < cLine)(hi:PE X i ty)(ho:PE X o td):PC X .In i o (Vh ty td):=by
 intro pins s σ H Q I h
 refine ej (hi pins s σ H _ I h) fun iv s1 ⟨y,H1,I1,ry,q1⟩=>ej (ho pins s1 σ H1 _ I1 q1) fun u s2 ⟨x,H2,I2,rx,a,ov,ex,g,q2⟩=>?_
 subst ex
 obtain rfl:u=Value.ref a:=rx
 exact Vg hu I2 g ry fun s3 I3=>⟨.bl ov.isSome,H2,I3,rfl,q2⟩
theorem Fo (hu:X.A.units + 1 < cLine)(hi:PE X i ty)(ho:PE X o td):PC X .NotIn i o (Ks ty td):=by
 intro pins s σ H Q I h
 refine ej (hi pins s σ H _ I h) fun iv s1 ⟨y,H1,I1,ry,q1⟩=>ej (ho pins s1 σ H1 _ I1 q1) fun u s2 ⟨x,H2,I2,rx,a,ov,ex,g,q2⟩=>?_
 subst ex
 obtain rfl:u=Value.ref a:=rx
 exact Kq hu I2 g ry fun s3 I3=>⟨.bl (!ov.isSome),H2,I3,rfl,q2⟩
theorem DN (hu:X.A.units + 1 < cLine)(ho:PE X o td)(hi:PE X i ty)(hv:PE X value tv)(hs:swapsWith value (some (.Subscript o i pos')) pos.line X.env=pure false):
  PS X (.Assign [.Subscript o i pos'] value pos) (QJ td ty tv):=by
 intro pins s σ H D I h
 refine wpAny_Assign_Subscript (ej (hv pins s σ H _ I h) fun r s1 ⟨v,H1,I1,rv,q1⟩=>ej (ho pins s1 σ H1 _ I1 q1) fun u s2 ⟨x,H2,I2,rx,q2⟩=>ej (hi pins s2 σ H2 _ I2 q2) fun iv s3 ⟨y,H3,I3,ry,a,H4,ex,g,q3⟩=>?_) hs
 subst ex
 obtain rfl:u=Value.ref a:=rx
 exact Fn hu I3 g ry rv fun s4 I4=>⟨σ,H4,I4,q3⟩
end
theorem Ah {P:Program}{w:World}{H:Hp}(h:Heap)(hb:sysModules < h.objs.size):dI P w H (h.push {cls:= .type "dict",data:= .dict #[]}) h.objs.size (.dK []):=
 ⟨bF _,gS.mpr (vw (aY hb)),[],.nil,Heap.DictOf.new h⟩
def Np:TE:=fun _ H Q=> ∀p,H p=none->Q (.ref p) (upd H p (.dK []))
section
variable {X:Cx}{pos:Pos}
theorem Ai:PE X (.Dict [] [] pos) Np:=fun pins s σ H Q I h=>
 wpAny_Dict_empty ⟨.ref s.heap.objs.size,_,I.laid (a:=s.heap.objs.size) (o:= .dK []) (t':=s.toks) (fun _ _ q=>ax _ q) (aB _) (Ah s.heap I.big),rfl,h _ (I.cH.fresh (aB _))⟩
end
def Cr:List (TE×TE)->St->Hp->(List (V×V)->Hp->Prop)->Prop
 |[],_,H,Q=>Q [] H
 |(tk,tv) :: r,σ,H,Q=>tk σ H fun x H1=>tv σ H1 fun y H2=>Cr r σ H2 fun ps H3=>Q ((x,y) :: ps) H3
abbrev VV:List (V×V)->List (Value×Value)->Prop:=Paired fun p q=>RelV p.1 q.1/\RelV p.2 q.2
def Kt (X:Cx)(pos:Pos)(keys:List (Option Expr))(values:List Expr)(Ku:List (TE×TE)):Prop:=
 ∀(pins:List (Addr×Obj)) (s:Shared) (σ:St) (H:Hp) (Q:List (V×V)->Hp->Prop),Inv X pins σ H s->Cr Ku σ H Q->
  wpAny (model X.prog X.w) X.A (evalPairs (pairTrees keys values X.env pos)) (fun vs s'=> ∃ps H',Inv X pins σ H' s'/\VV ps vs/\Q ps H') X.xe s
theorem Kv {X:Cx}{pos:Pos}:Kt X pos [] [] []:=fun pins s σ H Q I h=>pairTrees_nil_walk ⟨[],H,I,.nil,h⟩
theorem ue {X:Cx}{pos:Pos}{k v:Expr}{ks:List (Option Expr)}{vs:List Expr}{tk tv:TE}{Ku:List (TE×TE)}(hk:PE X k tk)(hv:PE X v tv)(hr:Kt X pos ks vs Ku):
  Kt X pos (some k :: ks) (v :: vs) ((tk,tv) :: Ku):=fun pins s σ H Q I h=>
 pairTrees_cons_walk (ej (hk pins s σ H _ I h) fun u s1 ⟨x,H1,I1,rx,q1⟩=>ej (hv pins s1 σ H1 _ I1 q1) fun w2 s2 ⟨y,H2,I2,ry,q2⟩=>
  ej (hr pins s2 σ H2 _ I2 q2) fun ws s3 ⟨ps,H3,I3,rel,q3⟩=>⟨(x,y) :: ps,H3,I3,.cons ⟨rx,ry⟩ rel,q3⟩)
def pz (bo more:List (Key×V)):List (Key×V):=more.foldl (fun acc kv=>putK acc kv.1 kv.2) bo
theorem KV.merge: ∀{more:List (Key×V)} {rs:List (Key×Value)} {bo:List (Key×V)} {vs:List (Key×Value)},KV more rs->KV bo vs->KV (pz bo more) (merged vs rs):=by
 intro more rs bo vs r
 unfold KV at r
 induction r generalizing bo vs with
 |nil=>intro q; exact q
 | @cons p q ps qs h t ih=>
  intro r0
  have e:KV (putK bo p.1 p.2) (stored vs q.1 q.2):=by
   have:=r0.put p.1 h.2
   rw[← h.1]; exact this
  exact ih e
theorem oJ: ∀(more bo:List (Key×V)),(pz bo more).length<=bo.length + more.length
 |[],bo=>by show bo.length<=bo.length + 0; omega
 |p :: r,bo=>by
  have h1:=oJ r (putK bo p.1 p.2)
  have h2:=kz bo p.1 p.2
  show(pz (putK bo p.1 p.2) r).length<=_
  rw[cu]; omega
theorem uf {P:Program}{w:World}: ∀{bo:List (Key×V)} {ws:List (Value×Value)},VV (bo.map fun kv=>(kV kv.1,kv.2)) ws-> ∃rs,Carries (d8 P w) ws rs/\KV bo rs
 |[],_,r=>by rw[vy] at r; cases r; exact⟨[],True.intro,.nil⟩
 |p :: bo,_,r=>by
  rw[dj] at r
  cases r with
  | @cons a b as bs h t=>
   obtain⟨rs,c,q⟩:=uf (P:=P) (w:=w) t
   obtain⟨b1,b2⟩:=b
   exact⟨(p.1,b2) :: rs,⟨ub h.1,rfl,c⟩,.cons ⟨rfl,h.2⟩ q⟩
def QK (Ku:List (TE×TE)):TE:=fun σ H Q=> ∀p,H p=none->Cr Ku σ (upd H p (.dK [])) fun ps H2=>H2 p=some (.dK [])/\ ∃bo:List (Key×V),ps=bo.map (fun kv=>(kV kv.1,kv.2))/\bo.length<=15/\Q (.ref p) (upd H2 p (.dK (pz [] bo)))
theorem Kw {X:Cx}{pos:Pos}{keys:List (Option Expr)}{values:List Expr}{Ku:List (TE×TE)}(h:Kt X pos keys values Ku)(Nq:keys.all (·.isSome)=true)(hl:keys.length=values.length)(h0:keys≠[])
  (Vi:keys.length<=15):PE X (.Dict keys values pos) (QK Ku):=by
 intro pins s σ H Q I q
 have hn:=I.cH.fresh (aB s.heap.objs.size)
 have I1:=I.laid (a:=s.heap.objs.size) (o:= .dK []) (h':=s.heap.push {cls:= .type "dict",data:= .dict #[]}) (t':=s.toks) (fun _ _ q=>ax _ q) (aB _) (Ah s.heap I.big)
 refine wpAny_Dict_walk (knd:=d8 X.prog X.w) Nq hl h0 Vi (ej (h pins _ σ _ _ I1 (q _ hn)) fun ws s2 ⟨ps,H2,I2,rel,e,bo,ep,lk,q2⟩=>?_)
 subst ep
 obtain⟨rs,c,rk⟩:=uf (P:=X.prog) (w:=X.w) rel
 obtain⟨z,hd,QL,r0,dd⟩:=DK I2.cH e
 cases r0
 refine⟨rs,c,dd,fun h' DM hs=>⟨.ref s.heap.objs.size,_,?_,rfl,q2⟩⟩
 have hz:(pz [] bo).length<=sizeLine:=by
  have h1:=oJ bo []
  rw[vA] at h1
  rw[eZ]; omega
 have he: ∃q,h'.get? s.heap.objs.size=some q:=let⟨q,_,_,hq,_⟩:=DM; ⟨q,hq⟩
 exact tI I2 (by rw[e]; exact True.intro) hs he (yf hz hd (rk.merge .nil) DM)
structure M1 (X:Cx)(o:Expr)(m:Str)(apos:Pos)(e:Expr)(gR:Pos):Prop where
 base:attributeBase o m X.env (eval o X.env)=eval o X.env
 XT:((backTo gR (starEach [e] X.env)).all (fun x=> !x.1) && (backToKw gR (keywordEach [] X.env)).all (fun x=>x.1.isSome)
  && decide (([e]:List Expr).length + ([]:List Keyword).length + (if([]:List Keyword).isEmpty then 0 else 1) < 30))=true
 line:(apos.endLine == gR.line)=true
 trees:backTo gR (starEach [e] X.env)=[(false,eval e X.env)]
structure M2 (X:Cx)(o:Expr)(m:Str)(apos:Pos)(e f:Expr)(gR:Pos):Prop where
 base:attributeBase o m X.env (eval o X.env)=eval o X.env
 XT:((backTo gR (starEach [e,f] X.env)).all (fun x=> !x.1) && (backToKw gR (keywordEach [] X.env)).all (fun x=>x.1.isSome)
  && decide (([e,f]:List Expr).length + ([]:List Keyword).length + (if([]:List Keyword).isEmpty then 0 else 1) < 30))=true
 line:(apos.endLine == gR.line)=true
 trees:backTo gR (starEach [e,f] X.env)=[(false,eval e X.env),(false,eval f X.env)]
def XU (H:Hp)(a:Addr):Prop:=(∃bo,Rd H a (.dK bo))∨ ∃bo,Rd H a (.dT bo)
theorem Nr {X:Cx}{pins:List (Addr×Obj)}{σ:St}{H:Hp}{s:Shared}{a:Addr}(I:Inv X pins σ H s)(d:XU H a):
  s.TypeIs (.ref a) "dict"/\(∀b,Value.ref a= .ref b-> ∃ob,s.heap.get? b=some ob/\ob.dict=none)/\(a == sysModules)=false:=by
 rcases d with⟨bo,e⟩|⟨bo,e⟩
 ·obtain⟨_,hd,vs,_,dd⟩:=uc I.cH e
  refine⟨dd.typeIs,fun b q=>?_,hd⟩
  cases q
  obtain⟨ob,_,_,h1,h2,_⟩:=dd
  exact⟨ob,h1,h2.2.1⟩
 ·obtain⟨_,hd,xs,_,dd⟩:=xi I.cH e
  refine⟨dd.typeIs,fun b q=>?_,hd⟩
  cases q
  obtain⟨ob,_,_,h1,h2,_⟩:=dd
  exact⟨ob,h1,h2.2.1⟩
section
variable {X:Cx}{pins:List (Addr×Obj)}{σ:St}{H:Hp}{s:Shared}{a:Addr}{y d:V}{u r:Value}{o:Option V}{A:Around}{E:Value->Shared->Prop}
end
def Nt (td ty:TE):TE:=fun σ H Q=>td σ H fun x H1=> ∃a,x= .ref a/\XU H1 a/\ty σ H1 fun y H2=> ∃bo k v,H2 a=some (.dK bo)/\y=kV k/\gq bo k=some v/\Q v (upd H2 a (.dK (k8 bo k)))
section
variable {X:Cx}{o e f:Expr}{apos gR:Pos}{td ty tx:TE}
theorem Hx (ho:PE X o td)(he:PE X e ty)(m:M1 X o "pop" apos e gR):PE X (.Call (.Attribute o "pop" apos) [e] [] gR) (Nt td ty):=by
 intro pins s σ H Q I h
 refine wpAny_Call_method m.base m.XT m.line PySem.F.plainAttrs_dict PySem.F.slot_dict_pop PySem.F.type_dict_pop (ej (ho pins s σ H _ I h) fun u s1 ⟨x,H1,I1,rx,a,ex,d,q1⟩=>?_)
 subst ex
 obtain rfl:u=Value.ref a:=rx
 obtain⟨t1,t2,_⟩:=Nr I1 d
 refine⟨t1,t2,?_⟩
 rw[m.trees]
 refine iT rfl (ER (Calls.spliced_cons (ej (he pins s1 σ H1 _ I1 q1) fun iv s2 ⟨y,H2,I2,ry,bo,k,v,ea,ey,l,q2⟩=>Calls.spliced_nil ?_)))
 subst ey
 exact QG I2 ea ry l (.inl rfl) fun w' s3 I3 Fh=>⟨v,_,I3,Fh,q2⟩
end
section
variable {X:Cx}{pins:List (Addr×Obj)}{σ:St}{H:Hp}{s:Shared}{a:Addr}{bo:List (Key×V)}{A:Around}{E:Value->Shared->Prop}
theorem Hy {Q:Value->Shared->Prop}(I:Inv X pins σ H s)(e:Rd H a (.dK bo))(h: ∀p s',H p=none->Inv X pins σ (upd H p (.dK bo)) s'->Q (.ref p) s'):wpAny (model X.prog X.w) A (call (.type "dict") [.ref a]) Q E s:=by
 obtain⟨z,hd,vs,rel,dd⟩:=uc I.cH e
 refine kt_call_dict hd dd (by rw[← rel.length]; exact z) fun h' DM hs=>?_
 refine h _ _ (I.cH.fresh (aB _)) (I.laid (a:=s.heap.objs.size) (o:= .dK bo) (t':=s.toks) (fun b q hq=>?_) (aB _) (yf z (gS.mpr (vw (aY I.big))) rel DM))
 exact(hs.2 b (aY (aK hq))).trans (ax _ hq)
end
section
variable {X:Cx}{pins:List (Addr×Obj)}{σ:St}{H:Hp}{s:Shared}{a:Addr}{y:V}{u:Value}{A:Around}{E:Value->Shared->Prop}
end
end L2
namespace XW
open PySem PySem.W PySem.Calls PyProof.Rows
theorem sW {P:Params}{h:Heap}: ∀(ns:List Int) (vs:List Value),WellAll P h vs (ns.map WData.int)->IntsAre vs ns:=by
 intro ns
 induction ns with
 |nil=>
  intro vs w
  rw[vy] at w
  cases w
  exact .nil
 |cons n ns ih=>
  intro vs w
  rw[dj] at w
  cases w with
  |cons a b=>
   cases a
   exact .cons _ _ (ih _ b)
theorem Fp {l:OpenLaw}{n:Nat}(hn:l.most=some n){P:Params}{h:Heap}{args:List WData}{vals:List Value}
  (Kx:l.row.toRowW.claim.pre args=true) (DO:WellAll P h vals args):
  ∃a vs ns,vals=[Value.ref a]/\args=[WData.list (ns.map WData.int)]/\h.get? a=some {cls:= .type "list",data:= .seq vs.toArray}/\IntsAre vs ns/\ns.length<=n:=by
 have ZN:WShape.hasAll [] args [.list .int]=true:=(pre_splitW Kx).1
 have hc:l.pre.holds [] {args:=args}=true:=(pre_splitW Kx).2
 obtain⟨d,r,rfl,h1,h2⟩:=hasAllW_cons ZN
 obtain rfl:=hasAllW_nil h2
 obtain⟨xs,rfl,h3⟩:=hasW_list h1
 obtain⟨ns,rfl⟩:=items_int h3
 have hlen:ns.length<=n:=by
  unfold OpenLaw.pre at hc
  have h4:(WTm.not (.lt (.lit (.int (n:Int))) (.len (.arg 0)))).holds [] {args:=[.list (ns.map .int)]}=true:=by
   have h4:=(holds_andW hc).1
   rw[hn] at h4
   exact h4
  have h5:=condW_of h4 (w_not (w_lt w_lit (w_len_list (w_arg rfl))))
  rw[ae] at h5
  refine Nat.le_of_not_lt fun q=>?_
  have q':(n:Int) < ((ns.length:Nat):Int):=by omega
  first
   |(rw[aM q'] at h5; exact absurd h5 (by decide))
   |(simp at h5; omega)
 cases DO with
 |cons w1 w2=>
  cases w2
  cases w1 with
  |list ho Nq=>exact⟨_,_,ns,rfl,rfl,ho,sW ns _ Nq,hlen⟩
theorem Fq (l:OpenLaw)(args:List WData):l.row.toRowW.claim.post args (.bool true) args=true:=
 postW_of (r:=l.row.toRowW) (X:=(true == true))
  (show WShape.has [] (.bool true) .bool=true by first|rfl|decide|simp[WShape.has,WShape.arms,WShape.armsAll])
  (show(WTm.eq .res (.lit (.bool true))).value [] {args:=args,res:=some (.bool true),after:=args}=some (.bool (true == true)) from w_eq_bool (w_res rfl) w_lit) rfl
theorem Aj {l:OpenLaw}{n:Nat}{q:Program}{loose:List Str}{XP:(Str->Option Value)->Heap->Prop}{YP:World->Heap->Prop}{d:DefRec}
  (hn:l.most=some n) (Vj:d.params.defaults=[])
  (call: ∀(w:World) (s₀ s₁:Shared) (mg mb:Str->Option Value) (fa:Addr) (o:Obj) (pm cd doc:Value) (a:Addr) (vs:List Value) (ns:List Int),
   Ground q loose [] XP w s₀ mg mb s₁.heap->YP w s₁.heap->
   s₁.heap.get? fa=some o->o.data= .func (docDef d.name d.params d.body d.scope pm cd doc)->s₁.heap.CodeRec cd d.name->mg d.name=some (.ref fa)->
   s₁.heap.get? a=some {cls:= .type "list",data:= .seq vs.toArray}->IntsAre vs ns->ns.length<=n->s₁.gens= #[]->
   codeAny (model l.prog w) callerA (.call (.ref fa) ⟨[.ref a],[]⟩) (fun r s'=>r= .ok (.ret (.bool true))/\OldK s₁.heap s'.heap/\s'.os=s₁.os/\AllBare s'.gens) s₁):
  WalkO q loose XP YP l.row.toRowW d [] (fun f vs=>PySem.call f vs):=by
 intro w s₀ s₁ mg mb G Y fa o pm cd doc dV kV ho hd q0 hD QM hg args vals as Kx ZO XX DO hlo
 obtain rfl:dV= .none:=Dflts.none hD Vj
 obtain rfl:kV= .none:=Dflts.noKw hD
 obtain⟨a,vs,ns,rfl,rfl,Nu,hints,hlen⟩:=Fp hn Kx DO
 refine enter_call (B6 (call w s₀ s₁ mg mb fa o pm cd doc a vs ns G Y ho (fd_plain hd) q0 QM Nu hints hlen hg) fun r s' hq=>?_)
 obtain⟨rfl,h2,h3,h4⟩:=hq
 exact⟨.inl ⟨.bool true,.bool true,[],rfl,fun _=>rfl,.bool true,Fq l _,fun _=>⟨List.Pairwise.nil,fun _ hm=>(nomatch hm)⟩⟩,h2,h3,h4⟩
section
variable {prog:Program}{w:World}{A:Around}{E:Value->Shared->Prop}{s:Shared}{K:Frag}
end
end XW
namespace L2
open PySem PySem.Spec PyProof.Rows
theorem xk: ∀{vs:List Value} {ns:List Int},IntsAre vs ns->Vals (ns.map V.int) vs
 |_,_,.nil=> .nil
 |_,_,.cons n t h=> .cons ⟨t,rfl⟩ (xk h)
def g8 (s:Stmt):Arguments:=match s with
 | .FunctionDef _ a _ _ _ _ _ _ _ _=>a
 |_=>{posonlyargs:=[],args:=[],vararg:=none,kwonlyargs:=[],kw_defaults:=[],kwarg:=none,defaults:=[]}
def d9 (s:Stmt):List Stmt:=match s with
 | .FunctionDef _ _ b _ _ _ _ _ _ _=>b
 |_=>[]
def aA (s:Stmt):Scope:=match s with
 | .FunctionDef _ _ _ _ _ _ sc _ _ _=>sc
 |_=>{kind:= .function,names:=[],isGenerator:=false,isCoroutine:=false}
abbrev sk:Ff:=fun _ _ _ _ _ _=>False
abbrev E0:XK:=fun _ _ _=>False
theorem mM {X:Cx}:Passes sk X E0:=fun _ _ _ _ _ _ _ h=>h.elim
structure gv (K:PySem.W.Frag)(x qual:Str)(st:Stmt)(f:Addr)(fd:FuncData):Prop where
 ex: ∃(oc:Value) (od:Option Addr) (kV doc pm:Value) (an:Option Addr) (dv ct:Value) (Fg:Array (Option Value)),
  fd=PySem.W.fnOf x qual (g8 st) (d9 st) (aA st) .none kV doc pm an dv ct/\K.lookup f=some ⟨oc,od,.func fd,Fg⟩/\PySem.W.codeIn K dv qual=true
 kp:PySem.W.keepIn K (.ref f)=true
section
variable {P:Program}{w:World}{K:PySem.W.Frag}{mg:Str->Option Value}{base:Heap}
theorem gv.ok {x qual:Str}{st:Stmt}{f:Addr}{fd:FuncData}{N ps:List Str}{k:Nat}{sp:Sp}(F:gv K x qual st f fd)(S:aW N ps (aA st))(len: ∀vs H Q E,sp vs H Q E->vs.length=ps.length)
  (gu: ∀(dv:Value) (A:Around) (outer:List Env) (s:Shared) (H:Hp) (vs:List V) (Q:VK) (E:XK),fA k (A.deeper (envOfC qual (aA st) s.heap.objs.size f dv))->sp vs H Q E->
   ∃t,o8 (lO sk P w K mg base N qual (aA st) f dv A outer s H E).E6 (d9 st) t/\t {nx:=fun _ H'=>Q .eI H',rt:=Q} (start N vs) H):lN P w K mg base sk (k + 1) f fd ps sp:=by
 obtain⟨oc,od,kV,doc,pm,an,dv,ct,Fg,rfl,lk,q0⟩:=F.ex
 refine Hm lk q0 S len fun A outer s H vs Q E hr ya=>?_
 obtain⟨t,h,q⟩:=gu dv A outer s H vs Q E hr ya
 exact⟨t,h.E6,q⟩
theorem gv.binds {x qual:Str}{st:Stmt}{f:Addr}{fd:FuncData}{ps:List Str}(F:gv K x qual st f fd)
  (h: ∀(kV doc pm:Value) (an:Option Addr) (dv ct:Value) (us:List Value),us.length=ps.length->bindArgs (PySem.W.fnOf x qual (g8 st) (d9 st) (aA st) .none kV doc pm an dv ct) ⟨us,[]⟩=pure (ps.zip us)):Binds K fd ps []:=by
 obtain⟨oc,od,kV,doc,pm,an,dv,ct,Fg,rfl,lk,q0⟩:=F.ex
 exact .all (h kV doc pm an dv ct)
theorem pA {x qual:Str}{st:Stmt}{f:Addr}{oc:Value}{od an:Option Addr}{Fg:Array (Option Value)}{kV doc pm dv ct:Value}(l:K.lookup f=some ⟨oc,od,.func (PySem.W.fnOf x qual (g8 st) (d9 st) (aA st) .none kV doc pm an dv ct),Fg⟩)
  (c:PySem.W.codeIn K dv qual=true) (k:PySem.W.keepIn K (.ref f)=true):gv K x qual st f (PySem.W.fnOf x qual (g8 st) (d9 st) (aA st) .none kV doc pm an dv ct):=⟨⟨oc,od,kV,doc,pm,an,dv,ct,Fg,rfl,l,c⟩,k⟩
end
theorem kA {A:Around}{k:Nat}(hr:fA k A):A.units + 1 < cLine:=pX (Nat.add_le_add_left (by decide:1<=64) _) hr.units
theorem br {n:Nat}(h:n<=1000):n < sizeLine:=pX h (by decide)
section
variable {X:Cx}
theorem pv (i:Nat){x:Str}{pos:Pos}(hN:X.N[i]? =some x:=by rfl)(hv:P9 X.env.scope x:=by first|exact Or.inl rfl|exact Or.inr (Or.inl rfl)|exact Or.inr (Or.inr rfl))(hd:(x == ("__debug__":Str))=false:=by decide)
  (q0:(x == ("__classdict__":Str))=false:=by decide):PE X (.Name x pos) (Qc i):=Cc hN hv hd q0
end
theorem cv {A B:Prop}(h:B):if false=true then A else B:=by
 rw[aQ aZ]
 exact h
theorem fH {A B:Prop}(h:A):if true=true then A else B:=by
 rw[a8 rfl]
 exact h
theorem cQ {c A B:Prop}[Decidable c](h1:c->A)(h2: ¬ c->B):if c then A else B:=by
 by_cases h:c
 ·rw[a8 h]
  exact h1 h
 ·rw[aQ h]
  exact h2 h
theorem Ak {c A B:Prop}[Decidable c](hc:c)(h:B):if(!decide c)=true then A else B:=by
 rw[aM hc]
 exact cv h
def aG (H H':Hp):Prop:= ∀b o,H b=some o->H' b=some o
theorem aG.refl (H:Hp):aG H H:=fun _ _ h=>h
theorem aG.trans {H H1 H2:Hp}(a:aG H H1)(b:aG H1 H2):aG H H2:=fun c o h=>b c o (a c o h)
theorem aG.free {H H':Hp}(e:aG H H'){l:Addr}(h:H' l=Option.none):H l=Option.none:=by
 cases q:H l with
 |none=>rfl
 |some o=>
  rw[e l o q] at h
  cases h
theorem aG.seq {K:PySem.W.Frag}{H H':Hp}{a:Addr}{xs:List V}(e:aG H H')(h:bQ K H a xs):bQ K H' a xs:=by
 rcases h with(h|⟨o,h⟩)|h
 ·exact .inl (.inl (e _ _ h))
 ·exact .inl (.inr ⟨o,e _ _ h⟩)
 ·exact .inr h
section
variable {X:Cx}
end
section
variable {κ:Type}[DecidableEq κ]
end
theorem Fs {prog:Program}{w:World}{A:Around}{R:Result->Shared->Prop}{s:Shared}{elt target iter:Expr}{ifs:List Expr}{scope:Scope}{pos:Pos}{it acc:Value}{env:Env}(I:Nat->Shared->Prop)
  (turn: ∀n s,I n s->wpAny (model prog w) A (pyNext it) (fun r s₁=>match r with
   |none=>R (.ok .next) s₁
   |some v=>wpAny (model prog w) A (letOwnedTupleGo target it v) (fun _ XY=>wpAny (model prog w) A (assign target env v) (fun _ s₂=>
     wpAny (model prog w) A (forIn ifs true fun c r=>if r=true then do let ok ← isTrue c env (eval c env); pure (ForInStep.yield ok) else pure (ForInStep.yield r)) (fun ok s₃=>
      if ok=true then wpAny (model prog w) A (eval elt env) (fun x s₄=>
       wpAny (model prog w) A (call (.builtin "list.append") [acc,x]) (fun _ s₅=> ∃m,m < n/\I m s₅) (fun _ _=>False) s₄) (fun _ _=>False) s₃
      else ∃m,m < n/\I m s₃) (fun _ _=>False) s₂) (fun _ _=>False) XY) (fun _ _=>False) s₁) (fun _ _=>False) s)
  (n:Nat) (h:I n s):
  codeAny (model prog w) A (.compLoop (.ListComp elt [⟨target,iter,ifs,0⟩] scope pos) 0 it acc env) R s:=by
 refine codeAny_loop rfl I (fun n s hI=>?_) n h
 show wpAny _ A ((compTurn (.ListComp elt [⟨target,iter,ifs,0⟩] scope pos) 0 it acc env).onRaise (fun x=>do noteFrame x env; theTreesLotGoes x)) _ _ s
 refine wpAny_noted ?_
 rw[compTurn_list]
 refine az (iy (az (cD (turn n s hI) (fun r s₁ h₁=>?_) fun _ _ h'=>h'.elim)))
 cases r with
 |none=>exact bL h₁
 |some v=>
  refine az (cD h₁ (fun _ XY ZP=>?_) fun _ _ h'=>h'.elim)
  refine az (cD ZP (fun _ s₂ h₂=>az (cD h₂ (fun ok s₃ h₃=>?_) fun _ _ h'=>h'.elim)) fun _ _ h'=>h'.elim)
  cases ok with
  |false=>exact bL ⟨rfl,h₃⟩
  |true=>
   exact az (az (cD h₃ (fun x s₄ h₄=>az (cD h₄ (fun _ s₅ h₅=>bL (bL ⟨rfl,h₅⟩)) fun _ _ h'=>h'.elim)) fun _ _ h'=>h'.elim))
def Al (X:Cx)(N:List Str)(scope:Scope)(cl:List (Str×Addr))(C:Addr)(s3:Shared)(H3:Hp)(fp:List Addr):Cx:=
 {X with N:=N,s₀:=s3,H₀:=H3,env:=compEnvC scope cl C X.env,outer:=X.stack,stack:=X.stack,ex:=fp,fn:=fun _=>false,pn:=[],xe:=fun _ _=>False}
def JH (X:Cx)(ifs:List Expr)(t:TT):Prop:=
 ∀(pins:List (Addr×Obj)) (s:Shared) (σ:St) (H:Hp) (Q:Bool->Hp->Prop),Inv X pins σ H s->t σ H Q->
  wpAny (model X.prog X.w) X.A (forIn ifs true fun c r=>if r=true then do let ok ← isTrue c X.env (eval c X.env); pure (ForInStep.yield ok) else pure (ForInStep.yield r)) (TP X pins σ Q) X.xe s
def Vk:TT:=fun _ H Q=>Q true H
theorem lR {X:Cx}:JH X [] Vk:=fun pins s σ H Q I h=>wpAny_tests_nil ⟨H,I,h⟩
theorem pB {X:Cx}{c:Expr}{t:TT}(h:PT X c t):JH X [c] t:=fun pins s σ H Q I hw=>wpAny_tests_one (h pins s σ H Q I hw)
def xl (J:It)(g:TG)(tc:TT)(te:TE)(σ0:St)(H2:Hp)(Q:VK):Prop:=
 ∀D,H2 D=none-> ∃W:Nat->Nat->St->Hp->Prop,(∃m,W 0 m σ0 (upd H2 D (.lst [])))/\ ∀i m σ' H',W i m σ' H'->
  (J.stop i H'/\Q (.ref D) H')∨(J.go i H'/\ ∃N:St->Hp->Prop,(∀Ky GQ,N Ky GQ-> ∃m',m' < m/\W (i + 1) m' Ky GQ)/\
   ∀x GQ,J.Pl i H' x GQ->g x σ' GQ fun σ2 H2=>tc σ2 H2 fun ok H3=>if ok=true then te σ2 H3 fun y H4=> ∃ys,H4 D=some (.lst ys)/\ys.length < sizeLine/\N σ2 (upd H4 D (.lst (ys ++ [y]))) else N σ2 H3)
structure rE (X:Cx)(scope:Scope)(cl:List (Str×Addr))(cn:List Str)(cj:List Nat):Prop where
 Ft:closureFor scope X.env=pure cl
 cell: ∀y∈scope.names,y.2≠ .cell
 kind:scope.kind= .function
 names: ∀x∈scope.names,x.2= .local->scope.names.lookup x.1=some .local
 sub: ∀x c,cl.lookup x=some c->X.env.cells.lookup x=some c
 all: ∀x,((relabel scope X.env).names.lookup x=some .cell∨(relabel scope X.env).names.lookup x=some .free)-> ∃c,cl.lookup x=some c
 XZ:Paired (fun x j=>X.N[j]? =some x/\(X.env.kindOf x=some .cell∨X.env.kindOf x=some .free)/\((relabel scope X.env).names.lookup x=some .cell∨(relabel scope X.env).names.lookup x=some .free)) cn cj
theorem bT {α β:Type}{F:α->β->Prop}: ∀{l₁:List α} {l₂:List β} {i:Nat} {a:α},Paired F l₁ l₂->l₁[i]? =some a-> ∃b,l₂[i]? =some b/\F a b
 |_,_,_,_,.nil,e=>by simp at e
 |_,_,0,_,.cons r _,e=>by simp at e; subst e; exact⟨_,rfl,r⟩
 |_,_,i + 1,a,.cons _ t,e=>by
  obtain⟨b,h1,h2⟩:=bT (i:=i) (a:=a) t (by simpa using e)
  exact⟨b,by simpa using h1,h2⟩
def ug (tn:List Str)(cj:List Nat)(σ:St):St:=tn.map (fun _=>none) ++ cj.map fun j=>(σ[j]?).join
theorem uh {X:Cx}{pins:List (Addr×Obj)}{σ:St}{H2:Hp}{s2:Shared}{elt tg iter:Expr}{ifs:List Expr}{scope:Scope}{pos:Pos}{cl:List (Str×Addr)}{tn cn:List Str}{cj:List Nat}{g:TG}{tc:TT}{te:TE}
  {it:Addr} {fp:List Addr} {Nv:Nat->Heap->Prop} {J:It} {RR:Value->Addr->Result->Shared->Prop} {E:Value->Shared->Prop} {Q:VK}
  (xm:X.calm=true) (S:rE X scope cl cn cj)
  (hg: ∀C s3 H3 fp,PG (Al X (tn ++ cn) scope cl C s3 H3 fp) tg g) (hc: ∀C s3 H3 fp,JH (Al X (tn ++ cn) scope cl C s3 H3 fp) ifs tc) (he: ∀C s3 H3 fp,PE (Al X (tn ++ cn) scope cl C s3 H3 fp) elt te)
  (I2:Inv X pins σ H2 s2) (T:Turn X.prog X.w X.K tg J fp it Nv) (Mb:Nv 0 s2.heap) (f2: ∀b∈fp,tV X pins H2 b)
  (hw:xl J g tc te (ug tn cj σ) H2 Q)
  (ZQ: ∀D C (s':Shared) H' m',Inv X pins σ H' s'->tV X pins H' C->s'.heap.Ns C m'->Q (.ref D) H'->RR (.ref D) C (.ok .next) s'):
  wpAny (model X.prog X.w) X.A (newList []) (fun acc s₃=>wpAny (model X.prog X.w) X.A (newFunctionEnv scope X.env.globals cl [] X.env.qual none .none (some X.env)) (fun QN s₄=>
   codeAny (model X.prog X.w) X.A (.compStart (.ListComp elt [⟨tg,iter,ifs,0⟩] scope pos) 0 (.ref it) acc {QN with scope:=relabel scope X.env}) (RR acc QN.locals) s₄) E s₃) E s2:=by
 have ZR:H2 s2.heap.objs.size=none:=I2.cH.fresh (aB _)
 obtain⟨W,⟨m0,w0⟩,turn⟩:=hw _ ZR
 refine wpAny_newObj_type (wpAny_newFunctionEnv S.cell (by intro y hy; simp at hy) (fun h₁ Nw Nx=>?_) S.kind)
 dsimp only at Nw Nx ⊢
 have I3:Inv X pins σ (upd H2 s2.heap.objs.size (.lst [])) {s2 with heap:=s2.heap.push {cls:= .type "list",dict:=none,data:= .seq ([]:List Value).toArray}}:=I2.Nk (t':=s2.toks) (ys:=[]) (cy:=[]) .nil (bF _)
 generalize Tx:s2.heap.push {cls:= .type "list",dict:=none,data:= .seq ([]:List Value).toArray}=HH at Nw Nx I3 ⊢
 have hC:HH.objs.size=s2.heap.objs.size + 1:=by rw[← Tx,kj]
 have old: ∀b o,HH.get? b=some o->h₁.get? b=some o:=fun b o e=>Nx.extBut b o (aY (aK e)) (ax _ e)
 have Vl: ∀b o,s2.heap.get? b=some o->HH.get? b=some o:=fun b o e=>Tx▸ax _ e
 have QO: ∀b∈fp,b < s2.heap.objs.size:=fun b hb=>by
  obtain⟨o,e,_⟩:=T.obj 0 _ Mb b hb
  exact aK e
 have Tz:(Al X (tn ++ cn) scope cl HH.objs.size {s2 with heap:=HH} (upd H2 s2.heap.objs.size (.lst [])) fp).Ok:=by
  refine⟨I3.ok.mod,S.kind,I3.ok.glob,I3.ok.blt,aB _,fun x y c h1 h2=>I3.ok.inj x y c (S.sub x c h1) (S.sub y c h2),fun x hx=>S.all x hx,fun x c z=>absurd z aZ,I3.ok.hd,I3.ok.frames,.inl rfl,fun b hb=>⟨?_,fun x c e z=>?_⟩,I3.bs,?_,fun b o e hb=>?_,fun b hb z=>?_,I3.stack,I3.qf⟩
  ·show b≠HH.objs.size
   rw[hC]
   exact aY (gI (QO b hb))
  ·exact(f2 b hb).2.2.2.2.1 x c (S.sub x c e) z
  ·exact a6 I3.ok.zW I3.sz
  ·rcases(f2 b hb).2.2.2.1 with z|z
   ·exact I3.ok.vG b o e z
   ·have h1:b < X.base.objs.size:=aK e
    exact absurd (bp h1 (a6 I3.ok.zW z)) (iS _)
  ·rcases aw.mp (I3.tS b z) with z|z
   ·exact(f2 b hb).2.1 z
   ·exact(f2 b hb).2.2.1 z
 have IY:Inv (Al X (tn ++ cn) scope cl HH.objs.size {s2 with heap:=HH} (upd H2 s2.heap.objs.size (.lst [])) fp) [] (ug tn cj σ) (upd H2 s2.heap.objs.size (.lst [])) {s2 with heap:=h₁,toks:=s2.toks + ([]:List (Str×Value)).length}:=by
  refine⟨Tz,rfl,I3.bare,Un.kept old,⟨_,Nw,fun i x v e1 e2 e3=>?_⟩,fun x c e=>?_,?_,fun x c e=>I3.iR x c (S.sub x c e),fun p hp=>absurd hp (by intro z; exact nomatch z),I3.cH.kept old,?_⟩
  ·have X0:(tn ++ cn)[i]? =some x:=e1
   by_cases hi:i < tn.length
   ·unfold ug at e2
    rw[List.getElem?_append_left (by simpa using hi),List.getElem?_map] at e2
    cases h:tn[i]? with
    |none=>rw[h] at e2; cases e2
    |some _=>rw[h] at e2; cases e2
   ·rw[o4 (by omega)] at X0
    obtain⟨j,hj,hN,hk,Mf⟩:=bT S.XZ X0
    unfold ug at e2
    rw[List.getElem?_append_right (by simpa using hi),List.getElem?_map] at e2
    simp only[List.length_map,hj,Option.map_some] at e2
    have QP:σ[j]? =some (some v):=by
     cases h:σ[j]? with
     |none=>rw[h] at e2; cases e2
     |some q=>
      rw[h] at e2
      have QP:q=some v:=aE e2
      rw[QP]
    obtain⟨m,hn,hl⟩:=I3.loc
    have hv:P9 X.env.scope x:=by
     rcases hk with hk|hk
     ·exact .inr (.inl hk)
     ·exact .inr (.inr hk)
    obtain⟨u,r,l⟩:=hl j x v hN QP hv
    refine⟨u,r,?_⟩
    rcases l with⟨k,_⟩|⟨_,c,hc,me⟩
    ·rcases hk with hk|hk <;> (rw[k] at hk; cases hk)
    ·obtain⟨c',Ke⟩:=S.all x Mf
     have:=S.sub x c' Ke
     rw[hc] at this
     cases this
     obtain⟨o,ho,hd⟩:=me
     exact .inr ⟨Mf,c,Ke,⟨o,old _ _ ho,hd⟩⟩
  ·obtain⟨v,o,ho,hd⟩:=I3.cell x c (S.sub x c e)
   exact⟨v,o,old _ _ ho,hd⟩
  ·exact I3.cH.fresh (aB _)
  ·show(ug tn cj σ).length=(tn ++ cn).length
   unfold ug
   rw[aF,aF,ae,ae,S.XZ.length]
 have X1:Nv 0 h₁:=T.keep 0 _ _ Mb fun b _ o e=>old b o (Vl b o e)
 have rA: ∀{H':Hp},(∀b∈fp,H' b=none)-> ∀b∈fp,tV (Al X (tn ++ cn) scope cl HH.objs.size {s2 with heap:=HH} (upd H2 s2.heap.objs.size (.lst [])) fp) [] H' b:=fun hn b hb=>
  ⟨hn b hb,(Tz.Kb b hb).1,Tz.vH b hb,.inl hb,(Tz.Kb b hb).2,fun p hp=>absurd hp (by intro z; exact nomatch z)⟩
 have ZS: ∀b∈fp,upd H2 s2.heap.objs.size (.lst []) b=none:=fun b hb=>by
  rw[ay (aY (QO b hb))]
  exact(f2 b hb).1
 have loop:codeAny (model X.prog X.w) X.A (.compLoop (.ListComp elt [⟨tg,iter,ifs,0⟩] scope pos) 0 (.ref it) (.ref s2.heap.objs.size) (compEnvC scope cl HH.objs.size X.env))
    (RR (.ref s2.heap.objs.size) HH.objs.size) {s2 with heap:=h₁,toks:=s2.toks + ([]:List (Str×Value)).length}:=by
  refine Fs (fun n s'=> ∃i σ' H',Inv (Al X (tn ++ cn) scope cl HH.objs.size {s2 with heap:=HH} (upd H2 s2.heap.objs.size (.lst [])) fp) [] σ' H' s'/\Nv i s'.heap/\(∀b∈fp,H' b=none)/\W i n σ' H') ?_ m0 ⟨0,_,_,IY,X1,ZS,w0⟩
  rintro n s3 ⟨i,σ3,H3,J3,Qo,Kg,w3⟩
  rcases turn i n σ3 H3 w3 with⟨stop,qn⟩|⟨go,N,hN,step⟩
  ·refine ej (T.done (Al X (tn ++ cn) scope cl HH.objs.size {s2 with heap:=HH} (upd H2 s2.heap.objs.size (.lst [])) fp) rfl rfl rfl xm i [] s3 σ3 H3 _ J3 (rA Kg) Qo stop) fun r s4 ⟨hr,J4⟩=>?_
   subst hr
   obtain⟨m',UG,_⟩:=J4.loc
   exact ZQ _ _ s4 H3 m' (I3.Dw (ch:=fp) J4.os J4.base J4.cH J4.bare fun b hb=>⟨(f2 b hb).2.2.2.1,(f2 b hb).2.1,(f2 b hb).2.2.2.2.1,(f2 b hb).2.2.2.2.2⟩) (I3.E7 (aB _) J4.free) UG qn
  ·refine ej (T.item (Al X (tn ++ cn) scope cl HH.objs.size {s2 with heap:=HH} (upd H2 s2.heap.objs.size (.lst [])) fp) rfl rfl rfl xm i [] s3 σ3 H3 _ J3 (rA Kg) Qo go) fun r s4 ⟨u,hr,h4⟩=>?_
   subst hr
   refine ej h4 fun _ s5 ⟨x,H5,J5,r5,y5,Na,Pn⟩=>?_
   have ZT:=J5.pinned (rA Pn) (T.obj _ _ Na)
   refine ej (hg _ _ _ _ _ s5 σ3 H5 x u _ ZT r5 (step x H5 y5)) fun _ s6 ⟨σ6,H6,J6,q6⟩=>?_
   have again: ∀{s7:Shared} {σ7:St} {H7:Hp},Inv (Al X (tn ++ cn) scope cl HH.objs.size {s2 with heap:=HH} (upd H2 s2.heap.objs.size (.lst [])) fp) ([] ++ pq fp s5.heap) σ7 H7 s7->N σ7 H7->
     ∃m,m < n/\ ∃i σ' H',Inv (Al X (tn ++ cn) scope cl HH.objs.size {s2 with heap:=HH} (upd H2 s2.heap.objs.size (.lst [])) fp) [] σ' H' s7/\Nv i s7.heap/\(∀b∈fp,H' b=none)/\W i m σ' H':=fun{s7 σ7 H7} I7 n7=>by
    obtain⟨m',hm,w7⟩:=hN σ7 H7 n7
    refine⟨m',hm,i + 1,σ7,H7,I7.jc,T.keep _ _ _ Na fun b hb o e=>(I7.pin (b,o) (bE _ (bE _ (jO hb e)))).1,fun b hb=>?_,w7⟩
    obtain⟨o,e,d⟩:=T.obj _ _ Na b hb
    exact(I7.pin (b,o) (bE _ (bE _ (jO hb e)))).2.1
   refine ej (hc _ _ _ _ _ s6 σ6 H6 _ J6 q6) fun ok s7 ⟨H7,J7,q7⟩=>?_
   cases ok with
   |false=>exact again J7 q7
   |true=>
    refine ej (he _ _ _ _ _ s7 σ6 H7 _ J7 q7) fun y s8 ⟨yv,H8,J8,r8,ys,hD,hz,q8⟩=>?_
    refine ej (bZ _ s8 σ6 H8 (.ref s2.heap.objs.size) [yv] (.ref s2.heap.objs.size) [y] (fun _ H'=>N σ6 H') J8 rfl (.cons r8 .nil) ⟨_,ys,yv,rfl,rfl,hD,hz,q8⟩) fun _ s9 ⟨_,H9,J9,_,q9⟩=>?_
    exact again J9 q9
 exact codeAny_compStart_list loop (T.self _ 0 _ _ _ X1 loop)
def Mg (wi:TI)(tn:List Str)(cj:List Nat)(g:TG)(tc:TT)(te:TE):TE:=fun σ H Q=>wi σ H fun J H2=>xl J g tc te (ug tn cj σ) H2 Q
theorem jd {X:Cx}{elt tg iter:Expr}{ifs:List Expr}{scope:Scope}{pos:Pos}{cl:List (Str×Addr)}{tn cn:List Str}{cj:List Nat}{wi:TI}{g:TG}{tc:TT}{te:TE}
  (xm:X.calm=true) (S:rE X scope cl cn cj) (hi:PI X tg iter wi)
  (hg: ∀C s3 H3 fp,PG (Al X (tn ++ cn) scope cl C s3 H3 fp) tg g) (hc: ∀C s3 H3 fp,JH (Al X (tn ++ cn) scope cl C s3 H3 fp) ifs tc) (he: ∀C s3 H3 fp,PE (Al X (tn ++ cn) scope cl C s3 H3 fp) elt te)
  (hs: ∀x,foldedSetIterable iter X.env x=pure x:=by intro _; rfl):
  PE X (.ListComp elt [⟨tg,iter,ifs,0⟩] scope pos) (Mg wi tn cj g tc te):=by
 intro pins s σ H Q I h
 rw[eval_ListComp]
 refine wpAny_comprehension_free (use:=none) rfl hs S.Ft S.kind S.names (ej (hi pins s σ H _ I h) fun v s1 h1=>ej h1 fun Tt s2 h2=>?_)
 obtain⟨it,fp,Nv,J,H2,e,I2,T,Mb,f2,hw⟩:=h2
 subst e
 refine uh (RR:=fun acc C=>compPost (model X.prog X.w) X.A X.xe none (EP X pins σ Q) acc C) xm S hg hc he I2 T Mb f2 hw ?_
 intro D C s' H' m' I' Fu hn q
 exact⟨m',hn,fun h' Kz=>⟨.ref D,H',I'.turned (t':=s'.toks) (fun b o hb e=>(Kz.2 b hb).trans e) Fu.1 Fu.2.1 Fu.2.2.2.1 Fu.2.2.2.2.1 Fu.2.2.2.2.2,rfl,q⟩⟩
theorem je {X:Cx}{i:Nat}{y:Str}{py QQ:Pos}{elt tg iter:Expr}{ifs:List Expr}{scope:Scope}{pos:Pos}{cl:List (Str×Addr)}{tn cn:List Str}{cj:List Nat}{wi:TI}{g:TG}{tc:TT}{te:TE}
  (hN:X.N.Nodup) (hy:X.N[i]? =some y) (hx:Loc X.env.scope y)
  (xm:X.calm=true) (S:rE X scope cl cn cj) (hi:PI X tg iter wi)
  (hg: ∀C s3 H3 fp,PG (Al X (tn ++ cn) scope cl C s3 H3 fp) tg g) (hc: ∀C s3 H3 fp,JH (Al X (tn ++ cn) scope cl C s3 H3 fp) ifs tc) (he: ∀C s3 H3 fp,PE (Al X (tn ++ cn) scope cl C s3 H3 fp) elt te)
  (Vm:swapsWith (.ListComp elt [⟨tg,iter,ifs,0⟩] scope pos) (some (.Name y py)) QQ.line X.env=pure true:=by rfl)
  (hs: ∀x,foldedSetIterable iter X.env x=pure x:=by intro _; rfl)
  (hf:X.fn y=true∨X.env.scope.names.lookup y=some .local:=by first|exact .inl rfl|exact .inr rfl|assumption):
  PS X (.Assign [.Name y py] (.ListComp elt [⟨tg,iter,ifs,0⟩] scope pos) QQ) (M7 (Mg wi tn cj g tc te) (G6 i)):=by
 intro pins s σ H D I h
 rw[exec_Assign_Name_used _ _ _ _ Vm]
 refine az (iy (az ?_))
 show wpAny _ X.A (do let _ ← comprehension (.ListComp elt [⟨tg,iter,ifs,0⟩] scope pos) scope X.env _ (newList []) false (eval iter X.env) (some (assign (.Name y py) X.env))) _ _ s
 refine az (cD (wpAny_comprehension_free (use:=some (assign (.Name y py) X.env)) (Q:=fun _ s'=>SP X pins D .next s') rfl hs S.Ft S.kind S.names
  (ej (hi pins s σ H _ I h) fun v s1 h1=>ej h1 fun Tt s2 h2=>?_)) (fun _ s' hq=>bL (bL hq)) fun _ _ e=>e)
 obtain⟨it,fp,Nv,J,H2,e,I2,T,Mb,f2,hw⟩:=h2
 subst e
 refine uh (RR:=fun acc C=>compPost (model X.prog X.w) X.A X.xe (some (assign (.Name y py) X.env)) (fun _ s'=>SP X pins D .next s') acc C) xm S hg hc he I2 T Mb f2 hw ?_
 intro D' C s' H' m' I' Fu hn q
 show wpAny _ X.A (assign (.Name y py) X.env (.ref D')) _ _ _
 refine wpAny_assign_Name (wV I' hN hy hx (v:= .ref D') rfl (fun DH ZU ⟨a,sb,ha⟩=>?_) hf)
 have ZV:C≠a:=by
  rcases ha with rfl|ha
  ·exact Fu.2.1
  ·exact fun z=>Fu.2.2.2.2.1 y a ha z.symm
 refine⟨m',hn.sameBut sb ZV,fun h3 Pq=>⟨_,H',ZU.turned (t':=DH.toks) (fun b o hb e=>(Pq.2 b hb).trans e) Fu.1 Fu.2.1 Fu.2.2.2.1 Fu.2.2.2.2.1 Fu.2.2.2.2.2,q⟩⟩
theorem eD {K:PySem.W.Frag}{a:Addr}{xs:List V}{g:TG}{tc:TT}{te:TE}{σ0:St}{H2:Hp}{Q:VK}(Pv:Addr->Nat->St->Hp->Prop)(h0: ∀D,H2 D=none->Pv D 0 σ0 (upd H2 D (.lst [])))
  (hl: ∀D i σ H,i<=xs.length->Pv D i σ H->bQ K H a xs)
  (hs: ∀D i x σ H,xs[i]? =some x->Pv D i σ H->g x σ H fun σ2 H2=>tc σ2 H2 fun ok H3=>if ok=true then te σ2 H3 fun y H4=> ∃ys,H4 D=some (.lst ys)/\ys.length < sizeLine/\Pv D (i + 1) σ2 (upd H4 D (.lst (ys ++ [y]))) else Pv D (i + 1) σ2 H3)
  (hd: ∀D σ H,H2 D=none->Pv D xs.length σ H->Q (.ref D) H):xl (Pm K a) g tc te σ0 H2 Q:=by
 intro D hD
 refine⟨fun i m σ H=>m=xs.length - i/\i<=xs.length/\Pv D i σ H,⟨xs.length,by simp,Nat.zero_le _,h0 D hD⟩,?_⟩
 rintro i m σ H ⟨rfl,hi,p⟩
 have q:=hl D i σ H hi p
 by_cases iX:i < xs.length
 ·refine .inr ⟨⟨xs,xs[i],q,by simp[iX]⟩,Pv D (i + 1),fun σ' H' p'=>⟨xs.length - (i + 1),by omega,rfl,iX,p'⟩,fun x H' y=>?_⟩
  obtain⟨e,y⟩:=y
  subst e
  exact hs D i x σ _ (y xs q) p
 ·have e:i=xs.length:=by omega
  subst e
  exact .inl ⟨⟨xs,q,aB _⟩,hd D σ H hD p⟩
theorem HA {K:PySem.W.Frag}{a:Addr}{xs:List V}{g:TG}{tc:TT}{te:TE}{σ0:St}{H2:Hp}{Q:VK}(Pv:Addr->Nat->St->Hp->Prop)(h0: ∀D,H2 D=none->Pv D 0 σ0 (upd H2 D (.lst [])))
  (hl: ∀D i σ H,i<=xs.length->Pv D i σ H->cM K H a xs)
  (hs: ∀D i x σ H,xs[i]? =some x->Pv D i σ H->g x σ H fun σ2 H2=>tc σ2 H2 fun ok H3=>if ok=true then te σ2 H3 fun y H4=> ∃ys,H4 D=some (.lst ys)/\ys.length < sizeLine/\Pv D (i + 1) σ2 (upd H4 D (.lst (ys ++ [y]))) else Pv D (i + 1) σ2 H3)
  (hd: ∀D σ H,H2 D=none->Pv D xs.length σ H->Q (.ref D) H):xl (US K a) g tc te σ0 H2 Q:=by
 intro D hD
 refine⟨fun i m σ H=>m=xs.length - i/\i<=xs.length/\Pv D i σ H,⟨xs.length,by simp,Nat.zero_le _,h0 D hD⟩,?_⟩
 rintro i m σ H ⟨rfl,hi,p⟩
 have q:=hl D i σ H hi p
 by_cases iX:i < xs.length
 ·refine .inr ⟨⟨xs,xs[i],q,by simp[iX]⟩,Pv D (i + 1),fun σ' H' p'=>⟨xs.length - (i + 1),by omega,rfl,iX,p'⟩,fun x H' y=>?_⟩
  obtain⟨e,y⟩:=y
  subst e
  exact hs D i x σ _ (y xs q) p
 ·have e:i=xs.length:=by omega
  subst e
  exact .inl ⟨⟨xs,q,aB _⟩,hd D σ H hD p⟩
theorem Cs {lo:Int}{n:Nat}{g:TG}{tc:TT}{te:TE}{σ0:St}{H2:Hp}{Q:VK}(Pv:Addr->Nat->St->Hp->Prop)(h0: ∀D,H2 D=none->Pv D 0 σ0 (upd H2 D (.lst [])))
  (hs: ∀D i σ H,i < n->Pv D i σ H->g (.int (lo + i)) σ H fun σ2 H2=>tc σ2 H2 fun ok H3=>if ok=true then te σ2 H3 fun y H4=> ∃ys,H4 D=some (.lst ys)/\ys.length < sizeLine/\Pv D (i + 1) σ2 (upd H4 D (.lst (ys ++ [y]))) else Pv D (i + 1) σ2 H3)
  (hd: ∀D σ H,H2 D=none->Pv D n σ H->Q (.ref D) H):xl (Ma lo n) g tc te σ0 H2 Q:=by
 intro D hD
 refine⟨fun i m σ H=>m=n - i/\i<=n/\Pv D i σ H,⟨n,by simp,Nat.zero_le _,h0 D hD⟩,?_⟩
 rintro i m σ H ⟨rfl,hi,p⟩
 by_cases iX:i < n
 ·refine .inr ⟨iX,Pv D (i + 1),fun σ' H' p'=>⟨n - (i + 1),by omega,rfl,iX,p'⟩,fun x H' y=>?_⟩
  obtain⟨e,y⟩:=y
  subst e y
  exact hs D i σ _ iX p
 ·have e:i=n:=by omega
  subst e
  exact .inl ⟨aB _,hd D σ H hD p⟩
theorem Inv.Ct {X:Cx}{pins:List (Addr×Obj)}{σ:St}{H:Hp}{s:Shared}{h':Heap}{a:Addr}{o:HO}{t':Nat}{ch:List Addr}(I:Inv X pins σ H s)(k: ∀b ob,b∉ch->s.heap.get? b=some ob->h'.get? b=some ob)
  (zX: ∀b∈ch,tV X pins H b) (hp:s.heap.objs.size<=a) (new:dI X.prog X.w (upd H a o) h' a o):Inv X pins σ (upd H a o) {s with heap:=h',toks:=t'}:=by
 have hn:H a=none:=I.cH.fresh hp
 have Qb: ∀b u,H b=some u->b∉ch:=fun b u e z=>by rw[(zX b z).1] at e; cases e
 refine I.step (g':=s.gens) (d':=s.drawn) (ch:=ch) (fun b hb=>⟨(zX b hb).2.2.2.1,(zX b hb).2.1,(zX b hb).2.2.2.2.1,(zX b hb).2.2.2.2.2⟩) (fun b ob _ _ hc e _=>k b ob hc e) (fun b ob _ _ hc e _=>⟨ob.slots,k b ob hc e⟩)
  (fun b ob _ e n=>by rw[ay (aY (bp (aK e) hp))]; exact n)
  (fun b ob hc e=>⟨ob,k b ob hc e⟩) (fun b xs e=>by rw[ay (aL e hn)]; exact e) (fun b ob u e=>by rw[ay (aL e hn)]; exact e) (fun b ps e=>⟨#[],by rw[ay (aL e hn),e]; simp⟩) (fun m hm=>?_) (fun b u e=>?_) I.bare
 ·obtain⟨ob,es,ep,ho,r⟩:=hm
  exact⟨ob,es,ep,k _ ob (fun z=>(zX _ z).2.1 rfl) ho,r⟩
 ·by_cases hb:b=a
  ·subst hb
   rw[ag] at e
   cases e
   exact new
  ·rw[ay hb] at e
   refine(I.cH b u e).sU (fun c v hc q=>k c v ?_ q) (fun c q=>by rw[ay (aL q hn)]; exact q) fun c xs q=>by rw[ay (aL q hn)]; exact q
   rcases hc with z|z
   ·rw[z]; exact Qb b u e
   ·exact Qb c _ z
def QR (K:PySem.W.Frag)(a:Addr):It:=
 ⟨fun i H=> ∃xs x,bQ K H a xs/\xs[i]? =some x,fun i H x H'=> ∃p y,H p=none/\x= .ref p/\H'=upd H p (.tup [.int i,y])/\ ∀xs,bQ K H a xs->xs[i]? =some y,fun i H=> ∃xs,bQ K H a xs/\xs.length<=i⟩
theorem Fv {P:Program}{w:World}{K:PySem.W.Frag}{elts:List Expr}{k1}{pos:Pos}(a e it:Addr)(jf:e≠it):Turn P w K (.Tuple elts k1 pos) (QR K a) [e,it] e (fun i h=>(∃old,IsEnum h e it i old)/\h.IsListIter it a i) where
 mem:=by simp
 obj:=fun i h st b hb=>by
  obtain⟨⟨old,he⟩,hit⟩:=st
  have e1:b=e∨b=it:=by simpa using hb
  rcases e1 with rfl|rfl
  ·exact⟨_,he,fun v z=>by have z':Data.fields _ =Data.cell v:=z; cases z'⟩
  ·obtain⟨o,e,c,d⟩:=hit
   exact⟨o,e,fun v z=>by rw[d] at z; cases z⟩
 keep:=fun i h h' st k=>by
  obtain⟨⟨old,he⟩,hit⟩:=st
  exact⟨⟨old,k e (by simp) _ he⟩,hit.at fun o e=>k it (by simp) o e⟩
 item:=by
  intro X hP hw hK hc i pins s σ H E I hf st hg
  subst hP hw hK
  obtain⟨⟨old,he⟩,hit⟩:=st
  obtain⟨xs,x,hq,hx⟩:=hg
  obtain⟨cy,rv,p,hz⟩:=I.list hq
  obtain⟨u,hu,ru⟩:=rv.get hx
  refine wpAny_pyNext_enum_item he hit p.isList (x:=u) (by simpa using hu) jf fun h' ho Vn hT hsz hk=>⟨_,rfl,?_⟩
  refine wpAny_letOwnedTupleGo_enum ho fun h2 ZW Pp=>?_
  have iX:e < s.heap.objs.size:=aK he
  have Fw:h2.get? s.heap.objs.size=some {cls:= .type "tuple",data:= .seq #[.int i s.toks,u]}:=(Pp.2 _ (pW iX)).trans hT
  have hn:H s.heap.objs.size=none:=I.cH.fresh (aB _)
  have I2:Inv X pins σ (upd H s.heap.objs.size (.tup [.int i,x])) {s with heap:=h2,toks:=s.toks + 1}:=by
   refine I.Ct (ch:=[e,it]) (fun b ob hb q=>?_) hf (aB _) ⟨by show 2<=sizeLine; decide,[.int i s.toks,u],.cons ⟨_,rfl⟩ (.cons ru .nil),⟨_,Fw,rfl,_,rfl⟩⟩
   have pY:b≠e/\b≠it:=⟨fun z=>hb (by simp[z]),fun z=>hb (by simp[z])⟩
   exact(Pp.2 b pY.1).trans (hk b ob pY.1 pY.2 q)
  refine⟨.ref s.heap.objs.size,_,I2,rfl,⟨_,x,hn,rfl,rfl,fun ys hy=>by rw[I.z7 hy hq]; exact hx⟩,⟨⟨u,by simpa using ZW⟩,Vn.at fun o q=>(Pp.2 it jf.symm).trans q⟩,fun b hb=>?_⟩
  have Pr:=hf b hb
  rw[ay]
  ·exact Pr.1
  ·have e1:b=e∨b=it:=by simpa using hb
   rcases e1 with rfl|rfl
   ·exact aY iX
   ·obtain⟨o,q,_⟩:=hit
    exact aY (aK q)
 done:=by
  intro X hP hw hK hc i pins s σ H E I hf st hg
  subst hP hw hK
  obtain⟨⟨old,he⟩,hit⟩:=st
  obtain⟨xs,hq,hx⟩:=hg
  obtain⟨cy,rv,p,hz⟩:=I.list hq
  obtain⟨f0,f1,f2,f3,f4,f5⟩:=hf it (by simp)
  have hl:=rv.length
  exact wpAny_pyNext_enum_end (I.ok.hd hc) he hit p.isList (by simp; omega) fun h' eb=>⟨rfl,I.turned (t':=s.toks) (fun b o hb e=>eb b o hb e) f0 f1 f3 f4 f5⟩
 self:=fun _ _ _ _ _ st h=>by
  obtain⟨⟨old,he⟩,hit⟩:=st
  exact wpAny_pyIter_enum he h
def QS (K:PySem.W.Frag)(ta:TA):TI:=fun σ H R=>ta σ H fun vs H1=> ∃a,vs=[.ref a]/\(∃xs,bQ K H1 a xs)/\R (QR K a) H1
theorem qp {X:Cx}{elts:List Expr}{k1}{Nd:Pos}{l:Expr}{ta:TA}{p pos:Pos}(hg:Gl X "enumerate")(hm:X.mg "enumerate"=none)(ha:PA X [l] ta)(hs:starEach [l] X.env=[(false,eval l X.env)]:=by rfl):
  PI X (.Tuple elts k1 Nd) (.Call (.Name "enumerate" p) [l] [] pos) (QS X.K ta):=by
 intro pins s σ H R I h
 refine Call_ (o9 I hg hm boot_enumerate (oh (ej (ha pos pins s σ H _ I h) fun us s1 ⟨vs,H1,I1,r1,q1⟩=>?_) hs rfl))
 obtain⟨a,e,⟨xs,hq⟩,q⟩:=q1
 subst e
 obtain⟨u,rfl,ru⟩:=vals1 r1
 cases ru
 obtain⟨cy,rv,pl,hz⟩:=I1.list hq
 refine call_enumerate_list pl.isList fun h' he hit hsz kp=>?_
 have I2:Inv X pins σ H1 {s1 with heap:=h'}:=I1.kept (t':=s1.toks) kp
 refine wpAny_pyIter_enum he ⟨s1.heap.objs.size + 1,[s1.heap.objs.size + 1,s1.heap.objs.size],_,_,H1,rfl,I2,Fv a _ _ (Nat.succ_ne_self _),⟨⟨_,he⟩,hit⟩,fun b hb=>?_,q⟩
 have e1:b=s1.heap.objs.size + 1∨b=s1.heap.objs.size:=by simpa using hb
 have pY:s1.heap.objs.size<=b:=by
  rcases e1 with rfl|rfl
  ·exact dg _
  ·exact aB _
 exact I1.E7 pY (I1.cH.fresh pY)
theorem mN {K:PySem.W.Frag}{a:Addr}{xs:List V}{g:TG}{tb:TS}{D:Ends}{σ:St}{H:Hp}(Pv:Nat->St->Hp->Prop)(h0:Pv 0 σ H)(hl: ∀i σ H,i<=xs.length->Pv i σ H->bQ K H a xs)
  (hs: ∀i x p σ H,xs[i]? =some x->H p=none->Pv i σ H->g (.ref p) σ (upd H p (.tup [.int i,x])) fun σ2 H2=>tb {D with nx:=Pv (i + 1),ct:=Pv (i + 1),bk:=D.nx} σ2 H2) (hd: ∀σ H,Pv xs.length σ H->D.nx σ H):
  ∃W:Nat->Nat->St->Hp->Prop,(∃m,W 0 m σ H)/\ ∀i m σ H,W i m σ H->
   ((QR K a).stop i H/\D.nx σ H)∨((QR K a).go i H/\ ∃N:St->Hp->Prop,(∀σ' H',N σ' H'-> ∃m',m' < m/\W (i + 1) m' σ' H')/\ ∀x H',(QR K a).Pl i H x H'->g x σ H' fun σ2 H2=>tb {D with nx:=N,ct:=N,bk:=D.nx} σ2 H2):=by
 refine⟨fun i m σ H=>m=xs.length - i/\i<=xs.length/\Pv i σ H,⟨xs.length,by simp,Nat.zero_le _,h0⟩,?_⟩
 rintro i m σ H ⟨rfl,hi,p⟩
 have q:=hl i σ H hi p
 by_cases iX:i < xs.length
 ·refine .inr ⟨⟨xs,xs[i],q,by simp[iX]⟩,Pv (i + 1),fun σ' H' p'=>⟨xs.length - (i + 1),by omega,rfl,iX,p'⟩,fun x H' y=>?_⟩
  obtain⟨pp,y,h1,e1,e2,h2⟩:=y
  subst e1 e2
  exact hs i y pp σ _ (h2 xs q) h1 p
 ·have e:i=xs.length:=by omega
  subst e
  exact .inl ⟨⟨xs,q,aB _⟩,hd σ H p⟩
structure fz (P:Program)(w:World)(K:PySem.W.Frag)(mg:Str->Option Value)(base:Heap)(x:Str)(k:Nat)(ps:List Str)(sp:Sp):Prop where
 ex: ∃(f:Addr) (fd:FuncData),lN P w K mg base sk k f fd ps sp/\mg x=some (.ref f)/\PySem.W.keepIn K (.ref f)=true/\Binds K fd ps []
section
variable {X:Cx}{x:Str}{k:Nat}{ps:List Str}{sp:Sp}{e:Expr}{es:List Expr}{t:TA}{p pos:Pos}
theorem cL (C:fz X.prog X.w X.K X.mg X.base x k ps sp)(hr:fA k X.A)(hg:Gl X x)(ha:PA X (e :: es) t)(rD:(x == ("__debug__":Str))=false:=by decide)
  (he:starEach (e :: es) X.env=(false,eval e X.env) :: starEach es X.env:=by rfl) (iO:(backTo pos (starEach es X.env)).any (·.1)=false:=by rfl):PE X (.Call (.Name x p) (e :: es) [] pos) (wY sp [] E0 t):=by
 obtain⟨f,fd,F,hm,hk,hb⟩:=C.ex
 exact DG F hr hg hm hk hb .nil mM ha rD he iO
theorem HB (C:fz X.prog X.w X.K X.mg X.base x k ps sp)(hr:fA k X.A)(hg:Gl X x)(rD:(x == ("__debug__":Str))=false:=by decide):PE X (.Call (.Name x p) [] [] pos) (wY sp [] E0 Hg):=by
 obtain⟨f,fd,F,hm,hk,hb⟩:=C.ex
 exact Hj F hr hg hm hk hb .nil mM rD
end
structure Df (K:PySem.W.Frag)(mg:Str->Option Value)(x:Str)(st:Stmt):Prop where
 ex: ∃(f:Addr) (fd:FuncData),gv K x x st f fd/\mg x=some (.ref f)
theorem Df.lg {P:Program}{w:World}{K:PySem.W.Frag}{mg:Str->Option Value}{base:Heap}{x:Str}{st:Stmt}{N ps:List Str}{k:Nat}{sp:Sp}(D:Df K mg x st)(S:aW N ps (aA st))
  (hb: ∀(kV doc pm:Value) (an:Option Addr) (dv ct:Value) (us:List Value),us.length=ps.length->bindArgs (PySem.W.fnOf x x (g8 st) (d9 st) (aA st) .none kV doc pm an dv ct) ⟨us,[]⟩=pure (ps.zip us))
  (len: ∀vs H Q E,sp vs H Q E->vs.length=ps.length)
  (gu: ∀(f:Addr) (dv:Value) (A:Around) (outer:List Env) (s:Shared) (H:Hp) (vs:List V) (Q:VK) (E:XK),fA k (A.deeper (envOfC x (aA st) s.heap.objs.size f dv))->sp vs H Q E->
   ∃t,o8 (lO sk P w K mg base N x (aA st) f dv A outer s H E).E6 (d9 st) t/\t {nx:=fun _ H'=>Q .eI H',rt:=Q} (start N vs) H):fz P w K mg base x (k + 1) ps sp:=by
 obtain⟨f,fd,F,hm⟩:=D.ex
 exact⟨f,fd,F.ok S len (gu f),hm,F.kp,F.binds hb⟩
theorem yg {X:Cx}{scope:Scope}(wW: ∀y∈scope.names,y.2≠ .free)(me: ∀y∈scope.names,y.2≠ .cell)(mJ:scope.kind= .function)(ui: ∀x∈scope.names,x.2= .local->scope.names.lookup x.1=some .local):rE X scope [] [] []:=by
 have e:(relabel scope X.env).names=scope.names:=map_eq_self (l:=scope.names) (fun x hx=>by
  obtain⟨n,k⟩:=x
  have:(k == NameKind.free)=false:=by simpa using wW _ hx
  simp[this])
 refine⟨closureFor_none wW,me,mJ,ui,fun x c h=>by simp at h,fun x h=>?_,.nil⟩
 rw[e] at h
 rcases h with h|h
 ·exact absurd rfl (me _ (cB h))
 ·exact absurd rfl (wW _ (cB h))
theorem i8 {X:Cx}{scope:Scope}{x:Str}{c:Addr}{j:Nat}(Ft:closureFor scope X.env=pure [(x,c)])(me: ∀y∈scope.names,y.2≠ .cell)(mJ:scope.kind= .function)(ui: ∀x∈scope.names,x.2= .local->scope.names.lookup x.1=some .local)
  (hx:X.env.cells.lookup x=some c) (QT:List (Str×NameKind)) (QU:(relabel scope X.env).names=QT) (BR: ∀y∈QT,(y.2= .cell∨y.2= .free)->y.1=x) (hN:X.N[j]? =some x) (hk:X.env.kindOf x=some .cell∨X.env.kindOf x=some .free)
  (Mf:(relabel scope X.env).names.lookup x=some .cell∨(relabel scope X.env).names.lookup x=some .free):rE X scope [(x,c)] [x] [j]:=by
 refine⟨Ft,me,mJ,ui,fun y c' h=>?_,fun y h=>?_,.cons ⟨hN,hk,Mf⟩ .nil⟩
 ·have h':=cB h
  have e:(y,c')=(x,c):=by simpa using h'
  cases e
  exact hx
 ·have e:y=x:=by
   rcases h with h|h
   ·rw[QU] at h
    exact BR _ (cB h) (.inl rfl)
   ·rw[QU] at h
    exact BR _ (cB h) (.inr rfl)
  subst e
  exact⟨c,by simp[List.lookup_cons]⟩
section
variable {X:Cx}
def QV (i j:Int):Prop:=Builtin.Int.intBits i<=2 ^ 20/\Builtin.Int.intBits j<=2 ^ 20
theorem KA:ox X (binaryOp .Mult) (rI QV fun i j=> .int (i * j)):=Qp fun _ _ _ _ _ _ _ hc q=>mul_int q (.of_bits hc.1 hc.2)
end
section
variable {prog:Program}{w:World}{A:Around}{E:Value->Shared->Prop}{s:Shared}
end
section
variable {X:Cx}
theorem fB:iz X (.builtin "isinstance") (fun xs H Q=> ∃x c t b,xs=[x,.ty c]/\mH X.K H x t/\PySem.W.kitOne X.K t (.type c)=some b/\Q (.bl b) H):=by
 intro pins s σ H xs us Q I r h
 obtain⟨x,c,t,b,rfl,ty,e,q⟩:=h
 obtain⟨u,u2,rfl,r1,r2⟩:=vals2 r
 obtain rfl:u2=Value.type c:=r2
 exact Fe I r1 ty e fun tk=>⟨.bl b,H,I.tok _,rfl,q⟩
theorem DP: ∀{cs:List String} {us:List Value},Vals (cs.map V.ty) us->us=cs.map Value.type
 |[],_,r=>by rw[vy] at r; cases r; rfl
 |c :: cs,_,r=>by
  rw[dj] at r
  cases r with
  |cons r1 r2=>
   have e1:_ =Value.type c:=r1
   rw[e1,DP r2,dj]
theorem Cu {pins:List (Addr×Obj)}{σ:St}{H:Hp}{s:Shared}{A:Around}{E:Value->Shared->Prop}{Q:Value->Shared->Prop}{x:V}{u t:Value}{tp:Addr}{cs:List String}{b:Bool}(I:Inv X pins σ H s)(rx:RelV x u)(ty:mH X.K H x t)
  (hp:H tp=some (.tup (cs.map V.ty))) (e:PySem.W.kitAny X.K t (cs.map Value.type)=some b) (h: ∀tk,Q (.bool b) {s with toks:=tk}):
  wpAny (model X.prog X.w) A (call (.builtin "isinstance") [u,.ref tp]) Q E s:=by
 obtain⟨_,cy,rv,⟨cl,dd,dt,sl⟩,hg,hc,n,hd⟩:=(show dI X.prog X.w H s.heap tp (.tup (cs.map V.ty)) from I.cH tp _ hp)
 have ei:=DP rv
 subst ei
 simp only at hc hd
 subst hc hd
 cases ty with
 |eI=>cases(show u=Value.none from rx); exact eB PySem.W.kitx_none I.gP True.intro hg e (fun z=>nomatch z) h
 |bl y=>cases(show u=Value.bool y from rx); exact eB PySem.W.kitx_bool I.gP True.intro hg e (fun z=>nomatch z) h
 |int i=>obtain⟨t,q⟩:=(show ∃t,u=Value.int i t from rx); cases q; exact eB PySem.W.kitx_int I.gP True.intro hg e (fun z=>nomatch z) h
 |str y=>obtain⟨t,q⟩:=(show ∃t,u=Value.str y t from rx); cases q; exact eB PySem.W.kitx_str I.gP True.intro hg e (fun z=>nomatch z) h
 |J1 y=>obtain⟨t,q⟩:=(show ∃t,u=Value.float y t from rx); cases q; exact eB PySem.W.kitx_float I.gP True.intro hg e (fun z=>nomatch z) h
 | @lst a xs ea=>
  cases(show u=Value.ref a from rx)
  obtain⟨_,_,n,_,h1⟩:=(show dI X.prog X.w H s.heap a (.lst xs) from I.cH a _ ea)
  exact eB rg I.gP ⟨_,h1,rfl⟩ hg e (fun z=>nomatch z) h
 | @BQ a ob xs ea=>
  cases(show u=Value.ref a from rx)
  obtain⟨_,_,_,n,_,h1⟩:=(show dI X.prog X.w H s.heap a (.BQ ob (.lst xs)) from I.cH a _ ea)
  exact eB rg I.gP ⟨_,h1,rfl⟩ hg e (fun z=>nomatch z) h
 | @tup a xs ea=>
  cases(show u=Value.ref a from rx)
  obtain⟨_,_,_,p⟩:=(show dI X.prog X.w H s.heap a (.tup xs) from I.cH a _ ea)
  obtain⟨o,h1,h2,_⟩:=p
  exact eB PySem.W.kitx_tuple I.gP ⟨o,h1,h2⟩ hg e (fun z=>nomatch z) h
 | @dK a bo ea=>
  cases(show u=Value.ref a from rx)
  obtain⟨_,_,vs,_,p⟩:=(show dI X.prog X.w H s.heap a (.dK bo) from I.cH a _ ea)
  obtain⟨o,es,ep,h1,h2,_⟩:=p
  exact eB rh I.gP ⟨o,h1,h2.1⟩ hg e (fun z=>nomatch z) h
 | @dT a bo ea=>
  cases(show u=Value.ref a from rx)
  obtain⟨_,_,xs,_,o,es,ep,h1,h2,_⟩:=(show dI X.prog X.w H s.heap a (.dT bo) from I.cH a _ ea)
  exact eB rh I.gP ⟨o,h1,h2.1⟩ hg e (fun z=>nomatch z) h
 | @ins a C dx fs ea cl ha hn mI hm=>
  cases(show u=Value.ref a from rx)
  obtain⟨mA,O,_⟩:=qh I.cH ea
  obtain⟨od,J,_⟩:=O.look
  exact eB (PySem.W.kitx_own (cl.get _) cl.hd ha hn mI hm) I.gP J hg e (fun z=>nomatch z) h
theorem Cv:iz X (.builtin "isinstance") (fun xs H Q=> ∃(x:V) (tp:Addr) (cs:List String) (t:Value) (b:Bool),xs=[x,.ref tp]/\H tp=some (.tup (cs.map V.ty))/\mH X.K H x t/\PySem.W.kitAny X.K t (cs.map Value.type)=some b/\Q (.bl b) H):=by
 intro pins s σ H xs us Q I r h
 obtain⟨x,tp,cs,t,b,rfl,hp,ty,e,q⟩:=h
 obtain⟨u,u2,rfl,r1,r2⟩:=vals2 r
 obtain rfl:u2=Value.ref tp:=r2
 exact Cu I r1 ty hp e fun tk=>⟨.bl b,H,I.tok _,rfl,q⟩
def Ny (K:PySem.W.Frag):R2:=fun x y H Q=> ∃a b xs,x= .ref a/\y= .ref b/\bQ K H a xs/\bQ K H b []/\Q (.bl (!xs.isEmpty)) H
theorem HC {n:Nat}(hu:X.A.units + n < cLine):ox X (compareOp .NotEq) (Ny X.K):=by
 intro pins s σ H x y v u Q I rx ry h
 obtain⟨a,b,xs,rfl,rfl,ha,hb,q⟩:=h
 cases rx
 cases ry
 obtain⟨cy,r1,p1,_⟩:=I.list ha
 obtain⟨Fj,r2,p2,_⟩:=I.list hb
 have e2:Fj=[]:=r2.zero
 subst e2
 cases xs with
 |nil=>
  have e1:cy=[]:=r1.zero
  subst e1
  exact SeqAt.RcNeAt.lists (e:=fun _=>true) p1.isList p2.isList rfl (by omega) (fun j h1 _=>absurd h1 (by simp)) X.prog X.w X.xe _ ⟨.bl false,H,I,rfl,q⟩
 |cons z zs=>
  have l1:=r1.length
  exact SeqAt.RcNeAt.lists_lengths p1.isList p2.isList (by simp only[List.size_toArray,← l1]; simp) (by omega) X.prog X.w X.xe _ ⟨.bl true,H,I,rfl,q⟩
def Vo (K:PySem.W.Frag):R2:=fun x y H Q=> ∃p xs i v,x= .ref p/\y= .int i/\(bQ K H p xs∨cM K H p xs)/\sV xs i=some v/\Q v H
theorem Mh:Ho X (Vo X.K):=by
 intro value slice pins s σ H x y v u Q I rx ry h hs
 obtain⟨p,xs,i,z,e1,e2,hq|hq,he,q⟩:=h
 ·exact bh value slice pins s σ H x y v u Q I rx ry ⟨p,xs,i,z,e1,e2,hq,he,q⟩ hs
 ·exact bg value slice pins s σ H x y v u Q I rx ry ⟨p,xs,i,z,e1,e2,hq,he,q⟩ hs
end
theorem aG.new {H:Hp}{p:Addr}{o:HO}(h:H p=none):aG H (upd H p o):=fun b u e=>by rw[ay (aL e h)]; exact e
def Vp (t u:TS):TS:=fun D σ H=> ∃M:St->Hp->Prop,t {D with nx:=M} σ H/\ ∀σ' H',M σ' H'->u D σ' H'
theorem jA {X:Cx}{st:Stmt}{rest:List Stmt}{t u:TS}(h1:PS X st t)(h2:o8 X rest u):o8 X (st :: rest) (Vp t u):=by
 intro pins s σ H D I ⟨M,h,hM⟩
 refine wpAny_execs_cons (ej (h1 pins s σ H {D with nx:=M} I h) fun f s1 q=>?_)
 cases f with
 |next=>
  obtain⟨σ',H',I',q⟩:=q
  exact h2 pins s1 σ' H' D I' (hM _ _ q)
 |ret v=>exact q
 |brk=>exact q
 |cont=>exact q
section
variable {X:Cx}{K:PySem.W.Frag}
theorem jg (h:X.K=K):Ho X (Qx K):=by subst h; exact bh
theorem tJ (h:X.K=K):Ho X (Qy K):=by subst h; exact bg
end
inductive Dt where
 |eI|bl (b:Bool)|int (i:Int)|str (x:Str)|tup (ds:List Dt)|lst (ds:List Dt)
mutual
def Rp (H:Hp):Dt->V->Prop
 | .eI,v=>v= .eI
 | .bl b,v=>v= .bl b
 | .int i,v=>v= .int i
 | .str x,v=>v= .str x
 | .tup ds,v=> ∃a xs,v= .ref a/\H a=some (.tup xs)/\iL H ds xs
 | .lst ds,v=> ∃a xs,v= .ref a/\H a=some (.lst xs)/\iL H ds xs
def iL (H:Hp):List Dt->List V->Prop
 |[],vs=>vs=[]
 |d :: ds,vs=> ∃v r,vs=v :: r/\Rp H d v/\iL H ds r
end
mutual
def Dt.size:Dt->Nat
 | .tup ds=>1 + Dt.fG ds
 | .lst ds=>1 + Dt.fG ds
 | .eI=>1
 | .bl _=>1
 | .int _=>1
 | .str _=>1
def Dt.fG:List Dt->Nat
 |[]=>0
 |d :: ds=>d.size + Dt.fG ds
end
theorem Dt.size_pos (d:Dt):1<=d.size:=by cases d <;> simp[Dt.size]
theorem Dt.iA (a b:List Dt):Dt.fG (a ++ b)=Dt.fG a + Dt.fG b:=by
 induction a with
 |nil=>simp[Dt.fG]
 |cons d ds ih=>simp[Dt.fG,ih]; omega
theorem Dt.qq (a:List Dt):a.length<=Dt.fG a:=by
 induction a with
 |nil=>simp[Dt.fG]
 |cons d ds ih=>
  have:=d.size_pos
  simp[Dt.fG]; omega
theorem uj {H:Hp}{v:V}:Rp H .eI v↔v= .eI:=by unfold Rp; exact Iff.rfl
theorem qr {H:Hp}{v:V}{b:Bool}:Rp H (.bl b) v↔v= .bl b:=by unfold Rp; exact Iff.rfl
theorem eJ {H:Hp}{v:V}{i:Int}:Rp H (.int i) v↔v= .int i:=by unfold Rp; exact Iff.rfl
theorem g9 {H:Hp}{v:V}{x:Str}:Rp H (.str x) v↔v= .str x:=by unfold Rp; exact Iff.rfl
theorem jQ {H:Hp}{v:V}{ds:List Dt}:Rp H (.tup ds) v↔ ∃a xs,v= .ref a/\H a=some (.tup xs)/\iL H ds xs:=by unfold Rp; exact Iff.rfl
theorem jR {H:Hp}{v:V}{ds:List Dt}:Rp H (.lst ds) v↔ ∃a xs,v= .ref a/\H a=some (.lst xs)/\iL H ds xs:=by unfold Rp; exact Iff.rfl
theorem ee {H:Hp}{vs:List V}:iL H [] vs↔vs=[]:=by unfold iL; exact Iff.rfl
theorem cf {H:Hp}{d:Dt}{ds:List Dt}{vs:List V}:iL H (d :: ds) vs↔ ∃v r,vs=v :: r/\Rp H d v/\iL H ds r:=by
 conv=>lhs; unfold iL
mutual
theorem Rp.mono {H H':Hp}(s:aG H H'): ∀(d:Dt) {v:V},Rp H d v->Rp H' d v
 | .eI,_,h=>uj.mpr (uj.mp h)
 | .bl _,_,h=>qr.mpr (qr.mp h)
 | .int _,_,h=>eJ.mpr (eJ.mp h)
 | .str _,_,h=>g9.mpr (g9.mp h)
 | .tup ds,_,h=>by
  obtain⟨a,xs,e,h1,h2⟩:=jQ.mp h
  exact jQ.mpr ⟨a,xs,e,s _ _ h1,iL.mono s ds h2⟩
 | .lst ds,_,h=>by
  obtain⟨a,xs,e,h1,h2⟩:=jR.mp h
  exact jR.mpr ⟨a,xs,e,s _ _ h1,iL.mono s ds h2⟩
theorem iL.mono {H H':Hp}(s:aG H H'): ∀(ds:List Dt) {vs:List V},iL H ds vs->iL H' ds vs
 |[],_,h=>ee.mpr (ee.mp h)
 |d :: ds,_,h=>by
  obtain⟨v,r,e,h1,h2⟩:=cf.mp h
  exact cf.mpr ⟨v,r,e,Rp.mono s d h1,iL.mono s ds h2⟩
end
theorem iL.length {H:Hp}: ∀{ds:List Dt} {vs:List V},iL H ds vs->ds.length=vs.length
 |[],_,h=>by rw[ee.mp h]; rfl
 |d :: ds,_,h=>by
  obtain⟨v,r,e,_,h2⟩:=cf.mp h
  rw[e,cu,cu,iL.length h2]
theorem iL.get {H:Hp}: ∀{ds:List Dt} {vs:List V} {i:Nat} {d:Dt},iL H ds vs->ds[i]? =some d-> ∃v,vs[i]? =some v/\Rp H d v
 |[],_,_,_,_,e=>by simp at e
 |d :: ds,_,0,_,h,e=>by
  obtain⟨v,r,rfl,h1,_⟩:=cf.mp h
  simp at e; subst e
  exact⟨v,rfl,h1⟩
 |d :: ds,_,i + 1,_,h,e=>by
  obtain⟨v,r,rfl,_,h2⟩:=cf.mp h
  obtain⟨u,h3,h4⟩:=iL.get (i:=i) h2 (by simpa using e)
  exact⟨u,by simpa using h3,h4⟩
theorem iL.append {H:Hp}: ∀{ds es:List Dt} {vs us:List V},iL H ds vs->iL H es us->iL H (ds ++ es) (vs ++ us)
 |[],_,_,_,h,h'=>by rw[ee.mp h]; exact h'
 |d :: ds,_,_,_,h,h'=>by
  obtain⟨v,r,rfl,h1,h2⟩:=cf.mp h
  exact cf.mpr ⟨v,r ++ _,rfl,h1,iL.append h2 h'⟩
theorem iL.one {H:Hp}{d:Dt}{v:V}(h:Rp H d v):iL H [d] [v]:=cf.mpr ⟨v,[],rfl,h,ee.mpr rfl⟩
theorem iL.ints {H:Hp}: ∀(ns:List Int),iL H (ns.map Dt.int) (ns.map V.int)
 |[]=>ee.mpr rfl
 |n :: ns=>cf.mpr ⟨_,_,rfl,eJ.mpr rfl,iL.ints ns⟩
theorem lS {H:Hp}{a:Addr}{xs:List V}{ds:List Dt}(h:H a=some (.lst xs))(r:iL H ds xs):Rp H (.lst ds) (.ref a):=jR.mpr ⟨a,xs,rfl,h,r⟩
theorem fZ {H:Hp}{a:Addr}{xs:List V}{ds:List Dt}(h:H a=some (.tup xs))(r:iL H ds xs):Rp H (.tup ds) (.ref a):=jQ.mpr ⟨a,xs,rfl,h,r⟩
def Nz:Dt->String
 | .eI=>"NoneType"| .bl _=>"bool"| .int _=>"int"| .str _=>"str"| .tup _=>"tuple"| .lst _=>"list"
theorem Rp.ty {K:PySem.W.Frag}{H:Hp}{d:Dt}{v:V}(h:Rp H d v):mH K H v (.type (Nz d)):=by
 cases d with
 |eI=>rw[uj.mp h]; exact .eI
 |bl b=>rw[qr.mp h]; exact .bl b
 |int i=>rw[eJ.mp h]; exact .int i
 |str x=>rw[g9.mp h]; exact .str x
 |tup ds=>obtain⟨a,xs,e,h1,_⟩:=jQ.mp h; rw[e]; exact .tup h1
 |lst ds=>obtain⟨a,xs,e,h1,_⟩:=jR.mp h; rw[e]; exact .lst h1
def Vq:Dt->Bool| .lst _=>true|_=>false
def Vr:Dt->Bool| .tup _=>true|_=>false
def isLT:Dt->Bool| .lst _=>true| .tup _=>true|_=>false
def TB:Dt->Bool| .str _=>true|_=>false
def ZX:Dt->Bool| .bl _=>true|_=>false
def X2:Dt->Bool| .int _=>true| .bl _=>true|_=>false
def ZY:Dt->Bool| .int _=>true|_=>false
theorem HE {K:PySem.W.Frag}(d:Dt):PySem.W.kitOne K (.type (Nz d)) (.type "list")=some (Vq d):=by cases d <;> (first|rfl|decide +kernel)
theorem HF {K:PySem.W.Frag}(d:Dt):PySem.W.kitOne K (.type (Nz d)) (.type "tuple")=some (Vr d):=by cases d <;> (first|rfl|decide +kernel)
theorem xn {K:PySem.W.Frag}(d:Dt):PySem.W.kitOne K (.type (Nz d)) (.type "str")=some (TB d):=by cases d <;> (first|rfl|decide +kernel)
theorem Mi {K:PySem.W.Frag}(d:Dt):PySem.W.kitOne K (.type (Nz d)) (.type "bool")=some (ZX d):=by cases d <;> (first|rfl|decide +kernel)
theorem QW {K:PySem.W.Frag}(d:Dt):PySem.W.kitOne K (.type (Nz d)) (.type "int")=some (X2 d):=by cases d <;> (first|rfl|decide +kernel)
theorem NA {K:PySem.W.Frag}(d:Dt):PySem.W.kitAny K (.type (Nz d)) [.type "list",.type "tuple"]=some (isLT d):=by
 unfold PySem.W.kitAny
 rw[HE]
 cases d <;> (first|rfl|(show PySem.W.kitAny K _ [.type "tuple"]=_; unfold PySem.W.kitAny; rw[HF]; rfl))
theorem sm {α β:Type}{F:α->β->Prop}: ∀{l₁:List α} {l₂:List β} {y:β},Paired F l₁ l₂->l₂[l₂.length - 1]? =some y-> ∃l d,l₁=l ++ [d]/\F d y/\Paired F l l₂.dropLast
 |_,_,_,.nil,e=>by simp at e
 |a :: l₁,b :: l₂,y,.cons r t,e=>by
  cases t with
  |nil=>
   simp at e; subst e
   exact⟨[],a,rfl,r,.nil⟩
  |cons r' t'=>
   rename_i a' b' m₁ m₂
   have e':(b' :: m₂)[(b' :: m₂).length - 1]? =some y:=by
    have h1:(b :: b' :: m₂).length - 1=((b' :: m₂).length - 1) + 1:=by simp
    rw[h1] at e
    simpa using e
   obtain⟨l,d,e1,h1,h2⟩:=sm (.cons r' t') e'
   refine⟨a :: l,d,by rw[e1]; rfl,h1,?_⟩
   rw[List.dropLast_cons_of_ne_nil (by simp)]
   exact .cons r h2
def lT (H H':Hp)(d:Dt)(v:V):Prop:= ∃t u1 u2,v= .ref t/\H' t=some (.tup [u1,u2])/\Rp H d u1/\Rp H d u2
theorem lT.mono {H H' H2:Hp}{d:Dt}{v:V}(h:lT H H' d v)(k: ∀b xs,H' b=some (.tup xs)->H2 b=some (.tup xs)):lT H H2 d v:=by
 obtain⟨t,u1,u2,e,h1,h2⟩:=h
 exact⟨t,u1,u2,e,k _ _ h1,h2⟩
theorem HG {H:Hp}{p:Addr}{o:HO}(h:H p=none): ∀b xs,H b=some (.tup xs)->upd H p o b=some (.tup xs):=fun b xs e=>aG.new h b _ e
theorem dW {H:Hp}{p:Addr}{o:HO}{ys:List V}(h:H p=some (.lst ys)): ∀b xs,H b=some (.tup xs)->upd H p o b=some (.tup xs):=fun b xs e=>by
 rw[ay (md e h (by intro z; cases z))]; exact e
theorem aG.dA {H0 H:Hp}{p:Addr}{o:HO}(s:aG H0 H)(h:H0 p=none):aG H0 (upd H p o):=fun b u e=>by
 rw[ay (aL e h)]; exact s b u e
def kids:Dt->List Dt
 | .tup ds=>ds
 | .lst ds=>ds
 |_=>[]
theorem DQ {H:Hp}{d:Dt}{v:V}(h:Rp H d v)(hd:isLT d=true): ∃a xs,v= .ref a/\(∀(K:PySem.W.Frag) (H':Hp),aG H H'->bQ K H' a xs∨cM K H' a xs)/\iL H (kids d) xs:=by
 cases d with
 |tup ds=>
  obtain⟨a,xs,e,h1,h2⟩:=jQ.mp h
  exact⟨a,xs,e,fun K H' s=> .inr (cM.of (s _ _ h1)),h2⟩
 |lst ds=>
  obtain⟨a,xs,e,h1,h2⟩:=jR.mp h
  exact⟨a,xs,e,fun K H' s=> .inl (bQ.of (s _ _ h1)),h2⟩
 |_=>cases hd
theorem Fx {d:Dt}(hd:isLT d=true):d.size=1 + Dt.fG (kids d):=by
 cases d with
 |tup ds=>simp[Dt.size,kids]
 |lst ds=>simp[Dt.size,kids]
 |_=>cases hd
mutual
def Dt.plain:Dt->Bool
 | .int _=>true
 | .str _=>true
 | .tup ds=>Dt.lU ds
 | .lst ds=>Dt.lU ds
 | .eI=>false
 | .bl _=>false
def Dt.lU:List Dt->Bool
 |[]=>true
 |d :: ds=>d.plain && Dt.lU ds
end
theorem Dt.pC {ds:List Dt}:Dt.lU ds=true↔ ∀d∈ds,d.plain=true:=by
 induction ds with
 |nil=>simp[Dt.lU]
 |cons d ds ih=>simp[Dt.lU,ih]
theorem Cw {d:Dt}(h:d.plain=true): ∀c∈kids d,c.plain=true:=by
 cases d with
 |tup ds=>exact Dt.pC.mp (by simpa[Dt.plain,kids] using h)
 |lst ds=>exact Dt.pC.mp (by simpa[Dt.plain,kids] using h)
 |_=>intro c hc; cases hc
theorem sX {ds:List Dt}{i:Nat}{d:Dt}(h:ds[i]? =some d):ds.take (i + 1)=ds.take i ++ [d]:=by rw[ET,h]; rfl
theorem vM (ds:List Dt)(i:Nat):Dt.fG (ds.take i)<=Dt.fG ds:=by
 have:=Dt.iA (ds.take i) (ds.drop i)
 rw[List.take_append_drop] at this
 omega
theorem i9 {n:Nat}(h:n<=1000000):n < sizeLine:=pX h (by rw[eZ]; decide)
open PySem.W
def jS {α:Type}(key:Nat->Int)(n:Nat)(Po:α->Prop):KasT α->Prop
 | .ret a=>Po a
 | .ask i j k=>i < n/\j < n/\jS key n Po (k (decide (key i < key j)))
theorem hJ {α:Type}{key:Nat->Int}{n:Nat}{Po X3:α->Prop}(h: ∀a,Po a->X3 a): ∀(t:KasT α),jS key n Po t->jS key n X3 t
 | .ret a,q=>h a q
 | .ask i j k,q=>⟨q.1,q.2.1,hJ h _ q.2.2⟩
theorem iY {α β:Type}{key:Nat->Int}{n:Nat}{Po:β->Prop}{f:α->KasT β}: ∀(t:KasT α),jS key n (fun a=>jS key n Po (f a)) t->jS key n Po (t.bind f)
 | .ret a,q=>q
 | .ask i j k,q=>⟨q.1,q.2.1,iY _ q.2.2⟩
theorem uk {α:Type}{key:Nat->Int}{n:Nat}{Po:α->Prop}{cmp:Nat->Nat->(Bool->Shared->Prop)->Shared->Prop}{s:Shared}{Q:α->Shared->Prop}
  (hc: ∀i j (C:Bool->Shared->Prop),i < n->j < n->C (decide (key i < key j)) s->cmp i j C s) (hq: ∀a,Po a->Q a s): ∀(t:KasT α),jS key n Po t->t.kasWp cmp Q s
 | .ret a,q=>hq a q
 | .ask i j k,q=>hc i j _ q.1 q.2.1 (uk hc hq _ q.2.2)
def kf (key:Nat->Int)(p:Array Nat)(i:Nat):Int:=key (p.getD i 0)
def qt (n:Nat)(p:Array Nat):Prop:=p.Perm (List.toArray (List.range n))
theorem qt.size {n:Nat}{p:Array Nat}(h:qt n p):p.size=n:=by
 have:=Array.Perm.size_eq h
 simpa using this
theorem qt.lt {n:Nat}{p:Array Nat}(h:qt n p)(h0:0 < n)(i:Nat):p.getD i 0 < n:=by
 by_cases hi:i < p.size
 ·have e:p.getD i 0=p[i]:=by simp[Array.getD,hi]
  rw[e]
  have hm:p[i]∈p:=Array.getElem_mem hi
  have:=(Array.Perm.mem_iff h).mp hm
  simpa using this
 ·have e:p.getD i 0=0:=by simp[Array.getD,hi]
  rw[e]; exact h0
theorem qu {p q:Array Nat}{i j:Nat}(h:p[i]? =q[j]?):p.getD i 0=q.getD j 0:=by
 rw[JW,JW,h]
theorem pE {key:Nat->Int}{p:Array Nat}{i j:Nat}(hj:j<=p.size)(a:Nat):kf key (kas_rev p i j) a=if i<=a/\a < j then kf key p (i + j - 1 - a) else kf key p a:=by
 have:=getElem?_mirror_all (xs:=p) (i:=i) hj a
 by_cases h:i<=a/\a < j
 ·rw[a8 h] at this ⊢
  exact di key (qu this)
 ·rw[aQ h] at this ⊢
  exact di key (qu this)
theorem qt.rev {n:Nat}{p:Array Nat}(h:qt n p)(i j:Nat):qt n (kas_rev p i j):=(mirror_perm p i j _).trans h
theorem HI {key:Nat->Int}{p:Array Nat}{src d:Nat}(hs:src < p.size)(hd:d<=src)(k:Nat):kf key (bubble p src d) k=if k=src - d then kf key p src else if src - d < k/\k<=src then kf key p (k - 1) else kf key p k:=by
 have:=getElem?_bubble (xs:=p) hs d hd k
 by_cases h:k=src - d
 ·rw[a8 h] at this ⊢
  exact di key (qu this)
 ·rw[aQ h] at this ⊢
  by_cases h2:src - d < k/\k<=src
  ·rw[a8 h2] at this ⊢
   exact di key (qu this)
  ·rw[aQ h2] at this ⊢
   exact di key (qu this)
def lh (key:Nat->Int)(p:Array Nat)(m:Nat):Prop:= ∀a b,a<=b->b < m->kf key p a<=kf key p b
def HJ (key:Nat->Int)(p:Array Nat)(m:Nat):Prop:= ∀a b,a<=b->b < m->kf key p b<=kf key p a
section
variable {key:Nat->Int}{n:Nat}
theorem HL {p:Array Nat}(hp:qt n p)(h0:0 < n): ∀(f m:Nat),1<=m->lh key p m->jS key n (fun r=>m<=r/\r<=m + f/\lh key p r/\(r=m + f∨kf key p r < kf key p (r - 1))) (kas_asc p f m)
 |0,m,h1,hs=>⟨aB _,aB _,hs,.inl rfl⟩
 |f + 1,m,h1,hs=>by
  unfold kas_asc
  refine⟨hp.lt h0 _,hp.lt h0 _,?_⟩
  by_cases c:key (p.getD m 0) < key (p.getD (m - 1) 0)
  ·rw[decide_eq_true c]; dsimp only; rw[if_pos rfl]
   exact⟨aB _,by omega,hs,.inr c⟩
  ·rw[decide_eq_false c]; dsimp only; rw[if_neg Bool.false_ne_true]
   have Kz:lh key p (m + 1):=by
    intro a b GR hb
    by_cases KC:b < m
    ·exact hs a b GR KC
    ·have e:b=m:=by omega
     subst e
     by_cases NB:a=b
     ·rw[NB]; exact eO _
     ·have h2:=hs a (b - 1) (by omega) (by omega)
      have h3:kf key p (b - 1)<=kf key p b:=by unfold kf; omega
      omega
   refine hJ (fun r ⟨q1,q2,q3,q4⟩=>⟨by omega,by omega,q3,?_⟩) _ (HL hp h0 f (m + 1) (by omega) Kz)
   rcases q4 with q4|q4
   ·exact .inl (by omega)
   ·exact .inr q4
theorem yh (h0:0 < n): ∀(f:Nat) (p:Array Nat) (m q:Nat),qt n p->m + f<=n->q + 1<=m->HJ key p m->(∀a,m - (q + 1)<=a->a < m->kf key p a=kf key p (m - 1))->
  jS key n (fun r=>qt n r.1/\1<=r.2.1/\r.2.1<=n/\r.2.2 + 1<=r.2.1/\HJ key r.1 r.2.1/\ ∀a,r.2.1 - (r.2.2 + 1)<=a->a < r.2.1->kf key r.1 a=kf key r.1 (r.2.1 - 1)) (kas_desc f p m q)
 |0,p,m,q,hp,hm,hq,hs,he=>⟨hp,(by show 1<=m; omega),(by show m<=n; omega),hq,hs,he⟩
 |f + 1,p,m,q,hp,hm,hq,hs,he=>by
  unfold kas_desc
  have dn: ∀{r:Array Nat},(∀a,a < m->kf key r a=kf key p a)->kf key r m=kf key p m->kf key p m<=kf key p (m - 1)->HJ key r (m + 1):=by
   intro r hr QX c a b GR hb
   by_cases KC:b < m
   ·rw[hr a (by omega),hr b KC]; exact hs a b GR KC
   ·have e:b=m:=by omega
    subst e
    by_cases NB:a=b
    ·rw[NB]; exact eO _
    ·rw[QX,hr a (by omega)]
     have h2:=hs a (b - 1) (by omega) (by omega)
     omega
  refine⟨hp.lt h0 _,hp.lt h0 _,?_⟩
  by_cases c:key (p.getD m 0) < key (p.getD (m - 1) 0)
  ·rw[decide_eq_true c]; dsimp only; rw[if_pos rfl]
   have c':kf key p m<=kf key p (m - 1):=by unfold kf; omega
   have last: ∀{r:Array Nat} (a:Nat),m + 1 - (0 + 1)<=a->a < m + 1->kf key r a=kf key r (m + 1 - 1):=fun{r} a h1 h2=>by
    have e:a=m + 1 - 1:=by omega
    rw[e]
   by_cases X4:q > 0
   ·rw[a8 X4]
    have hz:m<=p.size:=by rw[hp.size]; omega
    have hr: ∀a,a < m->kf key (kas_rev p (m - (q + 1)) m) a=kf key p a:=fun a ha=>by
     rw[pE hz]
     split
     ·rename_i h
      rw[he a h.1 h.2,he _ (by omega) (by omega)]
     ·rfl
    have QX:kf key (kas_rev p (m - (q + 1)) m) m=kf key p m:=by rw[pE hz,aQ (by omega)]
    exact yh h0 f _ (m + 1) 0 (hp.rev _ _) (by omega) (by omega) (dn hr QX c') last
   ·rw[aQ X4]
    exact yh h0 f p (m + 1) 0 hp (by omega) (by omega) (dn (fun _ _=>rfl) rfl c') last
  ·rw[decide_eq_false c]; dsimp only; rw[if_neg Bool.false_ne_true]
   refine⟨hp.lt h0 _,hp.lt h0 _,?_⟩
   by_cases d:key (p.getD (m - 1) 0) < key (p.getD m 0)
   ·rw[decide_eq_true d]; dsimp only; rw[if_pos rfl]
    exact⟨hp,(by show 1<=m; omega),(by show m<=n; omega),hq,hs,he⟩
   ·rw[decide_eq_false d]; dsimp only; rw[if_neg Bool.false_ne_true]
    have e0:kf key p m=kf key p (m - 1):=by unfold kf; omega
    refine yh h0 f p (m + 1) (q + 1) hp (by omega) (by omega) (dn (fun _ _=>rfl) rfl (by omega)) (fun a h1 h2=>?_)
    have e1:m + 1 - 1=m:=by omega
    rw[e1]
    by_cases NB:a=m
    ·rw[NB]
    ·rw[e0]; exact he a (by omega) (by omega)
theorem DR (h0:0 < n){p:Array Nat}{m:Nat}(hp:qt n p)(h1:1<=m)(hm:m<=n)(hs:HJ key p m):jS key n (fun r=>qt n r.2/\1<=r.1/\r.1<=n/\lh key r.2 r.1) (kas_tail3 m n p):=by
 unfold kas_tail3
 have hz:m<=p.size:=by rw[hp.size]; omega
 have hu:lh key (kas_rev p 0 m) m:=by
  intro a b GR hb
  rw[pE hz,pE hz,a8 ⟨bF _,by omega⟩,a8 ⟨bF _,hb⟩]
  exact hs _ _ (by omega) (by omega)
 refine iY _ (hJ (fun r ⟨q1,q2,q3,_⟩=>?_) _ (HL (hp.rev 0 m) h0 (n - m) m h1 hu))
 exact⟨hp.rev 0 m,by omega,by omega,q3⟩
theorem um (h0:0 < n){p:Array Nat}{m:Nat}(hp:qt n p)(hm:m + 1<=n)(hs:HJ key p (m + 1)):jS key n (fun r=>qt n r.2/\1<=r.1/\r.1<=n/\lh key r.2 r.1) (kas_descPart m n p):=by
 unfold kas_descPart
 refine iY _ (hJ (fun r ⟨q1,q2,q3,q4,q5,q6⟩=>?_) _ (yh h0 (n - (m + 1)) p (m + 1) 0 hp (by omega) (by omega) hs fun a h1 h2=>by
  have e:a=m + 1 - 1:=by omega
  rw[e]))
 by_cases hq:r.2.2 > 0
 ·rw[a8 hq]
  have hz:r.2.1<=r.1.size:=by rw[q1.size]; omega
  refine DR h0 (q1.rev _ _) q2 q3 fun a b GR hb=>?_
  have hr: ∀a,a < r.2.1->kf key (kas_rev r.1 (r.2.1 - (r.2.2 + 1)) r.2.1) a=kf key r.1 a:=fun a ha=>by
   rw[pE hz]
   split
   ·rename_i h
    rw[q6 a h.1 h.2,q6 _ (by omega) (by omega)]
   ·rfl
  rw[hr a (by omega),hr b hb]
  exact q5 a b GR hb
 ·rw[aQ hq]
  exact DR h0 q1 q2 q3 q5
theorem KD (h0:0 < n){p:Array Nat}(hp:qt n p):jS key n (fun r=>qt n r.2/\1<=r.1/\r.1<=n/\lh key r.2 r.1) (kas_count n p):=by
 unfold kas_count
 have ZZ:lh key p 1:=fun a b GR hb=>by
  have e:a=b:=by omega
  rw[e]; exact eO _
 refine iY _ (hJ (fun m ⟨q1,q2,q3,q4⟩=>?_) _ (HL hp h0 (n - 1) 1 (aB _) ZZ))
 by_cases QY:(m == n)=true
 ·rw[a8 QY]
  exact⟨hp,q1,by omega,q3⟩
 ·rw[aQ QY]
  have jf:m≠n:=fun z=>QY (by simp[z])
  have iX:kf key p m < kf key p (m - 1):=by
   rcases q4 with q4|q4
   ·exact absurd q4 (by omega)
   ·exact q4
  by_cases TC:m > 1
  ·rw[a8 TC]
   refine⟨hp.lt h0 _,hp.lt h0 _,?_⟩
   by_cases c:key (p.getD 0 0) < key (p.getD (m - 1) 0)
   ·rw[decide_eq_true c]; dsimp only; rw[if_pos rfl]
    exact⟨hp,q1,by omega,q3⟩
   ·rw[decide_eq_false c]; dsimp only; rw[if_neg Bool.false_ne_true]
    have hz:m<=p.size:=by rw[hp.size]; omega
    have heq: ∀a,a < m->kf key p a=kf key p (m - 1):=fun a ha=>by
     have h1:=q3 0 a (bF _) ha
     have h2:=q3 a (m - 1) (by omega) (by omega)
     have h3:kf key p (m - 1)<=kf key p 0:=by unfold kf; omega
     omega
    have hr: ∀a,a < m->kf key (kas_rev p 0 m) a=kf key p (m - 1):=fun a ha=>by
     rw[pE hz,a8 ⟨bF _,ha⟩]
     exact heq _ (by omega)
    refine um h0 (hp.rev _ _) (by omega) fun a b GR hb=>?_
    by_cases KC:b < m
    ·rw[hr a (by omega),hr b KC]; exact eO _
    ·have e:b=m:=by omega
     subst e
     by_cases NB:a=b
     ·rw[NB]; exact eO _
     ·rw[hr a (by omega),pE hz,aQ (by omega)]
      omega
  ·rw[aQ TC]
   have e:m=1:=by omega
   subst e
   refine um h0 hp (by omega) fun a b GR hb=>?_
   by_cases Vs:a=b
   ·rw[Vs]; exact eO _
   ·have e1:a=0:=by omega
    have e2:b=1:=by omega
    subst e1 e2
    have e3:(1:Nat) - 1=0:=rfl
    rw[e3] at iX
    omega
theorem yi (h0:0 < n){p:Array Nat}{k:Nat}(hp:qt n p)(hs:lh key p k): ∀(f l r:Nat),l<=r->r<=k->r - l<=f->(∀i,i < l->kf key p i<=kf key p k)->(∀i,r<=i->i < k->kf key p k < kf key p i)->
  jS key n (fun m=>m<=k/\(∀i,i < m->kf key p i<=kf key p k)/\ ∀i,m<=i->i < k->kf key p k < kf key p i) (kas_place p k f l r)
 |0,l,r,Z0,TF,hf,h1,h2=>by
  have e:l=r:=by omega
  subst e
  exact⟨TF,h1,h2⟩
 |f + 1,l,r,Z0,TF,hf,h1,h2=>by
  unfold kas_place
  by_cases NC:l≥r
  ·rw[a8 NC]
   have e:l=r:=by omega
   subst e
   exact⟨TF,h1,h2⟩
  ·rw[aQ NC]
   refine⟨hp.lt h0 _,hp.lt h0 _,?_⟩
   by_cases c:key (p.getD k 0) < key (p.getD ((l + r) / 2) 0)
   ·rw[decide_eq_true c]; dsimp only; rw[if_pos rfl]
    refine yi h0 hp hs f l ((l + r) / 2) (by omega) (by omega) (by omega) h1 fun i hi Vt=>?_
    have:=hs ((l + r) / 2) i hi Vt
    have c':kf key p k < kf key p ((l + r) / 2):=c
    omega
   ·rw[decide_eq_false c]; dsimp only; rw[if_neg Bool.false_ne_true]
    refine yi h0 hp hs f ((l + r) / 2 + 1) r (by omega) TF (by omega) (fun i hi=>?_) h2
    have:=hs i ((l + r) / 2) (by omega) (by omega)
    have c': ¬ kf key p k < kf key p ((l + r) / 2):=c
    omega
theorem Mj (h0:0 < n): ∀(f:Nat) (p:Array Nat) (k:Nat),qt n p->k + f=n->lh key p k->jS key n (fun r=>qt n r/\lh key r n) (kas_bin f p k)
 |0,p,k,hp,hk,hs=>⟨hp,by rw[← hk]; exact hs⟩
 |f + 1,p,k,hp,hk,hs=>by
  unfold kas_bin
  refine iY _ (hJ (fun l ⟨q1,q2,q3⟩=>?_) _ (yi h0 hp hs k 0 k (bF _) (aB _) (by omega) (fun i hi=>absurd hi (fS _)) fun i h1 h2=>by omega))
  have hz:k < p.size:=by rw[hp.size]; omega
  refine Mj h0 f _ (k + 1) ((bubble_perm p k _).trans hp) (by omega) fun a b GR hb=>?_
  rw[HI hz (by omega),HI hz (by omega)]
  have el:k - (k - l)=l:=by omega
  rw[el]
  by_cases ha:a=l
  ·rw[a8 ha]
   by_cases pY:b=l
   ·rw[a8 pY]; exact eO _
   ·rw[aQ pY,a8 ⟨by omega,by omega⟩]
    have:=q3 (b - 1) (by omega) (by omega)
    omega
  ·rw[aQ ha]
   by_cases X5:l < a/\a<=k
   ·rw[a8 X5,aQ (by omega),a8 ⟨by omega,by omega⟩]
    exact hs _ _ (by omega) (by omega)
   ·rw[aQ X5]
    have Vu:a < l:=by omega
    by_cases pY:b=l
    ·rw[a8 pY]; exact q2 a Vu
    ·rw[aQ pY]
     by_cases Pr:l < b/\b<=k
     ·rw[a8 Pr]
      exact hs _ _ (by omega) (by omega)
     ·rw[aQ Pr]
      exact hs _ _ GR (by omega)
theorem HM (h0:0 < n):jS key n (fun r=>qt n r/\lh key r n) (kas_sort n):=by
 unfold kas_sort
 refine iY _ (hJ (fun r ⟨q1,q2,q3,q4⟩=>?_) _ (KD h0 (JX _)))
 by_cases h:r.1 < n
 ·rw[a8 h]
  have e:max r.1 1=r.1:=by omega
  rw[e]
  exact Mj h0 _ _ _ q1 (by omega) q4
 ·rw[aQ h]
  have e:r.1=n:=by omega
  rw[e] at q4
  exact⟨q1,q4⟩
end
section
variable {prog:Program}{w:World}{A:Around}{E:Value->Shared->Prop}{s:Shared}
theorem yj {a:Addr}{vs:List Value}{n:Nat}{P:PySem.Fin->Shared->Prop}{key:Nat->Int}{κ:SortKind}(ho:s.heap.get? a=some (seqObj "list" vs.toArray n))(BS:vs.length < 64)
  (hk:2<=vs.length-> ∀(s':Shared) (Q:SortKind->Shared->Prop),(∀b o,b≠a->s.heap.get? b=some o->s'.heap.get? b=some o)->Q κ s'->wpAny (model prog w) A (keyKind' vs.toArray) Q (fun _ _=>False) s')
  (hc: ∀(s':Shared) (i j:Nat) (C:Bool->Shared->Prop),(∀b o,b≠a->s.heap.get? b=some o->s'.heap.get? b=some o)->i < vs.length->j < vs.length->C (decide (key i < key j)) s'->
   wpAny (model prog w) A (keyLt' κ (vs.getD i Value.none) (vs.getD j Value.none)) C (fun _ _=>False) s')
  (h: ∀p:Array Nat,qt vs.length p->lh key p vs.length->P (.done (.ret .none)) {s with heap:=sortedHeap s.heap a vs (p.toList.map fun i=>vs.getD i Value.none).toArray}):
  wpAny (model prog w) A (Builtin.«list.sort» ⟨[.ref a],[]⟩) P E s:=by
 rw[list_sort_plain]
 have ha:a < s.heap.objs.size:=aK ho
 have hl:sizeLine=16777216:=eZ
 refine az (listItems_at ho rfl ?_)
 refine az (vv ho rfl ?_ (by rw[bA]; omega) (bF _))
 obtain⟨e1,Fy⟩: ∃e1,(s.heap.update a (Obj.mapSeq fun _=>(#[]:Array Value))).get? a=some (seqObj "list" #[] e1):=⟨_,L6 ho (fun _=> #[])⟩
 refine az (seqEpoch_at Fy rfl ?_)
 refine az (wpAny_newTuple ?_ (by show vs.length<=_; omega))
 refine az (JY ?_ (bF _))
 refine ix ?_
 have TH:(((s.heap.update a (Obj.mapSeq fun _=>(#[]:Array Value))).push (seqObj "tuple" vs.toArray 0)).push (seqObj "list" #[] 0)).get? a=some (seqObj "list" #[] e1):=by
  rw[mz _ _ _ (by rw[size_push',o5]; exact aY (gI ha)),mz _ _ _ (by rw[o5]; exact aY ha)]
  exact Fy
 show wpAny (model prog w) A _ P E {s with heap:=((s.heap.update a (Obj.mapSeq fun _=>(#[]:Array Value))).push (seqObj "tuple" vs.toArray 0)).push (seqObj "list" #[] 0)}
 dsimp only
 have keep: ∀b o,b≠a->s.heap.get? b=some o->(((s.heap.update a (Obj.mapSeq fun _=>(#[]:Array Value))).push (seqObj "tuple" vs.toArray 0)).push (seqObj "list" #[] 0)).get? b=some o:=fun b o hb e=>
  ax _ (ax _ ((my s.heap _ (vw hb)).trans e))
 have hsz:vs.toArray.size=vs.length:=by simp
 by_cases h2:vs.toArray.size < 2
 ·rw[a8 h2,a8 h2]
  refine az (bL ?_)
  rw[StateT.run_pure]
  refine az (bL ?_)
  dsimp only
  have Cy:(arrOf (SortSt.mk' general' (vs.toArray.zip vs.toArray) #[] 7 none)).map (·.2)=((List.toArray (List.range vs.length)).toList.map fun i=>vs.getD i Value.none).toArray:=by
   show(vs.toArray.zip vs.toArray).map (·.2)=_
   apply Array.toList_inj.mp
   apply List.ext_getElem?
   intro i
   simp only[Array.toList_map,Array.toList_zip,List.getElem?_map,List.getElem?_zip_eq_some,List.getElem?_range]
   by_cases hi:i < vs.length
   ·simp[hi,List.getElem?_zip_eq_some,List.zip]
   ·simp[hi]
  refine az (seqEpoch_at TH rfl ?_)
  rw[Cy]
  refine wpAny_bind (listUpdate_at TH rfl ?_ (Nat.zero_le _) (by simp; omega))
  simp only[bne_self_eq_false,Bool.false_eq_true,if_false]
  refine bL (h _ (JX _) ?_)
  intro i j X6 hj
  have:i=j:=by omega
  subst this; exact eO _
 ·rw[aQ h2,aQ h2]
  have QZ:2<=vs.length:=by omega
  refine az (cD (hk QZ _ (fun κ' s'=>κ'=κ/\s'={s with heap:=((s.heap.update a (Obj.mapSeq fun _=>(#[]:Array Value))).push (seqObj "tuple" vs.toArray 0)).push (seqObj "list" #[] 0)}) keep ⟨rfl,rfl⟩) (fun κ' s' JI=>?_) fun _ _ x=>x.elim)
  obtain⟨rfl,rfl⟩:=JI
  refine az (cD (kat_run (Q:=fun zM s'=>s'={s with heap:=((s.heap.update a (Obj.mapSeq fun _=>(#[]:Array Value))).push (seqObj "tuple" vs.toArray 0)).push (seqObj "list" #[] 0)}/\ ∃p:Array Nat,p.size=vs.length/\arrOf zM=p.map (kas_item (vs.toArray.zip vs.toArray))/\failedOf zM=none/\qt vs.length p/\lh key p vs.length)
   (G:=fun p s'=>s'={s with heap:=((s.heap.update a (Obj.mapSeq fun _=>(#[]:Array Value))).push (seqObj "tuple" vs.toArray 0)).push (seqObj "list" #[] 0)}/\qt vs.length p/\lh key p vs.length)
   (κ:=κ') rfl QZ BS (fun p' zM s' a1 a2 a3 a4=>⟨a4.1,p',a1,a2,a3,a4.2⟩) (uk (fun i j C hi hj q=>hc _ i j C keep hi hj q) (fun p q=>⟨rfl,q⟩) _ (HM (by omega)))) ?_ fun _ _ e=>e)
  rintro⟨⟨⟩,zM⟩ s' ⟨rfl,p,hp,Vv,hf,q1,q2⟩
  dsimp only
  have Cy:=kat_snds (ks:=vs) (vs:=vs) rfl Vv
  rw[Cy]
  refine az (seqEpoch_at TH rfl ?_)
  refine az (vv TH rfl ?_ (bF _) (by rw[bA,ae,oq,hp]; omega))
  rw[hf]
  simp only[bne_self_eq_false,Bool.false_eq_true,if_false]
  exact bL (h p q1 q2)
theorem Fz {l:Addr}{vs:List Value}{Q:Value->Shared->Prop}{key:Nat->Int}{κ:SortKind}(hl:s.heap.IsList l vs.toArray)(BS:vs.length < 64)
  (hk:2<=vs.length-> ∀(s':Shared) (Q:SortKind->Shared->Prop),(∀b o,s.heap.get? b=some o->s'.heap.get? b=some o)->Q κ s'->wpAny (model prog w) A.in1.in1 (keyKind' vs.toArray) Q (fun _ _=>False) s')
  (hc: ∀(s':Shared) (i j:Nat) (C:Bool->Shared->Prop),(∀b o,s.heap.get? b=some o->s'.heap.get? b=some o)->i < vs.length->j < vs.length->C (decide (key i < key j)) s'->
   wpAny (model prog w) A.in1.in1 (keyLt' κ (vs.getD i Value.none) (vs.getD j Value.none)) C (fun _ _=>False) s')
  (h: ∀p:Array Nat,qt vs.length p->lh key p vs.length->Q (.ref (s.heap.objs.size + 1)) {s with heap:=sortedAll s.heap vs (p.toList.map fun i=>vs.getD i Value.none).toArray}):
  wpAny (model prog w) A (call (.builtin "sorted") [.ref l]) Q E s:=by
 have TJ:sizeLine=16777216:=eZ
 refine Calls.call_function_entry kind_sorted plain_sorted entry_sorted (args_sorted1 _) ?_
 unfold Builtin.«sorted»
 refine az (m:=checkCount "sorted" 1 1 _) (bL ?_)
 refine az (collect_list hl ?_ (by omega))
 refine az (JY ?_ (by show vs.length<=_; omega))
 have hsz:((s.heap.push (seqObj "list" #[] 0)).update s.heap.objs.size (Obj.mapSeq (· ++ vs.toArray))).objs.size=s.heap.objs.size + 1:=by
  rw[o5,size_push']
 have M3:(((s.heap.push (seqObj "list" #[] 0)).update s.heap.objs.size (Obj.mapSeq (· ++ vs.toArray))).push (seqObj "list" vs.toArray 0)).get? (s.heap.objs.size + 1)=some (seqObj "list" vs.toArray 0):=by
  rw[← hsz]; exact bS _ rfl
 have keep: ∀b o,s.heap.get? b=some o->b≠s.heap.objs.size + 1/\(((s.heap.push (seqObj "list" #[] 0)).update s.heap.objs.size (Obj.mapSeq (· ++ vs.toArray))).push (seqObj "list" vs.toArray 0)).get? b=some o:=fun b o q=>by
  have iX:b < s.heap.objs.size:=aK q
  refine⟨aY (gI iX),?_⟩
  rw[mz _ _ _ (by rw[hsz]; exact aY (gI iX)),G1 _ _ _ _ (aY iX),mz _ _ _ (aY iX)]
  exact q
 show wpAny _ _ _ _ _ {s with heap:=((s.heap.push (seqObj "list" #[] 0)).update s.heap.objs.size (Obj.mapSeq (· ++ vs.toArray))).push (seqObj "list" vs.toArray 0)}
 rw[hsz]
 refine az (ix (wpAny_call_entry slot_list_sort ⟨_,M3,rfl⟩ entry_list_sort (yj (key:=key) (κ:=κ) M3 BS
  (fun h2 s' Q' kp q=>hk h2 s' Q' (fun b o e=>kp b o (keep b o e).1 (keep b o e).2) q) (fun s' i j C kp hi hj q=>hc s' i j C (fun b o e=>kp b o (keep b o e).1 (keep b o e).2) hi hj q) fun p a1 a2=>⟨_,rfl,?_⟩) (args_list_sort _)))
 exact bL ⟨_,rfl,h p a1 a2⟩
theorem mO {b:Bool}{Q:Bool->Shared->Prop}: ∀{ts us:List Int} {vs ws:List Value} (i:Nat),IntsAre vs ts->IntsAre ws us->Q (HT.lexLt ts us) s->
  KatLex prog w A b (decide (ts.length < us.length)) Q (vs.zip ws) i s
 |_,_,_,_,i,.nil,.nil,q=>q
 |_,_,_,_,i,.nil,.cons _ _ _,q=>by
  show Q (decide _) s
  rw[decide_eq_true (by simp)]; exact q
 |_,_,_,_,i,.cons _ _ _,.nil,q=>by
  show Q (decide _) s
  rw[decide_eq_false (by simp)]; exact q
 |_,_,_,_,i,.cons x t r,.cons y u r',q=>by
  refine kat_cons ?_
  have he:=SeqAt.EqAt.int_int (A:=A) (s:=s) x t y u
  refine he prog w _ _ ?_
  rw[HT.px] at q
  by_cases e:x=y
  ·rw[a8 e] at q
   have eb:(x == y)=true:=by simp[e]
   rw[eb]
   refine kat_yes ?_
   have hd: ∀(a b:Nat),decide (a + 1 < b + 1)=decide (a < b):=fun a b=>by
    rw[Bool.eq_iff_iff]; simp
   rw[cu,cu,hd]
   exact mO (i + 1) r r' q
  ·rw[aQ e] at q
   have eb:(x == y)=false:=by simpa using e
   rw[eb]
   refine kat_no ?_
   cases hb:(b && i == 0) with
   |true=>exact oneLt_int q
   |false=>exact kat_one _ _ (PyProof.Rows.lt_int q)
end
def ig (H:Hp)(ts:List (List Int))(xs:List V):Prop:=Paired (fun(t:List Int) v=> ∃p,v= .ref p/\H p=some (.tup (t.map V.int))) ts xs
theorem ig.mono {H H':Hp}{ts:List (List Int)}{xs:List V}(h:ig H ts xs)(k: ∀b xs,H b=some (.tup xs)->H' b=some (.tup xs)):ig H' ts xs:=
 Paired.iV h fun _ _ ⟨p,e,q⟩=>⟨p,e,k _ _ q⟩
theorem ig.get {H:Hp}{ts:List (List Int)}{xs:List V}(h:ig H ts xs){i:Nat}(hi:i < ts.length): ∃p,xs.getD i .eI= .ref p/\H p=some (.tup ((ts.getD i []).map V.int)):=by
 have g:ts[i]? =some ts[i]:=af hi
 obtain⟨v,hv,p,e,q⟩:=bT h g
 refine⟨p,?_,?_⟩
 ·rw[ai,hv,e]; rfl
 ·rw[ai,g]; exact q
theorem jG {xs:List V}{us:List Value}(r:Vals xs us)(i:Nat):RelV (xs.getD i .eI) (us.getD i .none):=by
 by_cases hi:i < xs.length
 ·have g:xs[i]? =some xs[i]:=af hi
  obtain⟨u,h1,h2⟩:=r.get g
  rw[ai,ai,g,h1]
  exact h2
 ·have h1:xs[i]? =none:=vB (by omega)
  rw[ai,ai,h1,r.none_of h1]
  rfl
theorem rF {xs:List V}{us:List Value}(r:Vals xs us): ∀l:List Nat,Vals (l.map fun i=>xs.getD i .eI) (l.map fun i=>us.getD i .none)
 |[]=> .nil
 |i :: l=> .cons (jG r i) (rF r l)
theorem xp {H:Hp}{ts:List (List Int)}{xs:List V}(h:ig H ts xs): ∀l:List Nat,(∀i∈l,i < ts.length)->ig H (l.map fun i=>ts.getD i []) (l.map fun i=>xs.getD i .eI)
 |[],_=> .nil
 |i :: l,hl=> .cons (by
   obtain⟨p,e,q⟩:=h.get (hl i bC)
   exact⟨p,e,q⟩) (xp h l fun j hj=>hl j (aU _ hj))
theorem range_getD {α:Type}(ts:List α)(d:α):(List.range ts.length).map (fun i=>ts.getD i d)=ts:=by
 apply List.ext_getElem?
 intro i
 rw[aD]
 by_cases hi:i < ts.length
 ·rw[List.getElem?_range hi,oo,ai,af hi]; rfl
 ·rw[List.getElem?_eq_none (by simpa using hi),List.getElem?_eq_none (by omega)]; rfl
theorem qt.list {n:Nat}{p:Array Nat}(h:qt n p):p.toList.Perm (List.range n):=by
 have:=Array.perm_iff_toList_perm.mp h
 simpa using this
theorem sq {p:Array Nat}{n:Nat}{key:Nat->Int}(hp:p.size=n)(h:lh key p n):p.toList.Pairwise (fun i j=>key i<=key j):=by
 rw[List.pairwise_iff_getElem]
 intro i j hi hj X6
 have yk:i < p.size:=by simpa using hi
 have TK:j < p.size:=by simpa using hj
 have:=h i j (by omega) (by omega)
 unfold kf at this
 have e1:p.getD i 0=p.toList[i]:=by simp[Array.getD,yk]
 have e2:p.getD j 0=p.toList[j]:=by simp[Array.getD,TK]
 rw[e1,e2] at this
 exact this
section
variable {X:Cx}
theorem Inv.tupI {pins:List (Addr×Obj)}{σ:St}{H:Hp}{s:Shared}(I:Inv X pins σ H s){p:Addr}{t:List Int}(h:H p=some (.tup (t.map V.int))):
  ∃(o:Obj) (cy:List Value) (n:Nat),s.heap.get? p=some o/\o.cls= .type "tuple"/\o.data= .seq cy.toArray n/\IntsAre cy t:=by
 obtain⟨_,cy,rv,o,ho,hc,n,hd⟩:=(show dI X.prog X.w H s.heap p (.tup (t.map V.int)) from I.cH p _ h)
 exact⟨o,cy,n,ho,hc,hd,intsAre_of rv⟩
theorem rG {pins:List (Addr×Obj)}{σ:St}{H:Hp}{s:Shared}(I:Inv X pins σ H s){h':Heap}(kp: ∀b o,s.heap.get? b=some o->h'.get? b=some o): ∀{ts:List (List Int)} {xs:List V} {us:List Value},ig H ts xs->Vals xs us->(∀t∈ts,t≠[])->
  ∃fs:List Value,KatTups h' us fs/\fs.length=us.length/\ ∀v∈fs,∃n t,v= .int n t
 |[],_,us,.nil,r,_=>by
  have e:us=[]:=r.zero
  subst e
  exact⟨[],trivial,rfl,fun v hv=>by cases hv⟩
 |t :: ts,_,_,.cons ⟨p,e,q⟩ rest,.cons r1 r2,jf=>by
  subst e
  obtain⟨fs,h1,h2,h3⟩:=rG I kp rest r2 fun t ht=>jf t (aU _ ht)
  obtain⟨o,cy,n,ho,hc,hd,hi⟩:=I.tupI q
  have ht:t≠[]:=jf t bC
  cases hi with
  |nil=>exact absurd rfl ht
  |cons z tk yk=>
   cases r1
   refine⟨.int z tk :: fs,⟨⟨p,o,_,n,rfl,kp _ _ ho,hc,hd,by simp⟩,h1⟩,by rw[List.length_cons,List.length_cons,h2],fun v hv=>?_⟩
   rcases aw.mp hv with rfl|hv
   ·exact⟨z,tk,rfl⟩
   ·exact h3 v hv
def ND (K:PySem.W.Frag):List V->Hp->VK->Prop:=fun vs H Q=> ∃a xs ts,∃key:List Int->Int,vs=[V.ref a]/\bQ K H a xs/\xs.length < 64/\ig H ts xs/\(∀t∈ts,t≠[])/\(∀t∈ts,∀u∈ts,HT.lexLt t u=decide (key t < key u))/\
 ∀D ys us,H D=none->ig H us ys->us.Perm ts->us.Pairwise (fun t u=>key t<=key u)->Q (V.ref D) (upd H D (.lst ys))
theorem yl:iz X (.builtin "sorted") (ND X.K):=by
 intro pins s σ H xs us Q I r h
 obtain⟨a,xs,ts,key,rfl,hq,BS,hT,jf,Hd,q⟩:=h
 obtain⟨u,rfl,ru⟩:=vals1 r
 cases ru
 obtain⟨cy,rv,pl,hz⟩:=I.list hq
 have hl:=rv.length
 have iX:ts.length=xs.length:=hT.length
 refine Fz (κ:=tuples' true) (key:=fun i=>key (ts.getD i [])) pl.isList (by omega) (fun h2 s' Q' kp q'=>?_) (fun s' i j C kp hi hj q'=>?_) fun p hp Z1=>?_
 ·obtain⟨fs,f1,f2,f3⟩:=rG I kp hT rv jf
  refine kat_kind (T:= .type "int") f1 (by omega) (fun v hv=>?_) rfl q'
  obtain⟨n,t,rfl⟩:=f3 v hv
  exact Looks.of_pure rfl
 ·obtain⟨p1,e1,g1⟩:=hT.get (i:=i) (by omega)
  obtain⟨p2,e2,g2⟩:=hT.get (i:=j) (by omega)
  have w1:=jG rv i
  have w2:=jG rv j
  rw[e1] at w1
  rw[e2] at w2
  have Z2:cy.getD i Value.none= .ref p1:=w1
  have Z3:cy.getD j Value.none= .ref p2:=w2
  rw[Z2,Z3]
  obtain⟨o1,Vw,n1,Fy,Z4,lV,Q0⟩:=I.tupI g1
  obtain⟨o2,Fj,n2,Pt,KG,hd2,Q1⟩:=I.tupI g2
  refine kat_lt (kp _ _ Fy) lV (kp _ _ Pt) hd2 ?_
  have l1:=Q0.length
  have l2:=Q1.length
  have m1:ts.getD i []∈ts:=by rw[ai,af (show i < ts.length by omega)]; exact bO _
  have m2:ts.getD j []∈ts:=by rw[ai,af (show j < ts.length by omega)]; exact bO _
  have k:=mO (prog:=X.prog) (w:=X.w) (A:=X.A.in1.in1) (b:=true) (Q:=C) (s:=s') 0 Q0 Q1 (by rw[Hd _ m1 _ m2]; exact q')
  rw[bA,bA,l1,l2]
  exact k
 ·have mP:=hp.size
  have hD:H (s.heap.objs.size + 1)=none:=I.cH.fresh (dg _)
  obtain⟨e,he⟩:=sortedAll_at s.heap cy (p.toList.map fun i=>cy.getD i Value.none).toArray
  refine⟨.ref (s.heap.objs.size + 1),_,I.laid (t':=s.toks) (a:=s.heap.objs.size + 1) (o:= .lst (p.toList.map fun i=>xs.getD i .eI)) (fun b o q=>sortedAll_old q) (dg _) ⟨?_,_,e,rF rv p.toList,he⟩,rfl,q _ _ (p.toList.map fun i=>ts.getD i []) hD ?_ ?_ ?_⟩
  ·rw[ae,oq,mP]
   exact a6 (iM hl.symm) hz
  ·refine xp hT p.toList fun i hi=>?_
   have:=(hp.list.mem_iff).mp hi
   rw[c9] at this
   omega
  ·have e1:=hp.list.map (fun i=>ts.getD i [])
   rw[← hl,← iX,range_getD] at e1
   exact e1
  ·rw[rj]
   exact sq mP Z1
theorem su (ns:List Int): ∀n,n<=ns.length->preSum (fun i=>ns.getD i 0) n=(ns.take n).sum
 |0,_=>by simp[preSum]
 |n + 1,h=>by
  rw[preSum,su ns n (by omega),zL,JZ,af (by omega),ai,af (by omega)]
  simp
def Q2 (K:PySem.W.Frag):List V->Hp->VK->Prop:=fun xs H Q=> ∃(p:Addr) (ns:List Int),xs=[V.ref p]/\bQ K H p (ns.map V.int)/\Q (.int ns.sum) H
theorem rH (hc:X.calm=true):iz X (.builtin "sum") (Q2 X.K):=by
 intro pins s σ H xs us Q I r h
 obtain⟨p,ns,rfl,hq,q⟩:=h
 obtain⟨u,rfl,ru⟩:=vals1 r
 cases ru
 obtain⟨cy,rv,pl,hz⟩:=I.list hq
 have hI:IntsAre cy ns:=intsAre_of rv
 have hl:=hI.length
 have hh:=I.ok.hd hc
 have hT:s.heap.IsList p cy.toArray:=pl.isList
 have hp:p < s.heap.objs.size:=by
  obtain⟨o,ho,_⟩:=hT
  exact aK ho
 have NF:p≠s.heap.objs.size:=aY hp
 refine call_sum_walkG (MO hT ?_)
 refine⟨_,[_,p],[_],_,_,_,fun i=>ns.getD i 0,rfl,Walks.list (A:=X.A.in1) hh _ p NF cy.toArray,
  ⟨⟨_,Heap.get?_push_size _ rfl,rfl,rfl⟩,hT.push _⟩,fun c hc=>?_,(fun i v hv=>IntsAre.int_at hI i v (by simpa using hv)),fun h' tk t' hk=>?_⟩
 ·show c < (s.heap.push _).objs.size
  rw[kj]
  rcases aw.mp hc with rfl|hc
  ·exact fk _
  ·rcases aw.mp hc with rfl|hc
   ·exact gI hp
   ·cases hc
 ·refine⟨.int _,H,I.kept (t':=tk) (fun b o e=>hk b o (fun hm=>?_) (ax _ e)),⟨_,rfl⟩,?_⟩
  ·rw[ao] at hm
   exact absurd hm (aY (aK e))
  ·rw[bA,hl,su ns ns.length (aB _),bf]
   exact q
theorem xq (a:Array Nat): ∀(n:Nat) (acc:Array Nat),((List.replicate n a).foldl (· ++ ·) acc).size=acc.size + n * a.size
 |0,acc=>by simp
 |n + 1,acc=>by
  rw[dC,dR,xq a n,Array.size_append,vz]
  omega
def Q3:R2:=fun x y H Q=> ∃(z:Str) (n:Int),x= .str z/\y= .int n/\z.length=1/\0<=n/\n<=1000/\ ∀z':Str,z'.length<=1000->Q (.str z') H
theorem ym:ox X (binaryOp .Mult) Q3:=by
 intro pins s σ H x y v u Q I rx ry h
 obtain⟨z,n,rfl,rfl,hz,h0,h1,q⟩:=h
 obtain⟨t,rfl⟩:=rx
 obtain⟨t',rfl⟩:=ry
 refine P.mul_str ?_ (fun _ _=>?_) (fun _ _=>?_) ?_
 ·rw[bN (by omega),bN (by omega)]; rfl
 ·rw[hz]
  intro KH
  have:(2 ^ 63 - 1:Int) / n≥1:=by
   have hn:0 < n:=by
    by_cases c:0 < n
    ·exact c
    ·have e:n=0:=by omega
     subst e
     simp at KH
     omega
   exact Int.le_ediv_of_mul_le hn (by omega)
  omega
 ·rw[hz]
  unfold Builtin.Str.tooLong
  simp
  rw[eZ]
  omega
 ·by_cases c:n < 1
  ·rw[a8 c]
   exact⟨by decide,⟨.str Str.empty,H,I.tok _,⟨_,rfl⟩,q _ (by show 0<=1000; omega)⟩⟩
  ·rw[aQ c]
   by_cases c2:(n == 1 || z.length == 0)=true
   ·rw[a8 c2]
    exact⟨.str z,H,I,⟨_,rfl⟩,q _ (by omega)⟩
   ·rw[aQ c2]
    have hsz:((List.replicate n.toNat z.cps).foldl (· ++ ·) #[]).size<=1000:=by
     rw[xq]
     have:z.cps.size=1:=hz
     rw[this]
     simp
     omega
    refine⟨?_,⟨.str _,H,I.tok _,⟨_,rfl⟩,q _ hsz⟩⟩
    show _<=_
    refine a6 hsz ?_
    rw[eZ]; omega
end
inductive bI where
 |dZ (aN:Str) (day yn dJ:Int)
 |qv (aN:Str) (day dJ:Int)
 |note (b day dJ:Int)
 |set (c b dJ:Int)
 |fO (aN:Str)
 |iP (n:Int)
 |ask (bU:Bool) (aN:Str) (day:Int)
 |iB (aN:Str) (day:Int) (dh:List Int)
structure Rw where
 aN:Str
 a:Int
 b:Int
 c:Int
 d:Int
instance:Inhabited Rw:=⟨⟨"",0,0,0,0⟩⟩
structure Bk where
 aC:List Rw
 credits:List Rw
 made:List (Nat×Nat×Int)
def Bk.new:Bk:=⟨[],[],[]⟩
def Bk.cr (S:Bk)(c:Nat):Rw:=S.credits.getD c default
def Bk.bl (S:Bk)(b:Nat):Rw:=S.aC.getD b default
def Bk.dX (S:Bk)(c b:Nat):Bool:=decide ((S.cr c).aN=(S.bl b).aN) && (decide ((S.cr c).c= -1) || decide ((S.cr c).c=(b:Int)))
def Rw.less (r:Rw)(x:Int):Rw:={r with d:=r.d - x}
def Bk.put (S:Bk)(c b:Nat)(x:Int):Bk:=⟨S.aC.set b ((S.bl b).less x),S.credits.set c ((S.cr c).less x),S.made ++ [(c,b,x)]⟩
def fI (a b:Int):Int:=if b < a then b else a
def sY (x:Int×Nat):Int:=x.1 * 1000 + (x.2:Int)
def ins (x:Int×Nat):List (Int×Nat)->List (Int×Nat)
 |[]=>[x]
 |y :: l=>if sY x<=sY y then x :: y :: l else y :: ins x l
def fP:List (Int×Nat)->List (Int×Nat)
 |[]=>[]
 |x :: l=>ins x (fP l)
theorem Am (x y:Int×Nat)(l:List (Int×Nat)):ins x (y :: l)=if sY x<=sY y then x :: y :: l else y :: ins x l:=rfl
theorem uo (x:Int×Nat): ∀l,(ins x l).Perm (x :: l)
 |[]=>MQ _
 |y :: l=>by
  unfold ins
  split
  ·exact MQ _
  ·exact(List.Perm.cons y (uo x l)).trans (List.Perm.swap x y l)
theorem dM: ∀l,(fP l).Perm l
 |[]=>MQ _
 |x :: l=>(uo x (fP l)).trans (List.Perm.cons x (dM l))
theorem HN (x:Int×Nat): ∀l,l.Pairwise (fun a b=>sY a<=sY b)->(ins x l).Pairwise (fun a b=>sY a<=sY b)
 |[],_=>List.pairwise_singleton _ _
 |y :: l,h=>by
  rw[fh] at h
  unfold ins
  split
  ·rename_i c
   rw[fh]
   refine⟨fun z hz=>?_,fh.mpr h⟩
   rcases aw.mp hz with rfl|hz
   ·exact c
   ·exact vC c (h.1 z hz)
  ·rename_i c
   rw[fh]
   refine⟨fun z hz=>?_,HN x l h.2⟩
   rcases aw.mp ((uo x l).mem_iff.mp hz) with rfl|hz
   ·omega
   ·exact h.1 z hz
theorem uq: ∀l,(fP l).Pairwise (fun a b=>sY a<=sY b)
 |[]=>List.Pairwise.nil
 |x :: l=>HN x _ (uq l)
theorem FA (x:Int×Nat): ∀l,(∀y∈l,sY x<=sY y)->ins x l=x :: l
 |[],_=>rfl
 |y :: l,h=>by
  unfold ins
  rw[a8 (h y bC)]
theorem ur (p:Int×Nat->Bool)(x:Int×Nat): ∀l,l.Pairwise (fun a b=>sY a<=sY b)->(ins x l).filter p=if p x then ins x (l.filter p) else l.filter p
 |[],_=>by
  unfold ins
  cases h:p x <;> simp[h,ins]
 |y :: l,hs=>by
  rw[fh] at hs
  rw[Am]
  by_cases c:sY x<=sY y
  ·rw[a8 c]
   cases h:p x
   ·rw[List.filter_cons_of_neg (by simp[h])]
    simp
   ·rw[cW h]
    simp only[if_true]
    rw[FA x]
    intro z hz
    rcases aw.mp (fR.mp hz).1 with rfl|Z5
    ·exact c
    ·exact vC c (hs.1 z Z5)
  ·rw[aQ c]
   have ih:=ur p x l hs.2
   cases hy:p y
   ·rw[List.filter_cons_of_neg (by simp[hy]),ih,List.filter_cons_of_neg (by simp[hy])]
   ·rw[cW hy,ih,cW hy]
    cases h:p x
    ·simp
    ·simp only[if_true]
     rw[Am,aQ c]
theorem qw (p:Int×Nat->Bool): ∀l,fP (l.filter p)=(fP l).filter p
 |[]=>rfl
 |x :: l=>by
  show _ =(ins x (fP l)).filter p
  rw[ur p x _ (uq l),← qw p l]
  cases h:p x
  ·rw[List.filter_cons_of_neg (by simp[h])]
   simp
  ·rw[cW h]
   simp[fP]
def hV (rows:List Rw)(aN:Str)(key:Rw->Int):List (Int×Nat):=((List.range rows.length).filter fun k=>decide ((rows.getD k default).aN=aN)).map fun k=>(key (rows.getD k default),k)
def inOrder (rows:List Rw)(aN:Str)(key:Rw->Int):List Nat:=(fP (hV rows aN key)).map (·.2)
def uu (rows:List Rw)(aN:Str)(key:Rw->Int):List (Int×Nat):=
 ((List.range rows.length).filter fun k=>decide ((rows.getD k default).aN=aN) && decide (0 < (rows.getD k default).d)).map fun k=>(key (rows.getD k default),k)
def inTurn (rows:List Rw)(aN:Str)(key:Rw->Int):List Nat:=(fP (uu rows aN key)).map (·.2)
theorem An (rows:List Rw)(aN:Str)(key:Rw->Int):uu rows aN key=(hV rows aN key).filter fun x=>decide (0 < (rows.getD x.2 default).d):=by
 unfold uu hV
 rw[List.filter_map,B8]
 congr 1
 apply EU
 intro k _
 simp[Bool.and_comm]
theorem Ao {α β:Type}(f:α->β)(p:β->Bool)(l:List α):(l.filter fun x=>p (f x)).map f=(l.map f).filter p:=by
 rw[List.filter_map]; rfl
theorem ij (rows:List Rw)(aN:Str)(key:Rw->Int):inTurn rows aN key=(inOrder rows aN key).filter fun k=>decide (0 < (rows.getD k default).d):=by
 unfold inTurn inOrder
 rw[An,qw]
 exact Ao (fun x:Int×Nat=>x.2) (fun k=>decide (0 < (rows.getD k default).d)) _
theorem kB {rows:List Rw}{aN:Str}{key:Rw->Int}{k:Nat}:k∈inOrder rows aN key↔k < rows.length/\(rows.getD k default).aN=aN:=by
 unfold inOrder hV
 rw[bP]
 constructor
 ·rintro⟨x,hx,rfl⟩
  obtain⟨j,hj,rfl⟩:=bP.mp ((dM _).mem_iff.mp hx)
  simpa using hj
 ·rintro⟨h1,h2⟩
  refine⟨(key (rows.getD k default),k),(dM _).mem_iff.mpr (bP.mpr ⟨k,?_,rfl⟩),rfl⟩
  exact List.mem_filter.mpr ⟨List.mem_range.mpr h1,by simpa using h2⟩
theorem cJ {rows:List Rw}{aN:Str}{key:Rw->Int}{k:Nat}:k∈inTurn rows aN key↔k < rows.length/\(rows.getD k default).aN=aN/\0 < (rows.getD k default).d:=by
 rw[ij,fR,kB]
 simp[and_assoc]
theorem vN (rows:List Rw)(aN:Str)(key:Rw->Int):(inOrder rows aN key).Nodup:=by
 have h:((fP (hV rows aN key)).map (·.2)).Perm ((hV rows aN key).map (·.2)):=(dM _).map _
 refine h.nodup_iff.mpr ?_
 unfold hV
 rw[fJ]
 have e:((fun x:Int×Nat=>x.2) ∘ fun k=>(key (rows.getD k default),k))=id:=rfl
 rw[e,J0]
 exact tF.filter _
theorem iC (rows:List Rw)(aN:Str)(key:Rw->Int):(inTurn rows aN key).Nodup:=by
 rw[ij]
 exact(vN rows aN key).filter _
def oy (r r':Rw):Prop:=r'.aN=r.aN/\r'.a=r.a/\r'.b=r.b/\r'.c=r.c
theorem oy.refl (r:Rw):oy r r:=⟨rfl,rfl,rfl,rfl⟩
theorem oy.trans {r s t:Rw}(h:oy r s)(k:oy s t):oy r t:=⟨k.1.trans h.1,k.2.1.trans h.2.1,k.2.2.1.trans h.2.2.1,k.2.2.2.trans h.2.2.2⟩
theorem Ap {rows iD:List Rw}{aN:Str}{key:Rw->Int}(hk: ∀r r',oy r r'->key r'=key r)(hl:iD.length=rows.length)(h: ∀k,oy (rows.getD k default) (iD.getD k default)):hV iD aN key=hV rows aN key:=by
 unfold hV
 rw[hl]
 have e:(fun k=>decide ((iD.getD k default).aN=aN))=fun k=>decide ((rows.getD k default).aN=aN):=by
  funext k
  rw[(h k).1]
 rw[e]
 apply eP
 intro k _
 rw[hk _ _ (h k)]
theorem yo {rows iD:List Rw}{aN:Str}{key:Rw->Int}(hk: ∀r r',oy r r'->key r'=key r)(hl:iD.length=rows.length)(h: ∀k,oy (rows.getD k default) (iD.getD k default)):inOrder iD aN key=inOrder rows aN key:=by
 unfold inOrder
 rw[Ap hk hl h]
theorem yp {rows iD:List Rw}{aN:Str}{key:Rw->Int}(hk: ∀r r',oy r r'->key r'=key r)(hl:iD.length=rows.length)(h: ∀k,oy (rows.getD k default) (iD.getD k default))(hd: ∀k,(iD.getD k default).d<=(rows.getD k default).d):
  inTurn iD aN key=(inTurn rows aN key).filter fun k=>decide (0 < (iD.getD k default).d):=by
 rw[ij,ij,yo hk hl h,B8]
 apply EU
 intro k _
 have:=hd k
 by_cases c:0 < (iD.getD k default).d
 ·have c2:0 < (rows.getD k default).d:=by omega
  rw[aM c,aM c2]
  rfl
 ·rw[bN c]
  rfl
def bV (exact:Bool)(c:Nat)(S:Bk)(b:Nat):Bk:=
 if 0 < (S.cr c).d/\S.dX c b=true/\((S.cr c).d=(S.bl b).d∨exact=false) then S.put c b (fI (S.cr c).d (S.bl b).d) else S
def ck (aN:Str)(exact:Bool)(S:Bk)(c:Nat):Bk:=(inTurn S.aC aN (·.b)).foldl (bV exact c) S
def bX (aN:Str)(S:Bk)(exact:Bool):Bk:=(inTurn S.credits aN (·.a)).foldl (ck aN exact) S
def Bk.iE (S:Bk)(aN:Str):Bk:=bX aN (bX aN S true) false
theorem Aq {α:Type}{l:List α}{i k:Nat}{v d:α}(h:i < l.length):(l.set i v).getD k d=if k=i then v else l.getD k d:=by
 rw[ai,ai]
 by_cases c:k=i
 ·subst c
  rw[a8 rfl,kY h]
  rfl
 ·rw[aQ c,mx (fun z=>c z.symm)]
theorem mQ {S:Bk}{c b k:Nat}{x:Int}(h:b < S.aC.length):(S.put c b x).bl k=if k=b then(S.bl b).less x else S.bl k:=Aq h
theorem pF {S:Bk}{c b k:Nat}{x:Int}(h:c < S.credits.length):(S.put c b x).cr k=if k=c then(S.cr c).less x else S.cr k:=Aq h
def kq (S:Bk)(l:List (Nat×Nat×Int)):Bk:=l.foldl (fun S t=>S.put t.1 t.2.1 t.2.2) S
theorem mR (S:Bk)(l m:List (Nat×Nat×Int)):kq S (l ++ m)=kq (kq S l) m:=by
 unfold kq; rw[List.foldl_append]
theorem jH (S:Bk): ∀l,(kq S l).made=S.made ++ l
 |[]=>by simp[kq]
 |t :: l=>by
  show(kq (S.put t.1 t.2.1 t.2.2) l).made=_
  rw[jH _ l]
  simp[Bk.put]
structure Later (S S':Bk):Prop where
 bl:S'.aC.length=S.aC.length
 cl:S'.credits.length=S.credits.length
 b: ∀k,oy (S.bl k) (S'.bl k)/\(S'.bl k).d<=(S.bl k).d
 c: ∀k,oy (S.cr k) (S'.cr k)/\(S'.cr k).d<=(S.cr k).d
theorem Later.refl (S:Bk):Later S S:=⟨rfl,rfl,fun k=>⟨oy.refl _,eO _⟩,fun k=>⟨oy.refl _,eO _⟩⟩
theorem Later.trans {S T U:Bk}(h:Later S T)(k:Later T U):Later S U:=
 ⟨k.bl.trans h.bl,k.cl.trans h.cl,fun i=>⟨(h.b i).1.trans (k.b i).1,vC (k.b i).2 (h.b i).2⟩,fun i=>⟨(h.c i).1.trans (k.c i).1,vC (k.c i).2 (h.c i).2⟩⟩
theorem Later.put {S:Bk}{c b:Nat}{x:Int}(hb:b < S.aC.length)(hc:c < S.credits.length)(hx:0<=x):Later S (S.put c b x):=by
 refine⟨dQ,dQ,fun k=>?_,fun k=>?_⟩
 ·rw[mQ hb]
  split
  ·rename_i e
   subst e
   exact⟨oy.refl _,by show(S.bl k).d - x<=_; omega⟩
  ·exact⟨oy.refl _,eO _⟩
 ·rw[pF hc]
  split
  ·rename_i e
   subst e
   exact⟨oy.refl _,by show(S.cr k).d - x<=_; omega⟩
  ·exact⟨oy.refl _,eO _⟩
theorem Later.dX {S T:Bk}(h:Later S T)(c b:Nat):T.dX c b=S.dX c b:=by
 unfold Bk.dX
 rw[(h.c c).1.1,(h.b b).1.1,(h.c c).1.2.2.2]
theorem Later.Ml {S T:Bk}(h:Later S T)(aN:Str):inTurn T.aC aN (·.b)=(inTurn S.aC aN (·.b)).filter fun k=>decide (0 < (T.bl k).d):=
 yp (fun r r' z=>z.2.2.1) h.bl (fun k=>(h.b k).1) (fun k=>(h.b k).2)
def hX (f:Int)(ls:List Int)(row:List Bool)(tk:Nat->Bool):Option Nat:=(List.range ls.length).find? fun j=>row.getD j false && decide (ls.getD j 0=f) && !tk j
def cg (fs ls:List Int)(al:List (List Bool)):Nat->(Nat->Bool)×List (Nat×Nat×Int)
 |0=>(fun _=>false,[])
 |i + 1=>match hX (fs.getD i 0) ls (al.getD i []) (cg fs ls al i).1 with
  |none=>cg fs ls al i
  |some j=>(fun x=>x == j || (cg fs ls al i).1 x,(cg fs ls al i).2 ++ [(i,j,fs.getD i 0)])
def lW (gs ts:List Nat)(t:Nat×Nat×Int):Nat×Nat×Int:=(gs.getD t.1 0,ts.getD t.2.1 0,t.2.2)
theorem rJ {α:Type}(l:List α)(d:α):(List.range l.length).map (fun j=>l.getD j d)=l:=by
 apply List.ext_getElem
 ·rw[ae,dE]
 ·intro i h1 h2
  rw[G2,List.getElem_range,ai,af h2]
  rfl
theorem Cz {α:Type}(l:List α)(d:α)(p:α->Bool):l.find? p=((List.range l.length).find? fun j=>p (l.getD j d)).map fun j=>l.getD j d:=by
 have e:l.find? p=((List.range l.length).map (fun j=>l.getD j d)).find? p:=by rw[rJ]
 rw[e,List.find?_map]
 rfl
theorem jT {l:List Nat}{i:Nat}(h:i < l.length):l.getD i 0∈l:=by
 rw[ai,af h]
 exact bO _
theorem getD_map {α β:Type}(f:α->β)(l:List α)(i:Nat)(d:α)(e:β)(h:i < l.length):(l.map f).getD i e=f (l.getD i d):=by
 rw[ai,ai,aD,af h]
 rfl
theorem getD_inj {l:List Nat}(nd:l.Nodup){i j:Nat}(hi:i < l.length)(hj:j < l.length)(h:l.getD i 0=l.getD j 0):i=j:=by
 rw[ai,ai,af hi,af hj] at h
 exact(List.getElem_inj nd).mp h
theorem idle {ex:Bool}{c:Nat}: ∀{l:List Nat} {S:Bk},(S.cr c).d<=0->l.foldl (bV ex c) S=S
 |[],_,_=>rfl
 |b :: l,S,h=>by
  rw[dR]
  have e:bV ex c S b=S:=by
   unfold bV
   rw[aQ (fun z=>by omega)]
  rw[e]
  exact idle h
theorem DS {c:Nat}{S:Bk}(hc:c < S.credits.length): ∀{l:List Nat},(∀b∈l,b < S.aC.length)->0 < (S.cr c).d->l.foldl (bV true c) S=match l.find? (fun b=>S.dX c b && decide ((S.bl b).d=(S.cr c).d)) with
  |none=>S
  |some b=>S.put c b (S.cr c).d
 |[],_,_=>rfl
 |b :: l,hl,h=>by
  rw[dR]
  by_cases z:(S.dX c b && decide ((S.bl b).d=(S.cr c).d))=true
  ·rw[List.find?_cons_of_pos (p:=fun b=>S.dX c b && decide ((S.bl b).d=(S.cr c).d)) z]
   have z':S.dX c b=true/\(S.bl b).d=(S.cr c).d:=by simpa using z
   have e:bV true c S b=S.put c b (S.cr c).d:=by
    unfold bV
    rw[a8 ⟨h,z'.1,.inl z'.2.symm⟩,z'.2]
    congr 1
    unfold fI
    split <;> rfl
   rw[e]
   refine idle ?_
   rw[pF hc,a8 rfl]
   show(S.cr c).d - (S.cr c).d<=0
   omega
  ·rw[List.find?_cons_of_neg (p:=fun b=>S.dX c b && decide ((S.bl b).d=(S.cr c).d)) z]
   have e:bV true c S b=S:=by
    unfold bV
    rw[aQ]
    rintro⟨_,z1,z2⟩
    rcases z2 with z2|z2
    ·exact z (by simp[z1,z2])
    ·cases z2
   rw[e]
   exact DS hc (fun x hx=>hl x (aU _ hx)) h
structure uv (S:Bk)(aN:Str)(gs ts:List Nat)(fs ls:List Int)(al:List (List Bool)):Prop where
 eg:gs=inTurn S.credits aN (·.a)
 et:ts=inTurn S.aC aN (·.b)
 ef:fs=gs.map fun g=>(S.cr g).d
 el:ls=ts.map fun t=>(S.bl t).d
 ea:al=gs.map fun g=>ts.map fun t=>S.dX g t
section
variable {S:Bk}{aN:Str}{gs ts:List Nat}{fs ls:List Int}{al:List (List Bool)}
theorem uv.g (R:uv S aN gs ts fs ls al){i:Nat}(h:i < gs.length):gs.getD i 0 < S.credits.length/\0 < (S.cr (gs.getD i 0)).d/\fs.getD i 0=(S.cr (gs.getD i 0)).d:=by
 have m:=jT h
 rw[R.eg] at m
 obtain⟨m1,_,m3⟩:=cJ.mp m
 rw[← R.eg] at m1 m3
 exact⟨m1,m3,by rw[R.ef,getD_map _ gs i 0 0 h]⟩
theorem uv.t (R:uv S aN gs ts fs ls al){i:Nat}(h:i < ts.length):ts.getD i 0 < S.aC.length/\0 < (S.bl (ts.getD i 0)).d/\ls.getD i 0=(S.bl (ts.getD i 0)).d:=by
 have m:=jT h
 rw[R.et] at m
 obtain⟨m1,_,m3⟩:=cJ.mp m
 rw[← R.et] at m1 m3
 exact⟨m1,m3,by rw[R.el,getD_map _ ts i 0 0 h]⟩
theorem uv.a (R:uv S aN gs ts fs ls al){i j:Nat}(hi:i < gs.length)(hj:j < ts.length):(al.getD i []).getD j false=S.dX (gs.getD i 0) (ts.getD j 0):=by
 rw[R.ea,getD_map _ gs i 0 [] hi,getD_map _ ts j 0 false hj]
theorem uv.gn (R:uv S aN gs ts fs ls al):gs.Nodup:=by rw[R.eg]; exact iC _ _ _
theorem uv.tn (R:uv S aN gs ts fs ls al):ts.Nodup:=by rw[R.et]; exact iC _ _ _
theorem uv.ll (R:uv S aN gs ts fs ls al):ls.length=ts.length:=by rw[R.el,ae]
theorem uv.tm (R:uv S aN gs ts fs ls al){b:Nat}(h:b∈ts):b < S.aC.length:=by
 rw[R.et] at h
 exact(cJ.mp h).1
theorem pG {l:List Nat}{i:Nat}(h:i < l.length):l.take (i + 1)=l.take i ++ [l.getD i 0]:=by
 rw[zL,af h,ai,af h]
 rfl
structure Vx (S:Bk)(aN:Str)(gs ts:List Nat)(fs ls:List Int)(i:Nat)(st:(Nat->Bool)×List (Nat×Nat×Int))(Si:Bk):Prop where
 run:(gs.take i).foldl (ck aN true) S=Si
 eq:Si=kq S (st.2.map (lW gs ts))
 later:Later S Si
 b: ∀j,j < ts.length->(Si.bl (ts.getD j 0)).d=if st.1 j=true then 0 else ls.getD j 0
 c: ∀k,i<=k->k < gs.length->(Si.cr (gs.getD k 0)).d=fs.getD k 0
theorem Ar (R:uv S aN gs ts fs ls al){i:Nat}{Si:Bk}(hi:i < gs.length)(J:Vx S aN gs ts fs ls i (cg fs ls al i) Si): ∃S',Vx S aN gs ts fs ls (i + 1) (cg fs ls al (i + 1)) S':=by
 obtain⟨g1,g2,g3⟩:=R.g hi
 have gc:gs.getD i 0 < Si.credits.length:=by rw[J.later.cl]; exact g1
 have fr:(Si.cr (gs.getD i 0)).d=fs.getD i 0:=J.c i (aB _) hi
 have fp:0 < (Si.cr (gs.getD i 0)).d:=by rw[fr,g3]; exact g2
 have find:((inTurn Si.aC aN (·.b)).find? fun b=>Si.dX (gs.getD i 0) b && decide ((Si.bl b).d=(Si.cr (gs.getD i 0)).d))=(hX (fs.getD i 0) ls (al.getD i []) (cg fs ls al i).1).map fun j=>ts.getD j 0:=by
  rw[J.later.Ml,← R.et,List.find?_filter,Cz ts 0]
  unfold hX
  rw[R.ll]
  congr 1
  have q: ∀j∈List.range ts.length,(decide (0 < (Si.bl (ts.getD j 0)).d) && (Si.dX (gs.getD i 0) (ts.getD j 0) && decide ((Si.bl (ts.getD j 0)).d=(Si.cr (gs.getD i 0)).d)))=((al.getD i []).getD j false && decide (ls.getD j 0=fs.getD i 0) && !(cg fs ls al i).1 j):=by
   intro j hj
   have hj:=c9.mp hj
   rw[R.a hi hj,J.later.dX,J.b j hj,fr]
   obtain⟨_,t2,t3⟩:=R.t hj
   cases h:(cg fs ls al i).1 j
   ·simp only[Bool.false_eq_true,if_false,Bool.not_false,Bool.and_true]
    rw[t3,aM t2]
    simp
   ·simp
  have key: ∀(l:List Nat) (p q:Nat->Bool),(∀j∈l,p j=q j)->l.find? p=l.find? q:=by
   intro l p q h
   induction l with
   |nil=>rfl
   |cons x l ih=>
    rw[List.find?_cons,List.find?_cons,h x bC,ih fun j hj=>h j (aU _ hj)]
  refine key _ _ _ fun j hj=>?_
  rw[← q j hj]
  simp
 have run:(gs.take (i + 1)).foldl (ck aN true) S=match(hX (fs.getD i 0) ls (al.getD i []) (cg fs ls al i).1).map (fun j=>ts.getD j 0) with
   |none=>Si
   |some b=>Si.put (gs.getD i 0) b (Si.cr (gs.getD i 0)).d:=by
  rw[pG hi,rm,J.run]
  show ck aN true Si (gs.getD i 0)=_
  unfold ck
  rw[DS gc (fun b hb=>(cJ.mp hb).1) fp,find]
 cases h:hX (fs.getD i 0) ls (al.getD i []) (cg fs ls al i).1 with
 |none=>
  rw[h] at run
  have e:cg fs ls al (i + 1)=cg fs ls al i:=by rw[cg,h]
  rw[e]
  exact⟨Si,run,J.eq,J.later,J.b,fun k h1 h2=>J.c k (by omega) h2⟩
 |some j=>
  rw[h] at run
  have e:cg fs ls al (i + 1)=(fun x=>x == j || (cg fs ls al i).1 x,(cg fs ls al i).2 ++ [(i,j,fs.getD i 0)]):=by rw[cg,h]
  have hj:j < ts.length:=by
   unfold hX at h
   have:=MR h
   rw[R.ll] at this
   exact c9.mp this
  have X7:(al.getD i []).getD j false=true/\ls.getD j 0=fs.getD i 0/\(cg fs ls al i).1 j=false:=by
   unfold hX at h
   have:=List.find?_some h
   simpa[and_assoc] using this
  obtain⟨t1,t2,t3⟩:=R.t hj
  have tb:ts.getD j 0 < Si.aC.length:=by rw[J.later.bl]; exact t1
  have f0:0<=fs.getD i 0:=by rw[g3]; omega
  have run':(gs.take (i + 1)).foldl (ck aN true) S=Si.put (gs.getD i 0) (ts.getD j 0) (fs.getD i 0):=by
   rw[run,← fr]
   rfl
  rw[e]
  refine⟨Si.put (gs.getD i 0) (ts.getD j 0) (fs.getD i 0),run',?_,J.later.trans (Later.put tb gc f0),fun j' TK=>?_,fun k h1 h2=>?_⟩
  ·rw[aR,mR,← J.eq]
   rfl
  ·rw[mQ tb]
   by_cases q:j'=j
   ·subst q
    rw[a8 rfl]
    simp only[beq_self_eq_true,Bool.true_or,if_true]
    show(Si.bl (ts.getD j' 0)).d - fs.getD i 0=0
    rw[J.b j' hj,X7.2.2,aQ (by decide),X7.2.1]
    omega
   ·rw[aQ fun z=>q (getD_inj R.tn TK hj z),J.b j' TK]
    have:(j' == j)=false:=by simpa using q
    show _ =if(j' == j || (cg fs ls al i).1 j')=true then 0 else _
    rw[this,Bool.false_or]
  ·rw[pF gc,aQ fun z=>by have:=getD_inj R.gn h2 hi z; omega]
   exact J.c k (by omega) h2
theorem uw (R:uv S aN gs ts fs ls al): ∀i,i<=gs.length-> ∃Si,Vx S aN gs ts fs ls i (cg fs ls al i) Si
 |0,_=>⟨S,rfl,rfl,Later.refl S,fun j hj=>by
   obtain⟨_,_,t3⟩:=R.t hj
   show _ =if false=true then 0 else _
   rw[aQ (by decide),t3],fun k _ h2=>by
   obtain⟨_,_,g3⟩:=R.g h2
   exact g3.symm⟩
 |i + 1,h=>by
  obtain⟨Si,J⟩:=uw R i (by omega)
  exact Ar R (by omega) J
theorem HP (R:uv S aN gs ts fs ls al):bX aN S true=kq S ((cg fs ls al gs.length).2.map (lW gs ts))/\Later S (bX aN S true):=by
 obtain⟨Si,J⟩:=uw R gs.length (aB _)
 have e:bX aN S true=Si:=by
  unfold bX
  rw[← R.eg,← J.run,bf]
 rw[e]
 exact⟨J.eq,J.later⟩
end
theorem DT {l:List Int}{i j:Nat}{v:Int}(h:i≠j):(l.set i v).getD j 0=l.getD j 0:=by
 rw[ai,ai,mx h]
theorem KI {l:List Int}{i:Nat}{v:Int}(h:i < l.length):(l.set i v).getD i 0=v:=by
 rw[ai,kY h]; rfl
def dU (l:List Int)(ps:List (Nat×Int)):List Int:=ps.foldl (fun l x=>l.set x.1 (l.getD x.1 0 - x.2)) l
theorem sv (l:List Int)(ps:List (Nat×Int))(x:Nat×Int):dU l (ps ++ [x])=(dU l ps).set x.1 ((dU l ps).getD x.1 0 - x.2):=by
 unfold dU; rw[List.foldl_append]; rfl
theorem pH (ps:List (Nat×Int)): ∀l:List Int,(dU l ps).length=l.length:=by
 induction ps with
 |nil=>intro l; rfl
 |cons x ps ih=>
  intro l
  show(dU (l.set x.1 _) ps).length=_
  rw[ih,dQ]
def bK (f:Int)(l:List Int)(row:List Bool):Nat->Int×List (Nat×Int)
 |0=>(f,[])
 |j + 1=>if row.getD j false=true/\0 < fI (bK f l row j).1 (l.getD j 0) then((bK f l row j).1 - fI (bK f l row j).1 (l.getD j 0),(bK f l row j).2 ++ [(j,fI (bK f l row j).1 (l.getD j 0))]) else bK f l row j
def cF (fs ls:List Int)(al:List (List Bool)):Nat->List Int×List (Nat×Nat×Int)
 |0=>(ls,[])
 |i + 1=>(dU (cF fs ls al i).1 (bK (fs.getD i 0) (cF fs ls al i).1 (al.getD i []) (cF fs ls al i).1.length).2,
   (cF fs ls al i).2 ++ (bK (fs.getD i 0) (cF fs ls al i).1 (al.getD i []) (cF fs ls al i).1.length).2.map fun x=>(i,x.1,x.2))
theorem jI (fs ls:List Int)(al:List (List Bool)): ∀i,(cF fs ls al i).1.length=ls.length
 |0=>rfl
 |i + 1=>by
  show(dU _ _).length=_
  rw[pH,jI fs ls al i]
def gj (c:Nat)(S:Bk)(b:Nat):Bk:=if 0 < (S.bl b).d then bV false c S b else S
theorem HQ {c b:Nat}{S:Bk}(hc:c < S.credits.length)(hb:b < S.aC.length):Later S (gj c S b)/\ ∀k,k≠b->((gj c S b).bl k).d=(S.bl k).d:=by
 unfold gj bV
 split
 ·rename_i h1
  split
  ·rename_i h2
   refine⟨Later.put hb hc ?_,fun k hk=>by rw[mQ hb,aQ hk]⟩
   unfold fI
   split <;> omega
  ·exact⟨Later.refl S,fun _ _=>rfl⟩
 ·exact⟨Later.refl S,fun _ _=>rfl⟩
theorem DU {c:Nat}{S0:Bk}: ∀{l:List Nat} {S:Bk},l.Nodup->c < S.credits.length->(∀b∈l,b < S.aC.length)->(∀b∈l,(S.bl b).d=(S0.bl b).d)->
  (l.filter fun b=>decide (0 < (S0.bl b).d)).foldl (bV false c) S=l.foldl (gj c) S
 |[],_,_,_,_,_=>rfl
 |b :: l,S,nd,hc,hl,hd=>by
  rw[eA] at nd
  obtain⟨lt,ot⟩:=HQ (S:=S) hc (hl b bC)
  have ih:=DU (S:=gj c S b) (S0:=S0) (l:=l) nd.2 (by rw[lt.cl]; exact hc) (fun x hx=>by rw[lt.bl]; exact hl x (aU _ hx)) (fun x hx=>by
   rw[ot x (fun z=>nd.1 (z▸hx))]
   exact hd x (aU _ hx))
  rw[dR,← ih]
  have e:=hd b bC
  by_cases z:0 < (S0.bl b).d
  ·rw[List.filter_cons_of_pos (by simpa using z),List.foldl_cons]
   congr 1
   unfold gj
   rw[a8 (by omega)]
  ·rw[List.filter_cons_of_neg (by simpa using z)]
   congr 1
   unfold gj
   rw[aQ (by omega)]
section
variable {S:Bk}{aN:Str}{gs ts:List Nat}{fs ls:List Int}{al:List (List Bool)}
structure NG (S:Bk)(ts:List Nat)(c:Nat)(L:List Int)(j:Nat)(st:Int×List (Nat×Int))(Sj:Bk):Prop where
 run:(ts.take j).foldl (gj c) S=Sj
 eq:Sj=kq S (st.2.map fun x=>(c,ts.getD x.1 0,x.2))
 later:Later S Sj
 f:(Sj.cr c).d=st.1
 b: ∀k,k < ts.length->(Sj.bl (ts.getD k 0)).d=(dU L st.2).getD k 0
 lt: ∀x∈st.2,x.1 < j
 oc: ∀k,k≠c->Sj.cr k=S.cr k
theorem yq {c:Nat}{L:List Int}{row:List Bool}(nd:ts.Nodup)(hc:c < S.credits.length)(ht: ∀b∈ts,b < S.aC.length)(hL:L.length=ts.length)(hb: ∀k,k < ts.length->(S.bl (ts.getD k 0)).d=L.getD k 0)
  (hr: ∀k,k < ts.length->row.getD k false=S.dX c (ts.getD k 0)) {j:Nat} (hj:j < ts.length) {Sj:Bk} (J:NG S ts c L j (bK (S.cr c).d L row j) Sj): ∃S',NG S ts c L (j + 1) (bK (S.cr c).d L row (j + 1)) S':=by
 have ap:(dU L (bK (S.cr c).d L row j).2).getD j 0=L.getD j 0:=by
  have other: ∀(ps:List (Nat×Int)) (l:List Int),(∀x∈ps,x.1≠j)->(dU l ps).getD j 0=l.getD j 0:=by
   intro ps
   induction ps with
   |nil=>intro l h; rfl
   |cons x ps ih=>
    intro l h
    show(dU (l.set x.1 _) ps).getD j 0=_
    rw[ih _ fun y hy=>h y (aU _ hy),DT (h x bC)]
  exact other _ _ fun x hx=>aY (J.lt x hx)
 have bd:(Sj.bl (ts.getD j 0)).d=L.getD j 0:=by rw[J.b j hj,ap]
 have cj:c < Sj.credits.length:=by rw[J.later.cl]; exact hc
 have bj:ts.getD j 0 < Sj.aC.length:=by rw[J.later.bl]; exact ht _ (jT hj)
 have run:(ts.take (j + 1)).foldl (gj c) S=gj c Sj (ts.getD j 0):=by
  rw[pG hj,rm,J.run]
  rfl
 have g:Sj.dX c (ts.getD j 0)=row.getD j false:=by rw[J.later.dX,hr j hj]
 by_cases z:row.getD j false=true/\0 < fI (bK (S.cr c).d L row j).1 (L.getD j 0)
 ·have e:bK (S.cr c).d L row (j + 1)=((bK (S.cr c).d L row j).1 - fI (bK (S.cr c).d L row j).1 (L.getD j 0),(bK (S.cr c).d L row j).2 ++ [(j,fI (bK (S.cr c).d L row j).1 (L.getD j 0))]):=by
   rw[bK,a8 z]
  have z1:0 < (Sj.bl (ts.getD j 0)).d/\0 < (Sj.cr c).d:=by
   rw[bd,J.f]
   have:=z.2
   unfold fI at this
   split at this <;> omega
  have e2:gj c Sj (ts.getD j 0)=Sj.put c (ts.getD j 0) (fI (bK (S.cr c).d L row j).1 (L.getD j 0)):=by
   unfold gj bV
   rw[a8 z1.1,a8 ⟨z1.2,by rw[g]; exact z.1,.inr rfl⟩,J.f,bd]
  rw[e]
  refine⟨_,run.trans e2,?_,J.later.trans (Later.put bj cj (by omega)),?_,fun k hk=>?_,fun x hx=>?_,fun k hk=>?_⟩
  ·rw[aR,mR,← J.eq]
   rfl
  ·rw[pF cj,a8 rfl]
   show(Sj.cr c).d - _ =_
   rw[J.f]
  ·rw[mQ bj,sv]
   have len:(dU L (bK (S.cr c).d L row j).2).length=ts.length:=by rw[pH,hL]
   by_cases q:k=j
   ·subst q
    rw[a8 rfl,KI (by rw[len]; exact hk)]
    show(Sj.bl (ts.getD k 0)).d - _ =(dU L _).getD k 0 - _
    rw[J.b k hk]
   ·rw[aQ fun w=>q (getD_inj nd hk hj w),J.b k hk,DT (vw q)]
  ·rcases bq.mp hx with hx|hx
   ·have:=J.lt x hx
    omega
   ·rw[ao.mp hx]
    exact fk _
  ·rw[pF cj,aQ hk]
   exact J.oc k hk
 ·have e:bK (S.cr c).d L row (j + 1)=bK (S.cr c).d L row j:=by rw[bK,aQ z]
  have e2:gj c Sj (ts.getD j 0)=Sj:=by
   unfold gj bV
   split
   ·rename_i h1
    rw[aQ]
    rintro⟨h2,h3,_⟩
    refine z ⟨by rw[← g]; exact h3,?_⟩
    rw[bd] at h1
    rw[J.f] at h2
    unfold fI
    split <;> assumption
   ·rfl
  rw[e]
  exact⟨Sj,run.trans e2,J.eq,J.later,J.f,J.b,fun x hx=>by have:=J.lt x hx; omega,J.oc⟩
theorem DV {c:Nat}{L:List Int}{row:List Bool}(nd:ts.Nodup)(hc:c < S.credits.length)(ht: ∀b∈ts,b < S.aC.length)(hL:L.length=ts.length)(hb: ∀k,k < ts.length->(S.bl (ts.getD k 0)).d=L.getD k 0)
  (hr: ∀k,k < ts.length->row.getD k false=S.dX c (ts.getD k 0)): ∀j,j<=ts.length-> ∃Sj,NG S ts c L j (bK (S.cr c).d L row j) Sj
 |0,_=>⟨S,rfl,rfl,Later.refl S,rfl,hb,(fun _ h=>by cases h),fun _ _=>rfl⟩
 |j + 1,h=>by
  obtain⟨Sj,J⟩:=DV nd hc ht hL hb hr j (by omega)
  exact yq nd hc ht hL hb hr (by omega) J
structure Vy (S:Bk)(aN:Str)(gs ts:List Nat)(fs:List Int)(i:Nat)(st:List Int×List (Nat×Nat×Int))(Si:Bk):Prop where
 run:(gs.take i).foldl (ck aN false) S=Si
 eq:Si=kq S (st.2.map (lW gs ts))
 later:Later S Si
 b: ∀j,j < ts.length->(Si.bl (ts.getD j 0)).d=st.1.getD j 0
 c: ∀k,i<=k->k < gs.length->(Si.cr (gs.getD k 0)).d=fs.getD k 0
theorem As (R:uv S aN gs ts fs ls al){i:Nat}{Si:Bk}(hi:i < gs.length)(J:Vy S aN gs ts fs i (cF fs ls al i) Si): ∃S',Vy S aN gs ts fs (i + 1) (cF fs ls al (i + 1)) S':=by
 obtain⟨g1,g2,g3⟩:=R.g hi
 have gc:gs.getD i 0 < Si.credits.length:=by rw[J.later.cl]; exact g1
 have fr:(Si.cr (gs.getD i 0)).d=fs.getD i 0:=J.c i (aB _) hi
 have tl:(cF fs ls al i).1.length=ts.length:=by rw[jI,R.ll]
 have tb: ∀b∈ts,b < Si.aC.length:=fun b hb=>by rw[J.later.bl]; exact R.tm hb
 obtain⟨S',K⟩:=DV (S:=Si) (ts:=ts) (c:=gs.getD i 0) (L:=(cF fs ls al i).1) (row:=al.getD i []) R.tn gc tb tl J.b (fun k hk=>by rw[R.a hi hk,J.later.dX]) ts.length (aB _)
 have e:(gs.take (i + 1)).foldl (ck aN false) S=S':=by
  rw[pG hi,rm,J.run]
  show ck aN false Si (gs.getD i 0)=_
  unfold ck
  rw[J.later.Ml,← R.et,DU R.tn gc tb (fun _ _=>rfl),← K.run,bf]
 rw[fr] at K
 have pe:bK (fs.getD i 0) (cF fs ls al i).1 (al.getD i []) ts.length=bK (fs.getD i 0) (cF fs ls al i).1 (al.getD i []) (cF fs ls al i).1.length:=by rw[tl]
 rw[pe] at K
 refine⟨S',e,?_,J.later.trans K.later,K.b,fun k h1 h2=>?_⟩
 ·show S'=kq S (((cF fs ls al i).2 ++ _).map (lW gs ts))
  rw[aR,mR,← J.eq,K.eq,fJ]
  rfl
 ·rw[K.oc _ fun z=>by have:=getD_inj R.gn h2 hi z; omega]
  exact J.c k (by omega) h2
theorem ux (R:uv S aN gs ts fs ls al): ∀i,i<=gs.length-> ∃Si,Vy S aN gs ts fs i (cF fs ls al i) Si
 |0,_=>⟨S,rfl,rfl,Later.refl S,fun j hj=>by
   obtain⟨_,_,t3⟩:=R.t hj
   exact t3.symm,fun k _ h2=>by
   obtain⟨_,_,g3⟩:=R.g h2
   exact g3.symm⟩
 |i + 1,h=>by
  obtain⟨Si,J⟩:=ux R i (by omega)
  exact As R (by omega) J
theorem HR (R:uv S aN gs ts fs ls al):bX aN S false=kq S ((cF fs ls al gs.length).2.map (lW gs ts))/\Later S (bX aN S false):=by
 obtain⟨Si,J⟩:=ux R gs.length (aB _)
 have e:bX aN S false=Si:=by
  unfold bX
  rw[← R.eg,← J.run,bf]
 rw[e]
 exact⟨J.eq,J.later⟩
end
inductive JJ where
 |int (i:Int)
 |txt (s:Str)
 |sets (l:List (Nat×Nat×Int))
 |pairs (l:List (Nat×Int))
 |ints (l:List Int)
def bI.isSet:bI->Bool
 | .set _ _ _=>true
 | .fO _=>true
 |_=>false
def bI.tells:bI->Bool
 | .dZ _ _ _ _=>true
 | .qv _ _ _=>true
 | .note _ _ _=>true
 | .set _ _ _=>true
 | .fO _=>true
 |_=>false
def pZ (x:Int)(n:Nat):Prop:=0<=x/\x < (n:Int)
instance (x:Int) (n:Nat):Decidable (pZ x n):=inferInstanceAs (Decidable (_/\_))
def Bk.bar (S:Bk):bI->Str
 | .dZ _ day yn dJ=>if dJ < 1 then "no amount" else if yn < day then "too early" else ""
 | .qv _ _ dJ=>if dJ < 1 then "no amount" else ""
 | .note b _ dJ=>if ¬ pZ b S.aC.length then "no bill" else if dJ < 1 then "no amount" else ""
 | .set c b dJ=>if ¬ pZ c S.credits.length then "no credit" else if ¬ pZ b S.aC.length then "no bill" else if S.dX c.toNat b.toNat=false then "not theirs" else
   if dJ < 1 then "no amount" else if fI (S.cr c.toNat).d (S.bl b.toNat).d < dJ then "too much" else ""
 |_=>""
theorem uy (S:Bk)(b d a:Int):S.bar (.note b d a)=(if ¬ pZ b S.aC.length then("no bill":Str) else if a < 1 then("no amount":Str) else("":Str)):=rfl
theorem yr (S:Bk)(c b a:Int):S.bar (.set c b a)=(if ¬ pZ c S.credits.length then("no credit":Str) else if ¬ pZ b S.aC.length then("no bill":Str) else if S.dX c.toNat b.toNat=false then("not theirs":Str) else
   if a < 1 then("no amount":Str) else if fI (S.cr c.toNat).d (S.bl b.toNat).d < a then("too much":Str) else("":Str)):=rfl
theorem n1:("no credit":Str)≠"":=by decide +kernel
theorem n2:("no bill":Str)≠"":=by decide +kernel
theorem n3:("not theirs":Str)≠"":=by decide +kernel
theorem n4:("no amount":Str)≠"":=by decide +kernel
theorem n6:("too much":Str)≠"":=by decide +kernel
theorem nR {S:Bk}{b d a:Int}(h:S.bar (.note b d a)=""):pZ b S.aC.length/\1<=a:=by
 rw[uy] at h
 split at h
 ·exact absurd h n2
 ·rename_i q
  split at h
  ·exact absurd h n4
  ·exact⟨EV.mp q,by omega⟩
theorem lj {S:Bk}{c b a:Int}(h:S.bar (.set c b a)=""):pZ c S.credits.length/\pZ b S.aC.length/\S.dX c.toNat b.toNat=true/\1<=a/\a<=(S.cr c.toNat).d/\a<=(S.bl b.toNat).d:=by
 rw[yr] at h
 split at h
 ·exact absurd h n1
 rename_i q1
 split at h
 ·exact absurd h n2
 rename_i q2
 split at h
 ·exact absurd h n3
 rename_i q3
 split at h
 ·exact absurd h n4
 rename_i q4
 split at h
 ·exact absurd h n6
 rename_i q5
 refine⟨Classical.not_not.mp q1,Classical.not_not.mp q2,by simpa using q3,by omega,?_⟩
 unfold fI at q5
 split at q5 <;> omega
def Bk.ir (S:Bk)(r:Rw):Bk:={S with aC:=S.aC ++ [r]}
def Bk.fU (S:Bk)(r:Rw):Bk:={S with credits:=S.credits ++ [r]}
def Bk.enter (S:Bk):bI->Bk
 | .dZ w d u a=>S.ir ⟨w,d,u,a,a⟩
 | .qv w d a=>S.fU ⟨w,d,a,-1,a⟩
 | .note b d a=>S.fU ⟨(S.bl b.toNat).aN,d,a,b,a⟩
 | .set c b a=>S.put c.toNat b.toNat a
 | .fO w=>S.iE w
 |_=>S
def Bk.KJ (S:Bk):bI->JJ
 | .dZ _ _ _ _=> .int S.aC.length
 | .qv _ _ _=> .int S.credits.length
 | .note _ _ _=> .int S.credits.length
 | .set _ _ a=> .int a
 | .fO w=> .sets ((S.iE w).made.drop S.made.length)
 |_=> .int 0
def cK:List (Int×bI)->Bk->Option Bk
 |[],S=>some S
 |(_,d) :: l,S=>if S.bar d="" then cK l (S.enter d) else none
def iF:List (Int×bI)->Bk->Str
 |[],_=>""
 |(_,d) :: l,S=>if S.bar d="" then iF l (S.enter d) else S.bar d
def Bk.gr (S:Bk)(t:Nat×Nat×Int):Int:=if(S.bl t.2.1).a > (S.cr t.1).a then(S.bl t.2.1).a else(S.cr t.1).a
def spotOf (bU:Bool)(t:Nat×Nat×Int):Nat:=if bU then t.2.1 else t.1
def Bk.cnt (S:Bk)(bU:Bool)(k:Nat)(day:Int)(t:Nat×Nat×Int):Bool:=decide (spotOf bU t=k) && decide (S.gr t<=day)
def Bk.rows (S:Bk)(bU:Bool):List Rw:=if bU then S.aC else S.credits
def HS (bU:Bool)(r:Rw):Int:=if bU then r.c else r.b
def keyOf (bU:Bool)(r:Rw):Int:=if bU then r.b else r.a
def Bk.rest (S:Bk)(bU:Bool)(k:Nat)(day:Int):Int:=HS bU ((S.rows bU).getD k default) - ((S.made.filter (S.cnt bU k day)).map (·.2.2)).sum
def Bk.qx (S:Bk)(bU:Bool)(aN:Str)(day:Int):List (Nat×Int):=
 ((inOrder (S.rows bU) aN (keyOf bU)).filter fun k=>decide (((S.rows bU).getD k default).a<=day) && decide (0 < S.rest bU k day)).map fun k=>(k,S.rest bU k day)
def placeOf (gr:Int)(dh:List Int):Nat:=if gr<=0 then 0 else 1 + (dh.filter fun l=>decide (l < gr)).length
def sx (l:List Int)(i:Nat)(x:Int):List Int:=l.set i (l.getD i 0 + x)
def Bk.NH (S:Bk)(aN:Str)(day:Int)(dh:List Int):List Int:=
 (S.qx true aN day).foldl (fun l t=>sx l (placeOf (day - (S.bl t.1).b) dh) t.2) (List.replicate (dh.length + 2) 0)
structure iZ where
 steps:List (Int×bI)
 bk:Bk
def iZ.new:iZ:=⟨[],Bk.new⟩
def cI (m:Int)(st:Int×bI):Bool:= !(decide (st.1=m) && st.2.isSet)
def gp (T:iZ)(n:Int):bI->JJ×iZ
 | .iP m=>if(T.steps.filter (cI m)).length=T.steps.length then(.txt "no setting",T) else
   match cK (T.steps.filter (cI m)) Bk.new with
   |none=>(.txt "needed",T)
   |some S=>(.txt "undone",⟨T.steps.filter (cI m),S⟩)
 | .ask o w d=>(.pairs (T.bk.qx o w d),T)
 | .iB w d l=>(.ints (T.bk.NH w d l),T)
 |d=>if T.bk.bar d="" then(T.bk.KJ d,⟨T.steps ++ [(n,d)],T.bk.enter d⟩) else(.txt (T.bk.bar d),T)
def gU:List bI->iZ->Nat->List JJ×iZ
 |[],T,_=>([],T)
 |d :: l,T,n=>((gp T n d).1 :: (gU l (gp T n d).2 (n + 1)).1,(gU l (gp T n d).2 (n + 1)).2)
structure WF (S:Bk)(n:Nat):Prop where
 m: ∀t∈S.made,t.1 < S.credits.length/\t.2.1 < S.aC.length
 o: ∀c,c < S.credits.length->(S.cr c).c= -1∨ ∃b:Nat,(S.cr c).c=(b:Int)/\b < S.aC.length/\(S.cr c).aN=(S.bl b).aN
 lb:S.aC.length<=n
 lc:S.credits.length<=n
 lm:S.made.length<=8000 * n
theorem WF.new:WF Bk.new 0:=⟨(fun t h=>by cases h),fun c h=>absurd h (fS _),aB _,aB _,aB _⟩
theorem WF.mono {S:Bk}{n m:Nat}(h:WF S n)(k:n<=m):WF S m:=⟨h.m,h.o,a6 h.lb k,a6 h.lc k,a6 h.lm (Nat.mul_le_mul_left _ k)⟩
theorem getD_snoc {α:Type}{l:List α}{x d:α}{k:Nat}(h:k < l.length):(l ++ [x]).getD k d=l.getD k d:=by
 rw[ai,ai,MS h]
theorem getD_last {α:Type}{l:List α}{x d:α}:(l ++ [x]).getD l.length d=x:=by
 rw[ai,o4 (aB _)]
 simp
theorem WF.ir {S:Bk}{n:Nat}(h:WF S n)(r:Rw):WF (S.ir r) (n + 1):=by
 have len:(S.ir r).aC.length=S.aC.length + 1:=by simp[Bk.ir]
 refine⟨fun t ht=>⟨(h.m t ht).1,by rw[len]; have:=(h.m t ht).2; omega⟩,fun c hc=>?_,by rw[len]; have:=h.lb; omega,by have:=h.lc; exact rn this,by have:=h.lm; show S.made.length<=_; omega⟩
 rcases h.o c hc with z|⟨b,z1,z2,z3⟩
 ·exact .inl z
 ·refine .inr ⟨b,z1,by rw[len]; omega,?_⟩
  show(S.cr c).aN=((S.aC ++ [r]).getD b default).aN
  rw[getD_snoc z2]
  exact z3
theorem WF.fU {S:Bk}{n:Nat}(h:WF S n)(r:Rw)(hr:r.c= -1∨ ∃b:Nat,r.c=(b:Int)/\b < S.aC.length/\r.aN=(S.bl b).aN):WF (S.fU r) (n + 1):=by
 have len:(S.fU r).credits.length=S.credits.length + 1:=by simp[Bk.fU]
 refine⟨fun t ht=>⟨by rw[len]; have:=(h.m t ht).1; omega,(h.m t ht).2⟩,fun c hc=>?_,by have:=h.lb; exact rn this,by rw[len]; have:=h.lc; omega,by have:=h.lm; show S.made.length<=_; omega⟩
 by_cases q:c < S.credits.length
 ·have e:(S.fU r).cr c=S.cr c:=getD_snoc q
  rw[e]
  exact h.o c q
 ·have q':c=S.credits.length:=by omega
  have e:(S.fU r).cr c=r:=by rw[q']; exact getD_last
  rw[e]
  exact hr
theorem WF.later {S S':Bk}{n m:Nat}(h:WF S n)(l:Later S S')(hm: ∀t∈S'.made,t.1 < S.credits.length/\t.2.1 < S.aC.length)(hn:n<=m)(hl:S'.made.length<=8000 * m):WF S' m:=by
 refine⟨fun t ht=>by rw[l.cl,l.bl]; exact hm t ht,fun c hc=>?_,by rw[l.bl]; exact a6 h.lb hn,by rw[l.cl]; exact a6 h.lc hn,hl⟩
 rw[l.cl] at hc
 rw[(l.c c).1.2.2.2,(l.c c).1.1]
 rcases h.o c hc with z|⟨b,z1,z2,z3⟩
 ·exact .inl z
 ·exact .inr ⟨b,z1,by rw[l.bl]; exact z2,by rw[(l.b b).1.1]; exact z3⟩
theorem uz: ∀{n:Nat} {l:List Nat},l.Nodup->(∀x∈l,x < n)->l.length<=n
 |0,l,_,h=>by
  cases l with
  |nil=>exact aB _
  |cons x l=>exact absurd (h x bC) (fS _)
 |n + 1,l,nd,h=>by
  by_cases q:n∈l
  ·have h1:=uz (n:=n) (l:=l.erase n) (nd.erase n) (fun x hx=>by
    have h2:=h x (List.mem_of_mem_erase hx)
    have h3:x≠n:=fun z=>(List.Nodup.mem_erase_iff nd).mp hx |>.1 z
    omega)
   rw[List.length_erase_of_mem q] at h1
   omega
  ·have:=uz (n:=n) nd (fun x hx=>by
    have h2:=h x hx
    have h3:x≠n:=fun z=>q (z▸hx)
    omega)
   omega
theorem jU (rows:List Rw)(aN:Str)(key:Rw->Int):(inTurn rows aN key).length<=rows.length:=uz (iC _ _ _) fun _ h=>(cJ.mp h).1
theorem il (fs ls:List Int)(al:List (List Bool)): ∀i,(cg fs ls al i).2.length<=i
 |0=>aB _
 |i + 1=>by
  have:=il fs ls al i
  unfold cg
  split
  ·omega
  ·rw[aF]
   show _ + 1<=_
   omega
theorem gw (f:Int)(l:List Int)(row:List Bool): ∀j,(bK f l row j).2.length<=j
 |0=>aB _
 |j + 1=>by
  have:=gw f l row j
  rw[bK]
  split
  ·rw[aF]
   show _ + 1<=_
   omega
  ·omega
theorem pI (fs ls:List Int)(al:List (List Bool)): ∀i,(cF fs ls al i).2.length<=i * ls.length
 |0=>by simp[cF]
 |i + 1=>by
  have h1:=pI fs ls al i
  have h2:=gw (fs.getD i 0) (cF fs ls al i).1 (al.getD i []) (cF fs ls al i).1.length
  show((cF fs ls al i).2 ++ _).length<=_
  rw[aF,ae,vz]
  rw[jI] at h2 ⊢
  omega
theorem lX (fs ls:List Int)(al:List (List Bool)): ∀i,∀t∈(cg fs ls al i).2,t.1 < i/\t.2.1 < ls.length
 |0,t,h=>by cases h
 |i + 1,t,h=>by
  rw[cg] at h
  split at h
  ·have:=lX fs ls al i t h
   omega
  ·rename_i j hj
   rcases bq.mp h with h|h
   ·have:=lX fs ls al i t h
    omega
   ·rw[ao.mp h]
    unfold hX at hj
    have:=c9.mp (MR hj)
    exact⟨fk _,this⟩
theorem pJ (f:Int)(l:List Int)(row:List Bool): ∀j,∀x∈(bK f l row j).2,x.1 < j
 |0,x,h=>by cases h
 |j + 1,x,h=>by
  rw[bK] at h
  split at h
  ·rcases bq.mp h with h|h
   ·have:=pJ f l row j x h
    omega
   ·rw[ao.mp h]
    exact fk _
  ·have:=pJ f l row j x h
   omega
theorem uA (fs ls:List Int)(al:List (List Bool)): ∀i,∀t∈(cF fs ls al i).2,t.1 < i/\t.2.1 < ls.length
 |0,t,h=>by cases h
 |i + 1,t,h=>by
  rcases bq.mp (show t∈(cF fs ls al i).2 ++ _ from h) with h|h
  ·have:=uA fs ls al i t h
   omega
  ·obtain⟨x,hx,rfl⟩:=bP.mp h
   have:=pJ _ _ _ _ x hx
   rw[jI] at this
   exact⟨fk _,this⟩
def X8 (S:Bk)(aN:Str):uv S aN (inTurn S.credits aN (·.a)) (inTurn S.aC aN (·.b)) ((inTurn S.credits aN (·.a)).map fun g=>(S.cr g).d) ((inTurn S.aC aN (·.b)).map fun t=>(S.bl t).d)
  ((inTurn S.credits aN (·.a)).map fun g=>(inTurn S.aC aN (·.b)).map fun t=>S.dX g t):=⟨rfl,rfl,rfl,rfl,rfl⟩
theorem DW {S:Bk}{gs ts:List Nat}{l:List (Nat×Nat×Int)}(hl: ∀t∈l,t.1 < gs.length/\t.2.1 < ts.length)(hg: ∀g∈gs,g < S.credits.length)(ht: ∀t∈ts,t < S.aC.length): ∀t∈l.map (lW gs ts),t.1 < S.credits.length/\t.2.1 < S.aC.length:=by
 intro t h
 obtain⟨x,hx,rfl⟩:=bP.mp h
 obtain⟨h1,h2⟩:=hl x hx
 exact⟨hg _ (jT h1),ht _ (jT h2)⟩
theorem uB (S:Bk)(aN:Str)(ex:Bool):Later S (bX aN S ex)/\ ∃l,(bX aN S ex).made=S.made ++ l/\(∀t∈l,t.1 < S.credits.length/\t.2.1 < S.aC.length)/\l.length<=S.credits.length + S.credits.length * S.aC.length:=by
 have gl:=jU S.credits aN (·.a)
 have tl:=jU S.aC aN (·.b)
 have hg: ∀g∈inTurn S.credits aN (·.a),g < S.credits.length:=fun g h=>(cJ.mp h).1
 have ht: ∀t∈inTurn S.aC aN (·.b),t < S.aC.length:=fun g h=>(cJ.mp h).1
 have mul:(inTurn S.credits aN (·.a)).length * (inTurn S.aC aN (·.b)).length<=S.credits.length * S.aC.length:=qd gl tl
 cases ex with
 |true=>
  obtain⟨e,l⟩:=HP (X8 S aN)
  refine⟨l,_,by rw[e]; exact jH _ _,DW (fun t h=>?_) hg ht,?_⟩
  ·have:=lX _ _ _ _ t h
   rwa [ae] at this
  ·rw[ae]
   have:=il ((inTurn S.credits aN (·.a)).map fun g=>(S.cr g).d) ((inTurn S.aC aN (·.b)).map fun t=>(S.bl t).d) ((inTurn S.credits aN (·.a)).map fun g=>(inTurn S.aC aN (·.b)).map fun t=>S.dX g t) (inTurn S.credits aN (·.a)).length
   omega
 |false=>
  obtain⟨e,l⟩:=HR (X8 S aN)
  refine⟨l,_,by rw[e]; exact jH _ _,DW (fun t h=>?_) hg ht,?_⟩
  ·have:=uA _ _ _ _ t h
   rwa [ae] at this
  ·rw[ae]
   have:=pI ((inTurn S.credits aN (·.a)).map fun g=>(S.cr g).d) ((inTurn S.aC aN (·.b)).map fun t=>(S.bl t).d) ((inTurn S.credits aN (·.a)).map fun g=>(inTurn S.aC aN (·.b)).map fun t=>S.dX g t) (inTurn S.credits aN (·.a)).length
   rw[ae] at this
   omega
theorem qy (S:Bk)(aN:Str):Later S (S.iE aN)/\ ∃l,(S.iE aN).made=S.made ++ l/\(∀t∈l,t.1 < S.credits.length/\t.2.1 < S.aC.length)/\l.length<=2 * (S.credits.length + S.credits.length * S.aC.length):=by
 obtain⟨l1,m1,e1,h1,n1⟩:=uB S aN true
 obtain⟨l2,m2,e2,h2,n2⟩:=uB (bX aN S true) aN false
 refine⟨l1.trans l2,m1 ++ m2,by show(bX aN (bX aN S true) false).made=_; rw[e2,e1,gH],fun t ht=>?_,?_⟩
 ·rcases bq.mp ht with ht|ht
  ·exact h1 t ht
  ·have:=h2 t ht
   rwa [l1.cl,l1.bl] at this
 ·rw[l1.cl,l1.bl] at n2
  rw[aF]
  omega
theorem WF.enter {S:Bk}{n:Nat}{d:bI}(h:WF S n)(hn:n < 60)(hb:S.bar d=""):WF (S.enter d) (n + 1):=by
 cases d with
 |dZ w d u a=>exact h.ir _
 |qv w d a=>exact h.fU _ (.inl rfl)
 |note b d a=>
  refine h.fU _ (.inr ⟨b.toNat,?_⟩)
  have z:=(nR hb).1
  obtain⟨z1,z2⟩:=z
  refine⟨?_,?_,rfl⟩
  ·show b=(b.toNat:Int)
   omega
  ·omega
 |set c b a=>
  obtain⟨zc,zb,_,za,_⟩:=lj hb
  obtain⟨c1,c2⟩:=zc
  obtain⟨b1,b2⟩:=zb
  have l:Later S (S.put c.toNat b.toNat a):=Later.put (by omega) (by omega) (by omega)
  refine h.later l (fun t ht=>?_) (dg _) ?_
  ·rcases bq.mp ht with ht|ht
   ·exact h.m t ht
   ·rw[ao.mp ht]
    show c.toNat < _/\b.toNat < _
    omega
  ·show(S.made ++ [_]).length<=_
   rw[aF]
   have:=h.lm
   show _ + 1<=_
   omega
 |fO w=>
  obtain⟨l,m,e,h1,h2⟩:=qy S w
  refine h.later l (fun t ht=>?_) (dg _) ?_
  ·rw[show(S.enter (.fO w)).made=S.made ++ m from e] at ht
   rcases bq.mp ht with ht|ht
   ·exact h.m t ht
   ·exact h1 t ht
  ·show(S.iE w).made.length<=_
   rw[e,aF]
   have h3:=h.lm
   have h4:=h.lb
   have h5:=h.lc
   have:S.credits.length * S.aC.length<=60 * 60:=qd (by omega) (by omega)
   omega
 |iP m=>exact h.mono (dg _)
 |ask o w d=>exact h.mono (dg _)
 |iB w d l=>exact h.mono (dg _)
structure mS (S T:Bk):Prop where
 bl:T.aC.length=S.aC.length
 cl:T.credits.length=S.credits.length
 b: ∀k,oy (S.bl k) (T.bl k)
 c: ∀k,oy (S.cr k) (T.cr k)
theorem oy.symm {r s:Rw}(h:oy r s):oy s r:=⟨h.1.symm,h.2.1.symm,h.2.2.1.symm,h.2.2.2.symm⟩
theorem mS.refl (S:Bk):mS S S:=⟨rfl,rfl,fun _=>oy.refl _,fun _=>oy.refl _⟩
theorem mS.symm {S T:Bk}(h:mS S T):mS T S:=⟨h.bl.symm,h.cl.symm,fun k=>(h.b k).symm,fun k=>(h.c k).symm⟩
theorem mS.trans {S T U:Bk}(h:mS S T)(k:mS T U):mS S U:=⟨k.bl.trans h.bl,k.cl.trans h.cl,fun i=>(h.b i).trans (k.b i),fun i=>(h.c i).trans (k.c i)⟩
theorem Later.rA {S T:Bk}(h:Later S T):mS S T:=⟨h.bl,h.cl,fun k=>(h.b k).1,fun k=>(h.c k).1⟩
theorem mS.dX {S T:Bk}(h:mS S T)(c b:Nat):T.dX c b=S.dX c b:=by
 unfold Bk.dX
 rw[(h.c c).1,(h.b b).1,(h.c c).2.2.2]
theorem rK {l m:List Rw}{r s:Rw}(hl:m.length=l.length)(h: ∀k,oy (l.getD k default) (m.getD k default))(hr:oy r s)(k:Nat):oy ((l ++ [r]).getD k default) ((m ++ [s]).getD k default):=by
 by_cases q:k < l.length
 ·rw[getD_snoc q,getD_snoc (by rw[hl]; exact q)]
  exact h k
 ·by_cases e:k=l.length
  ·subst e
   rw[getD_last,← hl,getD_last]
   exact hr
  ·have o1:(l ++ [r]).getD k default=default:=by
    rw[ai,vB (by rw[aF]; show l.length + 1<=k; omega)]
    rfl
   have o2:(m ++ [s]).getD k default=default:=by
    rw[ai,vB (by rw[aF]; show m.length + 1<=k; omega)]
    rfl
   rw[o1,o2]
   exact oy.refl _
theorem HU {S T:Bk}(h:mS S T){d:bI}(hb:S.bar d=""):T.bar d=""∨T.bar d="too much":=by
 cases d with
 |note b d a=>
  obtain⟨z1,z2⟩:=nR hb
  left
  rw[uy,h.bl,aQ (fun z=>z z1),aQ (by omega)]
 |set c b a=>
  obtain⟨z1,z2,z3,z4,_⟩:=lj hb
  rw[yr,h.bl,h.cl,h.dX,aQ (fun z=>z z1),aQ (fun z=>z z2),aQ (by rw[z3]; decide),aQ (by omega)]
  split
  ·exact .inr rfl
  ·exact .inl rfl
 |dZ w d u a=>exact .inl hb
 |qv w d a=>exact .inl hb
 |fO w=>exact .inl rfl
 |iP m=>exact .inl rfl
 |ask o w d=>exact .inl rfl
 |iB w d l=>exact .inl rfl
theorem lp {S:Bk}{d:bI}(hs:d.isSet=true)(hb:S.bar d=""):Later S (S.enter d):=by
 cases d with
 |set c b a=>
  obtain⟨⟨_,_⟩,⟨_,_⟩,_,_,_⟩:=lj hb
  exact Later.put (by omega) (by omega) (by omega)
 |fO w=>exact(qy S w).1
 |dZ w d u a=>cases hs
 |qv w d a=>cases hs
 |note b d a=>cases hs
 |iP m=>cases hs
 |ask o w d=>cases hs
 |iB w d l=>cases hs
theorem CA {S T:Bk}(h:mS S T){d:bI}(hs:S.bar d="")(ht:T.bar d=""):mS (S.enter d) (T.enter d):=by
 cases d with
 |dZ w d u a=>exact⟨by simp[Bk.enter,Bk.ir,h.bl],h.cl,rK h.bl h.b (oy.refl _),h.c⟩
 |qv w d a=>exact⟨h.bl,by simp[Bk.enter,Bk.fU,h.cl],h.b,rK h.cl h.c (oy.refl _)⟩
 |note b d a=>exact⟨h.bl,by simp[Bk.enter,Bk.fU,h.cl],h.b,rK h.cl h.c ⟨(h.b _).1,rfl,rfl,rfl⟩⟩
 |set c b a=>exact(lp rfl hs).rA.symm.trans (h.trans (lp rfl ht).rA)
 |fO w=>exact(lp (d:= .fO w) rfl hs).rA.symm.trans (h.trans (lp (d:= .fO w) rfl ht).rA)
 |iP m=>exact h
 |ask o w d=>exact h
 |iB w d l=>exact h
theorem NI (m:Int): ∀(l:List (Int×bI)) {S T:Bk},mS S T->(cK l S).isSome=true->iF (l.filter (cI m)) T=""∨iF (l.filter (cI m)) T="too much"
 |[],_,_,_,_=> .inl rfl
 |(n,d) :: l,S,T,h,hw=>by
  unfold cK at hw
  split at hw
  ·rename_i hb
   by_cases k:cI m (n,d)=true
   ·rw[cW k]
    unfold iF
    split
    ·rename_i ht
     exact NI m l (CA h hb ht) hw
    ·rename_i ht
     exact .inr ((HU h hb).resolve_left ht)
   ·rw[ko k]
    have ds:d.isSet=true:=by
     unfold cI at k
     simp at k
     exact k.2
    exact NI m l ((lp ds hb).rA.symm.trans h) hw
  ·cases hw
theorem rL: ∀(l:List (Int×bI)) {S T:Bk} {n:Nat},WF S n->cK l S=some T->n + l.length<=60->WF T (n + l.length)
 |[],S,T,n,h,e,_=>by
  cases e
  exact h
 |(k,d) :: l,S,T,n,h,e,hl=>by
  unfold cK at e
  split at e
  ·rename_i hb
   have len:((k,d) :: l).length=l.length + 1:=rfl
   rw[len] at hl ⊢
   have:=rL l (h.enter (by omega) hb) e (by omega)
   rwa [show n + (l.length + 1)=n + 1 + l.length by omega]
  ·cases e
theorem kO: ∀(l m:List (Int×bI)) (S:Bk),cK (l ++ m) S=(cK l S).bind (cK m)
 |[],m,S=>rfl
 |(k,d) :: l,m,S=>by
  show(if S.bar d="" then cK (l ++ m) (S.enter d) else none)=(if S.bar d="" then cK l (S.enter d) else none).bind (cK m)
  split
  ·exact kO l m _
  ·rfl
structure Good (T:iZ)(n:Nat):Prop where
 w:cK T.steps Bk.new=some T.bk
 lt: ∀st∈T.steps,0<=st.1/\st.1 < (n:Int)
 inc:T.steps.Pairwise fun a b=>a.1 < b.1
 tl: ∀st∈T.steps,st.2.tells=true
 len:T.steps.length<=n
theorem Good.new:Good iZ.new 0:=⟨rfl,(fun _ h=>by cases h),List.Pairwise.nil,(fun _ h=>by cases h),aB _⟩
theorem Good.mono {T:iZ}{n m:Nat}(h:Good T n)(k:n<=m):Good T m:=⟨h.w,fun st hs=>⟨(h.lt st hs).1,by have:=(h.lt st hs).2; omega⟩,h.inc,h.tl,a6 h.len k⟩
theorem Good.wf {T:iZ}{n:Nat}(h:Good T n)(hn:n<=60):WF T.bk n:=by
 have z:=rL T.steps WF.new h.w (by have:=h.len; omega)
 rw[Nat.zero_add] at z
 exact z.mono h.len
theorem Good.add {T:iZ}{n:Nat}(h:Good T n){d:bI}(ht:d.tells=true)(hb:T.bk.bar d=""):Good ⟨T.steps ++ [((n:Int),d)],T.bk.enter d⟩ (n + 1):=by
 refine⟨?_,fun st hs=>?_,?_,fun st hs=>?_,?_⟩
 ·show cK (T.steps ++ [((n:Int),d)]) Bk.new=_
  rw[kO,h.w]
  show(if T.bk.bar d="" then some (T.bk.enter d) else none)=_
  rw[a8 hb]
 ·rcases bq.mp hs with hs|hs
  ·have:=h.lt st hs
   omega
  ·rw[ao.mp hs]
   show(0:Int)<=(n:Int)/\(n:Int) < _
   omega
 ·rw[List.pairwise_append]
  refine⟨h.inc,List.pairwise_singleton _ _,fun a ha b hb=>?_⟩
  rw[ao.mp hb]
  exact(h.lt a ha).2
 ·rcases bq.mp hs with hs|hs
  ·exact h.tl st hs
  ·rw[ao.mp hs]
   exact ht
 ·show(T.steps ++ [_]).length<=_
  rw[aF]
  have:=h.len
  show _ + 1<=_
  omega
theorem Good.step {T:iZ}{n:Nat}(h:Good T n)(d:bI):Good (gp T n d).2 (n + 1):=by
 have keep:=h.mono (dg n)
 have dflt: ∀d:bI,d.tells=true->Good (if T.bk.bar d="" then(T.bk.KJ d,(⟨T.steps ++ [((n:Int),d)],T.bk.enter d⟩:iZ)) else(.txt (T.bk.bar d),T)).2 (n + 1):=fun d ht=>by
  split
  ·rename_i hb
   exact h.add ht hb
  ·exact keep
 cases d with
 |iP m=>
  show Good (if(T.steps.filter (cI m)).length=T.steps.length then(JJ.txt "no setting",T) else
   match cK (T.steps.filter (cI m)) Bk.new with
   |none=>(.txt "needed",T)
   |some S=>(.txt "undone",⟨T.steps.filter (cI m),S⟩)).2 (n + 1)
  split
  ·exact keep
  ·cases e:cK (T.steps.filter (cI m)) Bk.new with
   |none=>exact keep
   |some S=>
    refine⟨e,fun st hs=>?_,h.inc.filter _,fun st hs=>h.tl st (fR.mp hs).1,?_⟩
    ·have:=h.lt st (fR.mp hs).1
     omega
    ·have h1:=a7 (cI m) T.steps
     have h2:=h.len
     show(T.steps.filter (cI m)).length<=_
     omega
 |ask o w d=>exact keep
 |iB w d l=>exact keep
 |dZ w d u a=>exact dflt _ rfl
 |qv w d a=>exact dflt _ rfl
 |note b d a=>exact dflt _ rfl
 |set c b a=>exact dflt _ rfl
 |fO w=>exact dflt _ rfl
theorem sy: ∀(l:List bI) (T:iZ) (n:Nat),(gU l T n).1.length=l.length
 |[],_,_=>rfl
 |d :: l,T,n=>by
  show(gU l _ _).1.length + 1=_
  rw[sy l]
  rfl
def bI.dt:bI->Dt
 | .dZ w d u a=> .tup [.str "bill",.str w,.int d,.int u,.int a]
 | .qv w d a=> .tup [.str "pay",.str w,.int d,.int a]
 | .note b d a=> .tup [.str "note",.int b,.int d,.int a]
 | .set c b a=> .tup [.str "set",.int c,.int b,.int a]
 | .fO w=> .tup [.str "sweep",.str w]
 | .iP n=> .tup [.str "undo",.int n]
 | .ask o w d=> .tup [.str (if o then "owed" else "free"),.str w,.int d]
 | .iB w d l=> .tup [.str "ages",.str w,.int d,.tup (l.map Dt.int)]
def bI.ok:bI->Prop
 | .iB _ _ l=>l.length<=11/\l.Pairwise (· < ·)/\ ∀x∈l,1<=x
 |_=>True
mutual
def Dt.JK:Dt->Bool
 | .lst _=>false
 | .tup ds=>Dt.vO ds
 | .eI=>true
 | .bl _=>true
 | .int _=>true
 | .str _=>true
def Dt.vO:List Dt->Bool
 |[]=>true
 |d :: ds=>d.JK && Dt.vO ds
end
def cU (H H':Hp):Prop:= ∀b xs,H b=some (.tup xs)->H' b=some (.tup xs)
theorem cU.trans {H1 H2 H3:Hp}(a:cU H1 H2)(b:cU H2 H3):cU H1 H3:=fun x xs e=>b x xs (a x xs e)
theorem aG.tk {H H':Hp}(s:aG H H'):cU H H':=fun b xs e=>s _ _ e
theorem gx {H:Hp}{p:Addr}{o:HO}{ys:List V}(h:H p=some (.lst ys)):cU H (upd H p o):=dW h
mutual
theorem Rp.Au {H H':Hp}(k:cU H H'): ∀(d:Dt) {v:V},d.JK=true->Rp H d v->Rp H' d v
 | .eI,_,_,h=>uj.mpr (uj.mp h)
 | .bl _,_,_,h=>qr.mpr (qr.mp h)
 | .int _,_,_,h=>eJ.mpr (eJ.mp h)
 | .str _,_,_,h=>g9.mpr (g9.mp h)
 | .tup ds,_,n,h=>by
  obtain⟨a,xs,e,h1,h2⟩:=jQ.mp h
  exact jQ.mpr ⟨a,xs,e,k _ _ h1,iL.Au k ds (by simpa[Dt.JK] using n) h2⟩
 | .lst ds,_,n,h=>by simp[Dt.JK] at n
theorem iL.Au {H H':Hp}(k:cU H H'): ∀(ds:List Dt) {vs:List V},Dt.vO ds=true->iL H ds vs->iL H' ds vs
 |[],_,_,h=>ee.mpr (ee.mp h)
 |d :: ds,_,n,h=>by
  obtain⟨v,r,e,h1,h2⟩:=cf.mp h
  have n':d.JK=true/\Dt.vO ds=true:=by simpa[Dt.vO] using n
  exact cf.mpr ⟨v,r,e,Rp.Au k d n'.1 h1,iL.Au k ds n'.2 h2⟩
end
theorem FC (l:List Int):Dt.vO (l.map Dt.int)=true:=by
 induction l with
 |nil=>rfl
 |cons x l ih=>simp[Dt.vO,Dt.JK,ih]
theorem bI.JK (d:bI):d.dt.JK=true:=by
 cases d <;> simp[bI.dt,Dt.JK,Dt.vO,FC]
theorem FD (ds:List bI):Dt.vO (ds.map bI.dt)=true:=by
 induction ds with
 |nil=>rfl
 |cons d ds ih=>simp[Dt.vO,bI.JK,ih]
def gW (H:Hp)(ds:List bI)(ms:List V):Prop:=iL H (ds.map bI.dt) ms
theorem gW.mono {H H':Hp}{ds:List bI}{ms:List V}(h:gW H ds ms)(k:cU H H'):gW H' ds ms:=iL.Au k _ (FD ds) h
theorem gW.snoc {H:Hp}{ds:List bI}{ms:List V}{d:bI}{v:V}(h:gW H ds ms)(hd:Rp H d.dt v):gW H (ds ++ [d]) (ms ++ [v]):=by
 unfold gW
 rw[aR]
 exact iL.append h (iL.one hd)
theorem gW.length {H:Hp}{ds:List bI}{ms:List V}(h:gW H ds ms):ds.length=ms.length:=by
 have:=iL.length h
 rwa [ae] at this
theorem KL (n:Nat)(b:Str):(List.replicate n [V.str b]).flatten=(List.replicate n b).map V.str:=by
 induction n with
 |zero=>rfl
 |succ n ih=>rw[dC,iU,ih,dC]; rfl
def Rw.vs (r:Rw):List V:=[.str r.aN,.int r.a,.int r.b,.int r.c,.int r.d]
structure fL where
 pb:Addr
 pc:Addr
 pm:Addr
 iu:List Addr
 cps:List Addr
def fL.fp (f:fL):List Addr:=f.pb :: f.pc :: f.pm :: (f.iu ++ f.cps)
def Z6 (f:fL):List (Key×V):=[(Sum.inr "bills",.ref f.pb),(Sum.inr "credits",.ref f.pc),(Sum.inr "made",.ref f.pm)]
def fc (H:Hp)(rs:List Rw)(ps:List Addr):Prop:=Paired (fun(r:Rw) p=>H p=some (.lst r.vs)) rs ps
def gQ (H:Hp)(ms:List (Nat×Nat×Int))(vs:List V):Prop:=Paired (fun(t:Nat×Nat×Int) v=> ∃p,v= .ref p/\H p=some (.tup [.int t.1,.int t.2.1,.int t.2.2])) ms vs
theorem gQ.mono {H H':Hp}{ms:List (Nat×Nat×Int)}{vs:List V}(h:gQ H ms vs)(k:cU H H'):gQ H' ms vs:=
 Paired.iV h fun _ _ ⟨p,e,q⟩=>⟨p,e,k _ _ q⟩
structure dD (H:Hp)(sd:Addr)(S:Bk)(f:fL):Prop where
 dict:H sd=some (.dK (Z6 f))
 hb:H f.pb=some (.lst (f.iu.map V.ref))
 hc:H f.pc=some (.lst (f.cps.map V.ref))
 hm: ∃ms,H f.pm=some (.lst ms)/\gQ H S.made ms
 rb:fc H S.aC f.iu
 rc:fc H S.credits f.cps
 nd:f.fp.Nodup
 ns:sd∉f.fp
theorem fc.keep {H H':Hp}{rs:List Rw}{ps:List Addr}(h:fc H rs ps)(k: ∀p∈ps,∀o,H p=some o->H' p=some o):fc H' rs ps:=by
 induction h with
 |nil=>exact .nil
 | @cons r p rs ps hr t ih=>exact .cons (k p bC _ hr) (ih fun q hq=>k q (aU _ hq))
theorem dD.keep {H H':Hp}{sd:Addr}{S:Bk}{f:fL}(h:dD H sd S f)(k: ∀b o,(b=sd∨b∈f.fp)->H b=some o->H' b=some o)(t:cU H H'):dD H' sd S f:=by
 obtain⟨ms,m1,m2⟩:=h.hm
 refine⟨k _ _ (.inl rfl) h.dict,k _ _ (.inr (by simp[fL.fp])) h.hb,k _ _ (.inr (by simp[fL.fp])) h.hc,⟨ms,k _ _ (.inr (by simp[fL.fp])) m1,m2.mono t⟩,h.rb.keep fun p hp o e=>k p o (.inr (by simp[fL.fp,hp])) e,h.rc.keep fun p hp o e=>k p o (.inr (by simp[fL.fp,hp])) e,h.nd,h.ns⟩
theorem dD.same {H H':Hp}{sd:Addr}{S:Bk}{f:fL}(h:dD H sd S f)(s:aG H H'):dD H' sd S f:=h.keep (fun b o _ e=>s _ _ e) s.tk
def Frame (fp:List Addr)(H H':Hp):Prop:= ∀b o,b∉fp->H b=some o->H' b=some o
theorem Frame.refl {fp:List Addr}{H:Hp}:Frame fp H H:=fun _ _ _ e=>e
theorem Frame.trans {fp Q4:List Addr}{H1 H2 H3:Hp}(a:Frame fp H1 H2)(b:Frame Q4 H2 H3)(h: ∀x∈Q4,x∈fp∨H1 x=none):Frame fp H1 H3:=fun x o hx e=>
 b x o (fun Z7=>by
  rcases h x Z7 with h|h
  ·exact hx h
  ·rw[h] at e; cases e) (a x o hx e)
theorem aG.frame {fp:List Addr}{H H':Hp}(s:aG H H'):Frame fp H H':=fun b o _ e=>s _ _ e
theorem Frame.upd {fp:List Addr}{H:Hp}{p:Addr}{o:HO}(h:p∈fp):Frame fp H (upd H p o):=fun b u hb e=>by
 have jf:b≠p:=fun z=>hb (by rw[z]; exact h)
 rw[ay jf]; exact e
theorem Frame.same {fp:List Addr}{H0 H H':Hp}(a:Frame fp H H')(s:aG H0 H)(h: ∀x∈fp,H0 x=none):aG H0 H':=fun b o e=>a b o (fun hb=>by rw[h b hb] at e; cases e) (s b o e)
theorem fc.length {H:Hp}{rs:List Rw}{ps:List Addr}(h:fc H rs ps):rs.length=ps.length:=aX h
theorem fc.at {H:Hp}{rs:List Rw}{ps:List Addr}(h:fc H rs ps){i:Nat}(hi:i < rs.length): ∃p,ps[i]? =some p/\H p=some (.lst (rs.getD i default).vs):=by
 obtain⟨p,e,q⟩:=bT h (af hi)
 refine⟨p,e,?_⟩
 rw[ai,af hi]
 exact q
theorem fc.set {H:Hp}: ∀{rs:List Rw} {ps:List Addr} {i:Nat} {p:Addr} {r:Rw},fc H rs ps->ps.Nodup->ps[i]? =some p->fc (upd H p (.lst r.vs)) (rs.set i r) ps
 |_,_,i,p,r,.nil,_,h=>by simp at h
 |_,_,0,p,r,.cons (b:=q) hr t,nd,h=>by
  injection h with h
  subst h
  rw[eA] at nd
  refine .cons ag (fc.keep t fun x hx o e=>?_)
  have jf:x≠q:=fun z=>nd.1 (by rw[← z]; exact hx)
  rw[ay jf]; exact e
 |_,_,i + 1,p,r,.cons (b:=q) hr t,nd,h=>by
  rw[eA] at nd
  rw[List.getElem?_cons_succ] at h
  have jf:q≠p:=fun z=>nd.1 (by rw[z]; exact gG h)
  refine .cons ?_ (fc.set t nd.2 h)
  rw[ay jf]; exact hr
theorem fc.ip {H:Hp}{rs:List Rw}{ps:List Addr}{p:Addr}{o:HO}(h:fc H rs ps)(hp:p∉ps):fc (upd H p o) rs ps:=
 h.keep fun q hq u e=>by
  have jf:q≠p:=fun z=>hp (by rw[← z]; exact hq)
  rw[ay jf]; exact e
theorem fL.Q5 {f:fL}(h:f.fp.Nodup):f.pb≠f.pc/\f.pb≠f.pm/\f.pc≠f.pm/\(∀p∈f.iu,p≠f.pb/\p≠f.pc/\p≠f.pm/\p∉f.cps)/\(∀p∈f.cps,p≠f.pb/\p≠f.pc/\p≠f.pm/\p∉f.iu)/\f.iu.Nodup/\f.cps.Nodup:=by
 unfold fL.fp at h
 simp only[List.nodup_cons,List.mem_cons,List.mem_append,not_or,List.nodup_append] at h
 obtain⟨⟨h1,h2,h3,h4⟩,⟨h5,h6,h7⟩,⟨h8,h9⟩,Q7,Vz,TL⟩:=h
 refine⟨h1,h2,h5,fun p hp=>⟨fun e=>h3 (e▸hp),fun e=>h6 (e▸hp),fun e=>h8 (e▸hp),fun hc=>TL p hp p hc rfl⟩,fun p hp=>⟨fun e=>h4 (e▸hp),fun e=>h7 (e▸hp),fun e=>h9 (e▸hp),fun hb=>TL p hb p hp rfl⟩,Q7,Vz⟩
theorem dD.setB {H:Hp}{sd:Addr}{S:Bk}{f:fL}(h:dD H sd S f){i:Nat}{p:Addr}{r:Rw}(hp:f.iu[i]? =some p)(hl: ∃xs,H p=some (.lst xs)):dD (upd H p (.lst r.vs)) sd {S with aC:=S.aC.set i r} f:=by
 obtain⟨d1,d2,d3,d4,d5,d6,d7⟩:=fL.Q5 h.nd
 have hm:=gG hp
 obtain⟨e1,e2,e3,e4⟩:=d4 p hm
 obtain⟨ms,m1,m2⟩:=h.hm
 obtain⟨xs,hx⟩:=hl
 have es:sd≠p:=fun z=>h.ns (by rw[z]; simp[fL.fp,hm])
 exact⟨by rw[ay es]; exact h.dict,by rw[ay e1.symm]; exact h.hb,by rw[ay e2.symm]; exact h.hc,⟨ms,by rw[ay e3.symm]; exact m1,m2.mono (gx hx)⟩,h.rb.set d6 hp,h.rc.ip e4,h.nd,h.ns⟩
theorem dD.setC {H:Hp}{sd:Addr}{S:Bk}{f:fL}(h:dD H sd S f){i:Nat}{p:Addr}{r:Rw}(hp:f.cps[i]? =some p)(hl: ∃xs,H p=some (.lst xs)):dD (upd H p (.lst r.vs)) sd {S with credits:=S.credits.set i r} f:=by
 obtain⟨d1,d2,d3,d4,d5,d6,d7⟩:=fL.Q5 h.nd
 have hm:=gG hp
 obtain⟨e1,e2,e3,e4⟩:=d5 p hm
 obtain⟨ms,m1,m2⟩:=h.hm
 obtain⟨xs,hx⟩:=hl
 have es:sd≠p:=fun z=>h.ns (by rw[z]; simp[fL.fp,hm])
 exact⟨by rw[ay es]; exact h.dict,by rw[ay e1.symm]; exact h.hb,by rw[ay e2.symm]; exact h.hc,⟨ms,by rw[ay e3.symm]; exact m1,m2.mono (gx hx)⟩,h.rb.ip e4,h.rc.set d7 hp,h.nd,h.ns⟩
theorem dD.VA {H:Hp}{sd:Addr}{S:Bk}{f:fL}(h:dD H sd S f){ms:List V}{t:Nat×Nat×Int}{p:Addr}(hm:H f.pm=some (.lst ms))(Z8:gQ H S.made ms)(hp:H p=some (.tup [.int t.1,.int t.2.1,.int t.2.2])):
  dD (upd H f.pm (.lst (ms ++ [.ref p]))) sd {S with made:=S.made ++ [t]} f:=by
 obtain⟨d1,d2,d3,d4,d5,d6,d7⟩:=fL.Q5 h.nd
 have es:sd≠f.pm:=fun z=>h.ns (by rw[z]; simp[fL.fp])
 exact⟨by rw[ay es]; exact h.dict,by rw[ay d2]; exact h.hb,by rw[ay d3]; exact h.hc,⟨_,ag,cV (Z8.mono (gx hm)) ⟨p,rfl,dW hm _ _ hp⟩⟩,h.rb.ip fun z=>(d4 _ z).2.2.1 rfl,h.rc.ip fun z=>(d5 _ z).2.2.1 rfl,h.nd,h.ns⟩
theorem Q8:("bills":Str)≠"credits":=by decide +kernel
theorem Q9:("bills":Str)≠"made":=by decide +kernel
theorem Ra:("credits":Str)≠"made":=by decide +kernel
theorem Rb (a b c:V):gq [((Sum.inr "bills":Key),a),(Sum.inr "credits",b),(Sum.inr "made",c)] (Sum.inr "bills")=some a:=by
 unfold gq
 rw[List.find?_cons_of_pos (by simp)]; rfl
theorem Rc (a b c:V):gq [((Sum.inr "bills":Key),a),(Sum.inr "credits",b),(Sum.inr "made",c)] (Sum.inr "credits")=some b:=by
 unfold gq
 rw[List.find?_cons_of_neg (by simpa using Q8),List.find?_cons_of_pos (by simp)]; rfl
theorem Rf (a b c:V):gq [((Sum.inr "bills":Key),a),(Sum.inr "credits",b),(Sum.inr "made",c)] (Sum.inr "made")=some c:=by
 unfold gq
 rw[List.find?_cons_of_neg (by simpa using Q9),List.find?_cons_of_neg (by simpa using Ra),List.find?_cons_of_pos (by simp)]; rfl
theorem NJ (a b c:V):pz [] [((Sum.inr "bills":Key),a),(Sum.inr "credits",b),(Sum.inr "made",c)]=[((Sum.inr "bills":Key),a),(Sum.inr "credits",b),(Sum.inr "made",c)]:=by
 unfold pz
 rw[dR,dR,dR,List.foldl_nil]
 have h1:putK ([]:List (Key×V)) (Sum.inr "bills") a=[((Sum.inr "bills":Key),a)]:=by
  unfold putK; rw[if_neg (by simp)]; rfl
 have h2:putK [((Sum.inr "bills":Key),a)] (Sum.inr "credits") b=[((Sum.inr "bills":Key),a),(Sum.inr "credits",b)]:=by
  unfold putK; rw[if_neg (by simpa using Q8)]; rfl
 have h3:putK [((Sum.inr "bills":Key),a),(Sum.inr "credits",b)] (Sum.inr "made") c=[((Sum.inr "bills":Key),a),(Sum.inr "credits",b),(Sum.inr "made",c)]:=by
  unfold putK; rw[if_neg (by simpa using⟨Q9,Ra⟩)]; rfl
 dsimp only
 rw[h1,h2,h3]
theorem dD.gB {H:Hp}{sd:Addr}{S:Bk}{f:fL}(h:dD H sd S f):mv H sd (.str "bills") (some (.ref f.pb)):=Rb (.ref f.pb) (.ref f.pc) (.ref f.pm)▸mv.k (k:=Sum.inr "bills") h.dict
theorem dD.gC {H:Hp}{sd:Addr}{S:Bk}{f:fL}(h:dD H sd S f):mv H sd (.str "credits") (some (.ref f.pc)):=Rc (.ref f.pb) (.ref f.pc) (.ref f.pm)▸mv.k (k:=Sum.inr "credits") h.dict
theorem dD.gM {H:Hp}{sd:Addr}{S:Bk}{f:fL}(h:dD H sd S f):mv H sd (.str "made") (some (.ref f.pm)):=Rf (.ref f.pb) (.ref f.pc) (.ref f.pm)▸mv.k (k:=Sum.inr "made") h.dict
theorem dD.lb {H:Hp}{sd:Addr}{S:Bk}{f:fL}(h:dD H sd S f){b:Nat}(hb:b < S.aC.length): ∃p,f.iu[b]? =some p/\sV (f.iu.map V.ref) (b:Int)=some (.ref p)/\H p=some (.lst (S.bl b).vs):=by
 obtain⟨p,e,q⟩:=h.rb.at hb
 exact⟨p,e,cS (by rw[aD,e]; rfl),q⟩
theorem dD.lc {H:Hp}{sd:Addr}{S:Bk}{f:fL}(h:dD H sd S f){b:Nat}(hb:b < S.credits.length): ∃p,f.cps[b]? =some p/\sV (f.cps.map V.ref) (b:Int)=some (.ref p)/\H p=some (.lst (S.cr b).vs):=by
 obtain⟨p,e,q⟩:=h.rc.at hb
 exact⟨p,e,cS (by rw[aD,e]; rfl),q⟩
section
variable {prog:Program}{w:World}{A:Around}{E:Value->Shared->Prop}
def sC (prog:Program)(w:World)(A:Around)(kS:Addr)(f:Value)(Fi:List Value->Shared->Prop):List Value->List Value->Shared->Prop
 |[],ks,s=>Fi ks s
 |v :: r,ks,s=>wpAny (model prog w) A (call f [v]) (fun k s'=> ∃e,s'.heap.get? kS=some (seqObj "list" ks.toArray e)/\ ∀h' c,Heap.SameBut kS s'.heap h'->h'.get? kS=some (seqObj "list" (ks ++ [k]).toArray c)->sC prog w A kS f Fi r (ks ++ [k]) {s' with heap:=h'}) (fun _ _=>False) s
def FE (prog:Program)(w:World)(A:Around)(D kS:Addr)(e1:Nat)(vs:List Value)(Q:Shared->Prop)(ks:List Value)(s:Shared):Prop:=
 ∃(κ:SortKind) (key:Nat->Int),D≠kS/\s.heap.get? D=some (seqObj "list" #[] e1)/\(2<=vs.length-> ∀Q':SortKind->Shared->Prop,Q' κ s->wpAny (model prog w) A (keyKind' ks.toArray) Q' (fun _ _=>False) s)/\
  (∀(i j:Nat) (C:Bool->Shared->Prop),i < vs.length->j < vs.length->C (decide (key i < key j)) s->wpAny (model prog w) A (keyLt' κ (ks.getD i Value.none) (ks.getD j Value.none)) C (fun _ _=>False) s)/\
  ∀(p:Array Nat) (h':Heap) (n:Nat),qt vs.length p->lh key p vs.length->h'.objs.size=s.heap.objs.size->h'.get? D=some (seqObj "list" (p.toList.map fun i=>vs.getD i Value.none).toArray n)->(∀b,b≠D->b≠kS->h'.get? b=s.heap.get? b)->Q {s with heap:=h'}
theorem DX {f:Value}{kS:Addr}{Fi:List Value->Shared->Prop}{n:Nat}{body:Value->PUnit->Sem (ForInStep PUnit)}(hn:n < 64)
  (hb: ∀x ks (s:Shared) (C:Value->Shared->Prop),List.length ks < 64->wpAny (model prog w) A (call f [x]) (fun k s'=> ∃e,s'.heap.get? kS=some (seqObj "list" ks.toArray e)/\ ∀h' c,Heap.SameBut kS s'.heap h'->h'.get? kS=some (seqObj "list" (ks ++ [k]).toArray c)->C k {s' with heap:=h'}) (fun _ _=>False) s->
   wpAny (model prog w) A (body x ⟨⟩) (fun r s'=>r= .yield ⟨⟩/\ ∃k c,s'.heap.get? kS=some (seqObj "list" (ks ++ [k]).toArray c)/\C k s') E s): ∀(r ks:List Value) (e:Nat) (s:Shared),ks.length + r.length=n->
   s.heap.get? kS=some (seqObj "list" ks.toArray e)->sC prog w A kS f Fi r ks s->
   wpAny (model prog w) A (forIn r PUnit.unit body) (fun _ s'=> ∃ks e,s'.heap.get? kS=some (seqObj "list" ks.toArray e)/\ks.length=n/\Fi ks s') E s
 |[],ks,e,s,hl,hk,h=>by
  rw[List.forIn_nil]
  exact wpAny_pure ⟨ks,e,hk,by simpa using hl,h⟩
 |x :: r,ks,e,s,hl,hk,h=>by
  rw[cu] at hl
  rw[List.forIn_cons]
  refine az (cD (hb x ks s (fun k s'=>sC prog w A kS f Fi r (ks ++ [k]) s') (by omega) h) (fun q s' hq=>?_) fun _ _ x=>x)
  obtain⟨rfl,k,c,JI,h2⟩:=hq
  show wpAny (model prog w) A (forIn r PUnit.unit body) _ E s'
  exact DX hn hb r (ks ++ [k]) c s' (by rw[aF,List.length_singleton]; omega) JI h2
variable {s:Shared}
theorem DY {D kS:Addr}{e e1:Nat}{ks out:List Value}{st:SortSt}{P:PySem.Fin->Shared->Prop}(hD:s.heap.get? D=some (seqObj "list" #[] e1))(hk:s.heap.get? kS=some (seqObj "list" ks.toArray e))(ne:D≠kS)
  (Cy:(arrOf st).map (·.2)=out.toArray) (hz:out.length < 64) (hkz:ks.length < 64) (hf:failedOf st=none)
  (h: ∀(h':Heap) (n:Nat),h'.objs.size=s.heap.objs.size->h'.get? D=some (seqObj "list" out.toArray n)->(∀b,b≠D->b≠kS->h'.get? b=s.heap.get? b)->P (.done (.ret .none)) {s with heap:=h'}):
  wpAny (model prog w) A (ksk_tail D false e1 (.ref kS) st) P E s:=by
 have hl:sizeLine=16777216:=eZ
 unfold ksk_tail
 try dsimp only
 rw[Cy]
 have s1:=rq s.heap kS (Obj.mapSeq fun _=>(#[]:Array Value))
 have d1:(s.heap.update kS (Obj.mapSeq fun _=>(#[]:Array Value))).get? D=some (seqObj "list" #[] e1):=(s1.2 D ne).trans hD
 have s2:=rq (s.heap.update kS (Obj.mapSeq fun _=>(#[]:Array Value))) D (Obj.mapSeq fun _=>out.toArray)
 obtain⟨c2,KG⟩: ∃c2,((s.heap.update kS (Obj.mapSeq fun _=>(#[]:Array Value))).update D (Obj.mapSeq fun _=>out.toArray)).get? D=some (seqObj "list" out.toArray c2):=⟨_,L6 d1 fun _=>out.toArray⟩
 refine az (vv hk rfl ?_ (by rw[bA]; omega) (bF _))
 refine az (wpAny_letGo ?_)
 refine az (seqEpoch_at d1 rfl ?_)
 simp only[Bool.false_eq_true,if_false]
 refine az (vv d1 rfl ?_ (bF _) (by rw[bA]; omega))
 rw[hf]
 simp only[bne_self_eq_false,Bool.false_eq_true,if_false]
 refine bL (h _ c2 (s2.1.trans s1.1) KG fun b n1 n2=>(s2.2 b n1).trans (s1.2 b n2))
theorem NK {D kS:Addr}{e e1:Nat}{ks vs:List Value}{P:PySem.Fin->Shared->Prop}(hk:s.heap.get? kS=some (seqObj "list" ks.toArray e))(hl:ks.length=vs.length)(BS:vs.length < 64)
  (h:FE prog w A D kS e1 vs (fun s'=>P (.done (.ret .none)) s') ks s):wpAny (model prog w) A (ksk_end D false vs.toArray e1 (.ref kS) ks.toArray) P E s:=by
 obtain⟨κ,key,ne,hD,kind,cmp,fin⟩:=h
 have hsz:vs.toArray.size=vs.length:=by simp
 unfold ksk_end
 try dsimp only
 simp only[Bool.false_eq_true,if_false]
 by_cases h2:vs.toArray.size < 2
 ·rw[a8 h2,a8 h2]
  refine az (bL ?_)
  rw[StateT.run_pure]
  refine az (bL ?_)
  dsimp only
  have Cy:(arrOf (SortSt.mk' general' (ks.toArray.zip vs.toArray) #[] 7 none)).map (·.2)=((List.toArray (List.range vs.length)).toList.map fun i=>vs.getD i Value.none).toArray:=by
   show(ks.toArray.zip vs.toArray).map (·.2)=_
   apply Array.toList_inj.mp
   have e1:((ks.toArray.zip vs.toArray).map (·.2)).toList=vs:=by
    rw[Array.toList_map,Array.toList_zip]
    exact List.map_snd_zip (by rw[zT,zT]; omega)
   rw[e1]
   show vs=(List.range vs.length).map fun i=>vs.getD i Value.none
   exact(range_getD vs Value.none).symm
  refine DY hD hk ne Cy (by rw[ae,zT,dE]; exact BS) (by omega) rfl fun h' n z1 z2 z3=>?_
  refine fin (List.toArray (List.range vs.length)) h' n (JX _) (fun i j X6 hj=>?_) z1 z2 z3
  have:i=j:=by omega
  subst this
  exact eO _
 ·rw[aQ h2,aQ h2]
  have QZ:2<=vs.length:=by omega
  refine az (cD (kind QZ (fun κ' s'=>κ'=κ/\s'=s) ⟨rfl,rfl⟩) (fun κ' s' JI=>?_) fun _ _ x=>x.elim)
  obtain⟨rfl,rfl⟩:=JI
  refine az (cD (kat_run (Q:=fun zM DH=>DH=s'/\ ∃p:Array Nat,p.size=vs.length/\arrOf zM=p.map (kas_item (ks.toArray.zip vs.toArray))/\failedOf zM=none/\qt vs.length p/\lh key p vs.length)
   (G:=fun p DH=>DH=s'/\qt vs.length p/\lh key p vs.length) (κ:=κ') hl QZ BS (fun p' zM DH a1 a2 a3 a4=>⟨a4.1,p',a1,a2,a3,a4.2⟩) (uk (fun i j C hi hj q=>cmp i j C hi hj q) (fun p q=>⟨rfl,q⟩) _ (HM (by omega)))) ?_ fun _ _ e=>e)
  rintro⟨⟨⟩,zM⟩ DH ⟨rfl,p,hp,Vv,hf,q1,q2⟩
  dsimp only
  exact DY hD hk ne (kat_snds hl Vv) (by rw[ae,oq,hp]; exact BS) (by omega) hf fun h' n z1 z2 z3=>fin p h' n q1 q2 z1 z2 z3
theorem KN {D:Addr}{n:Nat}{vs:List Value}{f:Value}{P:PySem.Fin->Shared->Prop}(ho:s.heap.get? D=some (seqObj "list" vs.toArray n))(BS:vs.length < 64)
  (h: ∀(kS:Addr) (e1:Nat) (h':Heap),(∀b o,b≠D->s.heap.get? b=some o->h'.get? b=some o)->h'.get? D=some (seqObj "list" #[] e1)->h'.get? kS=some (seqObj "list" #[] 0)->D≠kS->s.heap.objs.size<=kS->
   sC prog w A kS f (FE prog w A D kS e1 vs (fun s'=>P (.done (.ret .none)) s')) vs [] {s with heap:=h'}):wpAny (model prog w) A (ksk_tree D f false) P E s:=by
 have ha:D < s.heap.objs.size:=aK ho
 have hl:sizeLine=16777216:=eZ
 have s1:=rq s.heap D (Obj.mapSeq fun _=>(#[]:Array Value))
 obtain⟨e1,Fy⟩: ∃e1,(s.heap.update D (Obj.mapSeq fun _=>(#[]:Array Value))).get? D=some (seqObj "list" #[] e1):=⟨_,L6 ho fun _=> #[]⟩
 have VB:((s.heap.update D (Obj.mapSeq fun _=>(#[]:Array Value))).push (seqObj "tuple" vs.toArray 0)).objs.size=s.heap.objs.size + 1:=by rw[size_push',o5]
 unfold ksk_tree
 refine az (listItems_at ho rfl ?_)
 refine az (vv ho rfl ?_ (by rw[bA]; omega) (bF _))
 refine az (seqEpoch_at Fy rfl ?_)
 refine az (wpAny_newTuple ?_ (by show vs.length<=_; omega))
 refine az (JY ?_ (bF _))
 refine ix ?_
 generalize hU:((s.heap.update D (Obj.mapSeq fun _=>(#[]:Array Value))).push (seqObj "tuple" vs.toArray 0))=U at VB
 have kU: ∀b o,(s.heap.update D (Obj.mapSeq fun _=>(#[]:Array Value))).get? b=some o->U.get? b=some o:=fun b o z=>by
  rw[← hU]
  exact ax _ z
 have Pu:(U.push (seqObj "list" #[] 0)).get? U.objs.size=some (seqObj "list" #[] 0):=bS _ rfl
 have start:=h U.objs.size e1 (U.push (seqObj "list" #[] 0)) (fun b o n z=>ax _ (kU b o ((s1.2 b n).trans z))) (ax _ (kU D _ Fy)) Pu (by rw[VB]; exact aY (gI ha)) (by rw[VB]; exact dg _)
 show wpAny (model prog w) A (ksk_rest D f false vs.toArray e1 (.ref U.objs.size)) P E {s with heap:=U.push (seqObj "list" #[] 0)}
 unfold ksk_rest
 refine az (wpAny_rule ?_)
 first
  |rw[List.forIn_toArray]
  |(rw[← Array.forIn_toList]; simp only[List.toList_toArray])
 refine wpAny_bind (wpAny_mono (DX BS (fun x ks s' C hz hx=>?_) vs [] 0 _ (by simp) Pu start) (fun _ s' hd=>?_) fun _ _ x=>x)
 ·refine az (wpAny_attempt (cD hx (fun k DH hk=>?_) fun _ _ hF=>hF.elim))
  obtain⟨e,nk,c⟩:=hk
  have s2:=rq DH.heap U.objs.size (Obj.mapSeq (·.push k))
  have ea:ks.toArray.push k=(ks ++ [k]).toArray:=by simp
  obtain⟨c2,KG⟩: ∃c2,(DH.heap.update U.objs.size (Obj.mapSeq (·.push k))).get? U.objs.size=some (seqObj "list" (ks ++ [k]).toArray c2):=⟨_,by rw[← ea]; exact L6 nk (·.push k)⟩
  try dsimp only
  refine az (vv nk rfl ?_ (by rw[bA]; omega) (a6 (iM (Array.size_push ..)) (by rw[bA]; omega)))
  exact bL ⟨rfl,k,c2,KG,c _ c2 s2 KG⟩
 ·obtain⟨ks,e,JI,Z9,fin⟩:=hd
  try dsimp only
  refine az (listItems_at JI rfl ?_)
  exact NK JI Z9 BS fin
theorem sortedK {l q:Addr}{vs:List Value}{Q:Value->Shared->Prop}(hl:s.heap.IsList l vs.toArray)(BS:vs.length < 64)
  (h: ∀(D kS:Addr) (e1:Nat) (h':Heap),(∀b o,s.heap.get? b=some o->h'.get? b=some o)->h'.get? D=some (seqObj "list" #[] e1)->h'.get? kS=some (seqObj "list" #[] 0)->D≠kS->s.heap.objs.size<=D->s.heap.objs.size<=kS->
   sC prog w A.in1.in1 kS (.ref q) (FE prog w A.in1.in1 D kS e1 vs (fun s'=>Q (.ref D) s')) vs [] {s with heap:=h'}):
  wpAny (model prog w) A (call (.builtin "sorted") [.ref l] [(Str.ofString "key",.ref q)]) Q E s:=by
 have TJ:sizeLine=16777216:=eZ
 refine call_function_entry_kw kind_sorted plain_sorted entry_sorted (ksk_s1 _ _) ?_
 unfold Builtin.«sorted»
 refine az (m:=checkCount "sorted" 1 1 _) (bL ?_)
 refine az (collect_list hl ?_ (by omega))
 refine az (JY ?_ (by show vs.length<=_; omega))
 have hsz:((s.heap.push (seqObj "list" #[] 0)).update s.heap.objs.size (Obj.mapSeq (· ++ vs.toArray))).objs.size=s.heap.objs.size + 1:=by
  rw[o5,size_push']
 generalize hU:((s.heap.push (seqObj "list" #[] 0)).update s.heap.objs.size (Obj.mapSeq (· ++ vs.toArray)))=U at hsz
 have keep: ∀b o,s.heap.get? b=some o->U.get? b=some o:=fun b o z=>by
  have lt:b < s.heap.objs.size:=aK z
  rw[← hU,G1 _ _ _ _ (aY lt),mz _ _ _ (aY lt)]
  exact z
 have M3:(U.push (seqObj "list" vs.toArray 0)).get? U.objs.size=some (seqObj "list" vs.toArray 0):=bS _ rfl
 show wpAny _ _ _ _ _ {s with heap:=U.push (seqObj "list" vs.toArray 0)}
 refine az (ix (wpAny_call_entry_kw slot_list_sort ⟨_,M3,rfl⟩ entry_list_sort ?body (ksk_l1 _ _)))
 case body=>
  show wpAny (model prog w) A.in1.in1 (Builtin.«list.sort» ⟨[.ref U.objs.size],[(Str.ofString "key",.ref q)]⟩) _ _ _
  rw[ksk_t1]
  refine KN (s:={s with heap:=U.push (seqObj "list" vs.toArray 0)}) M3 BS fun kS e1 h' kp d1 k1 ne le=>?_
  have z:=h U.objs.size kS e1 h' (fun b o w=>kp b o (fun w2=>by rw[w2] at w; exact absurd (aK w) (by rw[hsz]; exact wR.mpr (dg _))) (ax _ (keep b o w))) d1 k1 ne (by rw[hsz]; exact dg _) (by
   have X9:(U.push (seqObj "list" vs.toArray 0)).objs.size<=kS:=le
   rw[size_push',hsz] at X9
   exact a6 (rn (dg _)) X9)
  have mono: ∀(r ks:List Value) (s':Shared),sC prog w A.in1.in1 kS (.ref q) (FE prog w A.in1.in1 U.objs.size kS e1 vs (fun s'=>Q (.ref U.objs.size) s')) r ks s'->
    sC prog w A.in1.in1 kS (.ref q) (FE prog w A.in1.in1 U.objs.size kS e1 vs (fun s'=> ∃v,PySem.Fin.done (.ret .none)= .done (.ret v)/\wpAny (model prog w) A.in1 (ret (.ref U.objs.size)) (fun fin s'=> ∃v,fin=PySem.Fin.done (Flow.ret v)/\Q v s') E s')) r ks s':=by
   intro r
   induction r with
   |nil=>
    rintro ks s' ⟨κ,key,a1,a2,a3,a4,a5⟩
    exact⟨κ,key,a1,a2,a3,a4,fun p h2 n b1 b2 b3 b4 b5=>⟨_,rfl,bL ⟨_,rfl,a5 p h2 n b1 b2 b3 b4 b5⟩⟩⟩
   |cons v r ih=>
    intro ks s' hh
    exact cD hh (fun k s2 ⟨e,z1,z2⟩=>⟨e,z1,fun h2 c w1 w2=>ih _ _ (z2 h2 c w1 w2)⟩) fun _ _ x=>x
  exact mono vs [] _ z
end
end L2
namespace JL
open PySem
theorem FF (f:Array Value->Array Value)(o:Obj):(Obj.mapFields f o).dict=o.dict:=by
 obtain⟨c,d,dt,sl⟩:=o
 cases dt <;> rfl
def i0 (h:Heap)(e:Addr)(cls:Value)(iQ:Option Addr)(vs:Array Value):Prop:= ∃oe,h.get? e=some oe/\oe.cls=cls/\oe.dict=iQ/\oe.data= .fields vs
theorem i0.set {h:Heap}{e:Addr}{cls:Value}{iQ:Option Addr}{vs:Array Value}(x:i0 h e cls iQ vs)(i:Nat)(v:Value):
  i0 (h.update e (Obj.mapFields (·.setIfInBounds i v))) e cls iQ (vs.setIfInBounds i v):=by
 obtain⟨oe,he,hc,hd,hv⟩:=x
 have q:=Obj.data_mapFields hv (·.setIfInBounds i v)
 exact⟨_,B7 _ he (Obj.isFreed_of_fields q),(Obj.cls_mapFields _ _).trans hc,(FF _ _).trans hd,q⟩
theorem i0.same {h h':Heap}{e:Addr}{cls:Value}{iQ:Option Addr}{vs:Array Value}(x:i0 h e cls iQ vs)(k: ∀o,h.get? e=some o->h'.get? e=some o):i0 h' e cls iQ vs:=
 let⟨oe,he,r⟩:=x
 ⟨oe,k _ he,r⟩
def mT (fr own:List Addr)(h h':Heap):Prop:= ∀b o,h.get? b=some o->b∉own->(b∉fr->h'.get? b=some o)/\ ∃sl,h'.get? b=some {o with slots:=sl}
theorem mT.trans {fr o1 o2:List Addr}{h h1 h2:Heap}(a:mT fr o1 h h1)(b:mT fr o2 h1 h2):mT fr (o1 ++ o2) h h2:=fun c ob q n=>by
 obtain⟨k,sl,e⟩:=a c ob q (fun z=>n (df _ z))
 obtain⟨_,TM,e2⟩:=b c _ e (fun z=>n (bE _ z))
 exact⟨fun hn=>(b c ob (k hn) (fun z=>n (bE _ z))).1 hn,TM,e2⟩
theorem mT.mono {fr Pw o1 o2:List Addr}{h h1:Heap}(a:mT fr o1 h h1)(hf: ∀b∈fr,b∈Pw)(ho: ∀b∈o1,b∈o2):mT Pw o2 h h1:=fun c ob q n=>
 let⟨k,sl,e⟩:=a c ob q (fun z=>n (ho c z))
 ⟨fun hn=>k (fun z=>hn (hf c z)),sl,e⟩
theorem yt {fr:List Addr}{h:Heap}{a:Addr}(f:Obj->Obj):mT fr [a] h (h.update a f):=fun b o q n=>by
 have z:(h.update a f).get? b=some o:=(my _ _ (fun(e:a=b)=>n (ao.mpr e.symm))).trans q
 exact⟨fun _=>z,o.slots,z⟩
theorem uC {fr own:List Addr}{h:Heap}(o':Obj):mT fr own h (h.push o'):=fun b o q _=>⟨fun _=>ax _ q,o.slots,ax _ q⟩
theorem i0.but {fr own:List Addr}{h h':Heap}{e:Addr}{cls:Value}{iQ:Option Addr}{vs:Array Value}(x:i0 h e cls iQ vs)(b:mT fr own h h')(n:e∉own):i0 h' e cls iQ vs:=by
 obtain⟨oe,he,hc,hd,hv⟩:=x
 obtain⟨_,sl,q⟩:=b e oe he n
 exact⟨_,q,hc,hd,hv⟩
def JM (h:Heap)(T:Addr)(fl:Value):Prop:= ∃c d ts,i0 h T c d ts/\ts[3]? =some fl
theorem fj {ts:Array Value}{i:Nat}{v:Value}(h:ts[i]? =some v):i < ts.size:=(Array.getElem?_eq_some_iff.mp h).1
theorem pK {ts:Array Value}{i:Nat}{v:Value}(h:i < ts.size):(ts.setIfInBounds i v)[i]? =some v:=by
 rw[Array.getElem?_setIfInBounds_self_of_lt h]
theorem qz {ts:Array Value}{i j:Nat}{v:Value}(h:i≠j):(ts.setIfInBounds i v)[j]? =ts[j]? :=by
 rw[Array.getElem?_setIfInBounds_ne h]
section
variable {M:Model}{A:Around}{E:Value->Shared->Prop}{s:Shared}{env:Env}{outer:List Env}{base:Heap}{L e T:Addr}{cls:Value}{iQ:Option Addr}{vs:Array Value}{Q:Unit->Shared->Prop}
theorem qA {a:Addr}{i:Nat}{v:Value}{R:Value->Shared->Prop}(x:i0 s.heap a cls iQ vs)(h:vs[i]? =some v)(q:R v s):wpAny M A (field (.ref a) i) R E s:=by
 obtain⟨oe,he,_,_,hv⟩:=x
 exact G3 he hv h q
theorem nS {a:Addr}{i:Nat}{v:Value}(x:i0 s.heap a cls iQ vs)(h:i < vs.size)
  (q: ∀h',mT [] [a] s.heap h'->i0 h' a cls iQ (vs.setIfInBounds i v)->h'.objs.size=s.heap.objs.size->Q () {s with heap:=h'}):wpAny M A (setField (.ref a) i v) Q E s:=by
 obtain⟨oe,he,hc,hd,hv⟩:=id x
 exact wpAny_setField he hv h (q _ (yt _) (x.set i v) (Heap.size_after_update ..))
theorem uD {fl:Value}(x:i0 s.heap e cls iQ vs)(h1:vs[1]? =some (.ref T))(ht:JM s.heap T fl)
  (q: ∀h',mT [] [T] s.heap h'->JM h' T .none->h'.objs.size=s.heap.objs.size->Q () {s with heap:=h'}):wpAny M A (setFlight (.ref e) none) Q E s:=by
 obtain⟨c,d,ts,xt,h3⟩:=ht
 unfold setFlight
 refine az (qA x h1 ?_)
 rw[if_pos (show(Value.ref T != Value.none)=true from by simp)]
 exact nS xt (fj h3) fun h' b x' z=>q h' b ⟨c,d,_,x',pK (fj h3)⟩ z
theorem entry {head:Value}{had:Bool}(BU:A.frames=some (env :: outer))(hl:s.heap.FunFrames base (env :: outer))(hf:env.frame=some L)(x:i0 s.heap e cls iQ vs)(hsz:1 < vs.size)
  (q: ∀h' T,mT ((env :: outer).filterMap (·.frame)) [e] s.heap h'->i0 h' e cls iQ (vs.setIfInBounds 1 (.ref T))->T=s.heap.objs.size->JM h' T (rawInt L)->Q () {s with heap:=h'}):
  wpAny M A (do let a ← frameOf env; let pl ← entryPlaceOf L had; let b ← EntryCells.newEntry head a .none (rawInt L) .none pl; setField (.ref e) 1 b) Q E s:=by
 refine az (wpAny_frameOf_fun BU hl hf fun h1 so=>?_)
 refine az (wpAny_entryPlaceOf fun pl iO=>?_)
 unfold EntryCells.newEntry newFields
 refine az (wpAny_newObj_type ?_ (iO.sizeOk5 _ _ _ _ _))
 have b1:mT ((env :: outer).filterMap (·.frame)) [] s.heap h1:=fun b o z _=>⟨fun n=>(so.2.1 b n).trans z,so.2.2 b o z⟩
 have x1:i0 h1 e cls iQ vs:=x.but b1 (by simp)
 generalize TN:({cls:= .type "traceback",dict:=none,data:= .fields ([head,.ref L,.none,rawInt L,.none] ++ (if pl.isEmpty then List.replicate 6 Value.none else pl)).toArray}:Obj)=ob
 have x2:i0 (h1.push ob) e cls iQ vs:=x1.same fun o z=>ax _ z
 have ne:h1.objs.size≠e:=by
  obtain⟨_,z,_⟩:=x1
  exact pW (aK z)
 have xt:i0 (h1.push ob) h1.objs.size ob.cls ob.dict ([head,.ref L,.none,rawInt L,.none] ++ (if pl.isEmpty then List.replicate 6 Value.none else pl)).toArray:=by
  subst TN
  exact⟨_,bS _ rfl,rfl,rfl,rfl⟩
 refine nS (s:={s with heap:=h1.push ob}) x2 hsz fun h' b x' _=>q h' h1.objs.size ?_ x' so.1 ⟨_,_,_,xt.but b (by simpa using ne),?_⟩
 ·exact((b1.trans (uC ob (own:=[]))).trans (b.mono (by simp) (fun _ z=>z))).mono (fun _ z=>z) (by simp)
 ·simp
theorem NL (BU:A.frames=some (env :: outer))(hl:s.heap.FunFrames base (env :: outer))(hf:env.frame=some L)(x:i0 s.heap e cls iQ vs)(h1:vs[1]? =some .none)
  (q: ∀h' T,mT ((env :: outer).filterMap (·.frame)) [e] s.heap h'->i0 h' e cls iQ (vs.setIfInBounds 1 (.ref T))->T=s.heap.objs.size->JM h' T .none->Q () {s with heap:=h'}):
  wpAny M A (leaving env (.ref e)) Q E s:=by
 have ne:s.heap.objs.size≠e:=by
  obtain⟨_,z,_⟩:=x
  exact pW (aK z)
 unfold leaving noteFrame
 simp only[hf]
 refine az (az (qA x h1 ?_))
 rw[aQ (by decide)]
 refine entry BU hl hf x (fj h1) fun h' T b x' hT t=>?_
 refine uD x' (pK (fj h1)) t fun h2 b2 t2 _=>q h2 T ?_ (x'.but b2 (by rw[hT]; simpa using ne.symm)) hT t2
 intro c o z n
 have hc:c≠T:=fun w=>by rw[w,hT] at z; exact absurd (aK z) (iS _)
 exact(b.trans (b2.mono (by simp) (fun _ z=>z))) c o z (by simpa using⟨by simpa using n,hc⟩)
theorem Mm (BU:A.frames=some (env :: outer))(hl:s.heap.FunFrames base (env :: outer))(hf:env.frame=some L)(x:i0 s.heap e cls iQ vs)(h1:vs[1]? =some (.ref T))(ht:JM s.heap T .none)(VC:T≠e)
  (q: ∀h' T',mT ((env :: outer).filterMap (·.frame)) [T,e] s.heap h'->i0 h' e cls iQ (vs.setIfInBounds 1 (.ref T'))->T'=s.heap.objs.size->JM h' T' (rawInt L)->Q () {s with heap:=h'}):
  wpAny M A (noteFrame (.ref e) env) Q E s:=by
 obtain⟨c,d,ts,xt,h3⟩:=ht
 unfold noteFrame
 simp only[hf]
 refine az (qA x h1 ?_)
 rw[if_pos (show(Value.ref T != Value.none)=true from by simp)]
 refine az (qA xt h3 ?_)
 rw[if_neg (show ¬ ((Value.none == rawInt L)=true) from by simp[rawInt])]
 refine az (nS xt (fj h3) fun h' b xt' sz=>?_)
 refine entry (s:={s with heap:=h'}) BU (hl.of_keeps fun a o z nf=>?_) hf (x.but b (by simpa using VC.symm)) (fj h1) fun h2 T' b2 x2 hT t2=>q h2 T' ?_ x2 (hT.trans sz) t2
 ·have na:a≠T:=fun w=>by
   obtain⟨_,z',_,_,hd⟩:=xt
   rw[w,z'] at z
   cases z
   exact nf _ hd
  obtain⟨_,sl,z'⟩:=b a o z (by simpa using na)
  exact⟨_,z',rfl⟩
 ·exact((b.mono (fun _ z=>absurd z (by simp)) (fun _ z=>z)).trans b2).mono (fun _ z=>z) (by simp)
theorem NM (BU:A.frames=some (env :: outer))(hl:s.heap.FunFrames base (env :: outer))(hf:env.frame=some L)(x:i0 s.heap e cls iQ vs)(h1:vs[1]? =some (.ref T))(ht:JM s.heap T .none)(VC:T≠e)
  (q: ∀h' T',mT ((env :: outer).filterMap (·.frame)) [T,e] s.heap h'->i0 h' e cls iQ (vs.setIfInBounds 1 (.ref T'))->T'=s.heap.objs.size->JM h' T' .none->Q () {s with heap:=h'}):
  wpAny M A (leaving env (.ref e)) Q E s:=by
 have ne:s.heap.objs.size≠e:=by
  obtain⟨_,z,_⟩:=x
  exact pW (aK z)
 unfold leaving
 refine az (Mm BU hl hf x h1 ht VC fun h' T' b x' hT t=>?_)
 refine uD (s:={s with heap:=h'}) x' (pK (fj h1)) t fun h2 b2 t2 _=>q h2 T' ?_ (x'.but b2 (by rw[hT]; simpa using ne.symm)) hT t2
 intro c o z n
 have hc:c≠T':=fun w=>by rw[w,hT] at z; exact absurd (aK z) (iS _)
 have n': ¬ (c=T∨c=e):=by simpa using n
 exact(b.trans (b2.mono (by simp) (fun _ z=>z))) c o z (by simp; exact⟨fun w=>n' (.inl w),fun w=>n' (.inr w),hc⟩)
end
def JN {α:Type}(M:Model)(h:Heap)(t:Sem α)(r:α):Prop:=
 ∀(A:Around) (Q:α->Shared->Prop) (E:Value->Shared->Prop) (s:Shared),(∀b o,h.get? b=some o->s.heap.get? b=some o)->Q r s->wpAny M A t Q E s
section
variable {M:Model}{A:Around}{E:Value->Shared->Prop}{h:Heap}{g:Array GenState}{d:Drawn}{t:Nat}{os:OsState}
variable {nm q:Str}{C N:Addr}{bs bm DZ:List Value}{oz:Bool}{sn:List Str}{sub:List Value}{ab:Bool}{col:Option Bool}{dd:Option Addr}{k0 k1 k2 k3 k5:Option Value}{B newId kP:String}
theorem iG {X:String}{r:Bool}(hb:bm.contains (.type X)=r):(Value.ref C :: bm).contains (.type X)=r:=by
 rw[List.contains_cons,hb]
 rfl
theorem KO (F:ExcBaseFacts B newId kP DZ)(hB:bm.contains (.type B)=true){rest:List Value}{Q:Unit->Shared->Prop}
  (hC:h.get? C=some (excClassObj nm q C N bs bm oz sn sub ab col dd k0 k1 k2 k3 k5 newId)) (hq:Q () ⟨h,g,d,t,os⟩):wpAny M A (checkBuiltinCall newId ⟨.ref C :: rest,[]⟩) Q E ⟨h,g,d,t,os⟩:=by
 have jJ:=iG (C:=C) hB; have st:=F.noStar
 simp only[checkBuiltinCall,F.newKind,F.newSplit,F.newRow]
 repeat (first
  |refine bH hC ?_
  |(refine de hC ?_; rw[jJ])
  |refine wpAny_staticBase_exc hC ?_
  |refine wpAny_madeBy_exc hC ?_
  |simp only[bne_self_eq_false,Bool.false_eq_true,if_false]
  |wp_step)
 exact hq
end
section
variable {prog:Program}{w:World}{A:Around}{E:Value->Shared->Prop}{R:Result->Shared->Prop}{h:Heap}{g:Array GenState}{d:Drawn}{t:Nat}{os:OsState}
variable {nm q:Str}{C N f:Addr}{bs bm DZ:List Value}{oz:Bool}{sn:List Str}{sub:List Value}{ab:Bool}{col:Option Bool}{dd:Option Addr}{k0 k1 k2 k3 k5:Option Value}{B newId kP:String}
abbrev lY (C t:Addr):Obj:={cls:= .ref C,data:= .fields #[.ref t,.none,.none,.none,.bool false,.none]}
abbrev js (l:List Value):Obj:={cls:= .type "tuple",data:= .seq l.toArray}
theorem KP (F:ExcBaseFacts B newId kP DZ)(hB:bm.contains (.type B)=true)(hA:bm.contains (.type "AttributeError")=false)(hN:bm.contains (.type "NameError")=false)
  (hC:h.get? C=some (excClassObj nm q C N bs bm oz sn sub ab col dd k0 k1 k2 k3 k5 newId)) (hq:R (.ok (.ret (.ref (h.objs.size + 1)))) ⟨(h.push (js [])).push (lY C h.objs.size),g,d,t,os⟩):
  codeAny (model prog w) A (.builtin newId ⟨[.ref C],[]⟩) R ⟨h,g,d,t,os⟩:=by
 have he:=F.ends
 have h1:=iG (C:=C) hB; have h2:=iG (C:=C) hA; have h3:=iG (C:=C) hN
 refine codeAny_builtinAt F.entry ?_
 unfold Builtin.«BaseException.__new__»
 refine wpAt_bind ?_
 show wpAt _ _ _ (stack >>=_) _ _ _
 refine wpAt_bind (wpAt_stack fun p below=>wpAt_of_wpAny ?_)
 wp_walk
 refine wpAt_of_wpAny ?_
 rw[F.owner]
 repeat (first
  |with_reducible refine wpAny_madeHere_exc F.canon hC ?_
  |with_reducible refine bH hC ?_
  |(with_reducible refine de hC ?_; first|rw[h1]|rw[h2]|rw[h3])
  |wp_step)
 show R _ _
 rw[kj]
 exact hq
theorem FG (F:ExcBaseFacts B newId kP DZ)(hB:bm.contains (.type B)=true)(hA:bm.contains (.type "AttributeError")=false)(hN:bm.contains (.type "NameError")=false){oI:Obj}{Q:Fin->Shared->Prop}
  (hC:h.get? C=some (excClassObj nm q C N bs bm oz sn sub ab col dd k0 k1 k2 k3 k5 newId)) (hi:JN (model prog w) h (typeLookup (.ref C) "__init__") (some (.ref f))) (hf:h.get? f=some oI) (Rg:oI.cls= .type "function")
  (hq:wpAny (model prog w) A (call (.ref f) [.ref (h.objs.size + 1)]) (fun r s'=>r= .none/\Q (.done (.ret (.ref (h.objs.size + 1)))) s') E ⟨(h.push (js [])).push (lY C h.objs.size),g,d,t,os⟩):
  wpAny (model prog w) A (Builtin.«type.__call__» ⟨[.ref C],[]⟩) Q E ⟨h,g,d,t,os⟩:=by
 repeat (first
  |with_reducible refine bH hC ?_
  |with_reducible refine wpAny_madeBy_exc hC ?_
  |wp_step)
 refine codeAny_call_builtin_code (Code.quiet_builtin _ F.quiet) (KO F hB hC ?_)
 refine KP F hB hA hN hC ?_
 show wpAny _ _ _ _ _ _
 have kp: ∀b o,h.get? b=some o->((h.push (js [])).push (lY C h.objs.size)).get? b=some o:=fun b o z=>ax _ (ax _ z)
 have HV:=kp _ _ hC
 have hg:((h.push (js [])).push (lY C h.objs.size)).get? (h.objs.size + 1)=some (lY C h.objs.size):=by heap_get
 have Rh:(Value.ref C :: bm).contains (.ref C)=true:=by simp
 unfold isInstance
 repeat (first
  |with_reducible refine bH hg ?_
  |(with_reducible refine de HV ?_; rw[Rh])
  |wp_step)
 show wpAny _ _ (typeLookup (.ref C) _) _ _ _
 refine hi _ _ _ _ kp ?_
 refine ix (az ?_)
 unfold bindSpecial
 refine az (wpAny_typeOf (T:="function") ⟨_,kp _ _ hf,Rg⟩ ?_)
 rw[a8 (by decide)]
 refine bL (az (cD hq (fun r s' hr=>?_) fun _ _ x=>x))
 obtain⟨rfl,z⟩:=hr
 wp_walk
 exact z
theorem call_exc (F:ExcBaseFacts B newId kP DZ)(hB:bm.contains (.type B)=true)(hA:bm.contains (.type "AttributeError")=false)(hN:bm.contains (.type "NameError")=false){oI:Obj}{Q:Value->Shared->Prop}
  (hC:h.get? C=some (excClassObj nm q C N bs bm oz sn sub ab col dd k0 k1 k2 k3 k5 newId)) (hi:JN (model prog w) h (typeLookup (.ref C) "__init__") (some (.ref f))) (hf:h.get? f=some oI) (Rg:oI.cls= .type "function")
  (hq:wpAny (model prog w) (A.under (.builtin "type.__call__" ⟨[.ref C],[]⟩)) (call (.ref f) [.ref (h.objs.size + 1)]) (fun r s'=>r= .none/\Q (.ref (h.objs.size + 1)) s') E ⟨(h.push (js [])).push (lY C h.objs.size),g,d,t,os⟩):
  wpAny (model prog w) A (call (.ref C) []) Q E ⟨h,g,d,t,os⟩:=by
 have f1:=tc_lookup; have f2:=tc_bind (.ref C)
 have hT:(⟨h,g,d,t,os⟩:Shared).TypeIs (.ref C) "type":=⟨_,hC,rfl⟩
 refine Du (codeAny_of_tree ?_)
 show wpAny _ _ (callAny (.ref C) _) _ _ _
 repeat (any_goals (first
  |assumption
  |with_reducible refine bH hC ?_
  |wp_step))
 refine⟨rfl,?_⟩
 exact codeAny_call_builtin_at (Code.quiet_builtin _ (by decide +kernel)) entry_typeCall (wpAny_check_type_call_sub hC (FG F hB hA hN hC hi hf Rg hq))
end
def Stop (P:Prop):Prop:=P
theorem Stop.out {P:Prop}(h:Stop P):P:=h
theorem Stop.in {P:Prop}(h:P):Stop P:=h
section
variable {prog:Program}{w:World}{A:Around}{E:Value->Shared->Prop}{R:Result->Shared->Prop}{h:Heap}{g:Array GenState}{d:Drawn}{t:Nat}{os:OsState}
variable {nm q:Str}{C N e:Addr}{bs bm DZ:List Value}{oz:Bool}{sn:List Str}{sub:List Value}{ab:Bool}{col:Option Bool}{dd iQ:Option Addr}{k0 k1 k2 k3 k5:Option Value}{B newId Ya kP:String}{vs:Array Value}
theorem HW {M:Model}(F:ExcBaseFacts B Ya kP DZ)(hB:bm.contains (.type B)=true){oe:Obj}{rest:List Value}{Q:Unit->Shared->Prop}
  (hC:h.get? C=some (excClassObj nm q C N bs bm oz sn sub ab col dd k0 k1 k2 k3 k5 newId)) (he:h.get? e=some oe) (hc:oe.cls= .ref C) (hq:Q () ⟨h,g,d,t,os⟩):
  wpAny M A (checkBuiltinCall kP ⟨.ref e :: rest,[]⟩) Q E ⟨h,g,d,t,os⟩:=by
 have h1:=iG (C:=C) hB; have h2:=F.noStar
 simp only[checkBuiltinCall,F.initKind,F.initSplit,F.initRow]
 repeat (first
  |(with_reducible refine bH he ?_; rw[hc])
  |with_reducible refine bH hC ?_
  |(with_reducible refine de hC ?_; rw[h1])
  |wp_step)
 refine wpAny_onRaise ?_
 rw[show ∀(a b:String) (n:Nat),Bind.check ⟨.positional,"*",B,.self,[⟨"args",.varPos,false⟩]⟩ a b n (List.map (fun x=>x.fst) ({pos:=Value.ref e :: rest}:Args).kw)=pure () from fun a b n=>
  check_star_args _ _ _ _ _ _]
 exact bL hq
theorem FH (F:ExcBaseFacts B Ya kP DZ)(hB:bm.contains (.type B)=true){v:Value}{Q:Value->Shared->Prop}
  (hC:h.get? C=some (excClassObj nm q C N bs bm oz sn sub ab col dd k0 k1 k2 k3 k5 newId)) (x:i0 h e (.ref C) iQ vs) {t0:Addr} (h0:vs[0]? =some (.ref t0))
  (hq: ∀h',mT [] [e] h h'->i0 h' e (.ref C) iQ (vs.setIfInBounds 0 (.ref h.objs.size))->Q .none ⟨h',g,d,t,os⟩):
  wpAny (model prog w) A (call (.builtin kP) [.ref e,v]) Q E ⟨h,g,d,t,os⟩:=by
 obtain⟨oe,he,hc,VD,hv⟩:=id x
 refine Du (EW F.init.plain F.initEntry (HW F hB hC he hc ?_))
 unfold Builtin.«BaseException.__init__»
 have VE:(h.push (js [v])).get? e=some oe:=ax _ he
 have x1:i0 (h.push (js [v])) e (.ref C) iQ vs:=⟨oe,VE,hc,VD,hv⟩
 have hs:=fj h0
 repeat (first
  |with_reducible refine G3 VE hv h0 ?_
  |with_reducible refine wpAny_setField VE hv hs ?_
  |wp_step)
 have bt:mT [] [e] h ((h.push (js [v])).update e (Obj.mapFields (·.setIfInBounds 0 (Value.ref h.objs.size)))):=(uC (fr:=[]) (own:=[]) (js [v])).trans (yt _)
 exact hq _ bt (x1.set 0 _)
end
section
variable {M:Model}{A:Around}{E:Value->Shared->Prop}{s:Shared}{env:Env}
variable {nm q:Str}{C N e:Addr}{bs bm DZ:List Value}{oz:Bool}{sn:List Str}{sub:List Value}{ab:Bool}{col:Option Bool}{dd iQ:Option Addr}{k0 k1 k2 k3 k5:Option Value}{newId:String}{vs:Array Value}
theorem CB {x:Sem Value}{Q:Flow->Shared->Prop}(hB:bm.contains (.type "BaseException")=true)(hh:A.handled=none)
  (h:wpAny M A x (fun v s1=> ∃e iQ vs,v= .ref e/\s1.heap.get? C=some (excClassObj nm q C N bs bm oz sn sub ab col dd k0 k1 k2 k3 k5 newId)/\i0 s1.heap e (.ref C) iQ vs/\vs[1]? =some .none/\E (.ref e) s1) E s):
  wpAny M A (raiseStmt env (some x) none) Q E s:=by
 have h1:=iG (C:=C) hB
 unfold raiseStmt
 refine az (cD h (fun v s1 z=>?_) fun _ _ x=>x)
 obtain⟨e,iQ,vs,rfl,hC,⟨oe,he,hc,VD,hv⟩,v1,hE⟩:=z
 obtain⟨hp,g,d,tk,os⟩:=s1
 repeat (first
  |(with_reducible refine bH he ?_; rw[hc])
  |with_reducible refine bH hC ?_
  |(with_reducible refine de hC ?_; rw[h1])
  |with_reducible refine G3 he hv v1 ?_
  |wp_step)
 exact wpAny_raiseNew_none hh hE
theorem KQ {a:Addr}{cls:Value}{i:Nat}{v:Value}{Q:Unit->Shared->Prop}(x:i0 s.heap a cls iQ vs)(h:i < vs.size)
  (q: ∀h',mT [] [a] s.heap h'->i0 h' a cls iQ (vs.setIfInBounds i v)->Q () {s with heap:=h'}):wpAny M A (updateField a i v) Q E s:=
 nS (i:=i) (v:=v) x h fun h' b x' _=>q h' b x'
theorem vP:entryFor table "proto.unchain"=some Builtin.«proto.unchain»:=entryFor_of_tree (by kernel_rfl)
end
section
variable {prog:Program}{w:World}{A:Around}{E:Value->Shared->Prop}{s:Shared}{env:Env}
variable {nm q:Str}{C N e:Addr}{bs bm DZ:List Value}{oz:Bool}{sn:List Str}{sub:List Value}{ab:Bool}{col:Option Bool}{dd iQ:Option Addr}{k0 k1 k2 k3 k5:Option Value}{newId:String}{vs:Array Value}
theorem CC {x c:Sem Value}{Q:Flow->Shared->Prop}{e0:Addr}(hB:bm.contains (.type "BaseException")=true)(hh:A.handled=some (.ref e0))(hc: ∀(R:Value->Shared->Prop) (s:Shared),R .none s->wpAny (model prog w) A c R E s)
  (h:wpAny (model prog w) A x (fun v s1=> ∃e iQ vs c0 d0 QL,v= .ref e/\e≠e0/\s1.heap.get? C=some (excClassObj nm q C N bs bm oz sn sub ab col dd k0 k1 k2 k3 k5 newId)/\i0 s1.heap e (.ref C) iQ vs/\vs[1]? =some .none/\vs.size=6/\
   i0 s1.heap e0 c0 d0 QL/\QL[2]? =some .none/\ ∀h',mT [] [e] s1.heap h'->i0 h' e (.ref C) iQ (((vs.setIfInBounds 3 .none).setIfInBounds 4 (.bool true)).setIfInBounds 2 (.ref e0))->E (.ref e) {s1 with heap:=h'}) E s):
  wpAny (model prog w) A (raiseStmt env (some x) (some c)) Q E s:=by
 have h1:=iG (C:=C) hB
 unfold raiseStmt
 refine az (cD h (fun v s1 z=>?_) fun _ _ x=>x)
 obtain⟨e,iQ,vs,c0,d0,QL,rfl,ne,hC,xe,v1,sz,x0,c2,hE⟩:=z
 obtain⟨oe,he,qB,VD,hv⟩:=id xe
 obtain⟨hp,g,d,tk,os⟩:=s1
 have eC:e≠C:=fun q=>by
  rw[q] at he
  rw[hC] at he
  cases he
  cases hv
 repeat (first
  |(with_reducible refine bH he ?_; rw[qB])
  |with_reducible refine bH hC ?_
  |(with_reducible refine de hC ?_; rw[h1])
  |with_reducible refine nS xe (by rw[sz]; decide) fun h2 b2 x2 _=>Stop.out ?_
  |with_reducible refine hc _ _ ?_
  |wp_step)
 have b2':mT [] [e] hp h2:=b2
 refine Stop.in ?_
 refine az (nS (s:=⟨h2,g,d,tk,os⟩) x2 (by rw[rz,sz]; decide) fun h3 b3 x3 _=>?_)
 have b3':mT [] [e] h2 h3:=b3
 have VF:mT [] [e] hp h3:=(b2'.trans b3').mono (fun _ z=>z) (by simp)
 have Yb:h3.get? C=_:=(VF C _ hC (by simpa using eC.symm)).1 (by simp)
 have x03:i0 h3 e0 c0 d0 QL:=i0.but x0 VF (by simpa using ne.symm)
 obtain⟨o3,Yc,hc3,_,hv3⟩:=id x3
 obtain⟨o0,he0,_,_,VG⟩:=id x03
 have v31:((vs.setIfInBounds 3 Value.none).setIfInBounds 4 (Value.bool true))[1]? =some Value.none:=by rw[qz (by decide),qz (by decide)]; exact v1
 repeat (first
  |(with_reducible refine bH Yc ?_; rw[hc3])
  |with_reducible refine bH Yb ?_
  |(with_reducible refine de Yb ?_; rw[h1])
  |with_reducible refine G3 Yc hv3 v31 ?_
  |wp_step)
 have sz3:((vs.setIfInBounds 3 Value.none).setIfInBounds 4 (Value.bool true)).size=6:=by rw[rz,rz,sz]
 unfold raiseNew
 refine az (wpAny_handled ?_)
 rw[hh]
 dsimp only
 rw[if_pos (show(Value.ref e0 != Value.ref e)=true from by simpa using ne.symm)]
 refine az (ix (wpAny_runValue (codeAny_builtin vP ?_)))
 unfold Builtin.«proto.unchain»
 repeat (first
  |with_reducible refine G3 he0 VG c2 ?_
  |with_reducible refine az (KQ (s:=⟨h3,g,d,tk,os⟩) x3 (by rw[sz3]; decide) fun h4 b4 x4=>Stop.out ?_)
  |wp_step)
 refine Stop.in ?_
 refine wpAny_throw (hE h4 ?_ x4)
 have b4':mT [] [e] h3 h4:=b4
 exact(VF.trans b4').mono (fun _ z=>z) (by simp)
end
open PySem.Builtin PySem.Builtin.ObjectAttr
section
variable {prog:Program}{w:World}{A:Around}{E:Value->Shared->Prop}{h:Heap}{g:Array GenState}{d:Drawn}{t:Nat}{os:OsState}
variable {nm q:Str}{C N e:Addr}{bs bm:List Value}{sn:List Str}{sub:List Value}{ab:Bool}{col:Option Bool}{dd:Option Addr}{k0 k1 k2 k3 k5:Option Value}{newId:String}{vs:Array Value}{name:Str}{v:Value}
theorem FI {tk:Tok}{Q:Fin->Shared->Prop}(hC:h.get? C=some (excClassObj nm q C N bs bm true sn sub ab col dd k0 k1 k2 k3 k5 newId))(hp: ∀self:Value,refuseLoop self "__setattr__" (.ref C :: bm)=pure ())
  (tx:JN (model prog w) h (typeLookup (.ref C) name) none) (x:i0 h e (.ref C) none vs)
  (hq: ∀h' NN,mT [] [e] h h'->i0 h' e (.ref C) (some h.objs.size) vs->h'.Ns1 h.objs.size (fun y=>if y=name then some v else none)->Q (.done (.ret .none)) ⟨h',g,d,NN,os⟩):
  wpAny (model prog w) A (Builtin.«object.__setattr__» ⟨[.ref e,.str name tk,v],[]⟩) Q E ⟨h,g,d,t,os⟩:=by
 obtain⟨o,hx,hc,VH,hv⟩:=id x
 have Ri:=hp (.ref e)
 have VI: ∀{A':Around} {Q':Option Value->Shared->Prop} {E':Value->Shared->Prop},Q' none ⟨h,g,d,t,os⟩->wpAny (model prog w) A' (typeLookup (.ref C) name) Q' E' ⟨h,g,d,t,os⟩:=fun z=>tx _ _ _ _ (fun _ _ y=>y) z
 have hnc: ∀c,o.data≠ .cls c:=fun c z=>by rw[hv] at z; cases z
 unfold Builtin.«object.__setattr__»
 repeat (first
  |rw[refuse_eq]
  |rw[Ri]
  |(with_reducible refine bH hx ?_; rw[hc])
  |with_reducible refine wpAny_mroOf_exc hC ?_
  |with_reducible refine VI ?_
  |wp_step)
 rw[VH,if_neg (by simp[typeHasDict])]
 rw[hv]
 dsimp only
 have lt:=aK hx
 have ne:e≠h.objs.size:=aY lt
 generalize hD:({cls:= .type "dict",data:= .dict #[]}:Obj)=D
 have Av:(h.push D).get? e=some o:=ax _ hx
 refine az (wpAny_alloc' (az (wpAny_update' Av (bL ?_))))
 generalize hU:(h.push D).update e (fun o=>{cls:=o.cls,dict:=some h.objs.size,data:=o.data,slots:=o.slots})=U
 have b1:mT [] [e] h U:=by
  rw[← hU]
  exact(uC (fr:=[]) (own:=[]) D).trans (yt _)
 have x1:i0 U e (.ref C) (some h.objs.size) vs:=by
  refine⟨{cls:=o.cls,dict:=some h.objs.size,data:=o.data,slots:=o.slots},?_,hc,rfl,hv⟩
  rw[← hU]
  exact B7 _ Av (Obj.isFreed_of_fields (vs:=vs) hv)
 have gd:U.get? h.objs.size=some {cls:= .type "dict",data:= .dict #[]}:=by
  rw[← hU,← hD]
  exact(G1 _ _ _ _ ne.symm).trans (Heap.get?_push_at rfl rfl)
 have nd:U.Ns h.objs.size (fun _=>none):=⟨_,#[],_,gd,rfl,fun _ he=>absurd he (by simp),fun _=>rfl⟩
 show wpAny _ _ (storeInDict h.objs.size (.str name tk) name v) _ _ _
 unfold storeInDict newKeyGuard
 refine az (bL (az (wpAny_nsSet1 (s:=⟨U,g,d,t,os⟩) (Heap.Ns1.of_empty nd) fun h' hn hs=>?_)))
 obtain⟨oD,ZH,ZI,UZ,U0,U1⟩:=hn.count (Within.cons name v Within.nil)
 refine az (wpAny_lookBehind UZ (by rw[U0]; exact pastItsLine_dict (a6 U1 (by rw[cu,vA,eZ]; omega))) ?_)
 wp_walk
 have lt': ∀b o',h.get? b=some o'->h'.get? b=U.get? b:=fun b o' z=>hs.2 b (aY (aK z))
 refine hq h' _ (fun b ob z n=>?_) (x1.same fun ob z=>(hs.2 e ne).trans z) hn
 obtain⟨z1,sl,z2⟩:=b1 b ob z n
 exact⟨fun n'=>(lt' b ob z).trans (z1 n'),sl,(lt' b ob z).trans z2⟩
theorem NO {M:Model}{B sa owner:String}{DZ:List Value}{o:Obj}{uE:Value}{Q:Unit->Shared->Prop}(SF:StoreFacts B DZ sa owner)(ho:bm.contains (.type owner)=true)
  (hC:h.get? C=some (excClassObj nm q C N bs bm true sn sub ab col dd k0 k1 k2 k3 k5 newId)) (hx:h.get? e=some o) (hc:o.cls= .ref C) (hq:Q () ⟨h,g,d,t,os⟩):
  wpAny M A (checkBuiltinCall sa ⟨[.ref e,uE,v],[]⟩) Q E ⟨h,g,d,t,os⟩:=by
 have h1:=iG (C:=C) ho; have ha:=SF.args (.ref e) uE v
 simp only[checkBuiltinCall,SF.kind,SF.split]
 refine az ?_
 unfold isInstance
 repeat (first
  |(with_reducible refine bH hx ?_; rw[hc])
  |(with_reducible refine de hC ?_; rw[h1])
  |wp_step)
 cases hs:Manifest.signature? sa with
 |none=>exact bL hq
 |some sg=>
  simp only[argsOk,hs] at ha
  have h2:Bind.checkArgs sa sg ⟨[.ref e,uE,v],[]⟩=pure ():=ha
  show wpAny M A (Bind.checkArgs sa sg ⟨[.ref e,uE,v],[]⟩) Q E _
  rw[h2]
  exact bL hq
theorem KR {B sa owner:String}{DZ:List Value}{Q:Unit->Shared->Prop}(SF:StoreFacts B DZ sa owner)(ho:bm.contains (.type owner)=true)(hC:h.get? C=some (excClassObj nm q C N bs bm true sn sub ab col dd k0 k1 k2 k3 k5 newId))
  (hp: ∀self:Value,refuseLoop self "__setattr__" (.ref C :: bm)=pure ()) (sL:JN (model prog w) h (typeLookup (.ref C) "__setattr__") (some (.builtin sa))) (tx:JN (model prog w) h (typeLookup (.ref C) name) none) (x:i0 h e (.ref C) none vs)
  (hq: ∀h' NN,mT [] [e] h h'->i0 h' e (.ref C) (some h.objs.size) vs->h'.Ns1 h.objs.size (fun y=>if y=name then some v else none)->Q () ⟨h',g,d,NN,os⟩):
  wpAny (model prog w) A (setAttr (.ref e) name v) Q E ⟨h,g,d,t,os⟩:=by
 obtain⟨o,hx,hc,_⟩:=id x
 have f3:=SF.slot.bind (.ref e)
 have sL': ∀{tk:Nat} {A':Around} {Q':Option Value->Shared->Prop} {E':Value->Shared->Prop},Q' (some (.builtin sa)) ⟨h,g,d,tk,os⟩->wpAny (model prog w) A' (typeLookup (.ref C) "__setattr__") Q' E' ⟨h,g,d,tk,os⟩:=fun z=>sL _ _ _ _ (fun _ _ y=>y) z
 unfold setAttr callSpecial? specialOf
 repeat (any_goals (first
  |assumption
  |(with_reducible refine bH hx ?_; rw[hc])
  |with_reducible refine sL' ?_
  |wp_step))
 refine EW SF.slot.plain SF.entry (NO SF ho hC hx hc (FI hC hp tx x fun h' NN b x' n=>?_))
 repeat (any_goals (first
  |assumption
  |wp_step))
 exact hq h' NN b x' n
end
section
variable {prog:Program}{w:World}{A:Around}{E:Value->Shared->Prop}{h:Heap}{g:Array GenState}{d:Drawn}{t:Nat}{os:OsState}
variable {nm q:Str}{C N e dx:Addr}{bs bm:List Value}{sn:List Str}{sub:List Value}{ab:Bool}{col:Option Bool}{dd:Option Addr}{k0 k1 k2 k3 k5:Option Value}{newId:String}{vs:Array Value}{name:Str}{v:Value}{mA:Str->Option Value}
theorem FJ {tk:Tok}{Q:Fin->Shared->Prop}(hC:h.get? C=some (excClassObj nm q C N bs bm true sn sub ab col dd k0 k1 k2 k3 k5 newId))(tx:JN (model prog w) h (typeLookup (.ref C) name) none)(x:i0 h e (.ref C) (some dx) vs)
  (n:h.Ns dx mA) (hm:mA name=some v) (hq:Q (.done (.ret v)) ⟨h,g,d,t,os⟩):wpAny (model prog w) A (Builtin.«object.__getattribute__» ⟨[.ref e,.str name tk],[]⟩) Q E ⟨h,g,d,t,os⟩:=by
 obtain⟨o,hx,hc,VH,hv⟩:=id x
 have VI: ∀{A':Around} {Q':Option Value->Shared->Prop} {E':Value->Shared->Prop},Q' none ⟨h,g,d,t,os⟩->wpAny (model prog w) A' (typeLookup (.ref C) name) Q' E' ⟨h,g,d,t,os⟩:=fun z=>tx _ _ _ _ (fun _ _ y=>y) z
 repeat (any_goals (first
  |assumption
  |(with_reducible refine bH hx ?_; rw[hc])
  |with_reducible refine VI ?_
  |wp_step))
 rw[hv]
 show wpAny _ _ (instanceDict e false) _ _ _
 unfold instanceDict
 refine az (bH hx ?_)
 rw[hc]
 dsimp only
 unfold classData
 refine az (az (bH hC (bL ?_)))
 rw[if_neg (by simp)]
 rw[VH]
 refine bL ?_
 show wpAny _ _ (nsGet dx name) _ _ _
 refine wpAny_nsGet n ?_
 rw[hm]
 repeat (first
  |exact hq
  |wp_step)
theorem NP {M:Model}{uE:Value}{o:Obj}{Q:Unit->Shared->Prop}(hB:bm.contains (.type "BaseException")=true)(hC:h.get? C=some (excClassObj nm q C N bs bm true sn sub ab col dd k0 k1 k2 k3 k5 newId))
  (hx:h.get? e=some o) (hc:o.cls= .ref C) (hq:Q () ⟨h,g,d,t,os⟩):wpAny M A (checkBuiltinCall "BaseException.__getattribute__" ⟨[.ref e,uE],[]⟩) Q E ⟨h,g,d,t,os⟩:=by
 have hk:builtinKind "BaseException.__getattribute__"=some .slot:=by decide +kernel
 have hs:splitId "BaseException.__getattribute__"=some ("BaseException","__getattribute__"):=by decide +kernel
 have h1:=iG (C:=C) hB; have ha:=F.args_bexc_ga (.ref e) uE
 simp only[checkBuiltinCall,hk,hs]
 refine az ?_
 unfold isInstance
 repeat (first
  |(with_reducible refine bH hx ?_; rw[hc])
  |(with_reducible refine de hC ?_; rw[h1])
  |wp_step)
 exact hq
theorem KS {T:String}{expr:Bool}{Q:Value->Shared->Prop}(FB:Slot T "__getattribute__" "BaseException.__getattribute__")(hB:bm.contains (.type "BaseException")=true)(hC:h.get? C=some (excClassObj nm q C N bs bm true sn sub ab col dd k0 k1 k2 k3 k5 newId))
  (gL:JN (model prog w) h (typeLookup (.ref C) "__getattribute__") (some (.builtin "BaseException.__getattribute__"))) (kL:JN (model prog w) h (typeLookup (.ref C) "__getattr__") none) (tx:JN (model prog w) h (typeLookup (.ref C) name) none)
  (x:i0 h e (.ref C) (some dx) vs) (n:h.Ns dx mA) (hm:mA name=some v) (hv:handedOut v=pure v) (hq:Q v ⟨h,g,d,t + 1,os⟩):wpAny (model prog w) A (getAttr (.ref e) name expr) Q E ⟨h,g,d,t,os⟩:=by
 obtain⟨o,hx,hc,_⟩:=id x
 have f3:=FB.bind (.ref e)
 have x0:(expr && onTheHeap (Value.builtin "BaseException.__getattribute__"))=false:=by cases expr <;> rfl
 have x2:(Value.builtin "BaseException.__getattribute__" == Value.builtin "object.__getattribute__")=false:=by decide +kernel
 have x1:(onTheHeap (Value.ref C) && Value.builtin "BaseException.__getattribute__" == Value.builtin "object.__getattribute__")=false:=by rw[x2]; rfl
 have gL': ∀{tk:Nat} {A':Around} {Q':Option Value->Shared->Prop} {E':Value->Shared->Prop},Q' (some (.builtin "BaseException.__getattribute__")) ⟨h,g,d,tk,os⟩->wpAny (model prog w) A' (typeLookup (.ref C) "__getattribute__") Q' E' ⟨h,g,d,tk,os⟩:=
  fun z=>gL _ _ _ _ (fun _ _ y=>y) z
 have kL': ∀{tk:Nat} {A':Around} {Q':Option Value->Shared->Prop} {E':Value->Shared->Prop},Q' none ⟨h,g,d,tk,os⟩->wpAny (model prog w) A' (typeLookup (.ref C) "__getattr__") Q' E' ⟨h,g,d,tk,os⟩:=fun z=>kL _ _ _ _ (fun _ _ y=>y) z
 unfold getAttr
 repeat (any_goals (first
  |assumption
  |(with_reducible refine bH hx ?_; rw[hc])
  |with_reducible refine gL' ?_
  |with_reducible refine kL' ?_
  |wp_step))
 refine EW FB.plain F.entry_bexc_ga (NP hB hC hx hc (FJ hC tx x n hm ?_))
 repeat (any_goals (first
  |assumption
  |wp_step))
end
section
variable {M:Model}{A:Around}{E:Value->Shared->Prop}
variable {nm q:Str}{C N:Addr}{bs bm:List Value}{oz:Bool}{sn:List Str}{sub:List Value}{ab:Bool}{col:Option Bool}{dd:Option Addr}{k0 k1 k2 k3 k5:Option Value}{newId:String}
variable {nm' q':Str}{R N':Addr}{bs' VJ:List Value}{Rj:Bool}{sn':List Str}{VL:List Value}{ab':Bool}{VM:Option Bool}{DM:Option Addr}{j0 j1 j2 j3 j5:Option Value}{NQ:String}
theorem xr {h:Heap}{g:Array GenState}{d:Drawn}{t:Nat}{os:OsState}{e:Addr}{iQ:Option Addr}{vs:Array Value}{b:Bool}{Q:Bool->Shared->Prop}
  (hC:h.get? C=some (excClassObj nm q C N bs bm oz sn sub ab col dd k0 k1 k2 k3 k5 newId)) (hR:h.get? R=some (excClassObj nm' q' R N' bs' VJ Rj sn' VL ab' VM DM j0 j1 j2 j3 j5 NQ))
  (x:i0 h e (.ref C) iQ vs) (ua:VJ.contains (.type "BaseException")=true) (up:(Value.ref C :: bm).contains (.ref R)=b)
  (hq:Q b ⟨h,g,d,t,os⟩):wpAny M A (excMatches (.ref e) (.ref R)) Q E ⟨h,g,d,t,os⟩:=by
 obtain⟨oe,he,M0,_⟩:=x
 have VN:(Value.ref R :: VJ).contains (.type "BaseException")=true:=by rw[List.contains_cons,ua,Bool.or_true]
 have f:=tc_notTuple
 unfold excMatches
 repeat (first|(with_reducible refine de hR ?_; rw[VN])|(with_reducible refine de hC ?_; rw[up])|(with_reducible refine bH he ?_; rw[M0])|with_reducible refine bH hR ?_|wp_step)
 cases b <;> (wp_walk; exact hq)
end
end JL
namespace L2
open PySem PySem.Spec PyProof.Rows JL
structure gX (K:PySem.W.Frag)(C R:Addr):Prop where
 obj: ∃(nm q:Str) (N:Addr) (bs bm:List Value) (sn:List Str) (sub:List Value) (ab:Bool) (col:Option Bool) (dd:Option Addr) (k0 k1 k2 k3 k5:Option Value),
  K.lookup C=some (excClassObj nm q C N bs bm true sn sub ab col dd k0 k1 k2 k3 k5 "Exception.__new__")/\
   (bm=[.type "Exception",.type "BaseException",.type "object"]/\C=R∨bm=[.ref R,.type "Exception",.type "BaseException",.type "object"])
 sa:PySem.W.findIn K (.ref C) "__setattr__"=some (some (.builtin "object.__setattr__"))
 ga:PySem.W.findIn K (.ref C) "__getattribute__"=some (some (.builtin "BaseException.__getattribute__"))
 gk:PySem.W.findIn K (.ref C) "__getattr__"=some none
 tx:PySem.W.findIn K (.ref C) "text"=some none
structure VO (h:Heap)(C R:Addr)(nm q:Str)(N:Addr)(bs bm:List Value)(sn:List Str)(sub:List Value)(ab:Bool)(col:Option Bool)(dd:Option Addr)(k0 k1 k2 k3 k5:Option Value):Prop where
 at_:h.get? C=some (excClassObj nm q C N bs bm true sn sub ab col dd k0 k1 k2 k3 k5 "Exception.__new__")
 e:bm.contains (.type "Exception")=true
 b:bm.contains (.type "BaseException")=true
 o:bm.contains (.type "object")=true
 na:bm.contains (.type "AttributeError")=false
 nn:bm.contains (.type "NameError")=false
 rf: ∀self:Value,refuseLoop self "__setattr__" (.ref C :: bm)=pure ()
 up:(Value.ref C :: bm).contains (.ref R)=true
theorem gX.on {K:PySem.W.Frag}{C R:Addr}(k:gX K C R): ∃nm q N bs bm sn sub ab col dd k0 k1 k2 k3 k5,∀h:Heap,K.In h->VO h C R nm q N bs bm sn sub ab col dd k0 k1 k2 k3 k5:=by
 obtain⟨nm,q,N,bs,bm,sn,sub,ab,col,dd,k0,k1,k2,k3,k5,l,hb⟩:=k.obj
 have pass: ∀self:Value,refuseLoop self "__setattr__" [.type "Exception",.type "BaseException",.type "object"]=pure ():=F.store_Exception.passes
 refine⟨nm,q,N,bs,bm,sn,sub,ab,col,dd,k0,k1,k2,k3,k5,fun h X=>?_⟩
 rcases hb with⟨rfl,rfl⟩|rfl
 ·exact⟨X _ _ l,by decide +kernel,by decide +kernel,by decide +kernel,by decide +kernel,by decide +kernel,fun self=>by rw[refuseLoop_ref]; exact pass self,by simp⟩
 ·exact⟨X _ _ l,iG (by decide +kernel),iG (by decide +kernel),iG (by decide +kernel),iG (by decide +kernel),iG (by decide +kernel),fun self=>by rw[refuseLoop_ref,refuseLoop_ref]; exact pass self,by simp⟩
theorem lq {K:PySem.W.Frag}{M:Model}{h:Heap}(X:K.In h){t:Value}{name:Str}{r:Option Value}(e:PySem.W.findIn K t name=some r):JN M h (typeLookup t name) r:=PySem.W.looks_findIn X e
abbrev xo (e C:Addr)(iQ:Option Addr)(vs:Array Value):HO:= .ext fun h=>i0 h e (.ref C) iQ vs
theorem HX {P:Program}{w:World}{H:Hp}{h:Heap}{e C:Addr}{iQ:Option Addr}{vs:Array Value}(x:i0 h e (.ref C) iQ vs):dI P w H h e (xo e C iQ vs):=by
 refine⟨x,?_,fun h1 h2 z k=>i0.same z k⟩
 obtain⟨o,z,_⟩:=x
 exact⟨o,z⟩
abbrev v0 (t:Addr):Array Value:= #[.ref t,.none,.none,.none,.bool false,.none]
section
variable {X:Cx}{pins:List (Addr×Obj)}{σ:St}{H:Hp}{s:Shared}{e C R dx:Addr}{iQ:Option Addr}{vs VP:Array Value}{h':Heap}{t':Nat}
theorem Inv.CD (I:Inv X pins σ H s)(h:H e=some (xo e C iQ vs)):i0 s.heap e (.ref C) iQ vs:=(I.cH e _ h).1
theorem Inv.NR (I:Inv X pins σ H s)(h:H e=some (xo e C iQ vs))(b:mT [] [e] s.heap h')(x:i0 h' e (.ref C) iQ VP):Inv X pins σ (upd H e (xo e C iQ VP)) {s with heap:=h',toks:=t'}:=by
 refine I.write (x:=e) (e:=e) (by rw[h]; exact True.intro) (.inl rfl) (fun c u n z=>(b c u z (by simpa using n)).1 (by simp)) ?_ (HX x)
 obtain⟨o,z,_⟩:=x
 exact⟨o,z⟩
theorem Inv.KU {f:Str}{y:V}{u:Value}(I:Inv X pins σ H s)(h:H e=some (xo e C none vs))(b:mT [] [e] s.heap h')(x:i0 h' e (.ref C) (some s.heap.objs.size) vs)(n:h'.Ns1 s.heap.objs.size (fun z=>if z=f then some u else none))(r:RelV y u):
  Inv X pins σ (upd (upd H s.heap.objs.size (.xd [(f,y)])) e (xo e C (some s.heap.objs.size) vs)) {s with heap:=h',toks:=t'}:=by
 have hn:H s.heap.objs.size=none:=I.cH.fresh (aB _)
 have ne:e≠s.heap.objs.size:=aL h hn
 have off: ∀c u,H c=some u->c≠s.heap.objs.size:=fun c u z=>aL z hn
 have kp: ∀c o,c≠e->s.heap.get? c=some o->h'.get? c=some o:=fun c o n z=>(b c o z (by simpa using n)).1 (by simp)
 have low: ∀c o,s.heap.get? c=some o->c≠s.heap.objs.size:=fun c o z=>aY (aK z)
 have same: ∀c,c≠e->c≠s.heap.objs.size->upd (upd H s.heap.objs.size (.xd [(f,y)])) e (xo e C (some s.heap.objs.size) vs) c=H c:=fun c n1 n2=>by rw[ay n1,ay n2]
 refine I.un ⟨fun c o z hc _ _=>kp c o (fun w=>by rw[w,h] at hc; cases hc) z,fun c o z hc _ _=>⟨o.slots,kp c o (fun w=>by rw[w,h] at hc; cases hc) z⟩,fun c o z hc _=>?_,fun c o z _=>?_,fun c xs z=>?_,fun c o u z=>?_,fun c ps z=>?_⟩ fun c u z=>?_
 ·rw[same c (fun w=>by rw[w,h] at hc; cases hc) (low c o z)]
  exact hc
 ·by_cases q:c=e
  ·rw[q]
   obtain⟨oe,w,_⟩:=x
   exact⟨oe,w⟩
  ·exact⟨o,kp c o q z⟩
 ·rw[same c (fun w=>by rw[w,h] at z; cases z) (off c _ z)]
  exact z
 ·rw[same c (fun w=>by rw[w,h] at z; cases z) (off c _ z)]
  exact z
 ·refine⟨#[],?_⟩
  rw[same c (fun w=>by rw[w,h] at z; cases z) (off c _ z),z]
  simp
 ·by_cases q:c=e
  ·subst q
   rw[ag] at z
   cases z
   exact HX x
  ·rw[ay q] at z
   by_cases q2:c=s.heap.objs.size
   ·subst q2
    rw[ag] at z
    cases z
    refine⟨_,n,fun g=>?_⟩
    show k4 (List.lookup g [(f,y)]) (if g=f then some u else none)
    by_cases w:g=f
    ·subst w
     rw[a8 rfl]
     simpa[List.lookup,k4] using r
    ·rw[aQ w]
     have:(g == f)=false:=by simpa using w
     simp[List.lookup,this,k4]
   ·rw[ay q2] at z
    refine(I.cH c u z).sU (fun d o hd w=>?_) (fun d w=>?_) fun d xs w=>?_
    ·refine kp d o (fun w2=>?_) w
     rcases hd with hd|hd
     ·exact q (hd▸w2)
     ·rw[w2,h] at hd
      cases hd
    ·rw[same d (fun w2=>by rw[w2,h] at w; cases w) (off d _ w)]
     exact w
    ·rw[same d (fun w2=>by rw[w2,h] at w; cases w) (off d _ w)]
     exact w
def gone (H:Hp)(a:Addr):Hp:=fun b=>if b=a then none else H b
theorem xu {a:Addr}:gone H a a=none:=by unfold gone; rw[if_pos rfl]
theorem iH {a b:Addr}(h:b≠a):gone H a b=H b:=by unfold gone; rw[if_neg h]
theorem Inv.drop {H0:Hp}{s0:Shared}{φ:Heap->Prop}(I0:Inv X pins σ H0 s0)(h0:H0 e=none)(I:Inv X pins σ H s)(h:H e=some (.ext φ)):Inv X pins σ (gone H e) s:=by
 have off: ∀c u,H c=some u->u≠ .ext φ->c≠e:=fun c u z n w=>by
  rw[w,h] at z
  cases z
  exact n rfl
 refine⟨I.ok,I.os,I.bare,⟨I.base.keep,I.base.slot,fun c o z hc hx=>?_,I.base.there,fun c xs z=>?_,fun c o u z=>?_,fun c ps z=>?_⟩,I.loc,I.cell,?_,fun x c z=>?_,fun p hp=>?_,fun c u z=>?_,I.len⟩
 ·have w:=I.base.free c o z hc hx
  rw[iH (fun q=>by rw[q,h] at w; cases w)]
  exact w
 ·rw[iH (aL (I0.base.qe c xs z) h0)]
  exact I.base.qe c xs z
 ·rw[iH (aL (I0.base.o6 c o u z) h0)]
  exact I.base.o6 c o u z
 ·obtain⟨m,w⟩:=I0.base.o7 c ps z
  obtain⟨m',w'⟩:=I.base.o7 c ps z
  exact⟨m',by rw[iH (aL w h0)]; exact w'⟩
 ·rw[iH (fun q=>by have w:=I.free; rw[q,h] at w; cases w)]
  exact I.free
 ·have w:=I.iR x c z
  rw[iH (fun q=>by rw[q,h] at w; cases w)]
  exact w
 ·obtain⟨w1,w2,w3⟩:=I.pin p hp
  refine⟨w1,?_,w3⟩
  rw[iH (fun q=>by rw[q,h] at w2; cases w2)]
  exact w2
 ·by_cases q:c=e
  ·rw[q,xu] at z
   cases z
  ·rw[iH q] at z
   refine(I.cH c u z).sU (fun d o _ w=>w) (fun d w=>?_) fun d xs w=>?_
   ·rw[iH (off d _ w (by intro z; cases z))]
    exact w
   ·rw[iH (off d _ w (by intro z; cases z))]
    exact w
end
structure iq (k:Nat)(A:Around):Prop where
 dp:A.depth + 3 * k + 5 < recursionLimit
 un:A.units + 16 * k + 200 < cLine
theorem fA.h {k:Nat}{A:Around}(r:fA k A):iq k A:=⟨r.dp,r.un⟩
theorem iq.mono {j k:Nat}{A:Around}(r:iq k A)(h:j<=k):iq j A:=⟨by have:=r.dp; omega,by have:=r.un; omega⟩
theorem iq.deeper {k:Nat}{A:Around}(r:iq (k + 1) A)(env:Env):iq k (A.deeper env):=
 ⟨by have:=r.dp; show A.depth + 1 + 3 * k + 5 < _; omega,by have:=r.un; show A.units + 3 + 16 * k + 200 < _; omega⟩
theorem iq.make {k:Nat}{A:Around}(r:iq (k + 1) A)(C:Addr)(us:List Value)(kw:List (Str×Value)):iq k (A.under (.builtin "type.__call__" ⟨.ref C :: us,kw⟩)):=
 ⟨by have:=r.dp; rw[tX]; omega,by have:=r.un; rw[tY]; omega⟩
theorem iq.mark {k:Nat}{A:Around}(r:iq k A)(e:Option Value):iq k (A.mark e):=⟨r.dp,r.un⟩
structure Rk (P:Program)(w:World)(K:PySem.W.Frag)(mg:Str->Option Value)(base:Heap)(k:Nat)(f:Addr)(fd:FuncData)(ps:List Str)(sp:Sp):Prop where
 len: ∀vs H Q E,sp vs H Q E->vs.length=ps.length
 run: ∀(A:Around) (outer:List Env) (s:Shared) (H:Hp) (args:Args) (us:List Value) (vs:List V) (Q:VK) (E:XK),iq k A->qj P w K mg base A outer s H->BindsTo s fd args (ps.zip us)->Vals vs us->sp vs H Q E->
  codeAny (model P w) A (.call (.ref f) args) (CR sk outer P w H s Q E) s
abbrev uF (P:Program)(w:World)(K:PySem.W.Frag)(mg:Str->Option Value)(base:Heap)(N:List Str)(qual:Str)(scope:Scope)(f:Addr)(cd:Value)(A:Around)(outer:List Env)(s:Shared)(H:Hp)(E:XK):Cx:=
 {lO sk P w K mg base N qual scope f cd A outer s H E with calm:=false}
theorem uG {P:Program}{w:World}{K:PySem.W.Frag}{mg:Str->Option Value}{base:Heap}{N ps:List Str}{qual:Str}{scope:Scope}{f:Addr}{cd:Value}{A:Around}{outer:List Env}{s s1:Shared}{H:Hp}{E:XK}{us:List Value}{vs:List V}
  (S:aW N ps scope) (e0:qj P w K mg base A outer s H) (hl:vs.length=ps.length) (r:Vals vs us)
  (x:InCallC s s.heap.objs.size (bindL (envOfC qual scope s.heap.objs.size f cd).kindOf (ps.zip us) fun _=>none) (cellsFrom (s.heap.objs.size + 1) scope.names []) (bindC (envOfC qual scope s.heap.objs.size f cd).kindOf (ps.zip us) fun _=>none) s1):
  Inv (uF P w K mg base N qual scope f cd A outer s H E) [] (start N vs) H s1:=by
 have I:=xc (CX:=sk) (E:=E) (A:={A with handled:=none}) (K:=K) (base:=base) (P:=P) (w:=w) (mg:=mg) (N:=N) S rfl ⟨e0.frames,e0.mod,e0.bs,e0.zW,e0.lL,e0.Dv,e0.cH,e0.bare⟩ hl r x
 have ok:=I.ok
 exact⟨⟨ok.mod,ok.kind,ok.glob,ok.blt,ok.above,ok.inj,ok.has,ok.JE,(fun z=>by cases z),Around.frames_deeper e0.frames,ok.GO,ok.Kb,ok.bs,ok.zW,ok.vG,ok.vH,ok.lL,ok.Dv⟩,I.os,I.bare,I.base,I.loc,I.cell,I.free,I.iR,I.pin,I.cH,I.len⟩
theorem lZ {P:Program}{w:World}{K:PySem.W.Frag}{mg:Str->Option Value}{base:Heap}{k:Nat}{f:Addr}{x qual:Str}{st:Stmt}{fd:FuncData}{N ps:List Str}{sp:Sp}(F:gv K x qual st f fd)(S:aW N ps (aA st))
  (len: ∀vs H Q E,sp vs H Q E->vs.length=ps.length)
  (gu: ∀(dv:Value) (A:Around) (outer:List Env) (s:Shared) (H:Hp) (vs:List V) (Q:VK) (E:XK),iq k (A.deeper (envOfC qual (aA st) s.heap.objs.size f dv))->sp vs H Q E->
   ∃t,o8 (uF P w K mg base N qual (aA st) f dv A outer s H E).E6 (d9 st) t/\t {nx:=fun _ H'=>Q .eI H',rt:=Q} (start N vs) H):Rk P w K mg base (k + 1) f fd ps sp:=by
 obtain⟨oc,od,kV,doc,pm,an,dv,ct,Fg,rfl,lk,q0⟩:=F.ex
 refine⟨len,fun A outer s H args us vs Q E hr e0 hb r ya=>?_⟩
 have hl:=len _ _ _ _ ya
 have KX:K.In s.heap:=e0.mod.Ka.keeps fun b o e=>(e0.bs b o e).1
 have lim:s.heap.NoLimit:=e0.mod.nolimit.keeps fun b o e=>(e0.bs b o e).1
 have mJ: ∀y∈ps.zip us,(aA st).names.lookup y.1=some .local∨((aA st).names.lookup y.1=some .cell/\((cellsFrom (s.heap.objs.size + 1) (aA st).names []).lookup y.1).isSome=true):=fun⟨n,v⟩ hy=>by
  rcases S.par n (om hy).1 with q|q
  ·exact .inl q
  ·exact .inr ⟨q,kZ _ _ _ (.inl q)⟩
 have dp:A.depth < recursionLimit:=by have:=hr.dp; omega
 refine codeAny_call_function dp (KX _ _ lk) rfl S.co S.gen rfl (PySem.W.codeRec_of KX q0) (hb _ _ _ _ ?_)
 refine sS S.kind mJ fun env he s1 y=>?_
 subst he
 refine⟨lim.keeps y.toInCall.keep,codeAny_func ?_⟩
 obtain⟨t,ht,hq⟩:=gu dv A outer s H vs Q E (hr.deeper _) ya
 have I:Inv (uF P w K mg base N qual (aA st) f dv A outer s H E) [] (start N vs) H s1:=uG S e0 hl r y
 refine cD (ht.E6 [] s1 (start N vs) H _ I hq) (fun fl s' hs=>?_) fun e s' hs=>hs
 have fin: ∀{σ':St} {H':Hp} {v:V} {u:Value},Inv (uF P w K mg base N qual (aA st) f dv A outer s H E) [] σ' H' s'->RelV v u->Q v H'->CE outer P w H s Q u s':=
  fun{σ' H' v u} J rv q=>⟨v,H',J.os,J.bare,J.base,J.cH,rv,q⟩
 cases fl with
 |ret u=>
  obtain⟨v,σ',H',J,rv,q⟩:=hs
  exact fin J rv q
 |next=>
  obtain⟨σ',H',J,q⟩:=hs
  exact fin (v:=V.eI) (u:=Value.none) J rfl q
 |brk=>
  obtain⟨_,_,_,q⟩:=hs
  exact False.elim q
 |cont=>
  obtain⟨_,_,_,q⟩:=hs
  exact False.elim q
section
variable {X:Cx}{k:Nat}{f C R:Addr}{fd:FuncData}{ps:List Str}{sp:Sp}{x:Str}{p pos apos pos':Pos}{a b o value e:Expr}{es:List Expr}{ta tb tv:TE}{t:TA}
theorem D0 {A:Around}{xe:Value->Shared->Prop}{pins:List (Addr×Obj)}{σ:St}{H:Hp}{s:Shared}{Q:VK}{us:List Value}{vs:List V}(F:Rk X.prog X.w X.K X.mg X.base k f fd ps sp)(hr:iq k A)(e0:qj X.prog X.w X.K X.mg X.base A X.stack s H)(hb:Binds X.K fd ps [])
  (I:Inv X pins σ H s) (r:Vals vs us) (h:sp vs H Q E0):wpAny (model X.prog X.w) A (call (.ref f) us) (EP X pins σ Q) xe s:=by
 have hl:(us ++ []).length=ps.length:=by rw[cA,← r.length]; exact F.len _ _ _ _ h
 have bd:=hb s us I.gP hl
 rw[cA] at bd
 refine Du (B6 (F.run A X.stack s H ⟨us,[]⟩ us vs Q E0 hr e0 bd r h) fun r s' hq=>?_)
 cases r with
 |error e=>exact False.elim hq
 |ok fl=>
  cases fl with
  |ret u=>exact I.after hq
  |next=>exact False.elim hq
  |brk=>exact False.elim hq
  |cont=>exact False.elim hq
def NS (K:PySem.W.Frag)(t:TA):TE:=fun σ H Q=>t σ H fun xs H2=> ∃(e C R t0:Addr) (iQ:Option Addr) (vs:Array Value) (y:V),xs=[.ref e,y]/\H2 e=some (xo e C iQ vs)/\gX K C R/\vs[0]? =some (.ref t0)/\ ∀t',Q .eI (upd H2 e (xo e C iQ (vs.setIfInBounds 0 (.ref t'))))
theorem HY {pl:Sem Bool}(hg:Gl X "Exception")(hm:X.mg "Exception"=none)(ha:PA X (e :: es) t)
  (hs:starEach (e :: es) X.env=(false,eval e X.env) :: starEach es X.env:=by rfl) (iO:(backTo pos (starEach es X.env)).any (·.1)=false:=by rfl)
  (ht:eval (.Call (.Attribute (.Name "Exception" p) "__init__" apos) (e :: es) [] pos) X.env=(do
   let ov ← eval (.Name "Exception" p) X.env
   standAt apos.atName
   let(f,first) ← holding [ov] (getMethod ov "__init__" pl)
   callWith pos f first (backTo pos (starEach (e :: es) X.env)) (backToKw pos (keywordEach [] X.env))):=by rfl):
  PE X (.Call (.Attribute (.Name "Exception" p) "__init__" apos) (e :: es) [] pos) (NS X.K t):=by
 intro pins s σ H Q I h
 obtain⟨m,F⟩:=I.fr
 refine vx (pl:=pl) (o9 I hg hm (u:= .type "Exception") (by rfl) ?_) ht
 refine PySem.W.method_type (v:= .builtin "Exception.__init__") F I.mod.Ka (by rfl) (by decide +kernel) (by rfl) (by rfl) ?_
 have hA:=ha pos pins {s with toks:=s.toks + 1} σ H _ (I.tok _) h
 rw[hs] at hA ⊢
 refine iT (by show(false || (backTo pos (starEach es X.env)).any (·.1))=false; rw[iO] <;> rfl) (ER ?_)
 refine ej hA fun us s2 ⟨vs,H2,I2,r2,e,C,R,t0,iQ,ws,y,e1,e2,k,e3,q⟩=>?_
 subst e1
 obtain⟨u1,u2,rfl,ru,_⟩:=vals2 r2
 obtain rfl:u1=Value.ref e:=ru
 obtain⟨nm,qn,N,bs,bm,sn,sub,ab,col,dd,k0,k1,k2,k3,k5,c⟩:=k.on
 have c:=c _ I2.gP
 obtain⟨hp,g,d,tk,os⟩:=s2
 exact FH MT c.e c.at_ (I2.CD e2) e3 fun h' b x'=>⟨.eI,_,I2.NR (t':=tk) e2 b x',rfl,q _⟩
def Rl (K:PySem.W.Frag)(ta tv:TE):TS:=fun D σ H=>tv σ H fun y H1=>ta σ H1 fun x H2=> ∃(e C R:Addr) (vs:Array Value),x= .ref e/\H2 e=some (xo e C none vs)/\gX K C R/\
 ∀dx,H2 dx=none->D.nx σ (upd (upd H2 dx (.xd [("text",y)])) e (xo e C (some dx) vs))
theorem KW (ha:PE X o ta)(hv:PE X value tv)(hs:swapsWith value (some (.Attribute o "text" pos')) pos.line X.env=pure false):PS X (.Assign [.Attribute o "text" pos'] value pos) (Rl X.K ta tv):=by
 intro pins s σ H D I h
 refine MP (ej (hv pins s σ H _ I h) fun u s1 ⟨y,H1,I1,ry,q⟩=>ej (ha pins s1 σ H1 _ I1 q) fun ov s2 ⟨x,H2,I2,rx,e,C,R,vs,e1,e2,k,q2⟩=>?_) hs
 subst e1
 obtain rfl:ov=Value.ref e:=rx
 obtain⟨nm,qn,N,bs,bm,sn,sub,ab,col,dd,k0,k1,k2,k3,k5,c⟩:=k.on
 have c:=c _ I2.gP
 have hn:=I2.cH.fresh (aB s2.heap.objs.size)
 obtain⟨hp,g,d,tk,os⟩:=s2
 refine KR PySem.F.store_Exception c.o c.at_ c.rf (lq I2.gP k.sa) (lq I2.gP k.tx) (I2.CD e2) fun h' NN b x' n=>?_
 exact⟨σ,_,I2.KU (t':=NN) e2 b x' n ry,q2 _ hn⟩
structure D3 (K:PySem.W.Frag)(R f:Addr):Prop where
 rd:PySem.W.readsIn K R (.type "type")=true
 sp:PySem.W.specialIn K (.ref R) "__getattribute__"=some (some (.builtin "type.__getattribute__"))
 fd:PySem.W.findCls K (.ref R) (.type "type") "__init__"=some (.val (.ref f))
 kp:PySem.W.keepIn K (.ref f)=true
theorem jh {pl:Sem Bool}(i:D3 X.K R f)(F:Rk X.prog X.w X.K X.mg X.base k f fd ps sp)(hr:iq k X.A)(hb:Binds X.K fd ps [])(hg:Gl X x)(hm:X.mg x=some (.ref R))(ha:PA X (e :: es) t)(rD:(x == ("__debug__":Str))=false:=by decide)
  (hs:starEach (e :: es) X.env=(false,eval e X.env) :: starEach es X.env:=by rfl) (iO:(backTo pos (starEach es X.env)).any (·.1)=false:=by rfl)
  (ht:eval (.Call (.Attribute (.Name x p) "__init__" apos) (e :: es) [] pos) X.env=(do
   let ov ← eval (.Name x p) X.env
   standAt apos.atName
   let(f,first) ← holding [ov] (getMethod ov "__init__" pl)
   callWith pos f first (backTo pos (starEach (e :: es) X.env)) (backToKw pos (keywordEach [] X.env))):=by rfl):
  PE X (.Call (.Attribute (.Name x p) "__init__" apos) (e :: es) [] pos) (wY sp [] E0 t):=by
 intro pins s σ H Q I h
 refine vx (pl:=pl) (jy I hg hm ?_ rD) ht
 refine PySem.W.method_cls I.gP i.sp (PySem.W.cls_value I.gP i.rd i.fd rfl ?_)
 refine km (h₀:=X.base) I.ok.mod.Ka i.kp (ej (ha pos pins _ σ H _ (I.tok _) h) fun us s1 ⟨vs,H1,I1,r,q⟩=>⟨I1.gP,?_⟩) hs iO
 have q2:sp (vs ++ []) H1 Q E0:=q
 rw[cA] at q2
 exact D0 F hr I1.Hh hb I1 r q2
end
def Fly (mg:Str->Option Value)(n0:Nat)(H:Hp)(h:Heap)(a C dx:Addr):Prop:=
 ∃(vs:Array Value) (T:Addr),i0 h a (.ref C) (some dx) vs/\vs[1]? =some (.ref T)/\JM h T .none/\T≠a/\n0<=a/\n0<=T/\H a=none/\H T=none/\(vs[2]? =some .none∨mg "Needed"=some (.ref C))
def mw (P:Program)(w:World)(mg:Str->Option Value):Ff:=fun outer H s E e s'=>
 ∃(a C dx:Addr) (H':Hp),e= .ref a/\s'.os=s.os/\AllBare s'.gens/\Un (Cb outer) [] H H' s.heap s'.heap/\ow P w H' s'.heap/\Fly mg s.heap.objs.size H' s'.heap a C dx/\E (.ref C) (some dx) H'
theorem D4 {fs fr own:List Addr}{H H2:Hp}{h h2 h3:Heap}(u:Un fs [] H H2 h h2)(b:mT fr own h2 h3)(ho: ∀c∈own,h.objs.size<=c)(hf: ∀c∈fr,c∈fs∨h.objs.size<=c):Un fs [] H H2 h h3 where
 keep:=fun c o z n hc hx=>(b c o (u.keep c o z n hc hx) (fun w=>absurd (aK z) (wR.mpr (ho c w)))).1 (fun w=>(hf c w).elim hc (fun q=>absurd (aK z) (wR.mpr q)))
 slot:=fun c o z n hc hx=>by
  obtain⟨sl,e⟩:=u.slot c o z n hc hx
  obtain⟨_,TM,e2⟩:=b c _ e (fun w=>absurd (aK z) (wR.mpr (ho c w)))
  exact⟨TM,e2⟩
 free:=u.free
 there:=fun c o z hx=>by
  obtain⟨o',e⟩:=u.there c o z hx
  obtain⟨_,TM,e2⟩:=b c _ e (fun w=>absurd (aK z) (wR.mpr (ho c w)))
  exact⟨_,e2⟩
 qe:=u.qe
 o6:=u.o6
 o7:=u.o7
theorem yu {P:Program}{w:World}{fr own:List Addr}{H:Hp}{h h':Heap}(k:ow P w H h)(b:mT fr own h h')(hf: ∀c∈fr,H c=none)(ho: ∀c∈own,H c=none):ow P w H h':=fun c u z=>by
 refine(k c u z).sU (fun d o hd w=>?_) (fun _ q=>q) fun _ _ q=>q
 have t: ∃u',H d=some u':=hd.elim (fun q=>⟨u,by rw[q]; exact z⟩) (fun q=>⟨_,q⟩)
 obtain⟨u',y⟩:=t
 exact(b d o w (fun q=>by rw[ho d q] at y; cases y)).1 (fun q=>by rw[hf d q] at y; cases y)
section
variable {X:Cx}{pins:List (Addr×Obj)}{σ:St}{H:Hp}{s:Shared}{h':Heap}{own:List Addr}
theorem Inv.jV {c:Addr}(I:Inv X pins σ H s)(h:s.heap.objs.size<=c):(c∈X.ex∨X.s₀.heap.objs.size<=c)/\c≠X.env.locals/\(∀x k,X.env.cells.lookup x=some k->k≠c)/\ ∀p∈X.pn ++ pins,p.1≠c:=by
 refine⟨.inr (a6 I.sz h),(aY (bp I.lt h)).symm,fun x k z=>?_,fun p hp=>?_⟩
 ·obtain⟨v,w⟩:=I.cell x k z
  exact aY (bp w.lt h)
 ·exact aY (bp (aK (I.pin p hp).1) h)
theorem Inv.but (I:Inv X pins σ H s)(b:mT (Cb X.stack) own s.heap h')
  (ho: ∀c∈own,H c=none/\(c∈X.ex∨X.s₀.heap.objs.size<=c)/\c≠X.env.locals/\(∀x k,X.env.cells.lookup x=some k->k≠c)/\ ∀p∈X.pn ++ pins,p.1≠c):Inv X pins σ H {s with heap:=h'}:=by
 refine I.Dw (s':={s with heap:=h'}) (ch:=own) rfl ⟨fun c o z n hc hx=>(b c o z hx).1 hc,fun c o z n hc hx=>(b c o z hx).2,fun c o z n hx=>n,fun c o z hx=>?_,fun _ _ z=>z,fun _ _ _ z=>z,fun c ps z=>⟨#[],by rw[z]; simp⟩⟩ ?_ I.bare fun c hc=>(ho c hc).2
 ·obtain⟨_,sl,e⟩:=b c o z hx
  exact⟨_,e⟩
 ·exact yu I.cH b I.qf fun c hc=>(ho c hc).1
end
structure Px (X:Cx)(E:XK):Prop where
 pass:Passes (mw X.prog X.w X.mg) X E
 mf: ∀{pins:List (Addr×Obj)} {σ:St} {H:Hp} {s:Shared} {a C dx:Addr} {vs:Array Value},Inv X pins σ H s->i0 s.heap a (.ref C) (some dx) vs->vs[1]? =some .none->(vs[2]? =some .none∨X.mg "Needed"=some (.ref C))->
  X.s₀.heap.objs.size<=a->H a=none->E (.ref C) (some dx) H->X.xe (.ref a) s
 own:PassesOwn (model X.prog X.w) X.A X.env X.xe
 ownAt: ∀hd:Option Value,PassesOwnAt (model X.prog X.w) (X.A.mark hd) X.A X.env X.xe
 GO:X.stack=X.env :: X.outer
 Yd:X.env.frame=some X.env.locals
section
variable {P:Program}{w:World}{K:PySem.W.Frag}{mg:Str->Option Value}{base:Heap}{N:List Str}{qual:Str}{scope:Scope}{f:Addr}{cd:Value}{A:Around}{outer:List Env}{s:Shared}{H:Hp}{E:XK}
theorem Rm:Passes (mw P w mg) (lO (mw P w mg) P w K mg base N qual scope f cd A outer s H E) E:=by
 rintro pins σ H1 s1 e s2 I ⟨a,C,dx,H2,rfl,ho,hg,u,cH,⟨vs,T,x,h1,ft,ne,na,nT,Ha,HT,h2⟩,q⟩
 have I2:=I.Dw (ch:=[]) ho u cH hg (fun b z=>absurd z (by simp))
 have sz:s.heap.objs.size<=s1.heap.objs.size:=I.sz
 have Py:a < s2.heap.objs.size:=by
  obtain⟨o,z,_⟩:=x
  exact aK z
 show wpAny _ _ (leaving (envOfC qual scope s.heap.objs.size f cd) (.ref a)) _ _ s2
 refine NM (base:=base) (outer:=outer) (L:=s.heap.objs.size) I.ok.frames I2.stack rfl x h1 ft ne fun h3 T' b x' hT t'=>?_
 have Pz:T'≠a:=by
  rw[hT]
  exact(aY Py).symm
 refine⟨a,C,dx,H2,rfl,I2.os,I2.bare,D4 I2.base b ?_ ?_,yu cH b I2.qf ?_,⟨_,T',x',pK (fj h1),t',Pz,a6 sz na,?_,Ha,I2.cH.fresh (iM hT.symm),?_⟩,q⟩
 ·intro c hc
  rcases aw.mp hc with rfl|hc
  ·exact a6 sz nT
  ·rw[ao.mp hc]
   exact a6 sz na
 ·intro c hc
  rcases aw.mp (I2.tS c hc) with hc|hc
  ·rw[hc]
   exact .inr (aB _)
  ·exact .inl hc
 ·intro c hc
  rcases aw.mp hc with rfl|hc
  ·exact HT
  ·rw[ao.mp hc]
   exact Ha
 ·rw[hT]
  exact I2.sz
 ·rw[qz (by decide)]
  exact h2
theorem NT:Px (lO (mw P w mg) P w K mg base N qual scope f cd A outer s H E) E where
 pass:=Rm
 mf:=by
  intro pins σ H1 s1 a C dx vs I x h1 h2 na Ha q
  have Py:a < s1.heap.objs.size:=by
   obtain⟨o,z,_⟩:=x
   exact aK z
  show wpAny _ _ (leaving (envOfC qual scope s.heap.objs.size f cd) (.ref a)) _ _ s1
  refine NL (base:=base) (outer:=outer) (L:=s.heap.objs.size) I.ok.frames I.stack rfl x h1 fun h3 T' b x' hT t'=>?_
  have Pz:T'≠a:=by
   rw[hT]
   exact(aY Py).symm
  refine⟨a,C,dx,H1,rfl,I.os,I.bare,D4 I.base b ?_ ?_,yu I.cH b I.qf ?_,⟨_,T',x',pK (fj h1),t',Pz,na,?_,Ha,I.cH.fresh (iM hT.symm),?_⟩,q⟩
  ·intro c hc
   rw[ao.mp hc]
   exact na
  ·intro c hc
   rcases aw.mp (I.tS c hc) with hc|hc
   ·rw[hc]
    exact .inr (aB _)
   ·exact .inl hc
  ·intro c hc
   rw[ao.mp hc]
   exact Ha
  ·rw[hT]
   exact I.sz
  ·rw[qz (by decide)]
   exact h2
 own:=PassesOwn.leaving
 ownAt:=fun _=>PassesOwnAt.leaving
 GO:=rfl
 Yd:=rfl
theorem gv.Ye {x qual:Str}{st:Stmt}{f:Addr}{fd:FuncData}{N ps:List Str}{k:Nat}{sp:Sp}(F:gv K x qual st f fd)(S:aW N ps (aA st))(len: ∀vs H Q E,sp vs H Q E->vs.length=ps.length)
  (gu: ∀(dv:Value) (A:Around) (outer:List Env) (s:Shared) (H:Hp) (vs:List V) (Q:VK) (E:XK),fA k (A.deeper (envOfC qual (aA st) s.heap.objs.size f dv))->Px (lO (mw P w mg) P w K mg base N qual (aA st) f dv A outer s H E) E->sp vs H Q E->
   ∃t,o8 (lO (mw P w mg) P w K mg base N qual (aA st) f dv A outer s H E) (d9 st) t/\t {nx:=fun _ H'=>Q .eI H',rt:=Q} (start N vs) H):lN P w K mg base (mw P w mg) (k + 1) f fd ps sp:=by
 obtain⟨oc,od,kV,doc,pm,an,dv,ct,Fg,rfl,lk,q0⟩:=F.ex
 exact Hm lk q0 S len fun A outer s H vs Q E hr ya=>gu dv A outer s H vs Q E hr NT ya
end
def NU (K:PySem.W.Frag)(txt:Str):Sp:=fun vs H Q _=> ∃(e C R t0:Addr),vs=[.ref e]/\H e=some (xo e C none (v0 t0))/\gX K C R/\ ∀dx t',H dx=none->Q .eI (upd (upd H dx (.xd [("text",.str txt)])) e (xo e C (some dx) (v0 t')))
def NV (E:XK)(C:Addr)(txt:Str):TS:=fun _ _ H=> ∀dx,H dx=none->E (.ref C) (some dx) (upd H dx (.xd [("text",.str txt)]))
structure HZ (P:Program)(w:World)(K:PySem.W.Frag)(mg:Str->Option Value)(base:Heap)(k:Nat)(x:Str)(C R:Addr)(txt:Str):Prop where
 Yf:mg x=some (.ref C)
 ek:gX K C R
 kp:PySem.W.keepIn K (.ref C)=true
 init: ∃(f:Addr) (fd:FuncData),PySem.W.findIn K (.ref C) "__init__"=some (some (.ref f))/\PySem.W.typeIn K (.ref f)=some (.type "function")/\Rk P w K mg base k f fd ["self"] (NU K txt)/\Binds K fd ["self"] []
section
variable {X:Cx}{k:Nat}{C R:Addr}{x txt:Str}{p pos gR:Pos}{E:XK}
theorem Ia (M:HZ X.prog X.w X.K X.mg X.base k x C R txt)(hr:iq (k + 1) X.A)(hg:Gl X x)(rD:(x == ("__debug__":Str))=false){pins:List (Addr×Obj)}{σ:St}{H:Hp}{s:Shared}{Q:Value->Shared->Prop}{xe:Value->Shared->Prop}(I:Inv X pins σ H s)
  (q: ∀(s2:Shared) (e dx t':Addr),s.heap.objs.size<=e->H dx=none->H e=none->dx≠e->Inv X pins σ (upd H dx (.xd [("text",.str txt)])) s2->i0 s2.heap e (.ref C) (some dx) (v0 t')->Q (.ref e) s2):
  wpAny (model X.prog X.w) X.A (eval (.Call (.Name x p) [] [] gR) X.env) Q xe s:=by
 obtain⟨f,fd,hi,hf,F,hb⟩:=M.init
 refine eM (jy I hg M.Yf ?_ rD)
 refine zS I.gP M.kp ?_
 obtain⟨nm,qn,N,bs,bm,sn,sub,ab,col,dd,k0,k1,k2,k3,k5,c⟩:=M.ek.on
 have c:=c _ I.gP
 have hz:=I.cH.fresh (dg s.heap.objs.size)
 have I1:=I.kept (t':=s.toks) (h':=s.heap.push (js [])) (fun b u z=>ax _ z)
 have ex:i0 ((s.heap.push (js [])).push (lY C s.heap.objs.size)) (s.heap.objs.size + 1) (.ref C) none (v0 s.heap.objs.size):=⟨lY C s.heap.objs.size,by heap_get,rfl,rfl,rfl⟩
 have I2:=I1.laid (a:=s.heap.objs.size + 1) (o:=xo (s.heap.objs.size + 1) C none (v0 s.heap.objs.size)) (t':=s.toks) (h':=(s.heap.push (js [])).push (lY C s.heap.objs.size)) (fun b u z=>ax _ z) (iM (kj _ _)) (HX ex)
 have Tw:=PySem.W.looks_typeIn (M:=model X.prog X.w) I.gP hf
 have NW: ∃oI,s.heap.get? f=some oI/\oI.cls= .type "function":=by
  have z:=hf
  unfold PySem.W.typeIn at z
  dsimp only at z
  cases w:X.K.lookup f with
  |none=>rw[w] at z; cases z
  |some o=>
   rw[w] at z
   exact⟨o,I.gP _ _ w,aE z⟩
 obtain⟨oI,NW,Rg⟩:=NW
 have e0:=I2.Hh.make C [] []
 obtain⟨hp,g,d,tk,os⟩:=s
 refine call_exc MT c.e c.na c.nn c.at_ (lq I.gP hi) NW Rg ?_
 refine ej (D0 (X:=X) F (hr.make C [] []) e0 hb I2 (us:=[.ref (hp.objs.size + 1)]) (vs:=[.ref (hp.objs.size + 1)]) (Q:=fun v H'=>v= .eI/\ ∃dx t',H dx=none/\dx≠hp.objs.size + 1/\H'=upd (upd (upd H (hp.objs.size + 1) (xo (hp.objs.size + 1) C none (v0 hp.objs.size))) dx (.xd [("text",.str txt)])) (hp.objs.size + 1) (xo (hp.objs.size + 1) C (some dx) (v0 t'))) (.cons rfl .nil) ?_) fun u s2 h2=>?_
 ·refine⟨_,C,R,_,rfl,ag,M.ek,fun dx t' BV=>⟨rfl,dx,t',?_⟩⟩
  have ne:dx≠hp.objs.size + 1:=fun z=>by
   rw[z,ag] at BV
   cases BV
  rw[ay ne] at BV
  exact⟨BV,ne,rfl⟩
 ·obtain⟨v,H',I3,rv,rfl,dx,t',BV,ne,rfl⟩:=h2
  refine⟨rv,?_⟩
  have I4:=Inv.drop I hz I3 ag
  have eH:gone (upd (upd (upd H (hp.objs.size + 1) (xo (hp.objs.size + 1) C none (v0 hp.objs.size))) dx (.xd [("text",.str txt)])) (hp.objs.size + 1) (xo (hp.objs.size + 1) C (some dx) (v0 t'))) (hp.objs.size + 1)=upd H dx (.xd [("text",.str txt)]):=by
   funext b
   by_cases h1:b=hp.objs.size + 1
   ·rw[h1,xu,ay ne.symm,hz]
   ·rw[iH h1,ay h1]
    by_cases h2:b=dx
    ·rw[h2,ag,ag]
    ·rw[ay h2,ay h2,ay h1]
  rw[eH] at I4
  exact q s2 _ dx t' (dg _) BV hz ne I4 (I3.CD ag)
theorem jW (T:Px X E)(M:HZ X.prog X.w X.K X.mg X.base k x C R txt)(hr:iq (k + 1) X.A)(hg:Gl X x)(hc:X.calm=true)(rD:(x == ("__debug__":Str))=false:=by decide):
  PS X (.Raise (some (.Call (.Name x p) [] [] gR)) none pos) (NV E C txt):=by
 intro pins s σ H D I h
 rw[arm_exec_Raise]
 obtain⟨nm,qn,N,bs,bm,sn,sub,ab,col,dd,k0,k1,k2,k3,k5,c⟩:=M.ek.on
 refine az (iy (CB (C:=C) (nm:=nm) (q:=qn) (N:=N) (bs:=bs) (bm:=bm) (oz:=true) (sn:=sn) (sub:=sub) (ab:=ab) (col:=col) (dd:=dd) (k0:=k0) (k1:=k1) (k2:=k2) (k3:=k3) (k5:=k5) (newId:="Exception.__new__") (c _ I.gP).b (I.ok.hd hc) (az (Ia M hr hg rD I fun s2 e dx t' he BV hz ne I2 x2=>az (iy (bL ?_))))))
 exact⟨e,some dx,v0 t',rfl,(c _ I2.gP).at_,x2,rfl,T.mf I2 x2 rfl (.inl rfl) (a6 I.sz he) (by rw[ay ne.symm]; exact hz) (h dx BV)⟩
end
abbrev Cx.vQ (X:Cx)(xe:Value->Shared->Prop)(pn:List (Addr×Obj)):Cx:={X with xe:=xe,pn:=pn}
abbrev Cx.JO (X:Cx)(e:Value)(pn:List (Addr×Obj))(xe:Value->Shared->Prop):Cx:={X with A:=X.A.mark (some e),calm:=false,pn:=pn,xe:=xe}
section
variable {X:Cx}{pins zY l:List (Addr×Obj)}{σ:St}{H:Hp}{s:Shared}{xe:Value->Shared->Prop}{E:XK}
theorem Inv.vQ (I:Inv X pins σ H s)(xe:Value->Shared->Prop):Inv (X.vQ xe (X.pn ++ pins)) [] σ H s:=
 have ok:=I.ok
 ⟨⟨ok.mod,ok.kind,ok.glob,ok.blt,ok.above,ok.inj,ok.has,ok.JE,ok.hd,ok.frames,ok.GO,ok.Kb,ok.bs,ok.zW,ok.vG,ok.vH,ok.lL,ok.Dv⟩,I.os,I.bare,I.base,I.loc,I.cell,I.free,I.iR,fun p hp=>I.pin p (by simpa using hp),I.cH,I.len⟩
theorem Inv.jX (I:Inv (X.vQ xe (X.pn ++ pins)) zY σ H s):Inv X pins σ H s:=
 have ok:=I.ok
 ⟨⟨ok.mod,ok.kind,ok.glob,ok.blt,ok.above,ok.inj,ok.has,ok.JE,ok.hd,ok.frames,ok.GO,ok.Kb,ok.bs,ok.zW,ok.vG,ok.vH,ok.lL,ok.Dv⟩,I.os,I.bare,I.base,I.loc,I.cell,I.free,I.iR,fun p hp=>I.pin p (df _ hp),I.cH,I.len⟩
theorem Inv.JO (I:Inv X pins σ H s)(e:Value)(xe:Value->Shared->Prop)(h: ∀p∈l,s.heap.get? p.1=some p.2/\H p.1=none/\p.1≠X.env.locals/\p.1∉X.fs/\ ∀v,p.2.data≠ .cell v):Inv (X.JO e (X.pn ++ pins ++ l) xe) [] σ H s:=
 have ok:=I.ok
 ⟨⟨ok.mod,ok.kind,ok.glob,ok.blt,ok.above,ok.inj,ok.has,ok.JE,(fun z=>by cases z),ok.frames,ok.GO,ok.Kb,ok.bs,ok.zW,ok.vG,ok.vH,ok.lL,ok.Dv⟩,I.os,I.bare,I.base,I.loc,I.cell,I.free,I.iR,
  fun p hp=>by
   rw[cA] at hp
   exact(bq.mp hp).elim (fun z=>I.pin p z) (h p),I.cH,I.len⟩
theorem Inv.Rn (I0:Inv X pins σ H s){e:Value}{σ':St}{H':Hp}{s':Shared}(I:Inv (X.JO e (X.pn ++ pins ++ l) xe) zY σ' H' s'):Inv X pins σ' H' s':=
 have ok:=I.ok
 ⟨⟨ok.mod,ok.kind,ok.glob,ok.blt,ok.above,ok.inj,ok.has,ok.JE,I0.ok.hd,ok.frames,ok.GO,ok.Kb,ok.bs,ok.zW,ok.vG,ok.vH,ok.lL,ok.Dv⟩,I.os,I.bare,I.base,I.loc,I.cell,I.free,I.iR,
  fun p hp=>I.pin p (df _ (df _ hp)),I.cH,I.len⟩
theorem SP.jX {D:Ends}{f:Flow}{s':Shared}(h:SP (X.vQ xe (X.pn ++ pins)) [] D f s'):SP X pins D f s':=by
 cases f with
 |next=>obtain⟨σ',H',I,q⟩:=h; exact⟨σ',H',I.jX,q⟩
 |brk=>obtain⟨σ',H',I,q⟩:=h; exact⟨σ',H',I.jX,q⟩
 |cont=>obtain⟨σ',H',I,q⟩:=h; exact⟨σ',H',I.jX,q⟩
 |ret u=>obtain⟨v,σ',H',I,r,q⟩:=h; exact⟨v,σ',H',I.jX,r,q⟩
theorem Inv.renamed {h5:Heap}{m5:Str->Option Value}{t':Nat}(I:Inv X pins σ H s)(n5:h5.Ns X.env.locals m5)(sb:Heap.SameBut X.env.locals s.heap h5):Inv X pins (List.replicate X.N.length none) H {s with heap:=h5,toks:=t'}:=by
 have low: ∀c o,X.s₀.heap.get? c=some o->c≠X.env.locals:=fun c o z=>aY (bp (aK z) I.ok.above)
 refine⟨I.ok,I.os,I.bare,⟨fun c o z n hc hx=>(sb.2 c (low c o z)).trans (I.base.keep c o z n hc hx),fun c o z n hc hx=>?_,I.base.free,fun c o z hx=>?_,I.base.qe,I.base.o6,I.base.o7⟩,⟨m5,n5,fun i x v h1 h2 _=>?_⟩,fun x c z=>?_,I.free,I.iR,fun p hp=>?_,fun c u z=>?_,?_⟩
 ·obtain⟨sl,e⟩:=I.base.slot c o z n hc hx
  exact⟨sl,(sb.2 c (low c o z)).trans e⟩
 ·obtain⟨o',e⟩:=I.base.there c o z hx
  exact⟨o',(sb.2 c (low c o z)).trans e⟩
 ·rw[List.getElem?_replicate] at h2
  split at h2 <;> cases h2
 ·obtain⟨v,w⟩:=I.cell x c z
  exact⟨v,w.sameBut sb (I.L8 x c z)⟩
 ·obtain⟨w1,w2,w3,w4⟩:=I.pin p hp
  exact⟨(sb.2 _ w3).trans w1,w2,w3,w4⟩
 ·refine(I.cH c u z).sU (fun d o hd w=>(sb.2 d (fun q=>?_)).trans w) (fun _ q=>q) fun _ _ q=>q
  rcases hd with hd|hd
  ·rw[← hd,q,I.free] at z
   cases z
  ·rw[q,I.free] at hd
   cases hd
 ·rw[iN]
theorem land (r9:X.stack=X.env :: X.outer)(BU:X.env.frame=some X.env.locals){e:Value}{s':Shared}(I:Inv X pins σ H s)(c:mw X.prog X.w X.mg X.stack H s E e s'){hs:List ExceptHandler}{Q:Flow->Shared->Prop}
  (q: ∀(a C dx T:Addr) (vs:Array Value) (H':Hp) (s3:Shared),e= .ref a->Inv X pins σ H' s3->i0 s3.heap a (.ref C) (some dx) vs->vs[1]? =some (.ref T)->JM s3.heap T .none->T≠a->s.heap.objs.size<=a->s.heap.objs.size<=T->H' a=none->H' T=none->
   (vs[2]? =some .none∨X.mg "Needed"=some (.ref C))->E (.ref C) (some dx) H'->wpAny (model X.prog X.w) X.A (handleBy e X.env hs) Q xe s3):
  wpAny (model X.prog X.w) X.A (noteFrame e X.env) (fun _ s2=>wpAny (model X.prog X.w) X.A (setFlight e none) (fun _ s3=>wpAny (model X.prog X.w) X.A (handleBy e X.env hs) Q xe s3) xe s2) xe s':=by
 obtain⟨a,C,dx,H2,rfl,ho,hg,u,cH,⟨vs,T,x,h1,ft,ne,na,nT,Ha,HT,h2⟩,z⟩:=c
 have I2:=I.Dw (ch:=[]) ho u cH hg (fun b z=>absurd z (by simp))
 have st:=I2.stack
 rw[r9] at st
 have Py:a < s'.heap.objs.size:=by
  obtain⟨o,z,_⟩:=x
  exact aK z
 have VQ:s.heap.objs.size<=s'.heap.objs.size:=a6 na (dB Py)
 refine Mm (base:=X.base) (outer:=X.outer) (by rw[I.ok.frames,r9]) st BU x h1 ft ne fun h3 T' b x3 hT t3=>?_
 have Pz:T'≠a:=by
  rw[hT]
  exact(aY Py).symm
 have Yg:H2 T'=none:=I2.cH.fresh (iM hT.symm)
 have nT':=I2.jV (iM hT.symm)
 have b':mT (Cb X.stack) [T,a] s'.heap h3:=by
  rw[r9]
  exact b
 have I3:=I2.but b' (fun c hc=>by
  rcases aw.mp hc with rfl|hc
  ·exact⟨HT,I.jV nT⟩
  ·rw[ao.mp hc]
   exact⟨Ha,I.jV na⟩)
 refine uD (s:={s' with heap:=h3}) x3 (pK (fj h1)) t3 fun h4 b4 t4 _=>?_
 have I4:=I3.but (h':=h4) (own:=[T']) (b4.mono (fun _ z=>absurd z (by simp)) (fun _ z=>z)) (fun c hc=>by
  rw[ao.mp hc]
  exact⟨Yg,nT'⟩)
 refine q a C dx T' _ H2 _ rfl I4 (x3.but b4 (by simpa using Pz.symm)) (pK (fj h1)) t4 Pz na (by rw[hT]; exact VQ) Ha Yg ?_ z
 rw[qz (by decide)]
 exact h2
end
section
variable {X:Cx}{R:Addr}{n x:Str}{i k:Nat}{p1 p2 p3 p4 p5 pos gR:Pos}{body:List Stmt}{t:XK->TS}{E:XK}{CN:Addr}{txt:Str}
def Ro (K:PySem.W.Frag)(R:Addr)(D:Ends):XK:=fun c d H'=> ∃(C dx:Addr) (txt:Str),c= .ref C/\d=some dx/\gX K C R/\H' dx=some (.xd [("text",.str txt)])/\D.rt (.str txt) H'
def KY (K:PySem.W.Frag)(R:Addr)(t:XK->TS):TS:=fun D σ H=>t (Ro K R D) D σ H
theorem FK (r9:X.stack=X.env :: X.outer)(BU:X.env.frame=some X.env.locals)(hc:X.calm=true)(hN:X.N.Nodup)(hi:X.N[i]? =some n)(hl:X.env.scope.names.lookup n=some .local)(hg:Gl X x)(hm:X.mg x=some (.ref R))(kR:gX X.K R R)
  (hb: ∀(xe:Value->Shared->Prop) (pn:List (Addr×Obj)) (E:XK),Passes (mw X.prog X.w X.mg) (X.vQ xe pn) E->o8 (X.vQ xe pn) body (t E)) (hd:(n == ("__debug__":Str))=false:=by decide) (q0:(n == ("__classdict__":Str))=false:=by decide) (hx:(x == ("__debug__":Str))=false:=by decide):
  PS X (.Try body [.ExceptHandler (some (.Name x p1)) (some n) [.Return (some (.Attribute (.Name n p2) "text" p3)) p4] p5] [] [] pos) (KY X.K R t):=by
 intro pins s σ H D I h
 refine wpAny_Try_except (cD (hb (fun e s1=>wpAny (model X.prog X.w) X.A (noteFrame e X.env) (fun _ s2=>wpAny (model X.prog X.w) X.A (setFlight e none) (fun _ s3=>
  wpAny (model X.prog X.w) X.A (handleBy e X.env [.ExceptHandler (some (.Name x p1)) (some n) [.Return (some (.Attribute (.Name n p2) "text" p3)) p4] p5]) (SP X pins D) X.xe s3) X.xe s2) X.xe s1) (X.pn ++ pins) (Ro X.K R D) ?_ [] s σ H D (I.vQ _) h) (fun f s1 q=>?_) fun _ _ z=>z)
 ·rintro Rq σ1 H1 s1 e s2 I1 cx
  refine land r9 BU I1.jX cx fun a C dx T vs H2 s3 he I3 x3 h1 ft ne na nT Ha HT h2 z=>?_
  subst he
  obtain⟨C',dx',txt,e1,e2,ek,ed,q⟩:=z
  cases e1
  cases e2
  obtain⟨oe,VR,Pk,NX,Rt⟩:=id x3
  have cC:=ek.on
  have cR:=kR.on
  obtain⟨_,_,_,_,_,_,_,_,_,_,_,_,_,_,_,cC⟩:=cC
  obtain⟨_,_,_,_,_,_,_,_,_,_,_,_,_,_,_,cR⟩:=cR
  have nw:=I1.jX.jV na
  have Im:=I3.JO (l:=[(a,oe)]) (.ref a) (fun _ _=>False) (fun p hp=>by
   rw[ao.mp hp]
   exact⟨VR,Ha,nw.2.1,I1.jX.E3 na,fun v z=>by rw[Rt] at z; cases z⟩)
  refine wpAny_handleBy_cons (codeAny_handlers_test (jy Im hg hm ?_ hx)) (by intro q; cases q)
  obtain⟨hp,g,d,tk,os⟩:=s3
  refine xr (cC _ I3.gP).at_ (cR _ I3.gP).at_ x3 (cR _ I3.gP).b (cC _ I3.gP).up ?_
  refine codeAny_handlers_suite_as ?_
  refine uD x3 h1 ft fun h4 b4 t4 _=>?_
  have KZ:=I1.jX.jV nT
  have I4:=Im.but (h':=h4) (own:=[T]) (b4.mono (fun _ z=>absurd z (by simp)) (fun _ z=>z)) (fun c hc=>by
   rw[ao.mp hc]
   refine⟨HT,KZ.1,KZ.2.1,KZ.2.2.1,fun p hp=>?_⟩
   rw[cA] at hp
   rcases bq.mp hp with hp|hp
   ·exact KZ.2.2.2 p hp
   ·rw[ao.mp hp]
    exact ne.symm)
  refine tT (X:=X.JO (.ref a) (X.pn ++ pins ++ [(a,oe)]) (fun _ _=>False)) (v:= .ref a) I4 hN hi (.inl hl) rfl (fun s5 I5=>?_) (.inr hl)
  have pe:PE (X.JO (.ref a) (X.pn ++ pins ++ [(a,oe)]) (fun _ _=>False)) (.Attribute (.Name n p2) "text" p3) (fun σ H Q=>σ[i]? =some (some (.ref a))/\H dx=some (.xd [("text",.str txt)])/\Q (.str txt) H):=by
   rintro Mn s6 σ6 H6 Q6 J ⟨e1,e2,q6⟩
   refine DE rfl (ej (Cc (X:=X.JO (.ref a) (X.pn ++ pins ++ [(a,oe)]) (fun _ _=>False)) hi (.inl hl) hd q0 Mn s6 σ6 H6 (fun v H'=>v= .ref a/\H'=H6) J ⟨_,e1,rfl,rfl⟩) ?_)
   rintro u s7 ⟨v,H7,J7,rv,rfl,rfl⟩
   obtain rfl:u=Value.ref a:=rv
   obtain⟨w1,_⟩:=J7.pin (a,oe) (df _ (bE _ (ao.mpr rfl)))
   obtain⟨mA,n1,rl⟩:=J7.cH dx _ e2
   have rt:=rl "text"
   have lk:List.lookup ("text":Str) [("text",V.str txt)]=some (V.str txt):=by simp[List.lookup]
   rw[lk] at rt
   cases VS:mA "text" with
   |none=>rw[VS] at rt; exact False.elim rt
   |some u7=>
    rw[VS] at rt
    obtain⟨tk7,rfl⟩: ∃tk,u7=Value.str txt tk:=rt
    obtain⟨hp7,g7,d7,t7,os7⟩:=s7
    refine KS PySem.F.attr_Exception.ga (cC _ J7.gP).b (cC _ J7.gP).at_ (lq J7.gP ek.ga) (lq J7.gP ek.gk) (lq J7.gP ek.tx) ⟨oe,w1,Pk,NX,Rt⟩ n1.ns VS rfl ?_
    exact⟨.str txt,H7,J7.tok _,⟨_,rfl⟩,q6⟩
  have hlen:i < σ1.length:=by
   rw[I1.len]
   exact(au.mp hi).1
  refine wpAny_mono (av (ba pe) [] s5 _ H2 {nx:=fun _ _=>False,rt:=fun v H'=>v= .str txt/\H'=H2} I5 ⟨by simp[hlen],ed,rfl,rfl⟩) (fun f s6 q6=>?_) fun _ _ z=>z.elim
  cases f with
  |next=>obtain⟨_,_,_,z⟩:=q6; exact z.elim
  |brk=>obtain⟨_,_,_,z⟩:=q6; exact z.elim
  |cont=>obtain⟨_,_,_,z⟩:=q6; exact z.elim
  |ret u=>
   obtain⟨v,σ6,H6,I6,rv,rfl,rfl⟩:=q6
   have I7:Inv X pins σ6 H6 s6:=Inv.Rn I3 I6
   obtain⟨m6,n6,_⟩:=id I7.loc
   have kd:(X.env.scope.kind == .class || (X.env.scope.kind == .module && X.env.locals != X.env.globals))=false:=by
    rw[I.ok.kind]
    rfl
   refine wpAny_nameGoes hl n6 kd fun h7 m7 n7 sb=>?_
   exact⟨.str txt,_,H6,I7.renamed n7 sb,rv,q⟩
 ·have q':=SP.jX q
  cases f with
  |next=>exact jq q'
  |brk=>exact q'
  |cont=>exact q'
  |ret u=>exact q'
def Ib (CT CN:Addr)(txt:Str)(E:XK):XK:=fun c d H'=>c= .ref CT/\ ∀dx,H' dx=none->E (.ref CN) (some dx) (upd H' dx (.xd [("text",.str txt)]))
def FL (CT CN:Addr)(txt:Str)(E:XK)(t:XK->TS):TS:=fun D σ H=>t (Ib CT CN txt E) D σ H
theorem Aw {CT:Addr}{kk:_}(T:Px X E)(hc:X.calm=true)(hg:Gl X x)(hm:X.mg x=some (.ref CT))(kT:gX X.K CT R)(jf:X.mg "Needed"≠some (.ref CT))(M:HZ X.prog X.w X.K X.mg X.base k "Needed" CN R txt)(hr:iq (k + 1) X.A)(hgN:Gl X "Needed")
  (hb: ∀(xe:Value->Shared->Prop) (pn:List (Addr×Obj)) (E:XK),Passes (mw X.prog X.w X.mg) (X.vQ xe pn) E->o8 (X.vQ xe pn) body (t E)) (hx:(x == ("__debug__":Str))=false:=by decide):
  PS X (.Try body [.ExceptHandler (some (.Name x p1)) none [.Raise (some (.Call (.Name "Needed" p2) [] [] gR)) (some (.Constant .none kk p3)) p4] p5] [] [] pos) (FL CT CN txt E t):=by
 intro pins s σ H D I h
 refine wpAny_Try_except (cD (hb (fun e s1=>wpAny (model X.prog X.w) X.A (noteFrame e X.env) (fun _ s2=>wpAny (model X.prog X.w) X.A (setFlight e none) (fun _ s3=>
  wpAny (model X.prog X.w) X.A (handleBy e X.env [.ExceptHandler (some (.Name x p1)) none [.Raise (some (.Call (.Name "Needed" p2) [] [] gR)) (some (.Constant .none kk p3)) p4] p5]) (SP X pins D) X.xe s3) X.xe s2) X.xe s1) (X.pn ++ pins) (Ib CT CN txt E) ?_ [] s σ H D (I.vQ _) h) (fun f s1 q=>?_) fun _ _ z=>z)
 ·rintro Rq σ1 H1 s1 e s2 I1 cx
  refine land T.GO T.Yd I1.jX cx fun a C dx T0 vs H2 s3 he I3 x3 h1 ft ne na nT Ha HT h2 z=>?_
  subst he
  obtain⟨e1,q⟩:=z
  cases e1
  have v2:vs[2]? =some .none:=h2.elim id (fun z=>absurd z jf)
  obtain⟨oe,VR,Pk,NX,Rt⟩:=id x3
  obtain⟨_,_,_,_,_,_,_,_,_,_,_,_,_,_,_,cT⟩:=kT.on
  obtain⟨nm,qn,N,bs,bm,sn,sub,ab,col,dd,k0,k1,k2,k3,k5,cN⟩:=M.ek.on
  have nw:=I1.jX.jV na
  have VT: ∀p∈[(a,oe)],s3.heap.get? p.1=some p.2/\H2 p.1=none/\p.1≠X.env.locals/\p.1∉X.fs/\ ∀v,p.2.data≠ .cell v:=fun p hp=>by
   rw[ao.mp hp]
   exact⟨VR,Ha,nw.2.1,I1.jX.E3 na,fun v z=>by rw[Rt] at z; cases z⟩
  have Im:=I3.JO (l:=[(a,oe)]) (.ref a) X.xe VT
  refine wpAny_handleBy_cons (codeAny_handlers_test (jy Im hg hm ?_ hx)) (by intro q; cases q)
  obtain⟨hp,g,d,tk,os⟩:=s3
  refine xr (b:=true) (cT _ I3.gP).at_ (cT _ I3.gP).at_ x3 (cT _ I3.gP).b (by simp) ?_
  refine codeAny_handlers_suite ?_
  refine uD x3 h1 ft fun h4 b4 t4 _=>?_
  have KZ:=I1.jX.jV nT
  have I4:=Im.but (h':=h4) (own:=[T0]) (b4.mono (fun _ z=>absurd z (by simp)) (fun _ z=>z)) (fun c hc=>by
   rw[ao.mp hc]
   refine⟨HT,KZ.1,KZ.2.1,KZ.2.2.1,fun p hp=>?_⟩
   rw[cA] at hp
   rcases bq.mp hp with hp|hp
   ·exact KZ.2.2.2 p hp
   ·rw[ao.mp hp]
    exact ne.symm)
  refine wpAny_passesOwnAt (T.ownAt (some (.ref a))) ?_
  have ps:PS (X.JO (.ref a) (X.pn ++ pins ++ [(a,oe)]) X.xe) (.Raise (some (.Call (.Name "Needed" p2) [] [] gR)) (some (.Constant .none kk p3)) p4) (fun _ _ H=> ∀dx,H dx=none->E (.ref CN) (some dx) (upd H dx (.xd [("text",.str txt)]))):=by
   intro Mn s6 σ6 H6 D6 J h6
   rw[arm_exec_Raise]
   refine az (iy (CC (C:=CN) (e0:=a) (nm:=nm) (q:=qn) (N:=N) (bs:=bs) (bm:=bm) (oz:=true) (sn:=sn) (sub:=sub) (ab:=ab) (col:=col) (dd:=dd) (k0:=k0) (k1:=k1) (k2:=k2) (k3:=k3) (k5:=k5) (newId:="Exception.__new__") (cN _ J.gP).b rfl (fun Rr s7 z=>az (Constant_none (az (iy (bL z))))) (az (Ia (X:=X.JO (.ref a) (X.pn ++ pins ++ [(a,oe)]) X.xe) M (hr.mark _) hgN (by decide) J fun s7 e VU t' he BV hz ne7 I7 x7=>az (iy (bL ?_))))))
   obtain⟨w1,_⟩:=I7.pin (a,oe) (df _ (bE _ (ao.mpr rfl)))
   have w0:=(J.pin (a,oe) (df _ (bE _ (ao.mpr rfl)))).1
   have nea:e≠a:=fun q=>by
    rw[q] at he
    exact absurd (aK w0) (wR.mpr he)
   refine⟨e,some VU,v0 t',.ref CT,some dx,vs,rfl,nea,(cN _ I7.gP).at_,x7,rfl,rfl,⟨oe,w1,Pk,NX,Rt⟩,v2,fun h8 b8 x8=>?_⟩
   have Hz:upd H6 VU (.xd [("text",.str txt)]) e=none:=by
    rw[ay ne7.symm]
    exact hz
   have I8:=I7.but (h':=h8) (own:=[e]) (b8.mono (fun _ z=>absurd z (by simp)) (fun _ z=>z)) (fun c hc=>by
    rw[ao.mp hc]
    exact⟨Hz,J.jV he⟩)
   exact T.mf (Inv.Rn I3 I8) x8 rfl (.inr M.Yf) (a6 J.sz he) Hz (h6 VU BV)
  refine cD (av ps [] _ _ H2 {nx:=fun _ _=>False,rt:=fun _ _=>False} I4 q) (fun f s9 z=>?_) fun _ _ z=>z
  cases f with
  |next=>obtain⟨_,_,_,z⟩:=z; exact z.elim
  |brk=>obtain⟨_,_,_,z⟩:=z; exact z.elim
  |cont=>obtain⟨_,_,_,z⟩:=z; exact z.elim
  |ret u=>obtain⟨_,_,_,_,_,z⟩:=z; exact z.elim
 ·have q':=SP.jX q
  cases f with
  |next=>exact jq q'
  |brk=>exact q'
  |cont=>exact q'
  |ret u=>exact q'
end
open PySem.W
def BMain (mg:Str->Option Value)(h:Heap):Prop:= ∃bm o,mg "__builtins__"=some (.ref bm)/\bm≠builtinsNs/\bm≠mainGlobals/\h.get? bm=some o/\o.cls= .type "module"/\o.dict=some builtinsNs/\o.data= .plain
abbrev xv (c:Addr)(qual:Str):HO:= .ext fun h=>h.CodeRec (.ref c) qual
theorem Ic {P:Program}{w:World}{H:Hp}{h:Heap}{c:Addr}{qual:Str}(x:h.CodeRec (.ref c) qual):dI P w H h c (xv c qual):=by
 refine⟨x,?_,fun h1 h2 z k=>?_⟩
 ·obtain⟨c',o,vs,t,e,g,_⟩:=x
  cases e
  exact⟨o,g⟩
 ·obtain⟨c',o,vs,t,e,g,r⟩:=z
  cases e
  exact⟨c,o,vs,t,rfl,k o g,r⟩
def Tb (H:Hp)(P:Addr)(pos:Pos)(qual:Str):Prop:= ∃ps:Array Value,H P=some (.mB ps)/\TriplesOk ps.toList/\(codeAmong pos ps.toList=none∨ ∃c',codeAmong pos ps.toList=some (.ref c')/\H c'=some (xv c' qual))
section
variable {X:Cx}{pins:List (Addr×Obj)}{σ:St}{H:Hp}{s:Shared}{c P:Addr}{params:Arguments}{body:Expr}{scope:Scope}{pos:Pos}{Q:Value->Shared->Prop}{xe:Value->Shared->Prop}
theorem BMain.at {mg:Str->Option Value}{h h':Heap}(B:BMain mg h)(k: ∀b o,h.get? b=some o->h'.get? b=some o){ps:Array Value}(hP:h'.get? P=some (tabObj ps)):h'.BuiltinsAt mg P:=by
 obtain⟨bm,o,b1,b2,b3,b4,b5,b6,b7⟩:=B
 refine⟨bm,o,b1,b2,b3,fun z=>?_,k _ _ b4,b5,b6,b7⟩
 have e:=k _ _ b4
 rw[z,hP] at e
 cases e
 cases b5
theorem Ie (I:Inv X pins σ H s)(B:BMain X.mg X.base)(D5:X.env.code= .ref c)(C:CodeHd X.base c P)(tb:Tb H P pos (X.env.qual ++ "<lambda>"))(NY:defaultsOf params X.env=([],[]))(qB:closureFor scope X.env=pure [])
  (q: ∀(f c':Addr) (D7:Value) (H':Hp) (s':Shared),Inv X pins σ H' s'->Frame [P] H H'->Tb H' P pos (X.env.qual ++ "<lambda>")->H' f=none->s'.heap.get? f=some (kla_obj "<lambda>" (X.env.qual ++ "<lambda>") params body scope [] ((X.mg "__name__").getD .none) c' D7)->
   H' c'=some (xv c' (X.env.qual ++ "<lambda>"))->s.heap.objs.size<=f->Q (.ref f) s'):wpAny (model X.prog X.w) X.A (eval (.Lambda params body scope pos) X.env) Q xe s:=by
 obtain⟨ps,hP,ht,hc⟩:=tb
 have TQ:s.heap.get? P=some (tabObj ps):=I.cH P _ hP
 have hg:s.heap.Ns mainGlobals X.mg:=I.mod.glob.keeps I.bk
 have hgP:mainGlobals≠P:=fun z=>by
  obtain⟨o,es,ep,e,hd,_⟩:=hg
  rw[z,TQ] at e
  cases e
  cases hd
 have hB:=B.at I.bk TQ
 refine kla_eval NY ?_
 rcases hc with hn|⟨c',hf,TR⟩
 ·refine kla_makeFunction qB I.ok.glob hg D5 (C.keeps I.bk) TQ ht hn hgP hB fun c' D7 h' tk hx NC iX VW PB=>?_
  have VX:H c'=none:=I.cH.fresh NC
  have cP:c'≠P:=fun z=>by rw[z,hP] at VX; cases VX
  have lt: ∀b o,s.heap.get? b=some o->b≠c':=fun b o z=>aY (bp (aK z) NC)
  have same: ∀b,b≠P->b≠c'->upd (upd H P (.mB (ps ++ #[rawInt pos.line,rawInt pos.col,.ref c']))) c' (xv c' (X.env.qual ++ "<lambda>")) b=H b:=fun b n1 n2=>by rw[ay n2,ay n1]
  have K0: ∀b u,H b=some u->u≠ .mB ps->b≠P:=fun b u z n w=>by
   rw[w,hP] at z
   cases z
   exact n rfl
  have FN: ∀b u,H b=some u->b≠c':=fun b u z=>aL z VX
  generalize TN:kla_obj "<lambda>" (X.env.qual ++ "<lambda>") params body scope [] ((X.mg "__name__").getD .none) c' D7=ob
  have hf:(h'.push ob).get? h'.objs.size=some ob:=by
   rw[← TN]
   exact bS _ rfl
  have kp: ∀b o,b≠P->s.heap.get? b=some o->(h'.push ob).get? b=some o:=fun b o n z=>ax _ (hx b o n z)
  have Ru:(h'.push ob).get? P=some (tabObj (ps ++ #[rawInt pos.line,rawInt pos.col,.ref c'])):=ax _ PB
  have I2:Inv X pins σ (upd (upd H P (.mB (ps ++ #[rawInt pos.line,rawInt pos.col,.ref c']))) c' (xv c' (X.env.qual ++ "<lambda>"))) {s with heap:=h'.push ob,toks:=tk}:=by
   refine I.un ⟨fun b o z n _ _=>kp b o (fun w=>by rw[w,hP] at n; cases n) z,fun b o z n _ _=>⟨o.slots,kp b o (fun w=>by rw[w,hP] at n; cases n) z⟩,fun b o z n _=>?_,fun b o z _=>?_,fun b xs z=>?_,fun b o u z=>?_,fun b qs z=>?_⟩ fun b u z=>?_
   ·rw[same b (fun w=>by rw[w,hP] at n; cases n) (lt b o z)]
    exact n
   ·by_cases w:b=P
    ·rw[w]
     exact⟨_,Ru⟩
    ·exact⟨o,kp b o w z⟩
   ·rw[same b (K0 b _ z (by intro w; cases w)) (FN b _ z)]
    exact z
   ·rw[same b (K0 b _ z (by intro w; cases w)) (FN b _ z)]
    exact z
   ·by_cases w:b=P
    ·rw[w] at z ⊢
     rw[hP] at z
     cases z
     exact⟨_,by rw[ay cP.symm,ag]⟩
    ·exact⟨#[],by rw[same b w (FN b _ z),z]; simp⟩
   ·by_cases w:b=c'
    ·subst w
     rw[ag] at z
     cases z
     exact Ic (VW.push ob)
    ·rw[ay w] at z
     by_cases w2:b=P
     ·subst w2
      rw[ag] at z
      cases z
      exact Ru
     ·rw[ay w2] at z
      refine(I.cH b u z).sU (fun d o hd y=>kp d o (fun w3=>?_) y) (fun d y=>?_) fun d xs y=>?_
      ·rcases hd with hd|hd
       ·exact w2 (hd▸w3)
       ·rw[w3,hP] at hd
        cases hd
      ·rw[same d (K0 d _ y (by intro w; cases w)) (FN d _ y)]
       exact y
      ·rw[same d (K0 d _ y (by intro w; cases w)) (FN d _ y)]
       exact y
  have Kd:H h'.objs.size=none:=I.cH.fresh (a6 NC (dB iX))
  refine q h'.objs.size c' D7 _ _ I2 (fun b o nb z=>?_) ⟨ps ++ #[rawInt pos.line,rawInt pos.col,.ref c'],by rw[ay cP.symm,ag],?_,.inr ⟨c',?_,ag⟩⟩ ?_ (by rw[TN]; exact hf) ag (a6 NC (dB iX))
  ·rw[same b (fun w=>nb (by rw[w]; exact ao.mpr rfl)) (FN b _ z)]
   exact z
  ·rw[Array.toList_append]
   exact TriplesOk_snoc _ _ _ _ ht
  ·rw[Array.toList_append]
   exact codeAmong_snoc _ ht hn
  ·rw[same _ (fun w=>by rw[w,hP] at Kd; cases Kd) (pW iX)]
   exact Kd
 ·refine kla_makeFunctionHit qB I.ok.glob hg D5 (C.keeps I.bk) TQ ht hf hB fun D7 h' tk hk hsz=>?_
  have I2:=(I.kept (t':=tk) (h':=h'.push (kla_obj "<lambda>" (X.env.qual ++ "<lambda>") params body scope [] ((X.mg "__name__").getD .none) c' D7)) fun b u z=>ax _ (hk b u z))
  exact q h'.objs.size c' D7 H _ I2 Frame.refl ⟨ps,hP,ht,.inr ⟨c',hf,TR⟩⟩ (I.cH.fresh hsz) (bS _ rfl) TR hsz
theorem Ig {A:Around}{name qual:Str}{pm D7:Value}{f c':Addr}{N ps:List Str}{us:List Value}{vs:List V}{t:TE}{R:VK}(I:Inv X pins σ H s)(e0:qj X.prog X.w X.K X.mg X.base A X.stack s H)(TU:A.depth < recursionLimit)
  (ho:s.heap.get? f=some (kla_obj name qual params body scope [] pm c' D7)) (q0:s.heap.CodeRec (.ref c') qual) (S:aW N ps scope) (hb:bindArgs (kla_fn name qual params body scope [] pm (.ref c') D7) ⟨us,[]⟩=pure (ps.zip us)) (hl:vs.length=ps.length) (r:Vals vs us)
  (gu:PE (uF X.prog X.w X.K X.mg X.base N qual scope f (.ref c') A X.stack s H E0).E6 body t) (h:t (start N vs) H R):wpAny (model X.prog X.w) A (call (.ref f) us) (EP X pins σ R) xe s:=by
 have lim:s.heap.NoLimit:=I.nolimit
 have mJ: ∀y∈ps.zip us,scope.names.lookup y.1=some .local∨(scope.names.lookup y.1=some .cell/\((cellsFrom (s.heap.objs.size + 1) scope.names []).lookup y.1).isSome=true):=fun⟨n,v⟩ hy=>by
  rcases S.par n (om hy).1 with q|q
  ·exact .inl q
  ·exact .inr ⟨q,kZ _ _ _ (.inl q)⟩
 refine Du (kla_callFunE TU ho rfl S.co S.gen rfl q0 ?_)
 rw[hb]
 refine bL ?_
 refine sS S.kind mJ fun env he s1 y=>?_
 subst he
 refine⟨lim.keeps y.toInCall.keep,kla_codeExpr ?_⟩
 have J:Inv (uF X.prog X.w X.K X.mg X.base N qual scope f (.ref c') A X.stack s H E0) [] (start N vs) H s1:=uG S e0 hl r y
 refine cD (gu [] s1 (start N vs) H R (J.tU _) h) (fun v s' hs=>?_) fun e s' hs=>hs.elim
 obtain⟨v',H',J',rv,q'⟩:=hs
 exact I.after ⟨v',H',J'.os,J'.bare,J'.base,J'.cH,rv,q'⟩
end
section
variable {X:Cx}{pins:List (Addr×Obj)}{σ:St}{H:Hp}{s:Shared}
theorem Inv.Rv {D:Addr}{o:HO}(I:Inv X pins σ H s)(hn:H D=none)(ok:dI X.prog X.w (upd H D o) s.heap D o)(nw:(D∈X.ex∨X.s₀.heap.objs.size<=D)/\D≠X.env.locals/\(∀x k,X.env.cells.lookup x=some k->k≠D)/\ ∀p∈X.pn ++ pins,p.1≠D)
  (hx:X.s₀.heap.objs.size<=D):Inv X pins σ (upd H D o) s:=by
 have off: ∀b u,H b=some u->b≠D:=fun b u z=>aL z hn
 have low: ∀b ob,X.s₀.heap.get? b=some ob->b≠D:=fun b ob z=>aY (bp (aK z) hx)
 refine⟨I.ok,I.os,I.bare,⟨I.base.keep,I.base.slot,fun b ob z n hb=>?_,I.base.there,fun b xs z=>?_,fun b ob u z=>?_,fun b ps z=>?_⟩,I.loc,I.cell,?_,fun x k z=>?_,fun p hp=>?_,fun b u z=>?_,I.len⟩
 ·rw[ay (low b ob z)]
  exact I.base.free b ob z n hb
 ·have w:=I.base.qe b xs z
  rw[ay (off b _ w)]
  exact w
 ·have w:=I.base.o6 b ob u z
  rw[ay (off b _ w)]
  exact w
 ·obtain⟨m,w⟩:=I.base.o7 b ps z
  exact⟨m,by rw[ay (off b _ w)]; exact w⟩
 ·rw[ay nw.2.1.symm]
  exact I.free
 ·rw[ay (nw.2.2.1 x k z)]
  exact I.iR x k z
 ·obtain⟨w1,w2,w3⟩:=I.pin p hp
  exact⟨w1,by rw[ay (nw.2.2.2 p hp)]; exact w2,w3⟩
 ·by_cases q:b=D
  ·subst q
   rw[ag] at z
   cases z
   exact ok
  ·rw[ay q] at z
   exact(I.cH b u z).sU (fun _ _ _ w=>w) (fun d w=>by rw[ay (off d _ w)]; exact w) fun d xs w=>by rw[ay (off d _ w)]; exact w
theorem Frame.sql {K:PySem.W.Frag}{fp:List Addr}{H H':Hp}{a:Addr}{xs:List V}(f:Frame fp H H')(h:bQ K H a xs)(ha: ∀o,H a=some o->a∉fp):bQ K H' a xs:=by
 rcases h with(h|⟨o,h⟩)|h
 ·exact .inl (.inl (f _ _ (ha _ h) h))
 ·exact .inl (.inr ⟨o,f _ _ (ha _ h) h⟩)
 ·exact .inr h
theorem Tb.upd {P:Addr}{pos:Pos}{qual:Str}{p:Addr}{o:HO}(t:Tb H P pos qual)(hp:H p=none):Tb (upd H p o) P pos qual:=by
 obtain⟨ps,h1,h2,h3⟩:=t
 refine⟨ps,by rw[ay (aL h1 hp)]; exact h1,h2,?_⟩
 rcases h3 with h3|⟨c',h3,h4⟩
 ·exact .inl h3
 ·exact .inr ⟨c',h3,by rw[ay (aL h4 hp)]; exact h4⟩
theorem Frame.new {fp:List Addr}{H H':Hp}{p:Addr}{o:HO}(f:Frame fp H H')(hp:H' p=none):Frame fp H (L2.upd H' p o):=fun b u hb z=>by
 have w:=f b u hb z
 rw[ay (aL w hp)]
 exact w
end
def Mo (K:PySem.W.Frag)(P:Addr)(pos:Pos)(qual:Str)(N:List Str)(tb:TE)(Q:VK)(x:V)(H1:Hp):Prop:= ∃(a:Addr) (xs:List V) (ts:List (List Int)) (key:List Int->Int),x= .ref a/\bQ K H1 a xs/\xs.length < 64/\ts.length=xs.length/\Tb H1 P pos qual/\
 (∀t∈ts,t≠[])/\(∀t∈ts,∀u∈ts,HT.lexLt t u=decide (key t < key u))/\
 (∀i,i < xs.length-> ∀H2,Frame [P] H1 H2-> ∀R:VK,(∀p,H2 p=none->R (.ref p) (upd H2 p (.tup ((ts.getD i []).map V.int))))->tb (start N [xs.getD i .eI]) H2 R)/\
 ∀(D:Addr) (p:List Nat) (H2:Hp),p.Perm (List.range xs.length)->p.Pairwise (fun i j=>key (ts.getD i [])<=key (ts.getD j []))->Frame [P] H1 H2->Tb H2 P pos qual->H1 D=none->H2 D=some (.lst (p.map fun i=>xs.getD i .eI))->Q (.ref D) H2
def Ih (K:PySem.W.Frag)(P:Addr)(pos:Pos)(qual:Str)(N:List Str)(ta tb:TE):TE:=fun σ H Q=>ta σ H (Mo K P pos qual N tb Q)
theorem ig.snoc {H:Hp}: ∀{ts:List (List Int)} {xs:List V} {t:List Int} {p:Addr},ig H ts xs->H p=some (.tup (t.map V.int))->ig H (ts ++ [t]) (xs ++ [.ref p])
 |_,_,_,p,.nil,h=> .cons ⟨p,rfl,h⟩ .nil
 |_,_,_,p,.cons a r,h=> .cons a (ig.snoc r h)
theorem take_succ_getD {α:Type}{l:List α}{i:Nat}{d:α}(h:i < l.length):l.take (i + 1)=l.take i ++ [l.getD i d]:=by
 rw[zL,af h,ai,af h]
 rfl
section
variable {X:Cx}{c P:Addr}{params:Arguments}{body e:Expr}{scope:Scope}{p pos Ij Qv:Pos}{ta tb:TE}{N:List Str}{y:Str}
theorem uH (hg:Gl X "sorted")(hm:X.mg "sorted"=none)(B:BMain X.mg X.base)(D5:X.env.code= .ref c)(C:CodeHd X.base c P)(hr:fA 1 X.A)(S:aW N [y] scope)
  (gu: ∀(f c':Addr) (A:Around) (s:Shared) (H:Hp),PE (uF X.prog X.w X.K X.mg X.base N (X.env.qual ++ "<lambda>") scope f (.ref c') A X.stack s H E0).E6 body tb) (ha:PE X e ta)
  (hb: ∀(pm D7 u:Value) (c':Addr),bindArgs (kla_fn "<lambda>" (X.env.qual ++ "<lambda>") params body scope [] pm (.ref c') D7) ⟨[u],[]⟩=pure ([y].zip [u]):=by intros; rfl)
  (NY:defaultsOf params X.env=([],[]):=by rfl) (qB:closureFor scope X.env=pure []:=by rfl)
  (he:backTo pos (starEach [e] X.env)=(false,eval e X.env) :: backTo pos (starEach [] X.env):=by rfl)
  (hs:starEach [e] X.env=(false,eval e X.env) :: starEach [] X.env:=by rfl) (Co:(backTo pos (starEach [e] X.env)).any (·.1)=false:=by rfl):
  PE X (.Call (.Name "sorted" p) [e] [⟨some "key",.Lambda params body scope Ij,Qv⟩] pos) (Ih X.K P Ij (X.env.qual ++ "<lambda>") N ta tb):=by
 intro pins s σ H Q I h
 refine eM (o9 I hg hm (u:= .builtin "sorted") (by rfl) ?_)
 refine PyProof.Rows.callWith_kw (ej ((aa ha ak hs) pos pins s σ H (fun vs H1=>match vs with|[x]=>Mo X.K P Ij (X.env.qual ++ "<lambda>") N tb Q x H1|_=>False) I h) fun us s1 h1=>?_) he Co rfl rfl
 obtain⟨vs,H1,I1,rv,q1⟩:=h1
 cases vs with
 |nil=>exact q1.elim
 |cons x vs=>
 cases vs with
 |cons _ _=>exact q1.elim
 |nil=>
 obtain⟨a,xs,ts,key,rfl,hS,BS,iX,Yh,jf,Hd,hbd,fin⟩:=q1
 obtain⟨u,rfl,ru⟩:=vals1 rv
 obtain rfl:u=Value.ref a:=ru
 show wpAny _ _ (evalAll [(do let v ← eval (.Lambda params body scope Ij) X.env; standAt pos; pure v)]) _ _ s1
 refine wpAny_evalAll_cons (az (Ie I1 B D5 C Yh NY qB fun f c' D7 H2 s2 I2 Yi tb2 Kd NW TR hle=>az (iy (bL (wpAny_evalAll_nil ?_)))))
 show wpAny _ _ (call (.builtin "sorted") [.ref a] [(Str.ofString "key",.ref f)]) _ _ s2
 have aP: ∀o,H1 a=some o->a∉[P]:=fun o z w=>by
  obtain⟨ps,hP,_⟩:=Yh
  have w':=ao.mp w
  rcases hS with(hS|⟨_,hS⟩)|⟨ob,_,_,hK,qB,_⟩
  ·rw[w',hP] at hS; cases hS
  ·rw[w',hP] at hS; cases hS
  ·have e1:=I1.gP _ _ hK
   have e2:s1.heap.get? P=some _:=I1.cH P _ hP
   rw[w',e2] at e1
   cases e1
   cases qB
 have NZ:=Yi.sql hS aP
 obtain⟨cy,VY,pl,hz⟩:=I2.list NZ
 have hl:=VY.length
 have lf:f < s2.heap.objs.size:=aK NW
 have VQ:s1.heap.objs.size<=s2.heap.objs.size:=a6 hle (dB lf)
 refine sortedK pl.isList (by omega) fun D kS e1 h' kp d1 k1 Yj PD TV=>?_
 have I3:=I2.kept (t':=s2.toks) kp
 have HD:H2 D=none:=I2.cH.fresh PD
 have HK:H2 kS=none:=I2.cH.fresh TV
 have Mp:=I2.jV PD
 have N0:=I2.jV TV
 have nwf:=I1.jV hle
 have fD:f≠D:=aY (bp lf PD)
 have fK:f≠kS:=aY (bp lf TV)
 have dp:X.A.in1.in1.depth < recursionLimit:=hr.depth
 generalize Rx:kla_obj "<lambda>" (X.env.qual ++ "<lambda>") params body scope [] ((X.mg "__name__").getD .none) c' D7=PF at NW
 have loop: ∀(r:List Value) (i:Nat) (ks:List Value) (bo:List V) (Hi:Hp) (si:Shared),r=cy.drop i->i<=xs.length->Inv X (pins ++ [(f,PF),(D,seqObj "list" #[] e1)]) σ Hi si->(∃e,si.heap.get? kS=some (seqObj "list" ks.toArray e))->Hi kS=none->
   Frame [P] H1 Hi->Tb Hi P Ij (X.env.qual ++ "<lambda>")->Hi c'=some (xv c' (X.env.qual ++ "<lambda>"))->ig Hi (ts.take i) bo->Vals bo ks->
   sC X.prog X.w X.A.in1.in1 kS (.ref f) (FE X.prog X.w X.A.in1.in1 D kS e1 cy (fun s'=>EP X pins σ Q (.ref D) s')) r ks si:=by
  intro r
  induction r with
  |nil=>
   intro i ks bo Hi si hr hi Ii hk K1 TX VZ TY hT rk
   have ei:i=xs.length:=by
    have:=di List.length hr
    rw[vA,mq] at this
    omega
   have N1:ig Hi ts bo:=by rwa [ei,← iX,bf] at hT
   have lk:bo.length=xs.length:=by have:=N1.length; omega
   have lk2:=rk.length
   obtain⟨w1,w2,_⟩:=Ii.pin (D,seqObj "list" #[] e1) (List.mem_append_right _ (List.mem_append_right _ (by simp)))
   refine⟨tuples' true,fun i=>key (ts.getD i []),Yj,w1,fun h2 Q' q'=>?_,fun a b C ha hb q'=>?_,fun pr h5 n Ry hUp hsz hD5 Mq=>?_⟩
   ·obtain⟨fs,f1,f2,f3⟩:=rG Ii (fun _ _ z=>z) N1 rk jf
    refine kat_kind (T:= .type "int") f1 (by omega) (fun v hv=>?_) rfl q'
    obtain⟨n,t,rfl⟩:=f3 v hv
    exact Looks.of_pure rfl
   ·obtain⟨p1,g1,g2⟩:=N1.get (i:=a) (by omega)
    obtain⟨p2,g3,g4⟩:=N1.get (i:=b) (by omega)
    have v1:=jG rk a
    have v2:=jG rk b
    rw[g1] at v1
    rw[g3] at v2
    have v1':ks.getD a Value.none= .ref p1:=v1
    have v2':ks.getD b Value.none= .ref p2:=v2
    rw[v1',v2']
    obtain⟨o1,Vw,n1,Fy,Z4,lV,Q0⟩:=Ii.tupI g2
    obtain⟨o2,Fj,n2,Pt,KG,hd2,Q1⟩:=Ii.tupI g4
    refine kat_lt Fy lV Pt hd2 ?_
    have l1:=Q0.length
    have l2:=Q1.length
    have m1:ts.getD a []∈ts:=by rw[ai,af (show a < ts.length by omega)]; exact bO _
    have m2:ts.getD b []∈ts:=by rw[ai,af (show b < ts.length by omega)]; exact bO _
    have kx:=mO (prog:=X.prog) (w:=X.w) (A:=X.A.in1.in1) (b:=true) (Q:=C) (s:=si) 0 Q0 Q1 (by rw[Hd _ m1 _ m2]; exact q')
    rw[bA,bA,l1,l2]
    exact kx
   ·have In:=Ii.jc
    have bt:mT (Cb X.stack) [D,kS] si.heap h5:=fun b o z nb=>by
     have n1:b≠D:=fun w=>nb (by simp[w])
     have n2:b≠kS:=fun w=>nb (by simp[w])
     have e:=(Mq b n1 n2).trans z
     exact⟨fun _=>e,o.slots,e⟩
    have I5:=In.but bt (fun cc hc=>by
     rcases aw.mp hc with rfl|hc
     ·exact⟨w2,Mp⟩
     ·rw[ao.mp hc]
      exact⟨K1,N0⟩)
    have mP:=Ry.size
    have I6:=I5.Rv (D:=D) (o:= .lst (pr.toList.map fun i=>xs.getD i .eI)) w2 ⟨by rw[ae,oq,mP]; exact a6 (iM hl.symm) hz,_,n,rF VY pr.toList,hD5⟩ Mp (a6 I2.sz PD)
    refine⟨.ref D,_,I6,rfl,fin D pr.toList _ ?_ ?_ (TX.new w2) (VZ.upd w2) (I1.cH.fresh (a6 VQ PD)) ag⟩
    ·have:=Ry.list
     rwa [← hl] at this
    ·exact sq mP hUp
  |cons v r ih=>
   intro i ks bo Hi si hr hi Ii hk K1 TX VZ TY hT rk
   have yk:i < xs.length:=by
    have:=di List.length hr
    rw[cu,mq] at this
    omega
   have hv:v=cy.getD i Value.none/\r=cy.drop (i + 1):=by
    rw[MU (by omega)] at hr
    injection hr with h1 h2
    refine⟨?_,h2⟩
    rw[h1,ai,af (by omega)]
    rfl
   obtain⟨hv,V0⟩:=hv
   obtain⟨ek,hk⟩:=hk
   have Ip:Inv X (pins ++ [(f,PF),(D,seqObj "list" #[] e1)] ++ [(kS,seqObj "list" ks.toArray ek)]) σ Hi si:=Ii.tG fun p hp=>by
    rcases bq.mp hp with hp|hp
    ·exact Ii.pin p (bE _ hp)
    ·rw[ao.mp hp]
     exact⟨hk,K1,N0.2.1,I2.E3 TV,fun v z=>by cases z⟩
   have V3:si.heap.get? f=some PF:=(Ip.pin (f,PF) (List.mem_append_right _ (List.mem_append_left _ (List.mem_append_right _ (by simp))))).1
   have q0:si.heap.CodeRec (.ref c') (X.env.qual ++ "<lambda>"):=(Ip.cH c' _ TY).1
   have Yk:=jG VY i
   rw[← hv] at Yk
   show wpAny _ _ (call (.ref f) [v]) _ _ si
   refine cD (Ig (us:=[v]) (vs:=[xs.getD i .eI]) (R:=fun y H'=> ∃p,y= .ref p/\Hi p=none/\H'=upd Hi p (.tup ((ts.getD i []).map V.int))) (xe:=fun _ _=>False) Ip Ip.Hh.in1.in1 dp (by rw[V3,← Rx]) q0 S (hb _ _ _ _) rfl (.cons Yk .nil) (gu _ _ _ _ _)
    (hbd i yk Hi TX _ fun p hp=>⟨p,rfl,hp,rfl⟩)) (fun u s5 h5=>?_) fun _ _ z=>z
   obtain⟨y,H5,I5,ry,pp,rfl,JP,rfl⟩:=h5
   obtain rfl:u=Value.ref pp:=ry
   obtain⟨z1,z2,_⟩:=I5.pin (kS,seqObj "list" ks.toArray ek) (List.mem_append_right _ (List.mem_append_right _ (by simp)))
   refine⟨ek,z1,fun h6 cc sb hk6=>?_⟩
   have I6:Inv X (pins ++ [(f,PF),(D,seqObj "list" #[] e1)]) σ _ _:=Inv.jc I5
   have I7:=I6.turned (t':=s5.toks) (it:=kS) (h':=h6) (fun b o n z=>(sb.2 b n).trans z) z2 N0.2.1 N0.1 N0.2.2.1 (fun p hp=>by
    rcases bq.mp hp with hp|hp
    ·exact N0.2.2.2 p (df _ hp)
    ·rcases bq.mp hp with hp|hp
     ·exact N0.2.2.2 p (bE _ hp)
     ·rcases aw.mp hp with rfl|hp
      ·exact fK
      ·rw[ao.mp hp]
       exact Yj)
   have cpp:c'≠pp:=aL TY JP
   refine ih (i + 1) (ks ++ [.ref pp]) (bo ++ [.ref pp]) _ _ V0 yk I7 ⟨cc,hk6⟩ z2 (TX.new JP) (VZ.upd JP) (by rw[ay cpp]; exact TY) ?_ (rk.append (show Vals [V.ref pp] [Value.ref pp] from .cons rfl .nil))
   rw[take_succ_getD (d:=[]) (by omega)]
   exact ig.snoc (hT.mono fun b xs z=>by rw[ay (aL z JP)]; exact z) ag
 have Ip:Inv X (pins ++ [(f,PF),(D,seqObj "list" #[] e1)]) σ H2 {s2 with heap:=h'}:=I3.tG fun p hp=>by
  rcases bq.mp hp with hp|hp
  ·exact I3.pin p (bE _ hp)
  ·rcases aw.mp hp with rfl|hp
   ·exact⟨kp _ _ NW,Kd,nwf.2.1,I1.E3 hle,fun v z=>by rw[← Rx] at z; cases z⟩
   ·rw[ao.mp hp]
    exact⟨d1,HD,Mp.2.1,I2.E3 PD,fun v z=>by cases z⟩
 exact loop cy 0 [] [] H2 _ rfl (bF _) Ip ⟨0,k1⟩ HK Yi tb2 TR .nil .nil
end
theorem FO {P:Program}{w:World}{K:PySem.W.Frag}{mg mb:Str->Option Value}{CX:Ff}{k:Nat}{fa a:Addr}{fd:FuncData}{x:Str}{sp:Sp}{s₁:Shared}{vs:List Value}{ns:List Int}{cps:List (Addr×Addr)}
  (KX:K.In s₁.heap) (Yl:s₁.heap.Ns mainGlobals mg) (hb:s₁.heap.Ns builtinsNs mb) (hbb: ∀x:Str,x≠"__name__"->mb x=bootBuiltins x) (V4:s₁.heap.NoLimit) (hg:s₁.gens= #[])
  (ha:s₁.heap.get? a=some {cls:= .type "list",data:= .seq vs.toArray}) (hi:IntsAre vs ns) (hl:ns.length<=sizeLine) (hr:fA k callerA)
  (bm:BMain mg s₁.heap) (PB: ∀cp∈cps,s₁.heap.get? cp.2=some (tabObj #[])) (Rz: ∀cp∈cps,codeHdIn K cp.1 cp.2=true/\K.lookup cp.2=none)
  (F: ∀base:Heap,K.In base->base.Ns mainGlobals mg->BMain mg base->lN P w K mg base CX k fa fd [x] sp) (RA: ∀(s:Shared) (u:Value),BindsTo s fd ⟨[u],[]⟩ [(x,u)])
  (ya: ∀H:Hp,(∀cp∈cps,H cp.2=some (.mB #[]))->bQ K H a (ns.map V.int)->sp [.ref a] H (fun v _=>v= .bl true) fun _ _ _=>False)
  (hCX: ∀H e s',CX [] H s₁ (fun _ _ _=>False) e s'->False):
  codeAny (model P w) callerA (.call (.ref fa) ⟨[.ref a],[]⟩) (fun r s'=>r= .ok (.ret (.bool true))/\OldK s₁.heap s'.heap/\s'.os=s₁.os/\AllBare s'.gens) s₁:=by
 have rv:=xk hi
 have RB:=hi.length
 have aT: ∀cp∈cps,cp.2≠a:=fun cp hc z=>by
  have e:=PB cp hc
  rw[z,ha] at e
  cases e
 have core: ∀H:Hp,(∀b,H b=none∨(b=a/\H b=some (.BQ {cls:= .type "list",data:= .seq vs.toArray} (.lst (ns.map V.int)))/\K.lookup a=none)∨ ∃cp∈cps,b=cp.2/\H b=some (.mB #[]))->(∀cp∈cps,H cp.2=some (.mB #[]))->bQ K H a (ns.map V.int)->
   codeAny (model P w) callerA (.call (.ref fa) ⟨[.ref a],[]⟩) (fun r s'=>r= .ok (.ret (.bool true))/\OldK s₁.heap s'.heap/\s'.os=s₁.os/\AllBare s'.gens) s₁:=by
  intro H hO hT hS
  have cH:ow P w H s₁.heap:=fun b u z=>by
   rcases hO b with w|⟨rfl,w,_⟩|⟨cp,hc,rfl,w⟩
   ·rw[z] at w; cases w
   ·rw[z] at w
    cases w
    exact⟨ha,by rw[ae]; exact hl,vs,_,rv,ha⟩
   ·rw[z] at w
    cases w
    exact PB cp hc
  have yw: ∀{b:Addr} {o:Obj},s₁.heap.get? b=some o->H b=none->(vF s₁.heap H).get? b=some o:=fun e n=>G4 e n
  have Ym: ∀{b:Addr} {o:Obj},s₁.heap.get? b=some o->((∃es ep,o.data= .dict es ep)∨o.data= .plain)->H b=none:=fun{b o} e d=>by
   rcases hO b with w|⟨rfl,w,_⟩|⟨cp,hc,rfl,w⟩
   ·exact w
   ·rw[ha] at e
    cases e
    rcases d with⟨es,ep,d⟩|d <;> cases d
   ·rw[PB cp hc] at e
    cases e
    rcases d with⟨es,ep,d⟩|d <;> cases d
  have TZ: ∀{b:Addr} {m:Str->Option Value},s₁.heap.Ns b m->(vF s₁.heap H).Ns b m:=fun{b m} ⟨o,es,ep,e,d,r⟩=>⟨o,es,ep,yw e (Ym e (.inl ⟨es,ep,d⟩)),d,r⟩
  have Yn:K.In (vF s₁.heap H):=fun b o e=>yw (KX b o e) (by
   rcases hO b with w|⟨rfl,w,hk⟩|⟨cp,hc,rfl,w⟩
   ·exact w
   ·rw[hk] at e; cases e
   ·rw[(Rz cp hc).2] at e; cases e)
  have hBb:BMain mg (vF s₁.heap H):=by
   obtain⟨b,o,b1,b2,b3,b4,b5,b6,b7⟩:=bm
   exact⟨b,o,b1,b2,b3,yw b4 (Ym b4 (.inr b7)),b5,b6,b7⟩
  have hM:Mod K mg (vF s₁.heap H):=⟨Yn,TZ Yl,⟨mb,TZ hb,hbb⟩,let⟨mc,h1,h2⟩:=V4; ⟨mc,TZ h1,h2⟩⟩
  have e0:qj P w K mg (vF s₁.heap H) callerA [] s₁ H:=⟨rfl,hM,fun b o e=>J2 e,Nat.le_of_eq (E2 _ _),trivial,fun b hb=>absurd (show b∈([]:List Addr) from hb) (by simp),cH,.of_eq hg⟩
  refine B6 ((F _ Yn (TZ Yl) hBb).run callerA [] s₁ H ⟨[.ref a],[]⟩ [.ref a] [.ref a] _ _ hr e0 (RA s₁ (.ref a)) (.cons rfl .nil) (ya H hT hS)) fun r s' h=>?_
  cases r with
  |error e=>exact(hCX H e s' h).elim
  |ok fl=>
   cases fl with
   |next=>exact False.elim h
   |brk=>exact False.elim h
   |cont=>exact False.elim h
   |ret u=>
    obtain⟨v,H',os,bare,un,RC,r',q⟩:=h
    have q':v= .bl true:=q
    subst q'
    obtain rfl:u=Value.bool true:=r'
    have old: ∀b o,s₁.heap.get? b=some o->asItWas s₁.heap s'.heap b o:=fun b o e=>by
     rcases hO b with z|⟨rfl,z,_⟩|⟨cp,hc,rfl,z⟩
     ·exact .inl (un.keep b o e z (by intro w; exact absurd (show b∈([]:List Addr) from w) (by simp)) (by simp))
     ·have z2:=un.o6 b _ _ z
      obtain⟨e2,_⟩:=RC b _ z2
      rw[ha] at e
      cases e
      exact .inl e2
     ·obtain⟨more,z2⟩:=un.o7 _ _ z
      have e2:s'.heap.get? cp.2=some (tabObj (#[] ++ more)):=RC _ _ z2
      have e1:=PB cp hc
      rw[e1] at e
      cases e
      obtain⟨oc,ws,_,_,_,_,_,_,_,c1,c2,c3,c4,_⟩:=codeHd_of_K KX (Rz cp hc).1
      exact .inr (.inl ⟨⟨cp.1,oc,ws,c1,c2,c3,c4⟩,rfl,#[],more,rfl,e2⟩)
    refine⟨rfl,⟨old,fun b o e=>?_⟩,os,bare⟩
    exact un.there b o e (by simp)
 cases hk:K.lookup a with
 |some o=>
  have e:=KX a o hk
  rw[ha] at e
  cases e
  refine core (fun b=>if b∈cps.map (·.2) then some (.mB #[]) else none) (fun b=>?_) (fun cp hc=>if_pos (List.mem_map.mpr ⟨cp,hc,rfl⟩)) (.inr ⟨_,vs.toArray,_,hk,rfl,rfl,rfl,by rw[List.size_toArray,RB]; exact hl,by simpa using rv⟩)
  by_cases hb:b∈cps.map (·.2)
  ·obtain⟨cp,hc,rfl⟩:=bP.mp hb
   exact .inr (.inr ⟨cp,hc,rfl,a8 hb⟩)
  ·exact .inl (aQ hb)
 |none=>
  have na:a∉cps.map (·.2):=fun h=>by
   obtain⟨cp,hc,z⟩:=bP.mp h
   exact aT cp hc z
  refine core (fun b=>if b=a then some (.BQ {cls:= .type "list",data:= .seq vs.toArray} (.lst (ns.map V.int))) else if b∈cps.map (·.2) then some (.mB #[]) else none) (fun b=>?_) (fun cp hc=>?_) (.inl (.inr ⟨{cls:= .type "list",data:= .seq vs.toArray},a8 rfl⟩))
  ·by_cases h1:b=a
   ·exact .inr (.inl ⟨h1,by rw[a8 h1],hk⟩)
   ·by_cases hb:b∈cps.map (·.2)
    ·obtain⟨cp,hc,rfl⟩:=bP.mp hb
     exact .inr (.inr ⟨cp,hc,rfl,by rw[aQ h1,a8 hb]⟩)
    ·exact .inl (by rw[aQ h1,aQ hb])
  ·show(if cp.2=a then _ else if cp.2∈cps.map (·.2) then _ else _)=_
   rw[aQ (aT cp hc),a8 (bP.mpr ⟨cp,hc,rfl⟩)]
theorem Ik {l:PySem.W.OpenLaw}{n k:Nat}{q:Program}{loose:List Str}{XP:(Str->Option Value)->Heap->Prop}{YP:World->Heap->Prop}{d:DefRec}{K:Params->PySem.W.Frag}{ts:List Addr}{sp:PySem.W.Frag->List (Addr×Addr)->Sp}{x:Str}
  (hn:l.most=some n) (Tv:n<=sizeLine) (Vj:d.params.defaults=[]) (hr:fA k callerA)
  (hY: ∀(w:World) (h:Heap),YP w h->(K w.params).In h/\ ∀P∈ts,h.get? P=some (tabObj #[]))
  (F: ∀(w:World) (mg:Str->Option Value) (fa:Addr) (h:Heap),(K w.params).In h->h.Ns mainGlobals mg->mg d.name=some (.ref fa)->
   ∃(fd:FuncData) (cps:List (Addr×Addr)),(∀cp∈cps,cp.2∈ts)/\(∀cp∈cps,codeHdIn (K w.params) cp.1 cp.2=true/\(K w.params).lookup cp.2=none)/\(∀(s:Shared) (u:Value),BindsTo s fd ⟨[u],[]⟩ [(x,u)])/\
    ∀base:Heap,(K w.params).In base->base.Ns mainGlobals mg->BMain mg base->lN l.prog w (K w.params) mg base sk k fa fd [x] (sp (K w.params) cps))
  (ya: ∀(K:PySem.W.Frag) (cps:List (Addr×Addr)) (H:Hp) (a:Addr) (ns:List Int),ns.length<=n->(∀cp∈cps,H cp.2=some (.mB #[]))->bQ K H a (ns.map V.int)->sp K cps [.ref a] H (fun v _=>v= .bl true) fun _ _ _=>False):
  PySem.W.WalkO q loose XP YP l.row.toRowW d [] (fun f vs=>PySem.call f vs):=by
 refine XW.Aj hn Vj fun w s₀ s₁ mg mb fa o pm cd doc a vs ns G Y ho hd q0 QM Nu hints hlen hg=>?_
 obtain⟨KX,hT⟩:=hY w _ Y
 obtain⟨fd,cps,h1,h2,hb,hF⟩:=F w mg fa _ KX G.T.g QM
 obtain⟨bm,ob,b1,b2,b3,b4,b5,b6⟩:=G.T.bmain
 have b7:bm≠mainGlobals:=fun z=>by
  obtain⟨o',es,ep,e,E4,_⟩:=G.T.g
  rw[z,e] at b3
  cases b3
  rw[E4] at b6
  cases b6
 exact FO KX G.T.g G.T.b G.T.builtins G.T.nolimit hg Nu hints (a6 hlen Tv) hr ⟨bm,ob,b1,b2,b7,b3,b4,b5,b6⟩ (fun cp hc=>hT _ (h1 cp hc)) h2 hF hb (fun H hO hS=>ya _ cps H a ns hlen hO hS) fun H e s' z=>z
end L2
namespace eT
open PySem L2 PyProof.Rows JL
seal L2.o8 L2.PS L2.PE L2.PT L2.PW L2.PA L2.PC L2.PG L2.JF L2.PI L2.Kt L2.JH L2.PO L2.ox L2.Mc L2.iz L2.Ho L2.Ng
def top (i:Nat):Stmt:=PySem.Challenge.pw_spikebook_k06_whole_never_twice.main.body.getD i (.Pass ⟨0,0,0,0⟩)
structure Txt (K:PySem.W.Frag)(mg:Str->Option Value):Prop where
 CF:Df K mg "place_of" (top 1)
 N2:Df K mg "fits" (top 15)
 vR:Df K mg "counts_from" (top 16)
 FP:Df K mg "bills_in_order" (top 17)
 CG:Df K mg "credits_in_order" (top 18)
 K2:Df K mg "alike" (top 20)
 vS:Df K mg "first_alike" (top 21)
 yx:Df K mg "shared_out" (top 22)
 CI:Df K mg "parts_of" (top 23)
 uI:Df K mg "check_amount" (top 26)
 vT:Df K mg "row_of_fits" (top 27)
 N3:Df K mg "done" (top 30)
 yy:Df K mg "done_again" (top 31)
 CJ:Df K mg "settings" (top 33)
 yz:Df K mg "answers_in" (top 34)
 Ax:Df K mg "answer_of" (top 35)
 FQ:Df K mg "owed_at" (top 36)
 FR:Df K mg "free_at" (top 37)
 uJ:Df K mg "remaining_at" (top 38)
 vU:Df K mg "counting_at" (top 39)
 Ay:Df K mg "counts_at" (top 40)
 FT:Df K mg "ages_at" (top 41)
 Az:Df K mg "_law_room" (top 43)
 AA:Df K mg "_law_draw" (top 44)
 yA:Df K mg "_law_whole" (top 45)
 yB:Df K mg "_law_alike" (top 46)
 vV:Df K mg "_law_people" (top 47)
 vW:Df K mg "_law_penned" (top 48)
 vX:Df K mg "_law_chosen" (top 49)
 yC:Df K mg "_law_hasty" (top 50)
 vY:Df K mg "_law_due_in" (top 51)
 yD:Df K mg "_law_deeds" (top 52)
 yE:Df K mg "_law_begun" (top 53)
 AB:Df K mg "_law_goes" (top 54)
 CK:Df K mg "_law_put" (top 55)
 uK:Df K mg "_law_in_turn" (top 56)
 yF:Df K mg "_law_swept" (top 57)
 vZ:Df K mg "_law_barred" (top 58)
 yG:Df K mg "_law_enter" (top 59)
 v7:Df K mg "_law_worked" (top 60)
 yH:Df K mg "_law_tells" (top 61)
 AD:Df K mg "_law_done" (top 62)
 oA:Df K mg "_law_gone_through" (top 63)
 Yo:Df K mg "law" (top 64)
 eY:mg "len"=none
 dN:mg "isinstance"=none
 xx:mg "int"=none
 N4:mg "bool"=none
 D8:mg "str"=none
 rM:mg "list"=none
 tK:mg "tuple"=none
 nU:mg "range"=none
 AE:mg "min"=none
 RD:mg "max"=none
 Il:mg "sum"=none
 uL:mg "sorted"=none
 ji:mg "enumerate"=none
 N5:mg "dict"=none
 AF:mg "Exception"=none
end eT
namespace L2
open PySem PySem.Spec PySem.W PyProof.Rows JL
structure V5 (P:Program)(w:World)(K:PySem.W.Frag)(mg:Str->Option Value)(base:Heap)(k:Nat)(fa:Addr)(sp:Sp):Prop where
 ex: ∃(fd:FuncData) (ps:List Str),lN P w K mg base sk k fa fd ps sp/\PySem.W.keepIn K (.ref fa)=true/\Binds K fd ps []
theorem fz.Yp {P:Program}{w:World}{K:PySem.W.Frag}{mg:Str->Option Value}{base:Heap}{x:Str}{k:Nat}{ps:List Str}{sp:Sp}(C:fz P w K mg base x k ps sp): ∃fa,mg x=some (.ref fa)/\V5 P w K mg base k fa sp:=by
 obtain⟨f,fd,F,hm,hk,hb⟩:=C.ex
 exact⟨f,hm,⟨fd,ps,F,hk,hb⟩⟩
section
variable {X:Cx}{x:Str}{i k:Nat}{e:Expr}{es:List Expr}{t:TA}{p pos:Pos}
def N6 (P:Program)(w:World)(K:PySem.W.Frag)(mg:Str->Option Value)(base:Heap)(k i:Nat)(t:TA):TE:=fun σ H Q=> ∃fa sp,σ[i]? =some (some (.ref fa))/\V5 P w K mg base k fa sp/\t σ H fun vs H1=>sp vs H1 Q E0
theorem N7 (hr:fA k X.A)(hN:X.N[i]? =some x)(hv:P9 X.env.scope x)(ha:PA X (e :: es) t)(hd:(x == ("__debug__":Str))=false:=by decide)(q0:(x == ("__classdict__":Str))=false:=by decide)
  (he:starEach (e :: es) X.env=(false,eval e X.env) :: starEach es X.env:=by rfl) (iO:(backTo pos (starEach es X.env)).any (·.1)=false:=by rfl):PE X (.Call (.Name x p) (e :: es) [] pos) (N6 X.prog X.w X.K X.mg X.base k i t):=by
 rintro pins s σ H Q I ⟨fa,sp,e1,⟨fd,ps,F,hk,hb⟩,h⟩
 refine eM (ej (Cc hN hv hd q0 pins s σ H (fun v H'=>v= .ref fa/\H'=H) I ⟨_,e1,rfl,rfl⟩) ?_)
 rintro u s1 ⟨v,H1,I1,rv,rfl,rfl⟩
 obtain rfl:u=Value.ref fa:=rv
 refine km (h₀:=X.base) I.ok.mod.Ka hk (ej (ha pos pins s1 σ H1 _ I1 h) fun us s2 ⟨vs,H2,I2,r,q⟩=>⟨I2.gP,?_⟩) he iO
 exact xZ F hr hb .nil mM I2 r (by rw[cA]; exact q)
end
theorem AG {X:Cx}:iz X (.type "dict") (fun xs H Q=> ∃a bo,xs=[.ref a]/\H a=some (.dK bo)/\ ∀p,H p=none->Q (.ref p) (upd H p (.dK bo))):=by
 intro pins s σ H xs us Q I r h
 obtain⟨a,bo,rfl,e,q⟩:=h
 obtain⟨u,rfl,ru⟩:=vals1 r
 cases ru
 exact Hy I (.inl e) fun p s' hp I'=>⟨.ref p,_,I',rfl,q p hp⟩
def D9 (P:Program)(w:World)(d:Addr)(bo:List (Key×V))(φ:Heap->Prop):Prop:=(∀(H:Hp) (h:Heap),φ h->dI P w H h d (.dK bo))/\ ∀q:Str,φ≠fun h=>h.CodeRec (.ref d) q
def RE (P:Program)(w:World)(td:TE)(g:TG)(tb:TS):TS:=fun D σ H=>td σ H fun v H1=> ∃d bo,v= .ref d/\H1 d=some (.dK bo)/\ ∀φ,D9 P w d bo φ->
 ∃W:Nat->Nat->St->Hp->Prop,(∃m,W 0 m σ (upd H1 d (.ext φ)))/\ ∀i m σ' H',W i m σ' H'->H' d=some (.ext φ)/\((bo.length<=i/\D.nx σ' (upd H' d (.dK bo)))∨
  ∃x,(bo.map (·.2))[i]? =some x/\ ∃N:St->Hp->Prop,(∀Ky GQ,N Ky GQ-> ∃m',m' < m/\W (i + 1) m' Ky GQ)/\g x σ' H' fun σ2 H2=>tb {D with nx:=N,ct:=N,bk:=fun _ _=>False} σ2 H2)
theorem K3 {X:Cx}{tg o:Expr}{apos gR pos:Pos}{body:List Stmt}{td:TE}{g:TG}{tb:TS}(hp:PassesOwn (model X.prog X.w) X.A X.env X.xe)(hc:X.calm=true)(ho:PE X o td)(hg:PG X tg g)(hb:o8 X body tb)
  (ua:attributeBase o "values" X.env (eval o X.env)=eval o X.env:=by rfl) (Ae:(apos.endLine == gR.line)=true:=by rfl)
  (hs: ∀x,foldedSetIterable (.Call (.Attribute o "values" apos) [] [] gR) X.env x=pure x:=by intro _; rfl):PS X (.For tg (.Call (.Attribute o "values" apos) [] [] gR) body [] pos) (RE X.prog X.w td g tb):=by
 intro pins s σ H D I h
 refine wpAny_For (wpAny_Call_method0_late ua Ae (ej (ho pins s σ H _ I h) ?_)) hs
 rintro u s1 ⟨v,H1,I1,rv,d,bo,rfl,ed,h⟩
 obtain rfl:u=Value.ref d:=rv
 obtain⟨hz,hd,vs,rel,dd⟩:=DK I1.cH ed
 refine⟨"dict","dict.values",PySem.F.plainAttrs_dict,Ph,PySem.F.type_dict_values,dd.typeIs,dd.mapOf.noDict,iT rfl (PySem.evalArgs_none ?_)⟩
 refine call_meetsIn Ph dd.typeIs PySem.F.entry_dict_values (PySem.F.args_dict_values_1 _) (meets_dict_values (d8 X.prog X.w) d hd) ⟨⟨vs,dd⟩,?_⟩
 have I2:=I1.kept (t':=s1.toks) (h':=s1.heap.push {cls:= .type "dict_values",data:= .fields #[.ref d]}) (fun b ob e=>ax _ e)
 obtain⟨ep,da⟩:=dd.dictAt
 obtain⟨od,es,NX,r⟩:=id da
 have V6: ∀h:Heap,h.get? d=some od->h.DictAt (d8 X.prog X.w) d vs ep:=fun h e=>⟨od,es,e,r⟩
 have Yq:D9 X.prog X.w d bo (fun h=>h.get? d=some od):=⟨fun H h e=>⟨hz,hd,vs,rel,⟨od,es,ep,e,r⟩⟩,fun q z=>by
  have z1:(s1.heap.get? d=some od)=s1.heap.CodeRec (.ref d) q:=congrFun z s1.heap
  obtain⟨c,o,VP,t,e1,e2,e3,_⟩:=Eq.mp z1 NX
  cases e1
  rw[NX] at e2
  cases e2
  rw[r.2.1] at e3
  cases e3⟩
 obtain⟨W,⟨m0,w0⟩,turn⟩:=h _ Yq
 generalize Yr:s1.heap.push {cls:= .type "dict_values",data:= .fields #[.ref d]}=h2 at I2
 have hv2:h2.IsValuesView s1.heap.objs.size d:=by
  rw[← Yr]
  exact⟨_,bS _ rfl,rfl,rfl⟩
 have RF:h2.get? d=some od:=by
  rw[← Yr]
  exact ax _ NX
 refine wpAny_pyIter_values (knd:=d8 X.prog X.w) hv2 (V6 _ RF) ?_
 have I3:=I2.kept (t':=s1.toks) (h':=h2.push {cls:= .type "dict_valueiterator",data:= .fields #[.ref d,.int 0 0,.int vs.length 0,.int ep 0]}) (fun b ob e=>ax _ e)
 have N8:(h2.push {cls:= .type "dict_valueiterator",data:= .fields #[.ref d,.int 0 0,.int vs.length 0,.int ep 0]}).IsValIter h2.objs.size d 0 vs.length ep:=⟨_,bS _ rfl,rfl,rfl⟩
 have K4:(h2.push {cls:= .type "dict_valueiterator",data:= .fields #[.ref d,.int 0 0,.int vs.length 0,.int ep 0]}).get? d=some od:=ax _ RF
 have BU:H1 h2.objs.size=none:=I2.cH.fresh (aB _)
 have jf:d≠h2.objs.size:=aL ed BU
 have V7:=I2.E7 (aB _) BU
 generalize h2.push {cls:= .type "dict_valueiterator",data:= .fields #[.ref d,.int 0 0,.int vs.length 0,.int ep 0]}=h3 at I3 N8 K4
 generalize h2.objs.size=it at N8 BU jf V7
 have I4:Inv X pins σ (upd H1 d (.ext fun h=>h.get? d=some od)) {s1 with heap:=h3}:=by
  refine I3.write (x:=d) (e:=d) (t':=s1.toks) (h':=h3) (by rw[ed]; exact True.intro) (.inl rfl) (fun _ _ _ q=>q) ⟨od,K4⟩ ?_
  exact⟨K4,⟨od,K4⟩,fun h1 h2 q k=>k od q⟩
 have fit:upd H1 d (.ext fun h=>h.get? d=some od) it=none:=by
  rw[ay jf.symm]
  exact BU
 have RB:vs.length=bo.length:=(aX rel).symm
 refine codeAny_forLoop_any (fun n s'=> ∃i σ' H',Inv X pins σ' H' s'/\s'.heap.IsValIter it d i vs.length ep/\H' it=none/\W i n σ' H') ?_ m0 ⟨0,σ,_,I4,N8,fit,w0⟩
 rintro n s5 ⟨i,σ5,H5,I5,Ys,Pn,w5⟩
 obtain⟨e5,tn⟩:=turn i n σ5 H5 w5
 have V8:s5.heap.get? d=some od:=(I5.cH d _ e5).1
 have f5:tV X pins H5 it:=⟨Pn,V7.2⟩
 obtain⟨f0,f1,f2,f3,f4,f6⟩:=f5
 rcases tn with⟨hle,qn⟩|⟨x,hx,N,hN,step⟩
 ·refine dY hp (wpAny_pyNext_values_end (knd:=d8 X.prog X.w) (I5.ok.hd hc) Ys (V6 _ V8) (by rw[qc]; omega) fun h6 eb=>?_)
  have I6:Inv X pins σ5 H5 {s5 with heap:=h6}:=I5.turned (t':=s5.toks) (fun b o hb e=>eb b o hb e) f0 f1 f3 f4 f6
  have Yt:h6.get? d=some od:=eb d od jf V8
  have I7:=I6.write (x:=d) (e:=d) (t':=s5.toks) (h':=h6) (o:= .dK bo) (by rw[e5]; exact True.intro) (.inl rfl) (fun _ _ _ q=>q) ⟨od,Yt⟩ (Yq.1 _ _ Yt)
  exact jq ⟨σ5,_,I7,qn⟩
 ·rw[aD] at hx
  obtain⟨kv,T1,rfl⟩:=bM.mp hx
  obtain⟨ku,hku,e1,ru⟩:=bT rel T1
  obtain⟨k1,u⟩:=ku
  refine dY hp (wpAny_pyNext_values_item (knd:=d8 X.prog X.w) Ys (V6 _ V8) hku fun h6 it6 sb=>?_)
  have I6:Inv X pins σ5 H5 {s5 with heap:=h6}:=I5.turned (t':=s5.toks) (fun b o hb e=>(sb.2 b hb).trans e) f0 f1 f3 f4 f6
  obtain⟨oi,Fy,Pt,V9⟩:=id it6
  refine dY hp (Dy (s:={s5 with heap:=h6}) Fy Pt V9 (by decide +kernel) ?_)
  have I6':Inv X (pins ++ pq [it] h6) σ5 H5 {s5 with heap:=h6}:=I6.pinned (fun b hb=>by rw[ao.mp hb]; exact⟨Pn,V7.2⟩) (fun b hb=>by
   rw[ao.mp hb]
   exact⟨oi,Fy,fun v z=>by rw[V9] at z; cases z⟩)
  refine dY hp (ej (hg _ _ σ5 H5 kv.2 u _ I6' ru step) fun _ s7 ⟨σ7,H7,I7,q7⟩=>?_)
  refine dY hp (ej (hb _ s7 σ7 H7 _ I7 q7) fun f s8 q8=>?_)
  have again: ∀{σ8:St} {H8:Hp},Inv X (pins ++ pq [it] h6) σ8 H8 s8->N σ8 H8-> ∃m,m < n/\ ∃i σ' H',Inv X pins σ' H' s8/\s8.heap.IsValIter it d i vs.length ep/\H' it=none/\W i m σ' H':=fun{σ8 H8} I8 n8=>by
   obtain⟨m',hm,w8⟩:=hN σ8 H8 n8
   have pn:=I8.pin (it,oi) (List.mem_append_right _ (List.mem_append_right _ (jO (by simp) Fy)))
   exact⟨m',hm,i + 1,σ8,H8,I8.jc,⟨oi,pn.1,Pt,V9⟩,pn.2.1,w8⟩
  cases f with
  |next=>obtain⟨σ8,H8,I8,n8⟩:=q8; exact again I8 n8
  |cont=>obtain⟨σ8,H8,I8,n8⟩:=q8; exact again I8 n8
  |brk=>obtain⟨σ8,H8,I8,q8⟩:=q8; exact q8.elim
  |ret v=>obtain⟨x8,σ8,H8,I8,r8,q8⟩:=q8; exact⟨x8,σ8,H8,I8.jc,r8,q8⟩
theorem Io {P:Program}{w:World}{td:TE}{g:TG}{tb:TS}{D:Ends}{σ:St}{H1:Hp}{d:Addr}{bo:List (Key×V)}(ed:H1 d=some (.dK bo))
  (h: ∀φ,D9 P w d bo φ-> ∃Pv:Nat->St->Hp->Prop,Pv 0 σ (upd H1 d (.ext φ))/\(∀i σ' H',Pv i σ' H'->H' d=some (.ext φ))/\(∀i x σ' H',(bo.map (·.2))[i]? =some x->Pv i σ' H'->g x σ' H' fun σ2 H2=>tb {D with nx:=Pv (i + 1),ct:=Pv (i + 1),bk:=fun _ _=>False} σ2 H2)/\
   ∀σ' H',Pv bo.length σ' H'->D.nx σ' (upd H' d (.dK bo))):
  ∃d' Iq,V.ref d= .ref d'/\H1 d'=some (.dK Iq)/\ ∀φ,D9 P w d' Iq φ->
 ∃W:Nat->Nat->St->Hp->Prop,(∃m,W 0 m σ (upd H1 d' (.ext φ)))/\ ∀i m σ' H',W i m σ' H'->H' d'=some (.ext φ)/\((Iq.length<=i/\D.nx σ' (upd H' d' (.dK Iq)))∨
  ∃x,(Iq.map (·.2))[i]? =some x/\ ∃N:St->Hp->Prop,(∀Ky GQ,N Ky GQ-> ∃m',m' < m/\W (i + 1) m' Ky GQ)/\g x σ' H' fun σ2 H2=>tb {D with nx:=N,ct:=N,bk:=fun _ _=>False} σ2 H2):=by
 refine⟨d,bo,rfl,ed,fun φ hφ=>?_⟩
 obtain⟨Pv,p0,pk,ps,pe⟩:=h φ hφ
 refine⟨fun i m σ' H'=>m=bo.length - i/\i<=bo.length/\Pv i σ' H',⟨bo.length,by simp,Nat.zero_le _,p0⟩,?_⟩
 rintro i m σ' H' ⟨rfl,hi,p⟩
 refine⟨pk i σ' H' p,?_⟩
 by_cases iX:i < bo.length
 ·have hg:(bo.map (·.2))[i]? =some bo[i].2:=by rw[aD,af iX]; rfl
  exact .inr ⟨_,hg,Pv (i + 1),fun Ky GQ p'=>⟨bo.length - (i + 1),by omega,rfl,iX,p'⟩,ps i _ σ' H' hg p⟩
 ·have e:i=bo.length:=by omega
  subst e
  exact .inl ⟨aB _,pe σ' H' p⟩
theorem mU {α:Type}(f:α->Int): ∀(l2 l1:List α),l1.Perm l2->l1.Pairwise (fun a b=>f a<=f b)->l2.Pairwise (fun a b=>f a < f b)->l1=l2
 |[],l1,p,_,_=>List.Perm.eq_nil p
 |b :: l2,[],p,_,_=>absurd p.length_eq (by simp)
 |b :: l2,a :: l1,p,h1,h2=>by
  rw[fh] at h1 h2
  have hb:b∈a :: l1:=p.mem_iff.mpr bC
  have e:a=b:=by
   rcases aw.mp (p.mem_iff.mp (bC (a:=a) (l:=l1))) with e|ha
   ·exact e
   ·rcases aw.mp hb with e|hb
    ·exact e.symm
    ·have z1:=h1.1 b hb
     have z2:=h2.1 a ha
     omega
  subst e
  rw[mU f l2 l1 (List.Perm.cons_inv p) h1.2 h2.2]
theorem K5 {x y:Int×Nat}(hx:x.2 < 1000)(hy:y.2 < 1000)(h:sY x=sY y):x.2=y.2:=by
 unfold sY at h
 omega
theorem AH {l:List (Int×Nat)}(h: ∀x∈l,x.2 < 1000)(nd:(l.map (·.2)).Nodup):(fP l).Pairwise (fun a b=>sY a < sY b):=by
 have p:=dM l
 have T2:((fP l).map (·.2)).Nodup:=(p.map (·.2)).nodup_iff.mpr nd
 have h': ∀x∈fP l,x.2 < 1000:=fun x hx=>h x (p.mem_iff.mp hx)
 have le:=uq l
 generalize fP l=m at T2 h' le
 induction m with
 |nil=>exact .nil
 |cons a m ih=>
  rw[fh] at le ⊢
  rw[dj,eA] at T2
  refine⟨fun b hb=>?_,ih T2.2 (fun x hx=>h' x (aU _ hx)) le.2⟩
  have z:=le.1 b hb
  have n:sY a≠sY b:=fun e=>T2.1 (by
   rw[K5 (h' a bC) (h' b (aU _ hb)) e]
   exact bP.mpr ⟨b,hb,rfl⟩)
  omega
def uM (t:List Int):Int:=t.getD 0 0 * 1000 + t.getD 1 0
theorem uN {x y:Int×Nat}{u v:List Int}(hx:x.2 < 1000)(hy:y.2 < 1000)(h:x.2=y.2->u=v/\x=y)(hs:HT.lexLt u u=false):HT.lexLt (x.1 :: (x.2:Int) :: u) (y.1 :: (y.2:Int) :: v)=decide (uM (x.1 :: (x.2:Int) :: u) < uM (y.1 :: (y.2:Int) :: v)):=by
 show _ =decide (x.1 * 1000 + (x.2:Int) < y.1 * 1000 + (y.2:Int))
 rw[HT.px]
 by_cases c:x.1=y.1
 ·rw[a8 c,HT.px]
  by_cases d:x.2=y.2
  ·rw[a8 (by omega),← (h d).1,hs,bN (by omega)]
  ·rw[aQ (by omega)]
   exact mr.mpr (by omega)
 ·rw[aQ c]
  exact mr.mpr (by omega)
theorem AI {ks:List (Int×Nat)}{g:Int×Nat->List Int}{us:List (List Int)}(h: ∀x∈ks,x.2 < 1000)(nd:(ks.map (·.2)).Nodup)(hg: ∀x∈ks,uM (g x)=sY x)(p:us.Perm (ks.map g))(le:us.Pairwise (fun t u=>uM t<=uM u)):us=(fP ks).map g:=by
 refine mU uM _ _ (p.trans ((dM ks).map g).symm) le ?_
 rw[rj]
 refine(AH h nd).imp_of_mem fun{a b} ha hb z=>?_
 rw[hg a ((dM ks).mem_iff.mp ha),hg b ((dM ks).mem_iff.mp hb)]
 exact z
theorem dD.tk {H H':Hp}{sd:Addr}{S:Bk}{f:fL}(h:dD H sd S f)(k:Frame f.fp H H'):cU H H':=fun b xs e=>k b _ (fun hb=>by
 obtain⟨ms,m1,_⟩:=h.hm
 unfold fL.fp at hb
 rcases aw.mp hb with rfl|hb
 ·rw[h.hb] at e; cases e
 ·rcases aw.mp hb with rfl|hb
  ·rw[h.hc] at e; cases e
  ·rcases aw.mp hb with rfl|hb
   ·rw[m1] at e; cases e
   ·have rows: ∀(rs:List Rw) (ps:List Addr),fc H rs ps->b∈ps->False:=fun rs ps hr hp=>by
     obtain⟨i,hi⟩:=xW hp
     have iX:i < rs.length:=by
      rw[hr.length]
      exact(au.mp hi).1
     obtain⟨q,e1,e2⟩:=hr.at iX
     rw[e1] at hi
     cases hi
     rw[e2] at e
     cases e
    rcases bq.mp hb with hb|hb
    ·exact rows _ _ h.rb hb
    ·exact rows _ _ h.rc hb) e
theorem Frame.l0 {fp:List Addr}{H1 H2 H3:Hp}(a:aG H1 H2)(b:Frame fp H2 H3):Frame fp H1 H3:=fun x o hx e=>b x o hx (a x o e)
theorem Frame.cZ {fp:List Addr}{H1 H2 H3:Hp}(a:Frame fp H1 H2)(b:aG H2 H3):Frame fp H1 H3:=fun x o hx e=>b x o (a x o hx e)
theorem Frame.tr {fp:List Addr}{H1 H2 H3:Hp}(a:Frame fp H1 H2)(b:Frame fp H2 H3):Frame fp H1 H3:=fun x o hx e=>b x o hx (a x o hx e)
def JJ.dt:JJ->Dt
 | .int i=> .int i
 | .txt s=> .str s
 | .sets l=> .lst (l.map fun t=> .tup [.int t.1,.int t.2.1,.int t.2.2])
 | .pairs l=> .lst (l.map fun t=> .tup [.int t.1,.int t.2])
 | .ints l=> .lst (l.map Dt.int)
theorem gQ.T3 {H:Hp}: ∀{ms:List (Nat×Nat×Int)} {vs:List V},gQ H ms vs->iL H (ms.map fun t=> .tup [.int t.1,.int t.2.1,.int t.2.2]) vs
 |_,_,.nil=>ee.mpr rfl
 |_,_,.cons ⟨p,e,q⟩ t=>by
  subst e
  exact cf.mpr ⟨_,_,rfl,fZ q (cf.mpr ⟨_,_,rfl,eJ.mpr rfl,cf.mpr ⟨_,_,rfl,eJ.mpr rfl,cf.mpr ⟨_,_,rfl,eJ.mpr rfl,ee.mpr rfl⟩⟩⟩),gQ.T3 t⟩
def fL.ir (f:fL)(p:Addr):fL:={f with iu:=f.iu ++ [p]}
def fL.fU (f:fL)(p:Addr):fL:={f with cps:=f.cps ++ [p]}
theorem fL.Ir (f:fL)(p:Addr):(f.ir p).fp.Perm (p :: f.fp):=by
 show(f.pb :: f.pc :: f.pm :: ((f.iu ++ [p]) ++ f.cps)).Perm (p :: f.pb :: f.pc :: f.pm :: (f.iu ++ f.cps))
 have h:((f.iu ++ [p]) ++ f.cps).Perm (p :: (f.iu ++ f.cps)):=by
  rw[gH]
  exact List.perm_middle
 exact(((h.cons f.pm).trans (List.Perm.swap _ _ _)).cons f.pc |>.trans (List.Perm.swap _ _ _)).cons f.pb |>.trans (List.Perm.swap _ _ _)
theorem fL.Ea (f:fL)(p:Addr):(f.fU p).fp.Perm (p :: f.fp):=by
 show(f.pb :: f.pc :: f.pm :: (f.iu ++ (f.cps ++ [p]))).Perm (p :: f.pb :: f.pc :: f.pm :: (f.iu ++ f.cps))
 have h:(f.iu ++ (f.cps ++ [p])).Perm (p :: (f.iu ++ f.cps)):=by
  rw[← gH]
  exact List.perm_append_singleton _ _
 exact(((h.cons f.pm).trans (List.Perm.swap _ _ _)).cons f.pc |>.trans (List.Perm.swap _ _ _)).cons f.pb |>.trans (List.Perm.swap _ _ _)
theorem dD.off {H:Hp}{sd D:Addr}{S:Bk}{f:fL}(h:dD H sd S f)(n:H D=none):D∉f.fp:=fun z=>by
 obtain⟨ms,m1,_⟩:=h.hm
 have rows: ∀(rs:List Rw) (ps:List Addr),fc H rs ps->D∈ps->False:=fun rs ps hr hp=>by
  obtain⟨i,hi⟩:=xW hp
  have iX:i < rs.length:=by
   rw[hr.length]
   exact(au.mp hi).1
  obtain⟨q,e1,e2⟩:=hr.at iX
  rw[e1] at hi
  cases hi
  rw[n] at e2
  cases e2
 unfold fL.fp at z
 rcases aw.mp z with rfl|z
 ·have:=h.hb; rw[n] at this; cases this
 rcases aw.mp z with rfl|z
 ·have:=h.hc; rw[n] at this; cases this
 rcases aw.mp z with rfl|z
 ·rw[n] at m1; cases m1
 rcases bq.mp z with z|z
 ·exact rows _ _ h.rb z
 ·exact rows _ _ h.rc z
section
variable {H:Hp}{sd pr:Addr}{S:Bk}{f:fL}{r:Rw}
theorem dD.ir (h:dD H sd S f)(n:H pr=none):dD (upd (upd H pr (.lst r.vs)) f.pb (.lst (f.iu.map V.ref ++ [.ref pr]))) sd (S.ir r) (f.ir pr):=by
 have s1:aG H (upd H pr (.lst r.vs)):=aG.new n
 have h1:=h.same s1
 have g1:upd H pr (.lst r.vs) pr=some (.lst r.vs):=ag
 have np:=h.off n
 have K6:sd≠pr:=aL h.dict n
 generalize upd H pr (.lst r.vs)=H1 at s1 h1 g1
 obtain⟨d1,d2,d3,d4,d5,d6,d7⟩:=fL.Q5 h.nd
 obtain⟨ms,m1,m2⟩:=h1.hm
 have es:sd≠f.pb:=fun z=>h.ns (by rw[z]; simp[fL.fp])
 have ep:pr≠f.pb:=fun z=>np (by rw[z]; simp[fL.fp])
 refine⟨by rw[ay es]; exact h1.dict,?_,by rw[show(f.ir pr).pc=f.pc from rfl,ay d1.symm]; exact h1.hc,⟨ms,by rw[show(f.ir pr).pm=f.pm from rfl,ay d2.symm]; exact m1,m2.mono (gx h1.hb)⟩,?_,?_,?_,?_⟩
 ·show upd H1 f.pb _ f.pb=some (.lst ((f.iu ++ [pr]).map V.ref))
  rw[ag,aR]; rfl
 ·exact cV (h1.rb.ip fun z=>(d4 _ z).1 rfl) (by rw[ay ep]; exact g1)
 ·exact h1.rc.ip fun z=>(d5 _ z).1 rfl
 ·exact(f.Ir pr).nodup_iff.mpr (eA.mpr ⟨np,h.nd⟩)
 ·intro z
  rcases aw.mp ((f.Ir pr).mem_iff.mp z) with z|z
  ·exact K6 z
  ·exact h.ns z
theorem dD.fU (h:dD H sd S f)(n:H pr=none):dD (upd (upd H pr (.lst r.vs)) f.pc (.lst (f.cps.map V.ref ++ [.ref pr]))) sd (S.fU r) (f.fU pr):=by
 have s1:aG H (upd H pr (.lst r.vs)):=aG.new n
 have h1:=h.same s1
 have g1:upd H pr (.lst r.vs) pr=some (.lst r.vs):=ag
 have np:=h.off n
 have K6:sd≠pr:=aL h.dict n
 generalize upd H pr (.lst r.vs)=H1 at s1 h1 g1
 obtain⟨d1,d2,d3,d4,d5,d6,d7⟩:=fL.Q5 h.nd
 obtain⟨ms,m1,m2⟩:=h1.hm
 have es:sd≠f.pc:=fun z=>h.ns (by rw[z]; simp[fL.fp])
 have ep:pr≠f.pc:=fun z=>np (by rw[z]; simp[fL.fp])
 refine⟨by rw[ay es]; exact h1.dict,by rw[show(f.fU pr).pb=f.pb from rfl,ay d1]; exact h1.hb,?_,⟨ms,by rw[show(f.fU pr).pm=f.pm from rfl,ay d3.symm]; exact m1,m2.mono (gx h1.hc)⟩,?_,?_,?_,?_⟩
 ·show upd H1 f.pc _ f.pc=some (.lst ((f.cps ++ [pr]).map V.ref))
  rw[ag,aR]; rfl
 ·exact h1.rb.ip fun z=>(d4 _ z).2.1 rfl
 ·exact cV (h1.rc.ip fun z=>(d5 _ z).2.1 rfl) (by rw[ay ep]; exact g1)
 ·exact(f.Ea pr).nodup_iff.mpr (eA.mpr ⟨np,h.nd⟩)
 ·intro z
  rcases aw.mp ((f.Ea pr).mem_iff.mp z) with z|z
  ·exact K6 z
  ·exact h.ns z
end
structure en where
 dZ:Addr
 eo:Addr
 work:Addr
 book:Addr
 refusal:Addr
 jY:Addr
 pL:Addr
 jK:Addr
 iI:Addr
 tooEarly:Addr
 tooMuch:Addr
 jL:Addr
 i6:Addr
def eE (H:Hp)(p C:Addr)(fs:List (Str×V)):Prop:= ∃dx,H p=some (.ins C dx fs)
theorem eE.same {H H':Hp}{p C:Addr}{fs:List (Str×V)}(h:eE H p C fs)(s:aG H H'):eE H' p C fs:=let⟨dx,e⟩:=h; ⟨dx,s _ _ e⟩
theorem eE.frame {H H':Hp}{p C:Addr}{fs:List (Str×V)}{fp:List Addr}(h:eE H p C fs)(s:Frame fp H H')(n:p∉fp):eE H' p C fs:=let⟨dx,e⟩:=h; ⟨dx,s _ _ n e⟩
def sD (c:Int):V:=if c= -1 then .eI else .int c
def fC (i:Nat)(r:Rw):List (Str×V):=[("number",.int i),("who",.str r.aN),("day",.int r.a),("due",.int r.b),("amount",.int r.c)]
def fe (i:Nat)(r:Rw):List (Str×V):=[("number",.int i),("who",.str r.aN),("day",.int r.a),("amount",.int r.b),("only",sD r.c)]
section
variable (i:Nat)(r:Rw)
theorem lu:(fC i r).lookup ("number":Str)=some (V.int i):=by rfl
theorem CL:(fC i r).lookup ("who":Str)=some (V.str r.aN):=by rfl
theorem N9:(fC i r).lookup ("day":Str)=some (V.int r.a):=by rfl
theorem Iu:(fC i r).lookup ("due":Str)=some (V.int r.b):=by rfl
theorem nV:(fe i r).lookup ("number":Str)=some (V.int i):=by rfl
theorem Iv:(fe i r).lookup ("who":Str)=some (V.str r.aN):=by rfl
theorem Iw:(fe i r).lookup ("day":Str)=some (V.int r.a):=by rfl
theorem K7:(fe i r).lookup ("only":Str)=some (sD r.c):=by rfl
end
structure eQ where
 pb:Addr
 pc:Addr
 pl:Addr
 pf:Addr
 pm:Addr
 iu:List Addr
 cps:List Addr
def eQ.fp (f:eQ):List Addr:=[f.pb,f.pc,f.pl,f.pf,f.pm]
def lx (f:eQ):List (Str×V):=[("bills",.ref f.pb),("all_credits",.ref f.pc),("lefts",.ref f.pl),("frees",.ref f.pf),("made",.ref f.pm)]
theorem jj (f:eQ):(lx f).lookup ("bills":Str)=some (V.ref f.pb):=by rfl
theorem hZ (f:eQ):(lx f).lookup ("all_credits":Str)=some (V.ref f.pc):=by rfl
theorem ly (f:eQ):(lx f).lookup ("lefts":Str)=some (V.ref f.pl):=by rfl
theorem lz (f:eQ):(lx f).lookup ("frees":Str)=some (V.ref f.pf):=by rfl
theorem yI (f:eQ):(lx f).lookup ("made":Str)=some (V.ref f.pm):=by rfl
def gy (H:Hp)(C:Addr)(fs:Nat->Rw->List (Str×V))(rows:List Rw)(ps:List Addr):Prop:=ps.length=rows.length/\ ∀i p,ps[i]? =some p->eE H p C (fs i (rows.getD i default))
theorem gy.keep {H H':Hp}{C:Addr}{fs:Nat->Rw->List (Str×V)}{rows:List Rw}{ps:List Addr}(h:gy H C fs rows ps)(k: ∀p dx gs,H p=some (.ins C dx gs)->H' p=some (.ins C dx gs)):gy H' C fs rows ps:=
 ⟨h.1,fun i p e=>let⟨dx,z⟩:=h.2 i p e; ⟨dx,k _ _ _ z⟩⟩
theorem gy.get {H:Hp}{C:Addr}{fs:Nat->Rw->List (Str×V)}{rows:List Rw}{ps:List Addr}(h:gy H C fs rows ps){i:Nat}(hi:i < rows.length): ∃p,ps[i]? =some p/\eE H p C (fs i (rows.getD i default)):=by
 have iX:i < ps.length:=by rw[h.1]; exact hi
 exact⟨ps[i],af iX,h.2 i _ (af iX)⟩
theorem gy.rows {H:Hp}{C:Addr}{fs:Nat->Rw->List (Str×V)}{rows iD:List Rw}{ps:List Addr}(h:gy H C fs rows ps)(hl:iD.length=rows.length)(e: ∀i,fs i (iD.getD i default)=fs i (rows.getD i default)):gy H C fs iD ps:=
 ⟨h.1.trans hl.symm,fun i p z=>by rw[e]; exact h.2 i p z⟩
theorem gy.add {H:Hp}{C p:Addr}{fs:Nat->Rw->List (Str×V)}{rows:List Rw}{r:Rw}{ps:List Addr}(h:gy H C fs rows ps)(n:eE H p C (fs rows.length r)):gy H C fs (rows ++ [r]) (ps ++ [p]):=by
 refine⟨by rw[aF,aF,h.1]; rfl,fun i q e=>?_⟩
 by_cases hi:i < ps.length
 ·rw[MS hi] at e
  rw[getD_snoc (by rw[← h.1]; exact hi)]
  exact h.2 i q e
 ·rw[o4 (by omega)] at e
  have e0:i - ps.length=0:=by
   have:=(au.mp e).1
   simp at this
   omega
  rw[e0] at e
  obtain rfl:p=q:=by simpa using e
  obtain rfl:i=rows.length:=by have:=h.1; omega
  rw[getD_last]
  exact n
structure dO (A:en)(H:Hp)(pw:Addr)(S:Bk)(f:eQ):Prop where
 obj:eE H pw A.work (lx f)
 hb:H f.pb=some (.lst (f.iu.map V.ref))
 hc:H f.pc=some (.lst (f.cps.map V.ref))
 hl:H f.pl=some (.lst (S.aC.map fun r=>V.int r.d))
 hf:H f.pf=some (.lst (S.credits.map fun r=>V.int r.d))
 hm: ∃ms,H f.pm=some (.lst ms)/\gQ H S.made ms
 rb:gy H A.dZ fC S.aC f.iu
 rc:gy H A.eo fe S.credits f.cps
 nd:f.fp.Nodup
section
variable {A:en}{H H':Hp}{pw:Addr}{S:Bk}{f:eQ}
theorem dO.lists (h:dO A H pw S f): ∀p∈f.fp,∃xs,H p=some (.lst xs):=fun p hp=>by
 obtain⟨ms,m1,_⟩:=h.hm
 simp only[eQ.fp,List.mem_cons,List.not_mem_nil,or_false] at hp
 rcases hp with rfl|rfl|rfl|rfl|rfl
 ·exact⟨_,h.hb⟩
 ·exact⟨_,h.hc⟩
 ·exact⟨_,h.hl⟩
 ·exact⟨_,h.hf⟩
 ·exact⟨_,m1⟩
theorem dO.off (h:dO A H pw S f){p:Addr}(n: ∀xs,H p≠some (.lst xs)):p∉f.fp:=fun z=>by
 obtain⟨xs,e⟩:=h.lists p z
 exact n xs e
theorem dO.new (h:dO A H pw S f){p:Addr}(n:H p=none):p∉f.fp:=h.off fun xs e=>by rw[n] at e; cases e
theorem dO.ins (h:dO A H pw S f){p C:Addr}{fs:List (Str×V)}(n:eE H p C fs):p∉f.fp:=h.off fun xs e=>by
 obtain⟨dx,z⟩:=n
 rw[z] at e
 cases e
theorem dO.tk (h:dO A H pw S f)(k:Frame f.fp H H'):cU H H':=fun b xs e=>k b _ (h.off fun ys z=>by rw[e] at z; cases z) e
theorem dO.objs (h:dO A H pw S f)(k:Frame f.fp H H'):eE H' pw A.work (lx f)/\gy H' A.dZ fC S.aC f.iu/\gy H' A.eo fe S.credits f.cps:=by
 have go: ∀{p C:Addr} {dx:Addr} {gs:List (Str×V)},H p=some (.ins C dx gs)->H' p=some (.ins C dx gs):=fun e=>k _ _ (h.off fun ys z=>by rw[e] at z; cases z) e
 exact⟨let⟨dx,e⟩:=h.obj; ⟨dx,go e⟩,h.rb.keep fun _ _ _ e=>go e,h.rc.keep fun _ _ _ e=>go e⟩
theorem dO.same (h:dO A H pw S f)(s:aG H H'):dO A H' pw S f:=by
 obtain⟨o1,o2,o3⟩:=h.objs (s.frame (fp:=f.fp))
 obtain⟨ms,m1,m2⟩:=h.hm
 exact⟨o1,s _ _ h.hb,s _ _ h.hc,s _ _ h.hl,s _ _ h.hf,⟨ms,s _ _ m1,m2.mono s.tk⟩,o2,o3,h.nd⟩
theorem eQ.ne (h:f.fp.Nodup):f.pb≠f.pc/\f.pb≠f.pl/\f.pb≠f.pf/\f.pb≠f.pm/\f.pc≠f.pl/\f.pc≠f.pf/\f.pc≠f.pm/\f.pl≠f.pf/\f.pl≠f.pm/\f.pf≠f.pm:=by
 simp only[eQ.fp,List.nodup_cons,List.mem_cons,List.not_mem_nil,or_false,not_or] at h
 obtain⟨⟨h1,h2,h3,h4⟩,⟨h5,h6,h7⟩,⟨h8,h9⟩,Q7,_⟩:=h
 exact⟨h1,h2,h3,h4,h5,h6,h7,h8,h9,Q7⟩
theorem xy {rows:List Rw}{i:Nat}{x:Int}:(rows.set i ((rows.getD i default).less x)).map (fun r=>V.int r.d)=(rows.map fun r=>V.int r.d).set i (.int ((rows.getD i default).d - x)):=by
 rw[vD]; rfl
theorem dO.put (h:dO A H pw S f){c b:Nat}{x:Int}{ms:List V}{p:Addr}(hc:c < S.credits.length)(hb:b < S.aC.length)(m1:H f.pm=some (.lst ms))(m2:gQ H S.made ms)(np:H p=none):
  dO A (upd (upd (upd (upd H f.pf (.lst ((S.credits.map fun r=>V.int r.d).set c (.int ((S.cr c).d - x))))) f.pl (.lst ((S.aC.map fun r=>V.int r.d).set b (.int ((S.bl b).d - x))))) p (.tup [.int c,.int b,.int x])) f.pm (.lst (ms ++ [.ref p]))) pw (S.put c b x) f/\
  Frame f.fp H (upd (upd (upd (upd H f.pf (.lst ((S.credits.map fun r=>V.int r.d).set c (.int ((S.cr c).d - x))))) f.pl (.lst ((S.aC.map fun r=>V.int r.d).set b (.int ((S.bl b).d - x))))) p (.tup [.int c,.int b,.int x])) f.pm (.lst (ms ++ [.ref p]))):=by
 obtain⟨e1,e2,e3,e4,e5,e6,e7,e8,e9,Mr⟩:=eQ.ne h.nd
 have pf: ∀q∈f.fp,q≠p:=fun q hq z=>h.new np (z▸hq)
 have i1:f.pb∈f.fp:=by simp[eQ.fp]
 have i2:f.pc∈f.fp:=by simp[eQ.fp]
 have i3:f.pl∈f.fp:=by simp[eQ.fp]
 have i4:f.pf∈f.fp:=by simp[eQ.fp]
 have i5:f.pm∈f.fp:=by simp[eQ.fp]
 have t3: ∀(G:Hp) (q:Addr),q≠f.pf->q≠f.pl->q≠p->q≠f.pm-> ∀(a b c d:HO),upd (upd (upd (upd G f.pf a) f.pl b) p c) f.pm d q=G q:=fun G q h1 h2 h3 h4 a b c d=>by
  rw[ay h4,ay h3,ay h2,ay h1]
 have F:Frame f.fp H (upd (upd (upd (upd H f.pf (.lst ((S.credits.map fun r=>V.int r.d).set c (.int ((S.cr c).d - x))))) f.pl (.lst ((S.aC.map fun r=>V.int r.d).set b (.int ((S.bl b).d - x))))) p (.tup [.int c,.int b,.int x])) f.pm (.lst (ms ++ [.ref p]))):=fun q o hq e=>by
  rw[t3 H q (fun z=>hq (z▸i4)) (fun z=>hq (z▸i3)) (aL e np) (fun z=>hq (z▸i5))]
  exact e
 refine⟨?_,F⟩
 obtain⟨o1,o2,o3⟩:=h.objs F
 have tk:=h.tk F
 refine⟨o1,by rw[t3 H _ e3 e2 (pf _ i1) e4]; exact h.hb,by rw[t3 H _ e6 e5 (pf _ i2) e7]; exact h.hc,?_,?_,⟨_,ag,?_⟩,?_,?_,h.nd⟩
 ·rw[ay e9,ay (pf _ i3),ag]
  show _ =some (HO.lst ((S.aC.set b ((S.aC.getD b default).less x)).map fun r=>V.int r.d))
  rw[xy]; rfl
 ·rw[ay Mr,ay (pf _ i4),ay e8.symm,ag]
  show _ =some (HO.lst ((S.credits.set c ((S.credits.getD c default).less x)).map fun r=>V.int r.d))
  rw[xy]; rfl
 ·refine cV (m2.mono tk) ⟨p,rfl,?_⟩
  rw[ay (pf _ i5).symm,ag]
 ·refine o2.rows dQ fun i=>?_
  show fC i ((S.put c b x).bl i)=fC i (S.bl i)
  rw[mQ hb]
  split
  ·rename_i z; subst z; rfl
  ·rfl
 ·refine o3.rows dQ fun i=>?_
  show fe i ((S.put c b x).cr i)=fe i (S.cr i)
  rw[pF hc]
  split
  ·rename_i z; subst z; rfl
  ·rfl
end
end L2
namespace eT
open PySem L2 PyProof.Rows JL
def K8:Stmt->List Stmt
 | .ClassDef _ _ _ b _ _ _ _ _ _ _=>b
 |_=>[]
def mem (i j:Nat):Stmt:=(K8 (top i)).getD j (.Pass ⟨0,0,0,0⟩)
structure jB (K:PySem.W.Frag)(mg:Str->Option Value)(A:en):Prop where
 fV:mg "Refusal"=some (.ref A.refusal)
 CM:gX K A.refusal A.refusal
 Oa:PySem.W.keepIn K (.ref A.refusal)=true
 gz: ∃f fd,gv K "__init__" "Refusal.__init__" (mem 3 0) f fd/\D3 K A.refusal f
 AJ:mg "NoCredit"=some (.ref A.jY)
 sE:gX K A.jY A.refusal
 AK:PySem.W.keepIn K (.ref A.jY)=true
 AL: ∃f fd,gv K "__init__" "NoCredit.__init__" (mem 4 0) f fd/\PySem.W.findIn K (.ref A.jY) "__init__"=some (some (.ref f))/\PySem.W.typeIn K (.ref f)=some (.type "function")
 FU:mg "NoBill"=some (.ref A.pL)
 xA:gX K A.pL A.refusal
 FV:PySem.W.keepIn K (.ref A.pL)=true
 FW: ∃f fd,gv K "__init__" "NoBill.__init__" (mem 5 0) f fd/\PySem.W.findIn K (.ref A.pL) "__init__"=some (some (.ref f))/\PySem.W.typeIn K (.ref f)=some (.type "function")
 yJ:mg "NotTheirs"=some (.ref A.jK)
 qC:gX K A.jK A.refusal
 yK:PySem.W.keepIn K (.ref A.jK)=true
 yL: ∃f fd,gv K "__init__" "NotTheirs.__init__" (mem 6 0) f fd/\PySem.W.findIn K (.ref A.jK) "__init__"=some (some (.ref f))/\PySem.W.typeIn K (.ref f)=some (.type "function")
 AM:mg "NoAmount"=some (.ref A.iI)
 kC:gX K A.iI A.refusal
 AN:PySem.W.keepIn K (.ref A.iI)=true
 AO: ∃f fd,gv K "__init__" "NoAmount.__init__" (mem 7 0) f fd/\PySem.W.findIn K (.ref A.iI) "__init__"=some (some (.ref f))/\PySem.W.typeIn K (.ref f)=some (.type "function")
 AQ:mg "TooEarly"=some (.ref A.tooEarly)
 sF:gX K A.tooEarly A.refusal
 AR:PySem.W.keepIn K (.ref A.tooEarly)=true
 AS: ∃f fd,gv K "__init__" "TooEarly.__init__" (mem 8 0) f fd/\PySem.W.findIn K (.ref A.tooEarly) "__init__"=some (some (.ref f))/\PySem.W.typeIn K (.ref f)=some (.type "function")
 uO:mg "TooMuch"=some (.ref A.tooMuch)
 pM:gX K A.tooMuch A.refusal
 CO:PySem.W.keepIn K (.ref A.tooMuch)=true
 CP: ∃f fd,gv K "__init__" "TooMuch.__init__" (mem 9 0) f fd/\PySem.W.findIn K (.ref A.tooMuch) "__init__"=some (some (.ref f))/\PySem.W.typeIn K (.ref f)=some (.type "function")
 yM:mg "NoSetting"=some (.ref A.jL)
 qD:gX K A.jL A.refusal
 yN:PySem.W.keepIn K (.ref A.jL)=true
 yO: ∃f fd,gv K "__init__" "NoSetting.__init__" (mem 10 0) f fd/\PySem.W.findIn K (.ref A.jL) "__init__"=some (some (.ref f))/\PySem.W.typeIn K (.ref f)=some (.type "function")
 xB:mg "Needed"=some (.ref A.i6)
 xC:gX K A.i6 A.refusal
 FX:PySem.W.keepIn K (.ref A.i6)=true
 FY: ∃f fd,gv K "__init__" "Needed.__init__" (mem 11 0) f fd/\PySem.W.findIn K (.ref A.i6) "__init__"=some (some (.ref f))/\PySem.W.typeIn K (.ref f)=some (.type "function")
 K9:mg "Bill"=some (.ref A.dZ)
 eu:vI K A.dZ
 eU:cz K A.dZ "number"
 kE:cz K A.dZ "who"
 mV:cz K A.dZ "day"
 mW:cz K A.dZ "due"
 mX:cz K A.dZ "amount"
 La: ∃f fd,gv K "__init__" "Bill.__init__" (mem 13 0) f fd/\Mk K A.dZ f
 FZ:mg "Credit"=some (.ref A.eo)
 dm:vI K A.eo
 eR:cz K A.eo "number"
 kQ:cz K A.eo "who"
 ja:cz K A.eo "day"
 lA:cz K A.eo "amount"
 jZ:cz K A.eo "only"
 F6: ∃f fd,gv K "__init__" "Credit.__init__" (mem 14 0) f fd/\Mk K A.eo f
 Lb:mg "Work"=some (.ref A.work)
 bJ:vI K A.work
 eh:cz K A.work "bills"
 cO:cz K A.work "all_credits"
 fE:cz K A.work "lefts"
 fF:cz K A.work "frees"
 jC:cz K A.work "made"
 Lc: ∃f fd,gv K "__init__" "Work.__init__" (mem 25 0) f fd/\Mk K A.work f
 qE: ∃f fd,gv K "tell_bill" "Work.tell_bill" (mem 25 1) f fd/\Meth K A.work "tell_bill" f
 mY: ∃f fd,gv K "tell_payment" "Work.tell_payment" (mem 25 2) f fd/\Meth K A.work "tell_payment" f
 qF: ∃f fd,gv K "tell_note" "Work.tell_note" (mem 25 3) f fd/\Meth K A.work "tell_note" f
 oB: ∃f fd,gv K "tell_credit" "Work.tell_credit" (mem 25 4) f fd/\Meth K A.work "tell_credit" f
 oC: ∃f fd,gv K "set_by_hand" "Work.set_by_hand" (mem 25 5) f fd/\Meth K A.work "set_by_hand" f
 wa: ∃f fd,gv K "sweep" "Work.sweep" (mem 25 6) f fd/\Meth K A.work "sweep" f
 qG: ∃f fd,gv K "one_round" "Work.one_round" (mem 25 7) f fd/\Meth K A.work "one_round" f
 AU: ∃f fd,gv K "put" "Work.put" (mem 25 8) f fd/\Meth K A.work "put" f
 qH: ∃f fd,gv K "credit_at" "Work.credit_at" (mem 25 9) f fd/\Meth K A.work "credit_at" f
 sZ: ∃f fd,gv K "bill_at" "Work.bill_at" (mem 25 10) f fd/\Meth K A.work "bill_at" f
 Ld:mg "Book"=some (.ref A.book)
 eL:vI K A.book
 gK:cz K A.book "kept"
 fW:cz K A.book "work"
 Le: ∃f fd,gv K "__init__" "Book.__init__" (mem 29 0) f fd/\Mk K A.book f
 CQ: ∃f fd,gv K "do" "Book.do" (mem 29 1) f fd/\Meth K A.book "do" f
 yP: ∃f fd,gv K "undo" "Book.undo" (mem 29 2) f fd/\Meth K A.book "undo" f
 rN: ∃f fd,gv K "in_force" "Book.in_force" (mem 29 3) f fd/\Meth K A.book "in_force" f
end eT
namespace L2
open PySem PySem.Spec PySem.W PyProof.Rows JL
structure gY (CX:Ff)(P:Program)(w:World)(K:PySem.W.Frag)(mg:Str->Option Value)(base:Heap)(C:Addr)(m:Str)(k:Nat)(ps:List Str)(sp:Sp):Prop where
 ex: ∃(f:Addr) (fd:FuncData),vI K C/\Meth K C m f/\lN P w K mg base CX k f fd ps sp/\Binds K fd ps []
structure uP (P:Program)(w:World)(K:PySem.W.Frag)(mg:Str->Option Value)(base:Heap)(x:Str)(k:Nat)(ps:List Str)(sp:Sp):Prop where
 ex: ∃(f:Addr) (fd:FuncData),lN P w K mg base (mw P w mg) k f fd ps sp/\mg x=some (.ref f)/\PySem.W.keepIn K (.ref f)=true/\Binds K fd ps []
structure tf (P:Program)(w:World)(K:PySem.W.Frag)(mg:Str->Option Value)(base:Heap)(x:Str)(C:Addr)(k:Nat)(ps:List Str)(sp:Sp):Prop where
 ex: ∃(f:Addr) (fd:FuncData),Mk K C f/\lN P w K mg base sk k f fd ps sp/\Binds K fd ps []/\mg x=some (.ref C)
section
variable {X:Cx}{CX:Ff}{C:Addr}{x m:Str}{k:Nat}{ps:List Str}{sp:Sp}{o e:Expr}{es:List Expr}{ta:TE}{t:TA}{p pos apos:Pos}{E:XK}
theorem mZ {pl:Sem Bool}(M:gY CX X.prog X.w X.K X.mg X.base C m k ps sp)(hr:fA k X.A)(hx:Passes CX X E)(he:PE X o ta)(ha:PA X (e :: es) t)
  (r9:starEach (e :: es) X.env=(false,eval e X.env) :: starEach es X.env:=by rfl) (iO:(backTo pos (starEach es X.env)).any (·.1)=false:=by rfl)
  (ht:eval (.Call (.Attribute o m apos) (e :: es) [] pos) X.env=(do
   let ov ← eval o X.env
   standAt apos.atName
   let(f,first) ← holding [ov] (getMethod ov m pl)
   callWith pos f first (backTo pos (starEach (e :: es) X.env)) (backToKw pos (keywordEach [] X.env))):=by rfl):
  PE X (.Call (.Attribute o m apos) (e :: es) [] pos) (Md C m sp [] E ta t):=by
 obtain⟨f,fd,hc,hm,F,hb⟩:=M.ex
 exact Kj he hc hm F hr hb .nil hx ha r9 iO ht
theorem rO (M:uP X.prog X.w X.K X.mg X.base x k ps sp)(hr:fA k X.A)(hg:Gl X x)(hx:Passes (mw X.prog X.w X.mg) X E)(ha:PA X (e :: es) t)(rD:(x == ("__debug__":Str))=false:=by decide)
  (he:starEach (e :: es) X.env=(false,eval e X.env) :: starEach es X.env:=by rfl) (iO:(backTo pos (starEach es X.env)).any (·.1)=false:=by rfl):PE X (.Call (.Name x p) (e :: es) [] pos) (wY sp [] E t):=by
 obtain⟨f,fd,F,hm,hk,hb⟩:=M.ex
 exact DG F hr hg hm hk hb .nil hx ha rD he iO
theorem RG (M:tf X.prog X.w X.K X.mg X.base x C k ps sp)(hr:fA (k + 1) X.A)(hg:Gl X x)(ha:PA X (e :: es) t)(rD:(x == ("__debug__":Str))=false:=by decide)
  (he:starEach (e :: es) X.env=(false,eval e X.env) :: starEach es X.env:=by rfl) (iO:(backTo pos (starEach es X.env)).any (·.1)=false:=by rfl):PE X (.Call (.Name x p) (e :: es) [] pos) (DF C sp [] E0 t):=by
 obtain⟨f,fd,hk,F,hb,hm⟩:=M.ex
 exact Kk hk F hr hg hm hb .nil mM ha rD he iO
theorem Iy (M:tf X.prog X.w X.K X.mg X.base x C k ps sp)(hr:fA (k + 1) X.A)(hg:Gl X x)(rD:(x == ("__debug__":Str))=false:=by decide):PE X (.Call (.Name x p) [] [] pos) (DF C sp [] E0 Hg):=by
 obtain⟨f,fd,hk,F,hb,hm⟩:=M.ex
 exact Hl hk F hr hg hm hb .nil mM rD
end
section
variable {P:Program}{w:World}{K:PySem.W.Frag}{mg:Str->Option Value}{base:Heap}{C:Addr}{x m qual:Str}{st:Stmt}{N ps:List Str}{k:Nat}{sp:Sp}
theorem Lf (D: ∃f fd,gv K m qual st f fd/\Meth K C m f)(hc:vI K C)(S:aW N ps (aA st))
  (hb: ∀(kV doc pm:Value) (an:Option Addr) (dv ct:Value) (us:List Value),us.length=ps.length->bindArgs (PySem.W.fnOf m qual (g8 st) (d9 st) (aA st) .none kV doc pm an dv ct) ⟨us,[]⟩=pure (ps.zip us))
  (len: ∀vs H Q E,sp vs H Q E->vs.length=ps.length)
  (gu: ∀(f:Addr) (dv:Value) (A:Around) (outer:List Env) (s:Shared) (H:Hp) (vs:List V) (Q:VK) (E:XK),fA k (A.deeper (envOfC qual (aA st) s.heap.objs.size f dv))->sp vs H Q E->
   ∃t,o8 (lO sk P w K mg base N qual (aA st) f dv A outer s H E).E6 (d9 st) t/\t {nx:=fun _ H'=>Q .eI H',rt:=Q} (start N vs) H):gY sk P w K mg base C m (k + 1) ps sp:=by
 obtain⟨f,fd,F,hm⟩:=D
 exact⟨f,fd,hc,hm,F.ok S len (gu f),F.binds hb⟩
theorem qI (D: ∃f fd,gv K m qual st f fd/\Meth K C m f)(hc:vI K C)(S:aW N ps (aA st))
  (hb: ∀(kV doc pm:Value) (an:Option Addr) (dv ct:Value) (us:List Value),us.length=ps.length->bindArgs (PySem.W.fnOf m qual (g8 st) (d9 st) (aA st) .none kV doc pm an dv ct) ⟨us,[]⟩=pure (ps.zip us))
  (len: ∀vs H Q E,sp vs H Q E->vs.length=ps.length)
  (gu: ∀(f:Addr) (dv:Value) (A:Around) (outer:List Env) (s:Shared) (H:Hp) (vs:List V) (Q:VK) (E:XK),fA k (A.deeper (envOfC qual (aA st) s.heap.objs.size f dv))->Px (lO (mw P w mg) P w K mg base N qual (aA st) f dv A outer s H E) E->sp vs H Q E->
   ∃t,o8 (lO (mw P w mg) P w K mg base N qual (aA st) f dv A outer s H E) (d9 st) t/\t {nx:=fun _ H'=>Q .eI H',rt:=Q} (start N vs) H):gY (mw P w mg) P w K mg base C m (k + 1) ps sp:=by
 obtain⟨f,fd,F,hm⟩:=D
 exact⟨f,fd,hc,hm,F.Ye S len (gu f),F.binds hb⟩
theorem Ob (D:Df K mg x st)(S:aW N ps (aA st))
  (hb: ∀(kV doc pm:Value) (an:Option Addr) (dv ct:Value) (us:List Value),us.length=ps.length->bindArgs (PySem.W.fnOf x x (g8 st) (d9 st) (aA st) .none kV doc pm an dv ct) ⟨us,[]⟩=pure (ps.zip us))
  (len: ∀vs H Q E,sp vs H Q E->vs.length=ps.length)
  (gu: ∀(f:Addr) (dv:Value) (A:Around) (outer:List Env) (s:Shared) (H:Hp) (vs:List V) (Q:VK) (E:XK),fA k (A.deeper (envOfC x (aA st) s.heap.objs.size f dv))->Px (lO (mw P w mg) P w K mg base N x (aA st) f dv A outer s H E) E->sp vs H Q E->
   ∃t,o8 (lO (mw P w mg) P w K mg base N x (aA st) f dv A outer s H E) (d9 st) t/\t {nx:=fun _ H'=>Q .eI H',rt:=Q} (start N vs) H):uP P w K mg base x (k + 1) ps sp:=by
 obtain⟨f,fd,F,hm⟩:=D.ex
 exact⟨f,fd,F.Ye S len (gu f),hm,F.kp,F.binds hb⟩
theorem Lg (D: ∃f fd,gv K "__init__" qual st f fd/\Mk K C f)(hm:mg x=some (.ref C))(S:aW N ps (aA st))
  (hb: ∀(kV doc pm:Value) (an:Option Addr) (dv ct:Value) (us:List Value),us.length=ps.length->bindArgs (PySem.W.fnOf "__init__" qual (g8 st) (d9 st) (aA st) .none kV doc pm an dv ct) ⟨us,[]⟩=pure (ps.zip us))
  (len: ∀vs H Q E,sp vs H Q E->vs.length=ps.length)
  (gu: ∀(f:Addr) (dv:Value) (A:Around) (outer:List Env) (s:Shared) (H:Hp) (vs:List V) (Q:VK) (E:XK),fA k (A.deeper (envOfC qual (aA st) s.heap.objs.size f dv))->sp vs H Q E->
   ∃t,o8 (lO sk P w K mg base N qual (aA st) f dv A outer s H E).E6 (d9 st) t/\t {nx:=fun _ H'=>Q .eI H',rt:=Q} (start N vs) H):tf P w K mg base x C (k + 1) ps sp:=by
 obtain⟨f,fd,F,hk⟩:=D
 exact⟨f,fd,hk,F.ok S len (gu f),F.binds hb,hm⟩
end
end L2
namespace eT
open PySem L2 PyProof.Rows JL
seal L2.o8 L2.PS L2.PE L2.PT L2.PW L2.PA L2.PC L2.PG L2.JF L2.PI L2.Kt L2.JH L2.PO L2.ox L2.Mc L2.iz L2.Ho L2.Ng
section
variable {P:Program}{w:World}{K:PySem.W.Frag}{mg:Str->Option Value}{base:Heap}
theorem F9 {H:Hp}{e dx:Addr}{a b c:HO}(h:dx≠e):upd (upd (upd H e a) dx b) e c=upd (upd H dx b) e c:=by
 funext q
 by_cases h1:q=e
 ·rw[h1,ag,ag]
 ·rw[ay h1,ay h1]
  by_cases h2:q=dx
  ·rw[h2,ag,ag]
  ·rw[ay h2,ay h2,ay h1]
def RH (K:PySem.W.Frag):Sp:=fun vs H Q _=> ∃(e C R t0:Addr) (txt:Str),vs=[.ref e,.str txt]/\H e=some (xo e C none (v0 t0))/\gX K C R/\ ∀dx t',H dx=none->Q .eI (upd (upd H dx (.xd [("text",.str txt)])) e (xo e C (some dx) (v0 t')))
theorem CS:aW ["self","text"] ["self","text"] (aA (mem 3 0)):=⟨rfl,rfl,rfl,by decide +kernel,rfl,by decide +kernel,by decide +kernel⟩
theorem gA (T:Txt K mg){f:Addr}{fd:FuncData}(F:gv K "__init__" "Refusal.__init__" (mem 3 0) f fd):Rk P w K mg base 1 f fd ["self","text"] (RH K):=by
 refine lZ (k:=0) F CS (fun vs H Q E h=>?_) (fun dv A outer s H vs Q E hr h=>?_)
 ·obtain⟨e,C,R,t0,txt,rfl,_⟩:=h
  rfl
 ·obtain⟨e,C,R,t0,txt,rfl,he,ek,k⟩:=h
  refine⟨_,(ah (bR (HY rfl T.AF (aa (pv 0) (aa (pv 1) ak)))) (av (KW (pv 0) (pv 1) rfl))),?_⟩
  refine⟨_,rfl,_,rfl,e,C,R,t0,none,v0 t0,_,rfl,he,ek,rfl,fun t'=>?_⟩
  refine⟨_,rfl,_,rfl,e,C,R,v0 t',rfl,ag,ek,fun dx Iz=>?_⟩
  have ne:dx≠e:=fun z=>by rw[z,ag] at Iz; cases Iz
  rw[ay ne] at Iz
  have q:=k dx t' Iz
  rw[← F9 (a:=xo e C none (v0 t')) ne] at q
  exact q
theorem AV:aW ["self"] ["self"] (aA (mem 4 0)):=⟨rfl,rfl,rfl,by decide +kernel,rfl,by decide +kernel,by decide +kernel⟩
theorem AW (T:Txt K mg){A:en}(G:jB K mg A):HZ P w K mg base 2 "NoCredit" A.jY A.refusal "no credit":=by
 obtain⟨f,fd,F,hi,ht⟩:=G.AL
 obtain⟨f0,Oc,F0,ik⟩:=G.gz
 refine⟨G.AJ,G.sE,G.AK,f,fd,hi,ht,?_,F.binds (fun _ _ _ _ _ _ us hl=>match us,hl with|[_],_=>rfl)⟩
 refine lZ (k:=1) F AV (fun vs H Q E h=>?_) (fun dv A' outer s H vs Q E hr h=>?_)
 ·obtain⟨e,C,R,t0,rfl,_⟩:=h
  rfl
 ·obtain⟨e,C,R,t0,rfl,he,ek,k⟩:=h
  refine⟨_,(av (bR (jh ik (gA T F0) hr (F0.binds (fun _ _ _ _ _ _ us hl=>match us,hl with|[_,_],_=>rfl)) rfl G.fV (aa (pv 0) (aa aS ak))))),?_⟩
  exact⟨_,rfl,e,C,R,t0,_,rfl,he,ek,fun dx t' n=>k dx t' n⟩
theorem Ga:aW ["self"] ["self"] (aA (mem 5 0)):=⟨rfl,rfl,rfl,by decide +kernel,rfl,by decide +kernel,by decide +kernel⟩
theorem Gb (T:Txt K mg){A:en}(G:jB K mg A):HZ P w K mg base 2 "NoBill" A.pL A.refusal "no bill":=by
 obtain⟨f,fd,F,hi,ht⟩:=G.FW
 obtain⟨f0,Oc,F0,ik⟩:=G.gz
 refine⟨G.FU,G.xA,G.FV,f,fd,hi,ht,?_,F.binds (fun _ _ _ _ _ _ us hl=>match us,hl with|[_],_=>rfl)⟩
 refine lZ (k:=1) F Ga (fun vs H Q E h=>?_) (fun dv A' outer s H vs Q E hr h=>?_)
 ·obtain⟨e,C,R,t0,rfl,_⟩:=h
  rfl
 ·obtain⟨e,C,R,t0,rfl,he,ek,k⟩:=h
  refine⟨_,(av (bR (jh ik (gA T F0) hr (F0.binds (fun _ _ _ _ _ _ us hl=>match us,hl with|[_,_],_=>rfl)) rfl G.fV (aa (pv 0) (aa aS ak))))),?_⟩
  exact⟨_,rfl,e,C,R,t0,_,rfl,he,ek,fun dx t' n=>k dx t' n⟩
theorem yQ:aW ["self"] ["self"] (aA (mem 6 0)):=⟨rfl,rfl,rfl,by decide +kernel,rfl,by decide +kernel,by decide +kernel⟩
theorem yR (T:Txt K mg){A:en}(G:jB K mg A):HZ P w K mg base 2 "NotTheirs" A.jK A.refusal "not theirs":=by
 obtain⟨f,fd,F,hi,ht⟩:=G.yL
 obtain⟨f0,Oc,F0,ik⟩:=G.gz
 refine⟨G.yJ,G.qC,G.yK,f,fd,hi,ht,?_,F.binds (fun _ _ _ _ _ _ us hl=>match us,hl with|[_],_=>rfl)⟩
 refine lZ (k:=1) F yQ (fun vs H Q E h=>?_) (fun dv A' outer s H vs Q E hr h=>?_)
 ·obtain⟨e,C,R,t0,rfl,_⟩:=h
  rfl
 ·obtain⟨e,C,R,t0,rfl,he,ek,k⟩:=h
  refine⟨_,(av (bR (jh ik (gA T F0) hr (F0.binds (fun _ _ _ _ _ _ us hl=>match us,hl with|[_,_],_=>rfl)) rfl G.fV (aa (pv 0) (aa aS ak))))),?_⟩
  exact⟨_,rfl,e,C,R,t0,_,rfl,he,ek,fun dx t' n=>k dx t' n⟩
theorem AX:aW ["self"] ["self"] (aA (mem 7 0)):=⟨rfl,rfl,rfl,by decide +kernel,rfl,by decide +kernel,by decide +kernel⟩
theorem AY (T:Txt K mg){A:en}(G:jB K mg A):HZ P w K mg base 2 "NoAmount" A.iI A.refusal "no amount":=by
 obtain⟨f,fd,F,hi,ht⟩:=G.AO
 obtain⟨f0,Oc,F0,ik⟩:=G.gz
 refine⟨G.AM,G.kC,G.AN,f,fd,hi,ht,?_,F.binds (fun _ _ _ _ _ _ us hl=>match us,hl with|[_],_=>rfl)⟩
 refine lZ (k:=1) F AX (fun vs H Q E h=>?_) (fun dv A' outer s H vs Q E hr h=>?_)
 ·obtain⟨e,C,R,t0,rfl,_⟩:=h
  rfl
 ·obtain⟨e,C,R,t0,rfl,he,ek,k⟩:=h
  refine⟨_,(av (bR (jh ik (gA T F0) hr (F0.binds (fun _ _ _ _ _ _ us hl=>match us,hl with|[_,_],_=>rfl)) rfl G.fV (aa (pv 0) (aa aS ak))))),?_⟩
  exact⟨_,rfl,e,C,R,t0,_,rfl,he,ek,fun dx t' n=>k dx t' n⟩
theorem AZ:aW ["self"] ["self"] (aA (mem 8 0)):=⟨rfl,rfl,rfl,by decide +kernel,rfl,by decide +kernel,by decide +kernel⟩
theorem A0 (T:Txt K mg){A:en}(G:jB K mg A):HZ P w K mg base 2 "TooEarly" A.tooEarly A.refusal "too early":=by
 obtain⟨f,fd,F,hi,ht⟩:=G.AS
 obtain⟨f0,Oc,F0,ik⟩:=G.gz
 refine⟨G.AQ,G.sF,G.AR,f,fd,hi,ht,?_,F.binds (fun _ _ _ _ _ _ us hl=>match us,hl with|[_],_=>rfl)⟩
 refine lZ (k:=1) F AZ (fun vs H Q E h=>?_) (fun dv A' outer s H vs Q E hr h=>?_)
 ·obtain⟨e,C,R,t0,rfl,_⟩:=h
  rfl
 ·obtain⟨e,C,R,t0,rfl,he,ek,k⟩:=h
  refine⟨_,(av (bR (jh ik (gA T F0) hr (F0.binds (fun _ _ _ _ _ _ us hl=>match us,hl with|[_,_],_=>rfl)) rfl G.fV (aa (pv 0) (aa aS ak))))),?_⟩
  exact⟨_,rfl,e,C,R,t0,_,rfl,he,ek,fun dx t' n=>k dx t' n⟩
theorem CU:aW ["self"] ["self"] (aA (mem 9 0)):=⟨rfl,rfl,rfl,by decide +kernel,rfl,by decide +kernel,by decide +kernel⟩
theorem CV (T:Txt K mg){A:en}(G:jB K mg A):HZ P w K mg base 2 "TooMuch" A.tooMuch A.refusal "too much":=by
 obtain⟨f,fd,F,hi,ht⟩:=G.CP
 obtain⟨f0,Oc,F0,ik⟩:=G.gz
 refine⟨G.uO,G.pM,G.CO,f,fd,hi,ht,?_,F.binds (fun _ _ _ _ _ _ us hl=>match us,hl with|[_],_=>rfl)⟩
 refine lZ (k:=1) F CU (fun vs H Q E h=>?_) (fun dv A' outer s H vs Q E hr h=>?_)
 ·obtain⟨e,C,R,t0,rfl,_⟩:=h
  rfl
 ·obtain⟨e,C,R,t0,rfl,he,ek,k⟩:=h
  refine⟨_,(av (bR (jh ik (gA T F0) hr (F0.binds (fun _ _ _ _ _ _ us hl=>match us,hl with|[_,_],_=>rfl)) rfl G.fV (aa (pv 0) (aa aS ak))))),?_⟩
  exact⟨_,rfl,e,C,R,t0,_,rfl,he,ek,fun dx t' n=>k dx t' n⟩
theorem yS:aW ["self"] ["self"] (aA (mem 10 0)):=⟨rfl,rfl,rfl,by decide +kernel,rfl,by decide +kernel,by decide +kernel⟩
theorem yT (T:Txt K mg){A:en}(G:jB K mg A):HZ P w K mg base 2 "NoSetting" A.jL A.refusal "no setting":=by
 obtain⟨f,fd,F,hi,ht⟩:=G.yO
 obtain⟨f0,Oc,F0,ik⟩:=G.gz
 refine⟨G.yM,G.qD,G.yN,f,fd,hi,ht,?_,F.binds (fun _ _ _ _ _ _ us hl=>match us,hl with|[_],_=>rfl)⟩
 refine lZ (k:=1) F yS (fun vs H Q E h=>?_) (fun dv A' outer s H vs Q E hr h=>?_)
 ·obtain⟨e,C,R,t0,rfl,_⟩:=h
  rfl
 ·obtain⟨e,C,R,t0,rfl,he,ek,k⟩:=h
  refine⟨_,(av (bR (jh ik (gA T F0) hr (F0.binds (fun _ _ _ _ _ _ us hl=>match us,hl with|[_,_],_=>rfl)) rfl G.fV (aa (pv 0) (aa aS ak))))),?_⟩
  exact⟨_,rfl,e,C,R,t0,_,rfl,he,ek,fun dx t' n=>k dx t' n⟩
theorem Gd:aW ["self"] ["self"] (aA (mem 11 0)):=⟨rfl,rfl,rfl,by decide +kernel,rfl,by decide +kernel,by decide +kernel⟩
theorem Ge (T:Txt K mg){A:en}(G:jB K mg A):HZ P w K mg base 2 "Needed" A.i6 A.refusal "needed":=by
 obtain⟨f,fd,F,hi,ht⟩:=G.FY
 obtain⟨f0,Oc,F0,ik⟩:=G.gz
 refine⟨G.xB,G.xC,G.FX,f,fd,hi,ht,?_,F.binds (fun _ _ _ _ _ _ us hl=>match us,hl with|[_],_=>rfl)⟩
 refine lZ (k:=1) F Gd (fun vs H Q E h=>?_) (fun dv A' outer s H vs Q E hr h=>?_)
 ·obtain⟨e,C,R,t0,rfl,_⟩:=h
  rfl
 ·obtain⟨e,C,R,t0,rfl,he,ek,k⟩:=h
  refine⟨_,(av (bR (jh ik (gA T F0) hr (F0.binds (fun _ _ _ _ _ _ us hl=>match us,hl with|[_,_],_=>rfl)) rfl G.fV (aa (pv 0) (aa aS ak))))),?_⟩
  exact⟨_,rfl,e,C,R,t0,_,rfl,he,ek,fun dx t' n=>k dx t' n⟩
def oK (rc rb:Rw)(b:Nat):Bool:=if rc.c= -1 then decide (rc.aN=rb.aN) else decide (rc.c=(b:Int))
def EX (E:XK)(C:Addr)(txt:Str)(H:Hp):Prop:= ∀(dx:Addr) (H':Hp),aG H H'->H dx=none->H' dx=some (.xd [("text",.str txt)])->E (.ref C) (some dx) H'
theorem EX.at {E:XK}{C dx:Addr}{txt:Str}{H:Hp}(h:EX E C txt H)(n:H dx=none):E (.ref C) (some dx) (upd H dx (.xd [("text",.str txt)])):=h dx _ (aG.new n) n ag
def tL (A:en):Sp:=fun vs H Q E=> ∃a:Int,vs=[.int a]/\(1<=a->Q .eI H)/\(a < 1->EX E A.iI "no amount" H)
theorem tj:aW ["amount"] ["amount"] (aA (top 26)):=⟨rfl,rfl,rfl,by decide +kernel,rfl,by decide +kernel,by decide +kernel⟩
theorem j7 (T:Txt K mg){A:en}(G:jB K mg A):uP P w K mg base "check_amount" 4 ["amount"] (tL A):=by
 refine Ob (k:=3) T.uI tj (fun _ _ _ _ _ _ us hl=>match us,hl with|[_],_=>rfl) (fun vs H Q E h=>?_) (fun f dv A' outer s H vs Q E hr mf h=>?_)
 ·obtain⟨a,rfl,_⟩:=h
  rfl
 ·obtain⟨a,rfl,k1,k2⟩:=h
  refine⟨_,(av (b0 (a9 jP (pv 0) aj (bc _)) (av (jW mf (AY T G) hr.h rfl rfl)) bw)),?_⟩
  refine⟨_,rfl,_,_,rfl,rfl,_,rfl,cQ (fun z=>?_) (fun z=>?_)⟩
  ·exact fun dx n=>(k2 (a0 z)).at n
  ·exact k1 (by have: ¬ a < 1:=fun q=>z (aM q); omega)
def CW (A:en):Sp:=fun vs H Q _=> ∃(p q:Addr) (c b:Nat) (rc rb:Rw),vs=[.ref p,.ref q]/\eE H p A.eo (fe c rc)/\eE H q A.dZ (fC b rb)/\Q (.bl (oK rc rb b)) H
theorem Lh:aW ["credit","bill"] ["credit","bill"] (aA (top 15)):=⟨rfl,rfl,rfl,by decide +kernel,rfl,by decide +kernel,by decide +kernel⟩
theorem IA (T:Txt K mg){A:en}(G:jB K mg A):fz P w K mg base "fits" 1 ["credit","bill"] (CW A):=by
 refine T.N2.lg (k:=0) Lh (fun _ _ _ _ _ _ us hl=>match us,hl with|[_,_],_=>rfl) (fun vs H Q E h=>?_) (fun f dv A' outer s H vs Q E hr h=>?_)
 ·obtain⟨p,q,c,b,rc,rb,rfl,_⟩:=h
  rfl
 ·obtain⟨p,q,c,b,rc,rb,rfl,⟨dp,hp⟩,⟨dq,hq⟩,k⟩:=h
  refine⟨_,(ah (b0 (xX (G5 (cq (pv 0) rfl)))
(av (ba (eW dr (cq (pv 0) rfl) (cq (pv 1) rfl) (bc _))))
bw)
(av (ba (eW dr (cq (pv 0) rfl) (cq (pv 1) rfl) (bc _))))),?_⟩
  have fo:=K7 c rc
  refine⟨_,rfl,p,_,dp,_,_,rfl,hp,G.dm,G.jZ,fo,?_⟩
  by_cases z:rc.c= -1
  ·have e:sD rc.c= .eI:=a8 z
   refine⟨true,by rw[e]; rfl,fH ?_⟩
   refine⟨_,rfl,p,_,dp,_,_,rfl,hp,G.dm,G.kQ,Iv c rc,_,rfl,q,_,dq,_,_,rfl,hq,G.eu,G.kE,CL b rb,rfl,?_⟩
   have e2:oK rc rb b=decide (V.str rc.aN=V.str rb.aN):=by
    unfold oK
    rw[a8 z]
    exact mr.mpr ⟨fun h=>by rw[h],fun h=>by injection h⟩
   rw[e2] at k
   exact k
  ·have e:sD rc.c= .int rc.c:=aQ z
   refine⟨false,by rw[e]; rfl,cv ?_⟩
   rw[e] at fo
   refine⟨_,rfl,p,_,dp,_,_,rfl,hp,G.dm,G.jZ,fo,_,rfl,q,_,dq,_,_,rfl,hq,G.eu,G.eU,lu b rb,rfl,?_⟩
   have e2:oK rc rb b=decide (V.int rc.c=V.int (b:Int)):=by
    unfold oK
    rw[aQ z]
    exact mr.mpr ⟨fun h=>by rw[h],fun h=>by injection h⟩
   rw[e2] at k
   exact k
def IB (A:en):Sp:=fun vs H Q _=> ∃(p q:Addr) (c b:Nat) (rc rb:Rw),vs=[.ref p,.ref q]/\eE H p A.eo (fe c rc)/\eE H q A.dZ (fC b rb)/\Q (.int (if rb.a > rc.a then rb.a else rc.a)) H
theorem uQ:aW ["credit","bill"] ["credit","bill"] (aA (top 16)):=⟨rfl,rfl,rfl,by decide +kernel,rfl,by decide +kernel,by decide +kernel⟩
theorem wb (T:Txt K mg){A:en}(G:jB K mg A):fz P w K mg base "counts_from" 1 ["credit","bill"] (IB A):=by
 refine T.vR.lg (k:=0) uQ (fun _ _ _ _ _ _ us hl=>match us,hl with|[_,_],_=>rfl) (fun vs H Q E h=>?_) (fun f dv A' outer s H vs Q E hr h=>?_)
 ·obtain⟨p,q,c,b,rc,rb,rfl,_⟩:=h
  rfl
 ·obtain⟨p,q,c,b,rc,rb,rfl,⟨dp,hp⟩,⟨dq,hq⟩,k⟩:=h
  refine⟨_,(av (ba (bu (Fb rfl) (by rfl) T.RD boot_max (aa (cq (pv 0) rfl) (aa (cq (pv 1) rfl) ak))))),?_⟩
  exact⟨_,rfl,p,_,dp,_,_,rfl,hp,G.dm,G.ja,Iw c rc,_,rfl,q,_,dq,_,_,rfl,hq,G.eu,G.mV,N9 b rb,_,_,rfl,k⟩
theorem getD_at {α:Type}{xs:List α}{d:α}{i:Nat}(h:i < xs.length):xs.getD i d=xs[i]:=by rw[ai,af h]; rfl
theorem m8 {g:Int->V}{xs:List Int}{i:Nat}(h:i < xs.length):sV (xs.map g) (i:Int)=some (g (xs.getD i 0)):=by
 rw[getD_at h]
 exact cS (by rw[aD,af h]; rfl)
theorem nW {n j:Nat}(h:j < n):Km n (j:Int)=some j:=by
 unfold Km
 rw[if_pos (by omega),if_pos (by omega)]; simp
theorem gf {H H':Hp}(s:aG H H'): ∀b xs,H b=some (.tup xs)->H' b=some (.tup xs):=fun b xs e=>s _ _ e
theorem ma {α:Type}{xs:List α}{m:Nat}(h:m < xs.length):xs.take (m + 1)=xs.take m ++ [xs[m]]:=by
 rw[zL,af h]; rfl
theorem RI (cs:List Int)(lo hi:Option Int): ∃ds:List Int,qm (cs.map V.int) lo hi=ds.map V.int/\ds.length<=cs.length:=by
 unfold qm
 refine⟨_,by rw[← List.map_drop,← List.map_take],?_⟩
 rw[bD,mq]
 omega
theorem yU (x m:Int)(h:0 < m): ∃n:Nat,x % m=(n:Int)/\(n:Int) < m:=by
 have h1:=ou x (show m≠0 by omega)
 have h2:=Ca x h
 exact⟨(x % m).toNat,by omega,by omega⟩
theorem kF {α:Type}{g:α->V}{xs:List α}{m:Int}{x:Int}(hm:m=(xs.length:Int))(h:0 < m): ∃y∈xs,sV (xs.map g) (x % m)=some (g y):=by
 obtain⟨n,e,hn⟩:=yU x m h
 have hl:n < xs.length:=by omega
 exact⟨xs[n],bO _,by rw[e]; exact cS (by rw[aD,af hl]; rfl)⟩
def IC:Sp:=fun vs H Q _=> ∃n p m:Int,vs=[.int n,.int p,.int m]/\0 < p/\0 < m/\ ∀r,0<=r->r < m->Q (.int r) H
theorem yV:aW ["_law_number","_law_prime","_law_many"] ["_law_number","_law_prime","_law_many"] (aA (top 44)):=⟨rfl,rfl,rfl,by decide +kernel,rfl,by decide +kernel,by decide +kernel⟩
theorem A1 (T:Txt K mg):fz P w K mg base "_law_draw" 1 ["_law_number","_law_prime","_law_many"] IC:=by
 refine T.AA.lg (k:=0) yV (fun _ _ _ _ _ _ us hl=>match us,hl with|[_,_,_],_=>rfl) (fun vs H Q E h=>?_) (fun f dv A outer s H vs Q E hr h=>?_)
 ·obtain⟨n,p,m,rfl,_⟩:=h
  rfl
 ·obtain⟨n,p,m,rfl,hp,hm,k⟩:=h
  refine⟨_,(av (ba (aV cE (aV cE (aV lM (pv 0) aj) (pv 1)) (pv 2)))),?_⟩
  refine⟨_,rfl,_,_,rfl,rfl,.inr ⟨by decide,by decide⟩,_,rfl,_,_,rfl,rfl,hp,_,rfl,_,_,rfl,rfl,hm,?_⟩
  exact k _ (ou _ (by omega)) (Ca _ hm)
def A2 (K:PySem.W.Frag):Sp:=fun vs H Q _=> ∃(a:Addr) (cs:List Int),vs=[.ref a]/\bQ K H a (cs.map V.int)/\ ∀(pn:Addr) (names:List Str) (H':Hp),aG H H'->H' pn=some (.lst (names.map V.str))->names≠[]->names.length<=6->Q (.ref pn) H'
theorem m9:aW ["_law_cells","_law_spot","_law_made"] ["_law_cells"] (aA (top 47)):=⟨rfl,rfl,rfl,by decide +kernel,rfl,by decide +kernel,by decide +kernel⟩
theorem wc (T:Txt K mg):fz P w K mg base "_law_people" 1 ["_law_cells"] (A2 K):=by
 refine T.vV.lg (k:=0) m9 (fun _ _ _ _ _ _ us hl=>match us,hl with|[_],_=>rfl) (fun vs H Q E h=>?_) (fun f dv A outer s H vs Q E hr h=>?_)
 ·obtain⟨a,cs,rfl,_⟩:=h
  rfl
 ·obtain⟨a,cs,rfl,hS,k⟩:=h
  have nd:=m9.nd
  refine⟨_,(ah (bb (i:=1) nd rfl (Or.inl rfl) (aV cE (aV jz (bu (rH rfl) (by rfl) T.Il boot_sum (aa (ql tH (pv 0) yc (qk aj)) ak)) aj) aj))
(ah (bb (i:=2) nd rfl (Or.inl rfl) (b9 (aa (b9 (aa aS (aa aS (aa aS ak)))) (aa (b9 (aa aS (aa aS (aa aS ak)))) ak))))
(ah (bR (fq aJ aH aI bZ (pv 2) (aa (b9 (aa (aV ym aS aj) (aa (aV tW (aV tW (aV ym aS (pv 1)) aS) (aV ym aS (aV fb aj (pv 1)))) (aa aS ak)))) ak)))
(av (ba (aO bh (aV lQ (pv 2) (b9 (aa (b9 (aa aS (aa aS (aa aS (aa aS (aa aS (aa aS ak))))))) ak))) (aV cE (aV jz (bu (rH rfl) (by rfl) T.Il boot_sum (aa (ql tH (pv 0) yc (qk aj)) ak)) aj) aj) (fun _ _=>rfl))))))),?_⟩
  refine⟨_,rfl,_,rfl,a,_,rfl,hS,fun p1 n1=>?_⟩
  obtain⟨ds,ed,_⟩:=RI cs none (some 1)
  rw[ed]
  have s1:aG H (upd H p1 (.lst (ds.map V.int))):=aG.new n1
  refine⟨p1,ds,rfl,bQ.of ag,_,_,rfl,rfl,⟨by decide,by decide⟩,_,_,rfl,rfl,(by show(0:Int) < 60; decide),?_⟩
  obtain⟨sp,T4,ya⟩:=yU (ds.sum / 28) 60 (by decide)
  show _
  generalize upd H p1 (.lst (ds.map V.int))=H1 at s1 ⊢
  refine⟨(by show 3<=sizeLine; decide),fun p2 n2=>⟨(by show 3<=sizeLine; decide),fun p3 n3=>⟨(by show 2<=sizeLine; decide),fun p4 n4=>?_⟩⟩⟩
  have t2:=aG.new (o:= .lst [V.str "ann",.str "",.str "bo"]) n2
  have t3:=aG.new (o:= .lst [V.str "ann",.str "ann lee",.str "Ann"]) n3
  have t4:=aG.new (o:= .lst [V.ref p2,.ref p3]) n4
  have s4:=((s1.trans t2).trans t3).trans t4
  have g2:=(t3.trans t4) _ _ (ag (H:=H1) (a:=p2) (o:= .lst [V.str "ann",.str "",.str "bo"]))
  have g3:=t4 _ _ (ag (H:=upd H1 p2 (.lst [V.str "ann",.str "",.str "bo"])) (a:=p3) (o:= .lst [V.str "ann",.str "ann lee",.str "Ann"]))
  have g4:=ag (H:=upd (upd H1 p2 (.lst [V.str "ann",.str "",.str "bo"])) p3 (.lst [V.str "ann",.str "ann lee",.str "Ann"])) (a:=p4) (o:= .lst [V.ref p2,.ref p3])
  have m4:H p4=none:=((s1.trans t2).trans t3).free n4
  generalize upd (upd (upd H1 p2 (.lst [V.str "ann",.str "",.str "bo"])) p3 (.lst [V.str "ann",.str "ann lee",.str "Ann"])) p4 (.lst [V.ref p2,.ref p3])=H4 at s4 g2 g3 g4 ⊢
  clear t2 t3 t4
  refine⟨_,rfl,.inl ⟨rfl,_,bQ.of g4⟩,?_⟩
  refine⟨_,_,rfl,rfl,rfl,(by decide),(by decide),fun z1 hz1=>?_⟩
  refine⟨_,rfl,_,_,rfl,rfl,rfl,(by rw[T4]; omega),(by rw[T4]; omega),fun z2 hz2=>?_⟩
  refine⟨_,_,rfl,rfl,dB (i9 (by show z2.length + 1<=_; omega)),?_⟩
  refine⟨_,rfl,_,_,rfl,rfl,_,_,rfl,rfl,rfl,(by rw[T4]; omega),(by rw[T4]; omega),fun z3 hz3=>?_⟩
  refine⟨_,_,rfl,rfl,dB (i9 (by
   have:(z2 ++ ("y":Str)).length=z2.length + 1:=by
    show(z2.cps ++ _).size=_
    rw[Array.size_append]; rfl
   rw[this]; omega)),?_⟩
  refine⟨(by show 3<=sizeLine; decide),fun p5 n5=>?_⟩
  generalize (z2 ++ ("y":Str)) ++ z3=z4
  have t5:=aG.new (o:= .lst [V.str z1,.str z4,.str " ~"]) n5
  refine⟨p4,_,_,rfl,rfl,t5 _ _ g4,(by show 2 < sizeLine; decide),?_⟩
  have s5:aG H (upd (upd H4 p5 (.lst [V.str z1,.str z4,.str " ~"])) p4 (.lst ([V.ref p2,.ref p3] ++ [.ref p5]))):=(s4.trans t5).dA m4
  have Wa:p2≠p4:=fun e=>by rw[e,g4] at g2; cases g2
  have Wb:p3≠p4:=fun e=>by rw[e,g4] at g3; cases g3
  have Wc:p5≠p4:=(aL g4 n5).symm
  have j2:upd (upd H4 p5 (.lst [V.str z1,.str z4,.str " ~"])) p4 (.lst ([V.ref p2,.ref p3] ++ [.ref p5])) p2=some (.lst [V.str "ann",.str "",.str "bo"]):=by rw[ay Wa]; exact t5 _ _ g2
  have j3:upd (upd H4 p5 (.lst [V.str z1,.str z4,.str " ~"])) p4 (.lst ([V.ref p2,.ref p3] ++ [.ref p5])) p3=some (.lst [V.str "ann",.str "ann lee",.str "Ann"]):=by rw[ay Wb]; exact t5 _ _ g3
  have j5:upd (upd H4 p5 (.lst [V.str z1,.str z4,.str " ~"])) p4 (.lst ([V.ref p2,.ref p3] ++ [.ref p5])) p5=some (.lst [V.str z1,.str z4,.str " ~"]):=by rw[ay Wc]; exact ag
  have j4:upd (upd H4 p5 (.lst [V.str z1,.str z4,.str " ~"])) p4 (.lst ([V.ref p2,.ref p3] ++ [.ref p5])) p4=some (.lst ([V.ref p2,.ref p3] ++ [.ref p5])):=ag
  generalize upd (upd H4 p5 (.lst [V.str z1,.str z4,.str " ~"])) p4 (.lst ([V.ref p2,.ref p3] ++ [.ref p5]))=H5 at s5 j2 j3 j4 j5 ⊢
  clear t5
  refine⟨_,rfl,?_⟩
  refine⟨(by show 6<=sizeLine; decide),fun p6 n6=>⟨(by show 1<=sizeLine; decide),fun p7 n7=>?_⟩⟩
  have t6:=aG.new (o:= .lst [V.str "ann",.str "",.str "bo",.str "Cy ~",.str "ann ",.str "dee"]) n6
  have t7:=aG.new (o:= .lst [V.ref p6]) n7
  have Yu:=t6.trans t7
  have j6:=t7 _ _ (ag (H:=H5) (a:=p6) (o:= .lst [V.str "ann",.str "",.str "bo",.str "Cy ~",.str "ann ",.str "dee"]))
  refine⟨p4,p7,_,_,rfl,rfl,Yu _ _ j4,ag,(by show 4<=sizeLine; decide),fun p8 n8=>?_⟩
  have t8:=aG.new (o:= .lst (([V.ref p2,.ref p3] ++ [.ref p5]) ++ [.ref p6])) n8
  have Yv:=Yu.trans t8
  have s8:=s5.trans Yv
  refine⟨_,rfl,_,rfl,a,_,rfl,s8.seq hS,fun p9 n9=>?_⟩
  rw[ed]
  have t9:=aG.new (o:= .lst (ds.map V.int)) n9
  refine⟨p9,ds,rfl,bQ.of ag,_,_,rfl,rfl,⟨by decide,by decide⟩,_,_,rfl,rfl,(by show(0:Int) < 4; decide),?_⟩
  obtain⟨r,er,Wd⟩:=yU (ds.sum / 7) 4 (by decide)
  have We:r < 4:=by omega
  have fin: ∀(pn:Addr) (names:List Str),H5 pn=some (.lst (names.map V.str))∨upd (upd H5 p6 (.lst [V.str "ann",.str "",.str "bo",.str "Cy ~",.str "ann ",.str "dee"])) p7 (.lst [V.ref p6]) pn=some (.lst (names.map V.str))->names≠[]->names.length<=6->Q (.ref pn) _:=fun pn names h h1 h2=>
   k pn names _ (s8.trans t9) (by
    rcases h with h|h
    ·exact(Yv.trans t9) _ _ h
    ·exact(t8.trans t9) _ _ h) h1 h2
  have T5:=t9 _ _ (ag (H:=upd (upd H5 p6 (.lst [V.str "ann",.str "",.str "bo",.str "Cy ~",.str "ann ",.str "dee"])) p7 (.lst [V.ref p6])) (a:=p8) (o:= .lst (([V.ref p2,.ref p3] ++ [.ref p5]) ++ [.ref p6])))
  match r,We,er with
  |0,_,er=>exact⟨p8,_,_,.ref p2,rfl,rfl,bQ.of T5,by show sV _ (ds.sum / 7 % 4)=_; rw[er]; rfl,fin p2 [_,_,_] (.inl j2) (by simp) (by simp)⟩
  |1,_,er=>exact⟨p8,_,_,.ref p3,rfl,rfl,bQ.of T5,by show sV _ (ds.sum / 7 % 4)=_; rw[er]; rfl,fin p3 [_,_,_] (.inl j3) (by simp) (by simp)⟩
  |2,_,er=>exact⟨p8,_,_,.ref p5,rfl,rfl,bQ.of T5,by show sV _ (ds.sum / 7 % 4)=_; rw[er]; rfl,fin p5 [_,_,_] (.inl j5) (by simp) (by simp)⟩
  |3,_,er=>exact⟨p8,_,_,.ref p6,rfl,rfl,bQ.of T5,by show sV _ (ds.sum / 7 % 4)=_; rw[er]; rfl,fin p6 [_,_,_,_,_,_] (.inr j6) (by simp) (by simp)⟩
  |r + 4,h,_=>omega
theorem at4 (a b c d x:Int): ∃y,sV [V.int a,V.int b,V.int c,V.int d] (x % 4)=some (V.int y):=by
 obtain⟨y,_,h⟩:=kF (g:=V.int) (xs:=[a,b,c,d]) (m:=4) (x:=x) rfl (by decide)
 exact⟨y,h⟩
theorem Yw (a b c x:Int): ∃y,sV [V.int a,V.int b,V.int c] (x % 3)=some (V.int y):=by
 obtain⟨y,_,h⟩:=kF (g:=V.int) (xs:=[a,b,c]) (m:=3) (x:=x) rfl (by decide)
 exact⟨y,h⟩
theorem Wf (a b x:Int): ∃y,(y=a∨y=b)/\sV [V.int a,V.int b] (x % 2)=some (V.int y):=by
 obtain⟨y,hy,h⟩:=kF (g:=V.int) (xs:=[a,b]) (m:=2) (x:=x) rfl (by decide)
 exact⟨y,by simpa using hy,h⟩
def A3 (K:PySem.W.Frag):Sp:=fun vs H Q _=> ∃(a:Addr) (cs:List Int) (i:Nat),vs=[.ref a,.int i]/\bQ K H a (cs.map V.int)/\i < cs.length/\ ∀(p:Addr) (aN:Str) (day dJ:Int) (H':Hp),aG H H'->H' p=some (.tup [.str aN,.int day,.int dJ])->Q (.ref p) H'
theorem ng:aW ["_law_cells","_law_k","_law_cell","_law_rest","_law_names","_law_who","_law_day","_law_amount"] ["_law_cells","_law_k"] (aA (top 48)):=⟨rfl,rfl,rfl,by decide +kernel,rfl,by decide +kernel,by decide +kernel⟩
theorem we (T:Txt K mg):fz P w K mg base "_law_penned" 2 ["_law_cells","_law_k"] (A3 K):=by
 have wg:fz P w K mg base "_law_people" 1 ["_law_cells"] (A2 K):=wc T
 have ni:fz P w K mg base "_law_draw" 1 ["_law_number","_law_prime","_law_many"] IC:=A1 T
 refine T.vW.lg (k:=1) ng (fun _ _ _ _ _ _ us hl=>match us,hl with|[_,_],_=>rfl) (fun vs H Q E h=>?_) (fun f dv A outer s H vs Q E hr h=>?_)
 ·obtain⟨a,cs,i,rfl,_⟩:=h
  rfl
 ·obtain⟨a,cs,i,rfl,hS,hi,k⟩:=h
  have nd:=ng.nd
  refine⟨_,(ah (bb (i:=2) nd rfl (Or.inl rfl) (aO bh (pv 0) (pv 1) (fun _ _=>rfl)))
(ah (bb (i:=3) nd rfl (Or.inl rfl) (aV jz (pv 2) aj))
(ah (bb (i:=4) nd rfl (Or.inl rfl) (cL wg (hr.mono (by decide)) rfl (aa (pv 0) ak)))
(ah (bb (i:=5) nd rfl (Or.inl rfl) (aO bh (pv 4) (aV cE (aV dS (pv 3) (pv 1)) (bu bz (by rfl) T.eY bB (aa (pv 4) ak))) (fun _ _=>rfl)))
(ah (bb (i:=6) nd rfl (Or.inl rfl) (aV fb (cL ni (hr.mono (by decide)) rfl (aa (aV dS (pv 2) (aV lM aj (pv 1))) (aa aj (aa aj ak)))) aj))
(ah (bb (i:=7) nd rfl (Or.inl rfl) (aV dS aj (cL ni (hr.mono (by decide)) rfl (aa (aV dS (pv 2) (aV lM aj (pv 1))) (aa aj (aa aj ak))))))
(jA (b0 (a9 dr (aV cE (pv 2) aj) aj (bc _))
(av (bb (i:=7) nd rfl (Or.inl rfl) (aV dS aj (aV lM (cL ni (hr.mono (by decide)) rfl (aa (aV dS (pv 2) (aV lM aj (pv 1))) (aa aj (aa aj ak)))) aj))))
bw)
(jA (b0 (a9 dr (aV cE (pv 2) aj) aj (bc _))
(av (bb (i:=7) nd rfl (Or.inl rfl) (aV dS aj (aV cE (pv 2) (aV fb (aV KA (aV jr aj aj) (aV jr aj aj)) aj)))))
bw)
(jA (b0 (a9 dr (aV cE (pv 2) aj) aj (bc _))
(av (bb (i:=7) nd rfl (Or.inl rfl) (aO bh (b9 (aa aj (aa (oH kN aj) (aa (aV jr aj aj) (aa (aV fb aj (aV cE (pv 2) (aV jr aj aj))) ak))))) (aV cE (pv 3) aj) (fun _ _=>rfl))))
bw)
(jA (b0 (a9 dr (aV cE (pv 2) aj) aj (bc _))
(av (bb (i:=6) nd rfl (Or.inl rfl) (aO bh (b9 (aa (aV jr aj aj) (aa (oH kN (aV jr aj aj)) (aa (aV fb (aV cE (pv 2) aj) aj) ak)))) (aV cE (pv 3) aj) (fun _ _=>rfl))))
bw)
(jA (b0 (a9 dr (aV cE (pv 2) aj) aj (bc _))
(av (bb (i:=6) nd rfl (Or.inl rfl) (aV lM (aV cE (pv 2) (aV jr aj aj)) (aO bh (b9 (aa aj (aa (oH kN aj) ak))) (aV cE (pv 1) aj) (fun _ _=>rfl)))))
bw)
(av (ba (dH (aa (pv 5) (aa (pv 6) (aa (pv 7) ak))))))))))))))))),?_⟩
  refine⟨_,rfl,_,rfl,a,_,_,.int (cs.getD i 0),rfl,rfl,hS,m8 hi,?_⟩
  generalize cs.getD i 0=cell
  refine⟨_,rfl,_,_,rfl,rfl,⟨by decide,by decide⟩,?_⟩
  refine⟨_,rfl,a,cs,rfl,hS,fun pn names H1 s1 Od hn0 hn6=>?_⟩
  have T6:0 < names.length:=List.length_pos_iff.mpr hn0
  obtain⟨aN,_,RJ⟩:=kF (g:=V.str) (xs:=names) (m:=((names.map V.str).length:Int)) (x:=cell / 16 + (i:Int)) (by rw[ae]) (by rw[ae]; omega)
  refine⟨_,rfl,_,rfl,_,rfl,_,_,rfl,rfl,_,rfl,pn,_,rfl,.inl (bQ.of Od),_,_,rfl,rfl,(by rw[ae]; show(0:Int) < _; omega),pn,_,_,.str aN,rfl,rfl,bQ.of Od,RJ,?_⟩
  refine⟨_,rfl,_,rfl,_,_,rfl,rfl,.inl ⟨by decide,by decide⟩,_,_,rfl,rfl,_,_,_,rfl,by decide,by decide,fun r1 _ _=>⟨_,_,rfl,rfl,?_⟩⟩
  refine⟨_,rfl,_,rfl,_,_,rfl,rfl,.inl ⟨by decide,by decide⟩,_,_,rfl,rfl,_,_,_,rfl,by decide,by decide,fun r2 _ _=>⟨_,_,rfl,rfl,?_⟩⟩
  refine⟨fun σ' H'=> ∃day dJ:Int,σ'=[some (.ref a),some (.int i),some (.int cell),some (.int (cell / 16)),some (.ref pn),some (.str aN),some (.int day),some (.int dJ)]/\aG H H',?_,?_⟩
  ·refine⟨_,rfl,_,_,rfl,rfl,(by show(0:Int) < 7; decide),rfl,_,rfl,cQ (fun c=>?_) (fun c=>⟨_,_,rfl,s1⟩)⟩
   refine⟨_,rfl,_,rfl,_,_,rfl,rfl,.inl ⟨by decide,by decide⟩,_,_,rfl,rfl,_,_,_,rfl,by decide,by decide,fun r3 _ _=>⟨_,_,rfl,rfl,.inr ⟨by decide,by decide⟩,_,_,rfl,rfl,?_⟩⟩
   exact⟨_,_,rfl,s1⟩
  rintro σ' H2 ⟨day,dJ,rfl,s2⟩
  clear Od RJ s1
  refine⟨fun σ' H'=> ∃day dJ:Int,σ'=[some (.ref a),some (.int i),some (.int cell),some (.int (cell / 16)),some (.ref pn),some (.str aN),some (.int day),some (.int dJ)]/\aG H H',?_,?_⟩
  ·refine⟨_,rfl,_,_,rfl,rfl,(by show(0:Int) < 41; decide),rfl,_,rfl,cQ (fun c=>?_) (fun c=>⟨_,_,rfl,s2⟩)⟩
   refine⟨_,rfl,_,_,rfl,rfl,⟨by decide,by decide,by decide⟩,_,_,rfl,rfl,⟨by decide,by decide,by decide⟩,_,_,rfl,rfl,⟨by decide +kernel,by decide +kernel⟩,_,_,rfl,rfl,_,_,rfl,rfl,(by show(0:Int) < _; decide +kernel),_,_,rfl,rfl,?_⟩
   exact⟨_,_,rfl,s2⟩
  rintro σ' H3 ⟨day,dJ,rfl,s3⟩
  refine⟨fun σ' H'=> ∃day dJ:Int,σ'=[some (.ref a),some (.int i),some (.int cell),some (.int (cell / 16)),some (.ref pn),some (.str aN),some (.int day),some (.int dJ)]/\aG H H',?_,?_⟩
  ·refine⟨_,rfl,_,_,rfl,rfl,(by show(0:Int) < 41; decide),rfl,_,rfl,cQ (fun c=>?_) (fun c=>⟨_,_,rfl,s3⟩)⟩
   refine⟨_,rfl,_,_,rfl,rfl,⟨by decide,by decide,by decide⟩,_,rfl,_,_,rfl,rfl,⟨by decide,by decide,by decide⟩,_,_,rfl,rfl,(by show(0:Int) < _; decide +kernel),_,_,rfl,rfl,(by show 4<=sizeLine; decide),fun p4 n4=>?_⟩
   obtain⟨y,hy⟩:=at4 0 (-1) (10 ^ (12:Int).toNat) (0 - cell % 10 ^ (60:Int).toNat) (cell / 16)
   refine⟨_,rfl,_,_,rfl,rfl,(by show(0:Int) < 4; decide),p4,_,_,.int y,rfl,rfl,bQ.of ag,hy,?_⟩
   exact⟨_,_,rfl,s3.trans (aG.new n4)⟩
  rintro σ' H4 ⟨day,dJ,rfl,s4⟩
  refine⟨fun σ' H'=> ∃day dJ:Int,σ'=[some (.ref a),some (.int i),some (.int cell),some (.int (cell / 16)),some (.ref pn),some (.str aN),some (.int day),some (.int dJ)]/\aG H H',?_,?_⟩
  ·refine⟨_,rfl,_,_,rfl,rfl,(by show(0:Int) < 43; decide),rfl,_,rfl,cQ (fun c=>?_) (fun c=>⟨_,_,rfl,s4⟩)⟩
   refine⟨_,_,rfl,rfl,⟨by decide,by decide,by decide⟩,_,_,rfl,rfl,⟨by decide,by decide,by decide⟩,_,rfl,_,rfl,_,_,rfl,rfl,(by show(0:Int) < 2001; decide),_,_,rfl,rfl,(by show 3<=sizeLine; decide),fun p4 n4=>?_⟩
   obtain⟨y,hy⟩:=Yw (10 ^ (9:Int).toNat) (-(10 ^ (9:Int).toNat)) (cell % 2001 - 1000) (cell / 16)
   refine⟨_,rfl,_,_,rfl,rfl,(by show(0:Int) < 3; decide),p4,_,_,.int y,rfl,rfl,bQ.of ag,hy,?_⟩
   exact⟨_,_,rfl,s4.trans (aG.new n4)⟩
  rintro σ' H5 ⟨day,dJ,rfl,s5⟩
  refine⟨fun σ' H'=> ∃day dJ:Int,σ'=[some (.ref a),some (.int i),some (.int cell),some (.int (cell / 16)),some (.ref pn),some (.str aN),some (.int day),some (.int dJ)]/\aG H H',?_,?_⟩
  ·refine⟨_,rfl,_,_,rfl,rfl,(by show(0:Int) < 43; decide),rfl,_,rfl,cQ (fun c=>?_) (fun c=>⟨_,_,rfl,s5⟩)⟩
   refine⟨_,rfl,_,_,rfl,rfl,⟨by decide,by decide,by decide⟩,_,_,rfl,rfl,(by show(0:Int) < _; decide +kernel),_,rfl,(by show 2<=sizeLine; decide),fun p4 n4=>?_⟩
   obtain⟨y,Yx,hy⟩:=Wf 1 (-1) (i:Int)
   refine⟨_,rfl,_,_,rfl,rfl,(by show(0:Int) < 2; decide),p4,_,_,.int y,rfl,rfl,bQ.of ag,hy,_,_,rfl,rfl,.inr (by rcases Yx with rfl|rfl <;> exact⟨by decide,by decide⟩),?_⟩
   exact⟨_,_,rfl,s5.trans (aG.new n4)⟩
  rintro σ' H6 ⟨day,dJ,rfl,s6⟩
  refine⟨_,rfl,_,rfl,_,rfl,(by show 3<=sizeLine; decide),fun p n=>?_⟩
  exact k p aN day dJ _ (s6.trans (aG.new n)) ag
theorem gg {H:Hp}{a:Addr}{o o':HO}:upd (upd H a o) a o'=upd H a o':=by
 funext b
 by_cases h:b=a
 ·rw[h,ag,ag]
 ·rw[ay h,ay h,ay h]
theorem pl {f:Str}{v:V}{fs:List (Str×V)}{n:Nat}(h:fs.length<=n):(eK f v fs).length<=n + 1:=a6 (mG f v fs) (Nat.add_le_add_right h 1)
theorem A4:([]:List (Str×V)).length<=0:=aB _
theorem lt1000 {fs:List (Str×V)}{n:Nat}(h:fs.length<=n)(k:n < 1000):fs.length < 1000:=pX h k
theorem ID (n:Nat)(r:Rw):eK "amount" (.int r.c) (eK "due" (.int r.b) (eK "day" (.int r.a) (eK "who" (.str r.aN) (eK "number" (.int n) []))))=fC n r:=by rfl
theorem IE (n:Nat)(r:Rw):eK "only" (sD r.c) (eK "amount" (.int r.b) (eK "day" (.int r.a) (eK "who" (.str r.aN) (eK "number" (.int n) []))))=fe n r:=by rfl
def Eb (A:en):Sp:=fun vs H Q _=> ∃(x dx:Addr) (n:Nat) (r:Rw),vs=[.ref x,.int n,.str r.aN,.int r.a,.int r.b,.int r.c]/\H x=some (.ins A.dZ dx [])/\Q .eI (upd H x (.ins A.dZ dx (fC n r)))
theorem Li:aW ["self","number","who","day","due","amount"] ["self","number","who","day","due","amount"] (aA (mem 13 0)):=⟨rfl,rfl,rfl,by decide +kernel,rfl,by decide +kernel,by decide +kernel⟩
theorem Oe {A:en}(G:jB K mg A):tf P w K mg base "Bill" A.dZ 1 ["self","number","who","day","due","amount"] (Eb A):=by
 refine Lg (k:=0) G.La G.K9 Li (fun _ _ _ _ _ _ us hl=>match us,hl with|[_,_,_,_,_,_],_=>rfl) (fun vs H Q E h=>?_) (fun f dv A' outer s H vs Q E hr h=>?_)
 ·obtain⟨x,dx,n,r,rfl,_⟩:=h
  rfl
 ·obtain⟨x,dx,n,r,rfl,hx,k⟩:=h
  refine⟨_,(ah (fT (pv 0) (pv 1) rfl)
(ah (fT (pv 0) (pv 2) rfl)
(ah (fT (pv 0) (pv 3) rfl)
(ah (fT (pv 0) (pv 4) rfl)
(av (fT (pv 0) (pv 5) rfl)))))),?_⟩
  refine⟨_,rfl,_,rfl,x,_,dx,_,rfl,hx,G.eu,G.eU,lt1000 A4 (by decide),?_⟩
  refine⟨_,rfl,_,rfl,x,_,dx,_,rfl,ag,G.eu,G.kE,lt1000 (pl A4) (by decide),?_⟩
  refine⟨_,rfl,_,rfl,x,_,dx,_,rfl,ag,G.eu,G.mV,lt1000 (pl (pl A4)) (by decide),?_⟩
  refine⟨_,rfl,_,rfl,x,_,dx,_,rfl,ag,G.eu,G.mW,lt1000 (pl (pl (pl A4))) (by decide),?_⟩
  refine⟨_,rfl,_,rfl,x,_,dx,_,rfl,ag,G.eu,G.mX,lt1000 (pl (pl (pl (pl A4)))) (by decide),?_⟩
  rw[gg,gg,gg,gg,ID]
  exact k
def Ec (A:en):Sp:=fun vs H Q _=> ∃(x dx:Addr) (n:Nat) (r:Rw),vs=[.ref x,.int n,.str r.aN,.int r.a,.int r.b,sD r.c]/\H x=some (.ins A.eo dx [])/\Q .eI (upd H x (.ins A.eo dx (fe n r)))
theorem Gf:aW ["self","number","who","day","amount","only"] ["self","number","who","day","amount","only"] (aA (mem 14 0)):=⟨rfl,rfl,rfl,by decide +kernel,rfl,by decide +kernel,by decide +kernel⟩
theorem IF {A:en}(G:jB K mg A):tf P w K mg base "Credit" A.eo 1 ["self","number","who","day","amount","only"] (Ec A):=by
 refine Lg (k:=0) G.F6 G.FZ Gf (fun _ _ _ _ _ _ us hl=>match us,hl with|[_,_,_,_,_,_],_=>rfl) (fun vs H Q E h=>?_) (fun f dv A' outer s H vs Q E hr h=>?_)
 ·obtain⟨x,dx,n,r,rfl,_⟩:=h
  rfl
 ·obtain⟨x,dx,n,r,rfl,hx,k⟩:=h
  refine⟨_,(ah (fT (pv 0) (pv 1) rfl)
(ah (fT (pv 0) (pv 2) rfl)
(ah (fT (pv 0) (pv 3) rfl)
(ah (fT (pv 0) (pv 4) rfl)
(av (fT (pv 0) (pv 5) rfl)))))),?_⟩
  refine⟨_,rfl,_,rfl,x,_,dx,_,rfl,hx,G.dm,G.eR,lt1000 A4 (by decide),?_⟩
  refine⟨_,rfl,_,rfl,x,_,dx,_,rfl,ag,G.dm,G.kQ,lt1000 (pl A4) (by decide),?_⟩
  refine⟨_,rfl,_,rfl,x,_,dx,_,rfl,ag,G.dm,G.ja,lt1000 (pl (pl A4)) (by decide),?_⟩
  refine⟨_,rfl,_,rfl,x,_,dx,_,rfl,ag,G.dm,G.lA,lt1000 (pl (pl (pl A4))) (by decide),?_⟩
  refine⟨_,rfl,_,rfl,x,_,dx,_,rfl,ag,G.dm,G.jZ,lt1000 (pl (pl (pl (pl A4)))) (by decide),?_⟩
  rw[gg,gg,gg,gg,IE]
  exact k
def CY (A:en):Sp:=fun vs H Q _=> ∃(pw:Addr) (S:Bk) (f:eQ) (c b:Nat) (x:Int),vs=[.ref pw,.int c,.int b,.int x]/\dO A H pw S f/\c < S.credits.length/\b < S.aC.length/\S.made.length < sizeLine/\ ∀H',Frame f.fp H H'->dO A H' pw (S.put c b x) f->Q .eI H'
theorem A5:aW ["self","credit_number","bill_number","amount"] ["self","credit_number","bill_number","amount"] (aA (mem 25 8)):=⟨rfl,rfl,rfl,by decide +kernel,rfl,by decide +kernel,by decide +kernel⟩
theorem Lj {rows:List Rw}{i:Nat}(h:i < rows.length):sV (rows.map fun r=>V.int r.d) (i:Int)=some (.int (rows.getD i default).d):=cS (by
 rw[aD,ai,af h]; rfl)
theorem Ms {A:en}(G:jB K mg A):gY sk P w K mg base A.work "put" 1 ["self","credit_number","bill_number","amount"] (CY A):=by
 refine Lf (k:=0) G.AU G.bJ A5 (fun _ _ _ _ _ _ us hl=>match us,hl with|[_,_,_,_],_=>rfl) (fun vs H Q E h=>?_) (fun f dv A' outer s H vs Q E hr h=>?_)
 ·obtain⟨pw,S,g,c,b,x,rfl,_⟩:=h
  rfl
 ·obtain⟨pw,S,g,c,b,x,rfl,hW,hc,hb,hz,k⟩:=h
  obtain⟨dw,hw⟩:=hW.obj
  obtain⟨ms,m1,m2⟩:=hW.hm
  obtain⟨e1,e2,e3,e4,e5,e6,e7,e8,e9,Mr⟩:=eQ.ne hW.nd
  have nw: ∀q∈g.fp,pw≠q:=fun q hq z=>hW.ins hW.obj (z▸hq)
  have w3:=nw g.pl (by simp[eQ.fp])
  have w4:=nw g.pf (by simp[eQ.fp])
  refine⟨_,(ah (kM (aV fb (aO bh (cq (pv 0) rfl) (pv 1) (fun _ _=>rfl)) (pv 3)) (mF (cq (pv 0) rfl) (pv 1) set_list))
(ah (kM (aV fb (aO bh (cq (pv 0) rfl) (pv 2) (fun _ _=>rfl)) (pv 3)) (mF (cq (pv 0) rfl) (pv 2) set_list))
(av (bR (fq aJ aH aI bZ (cq (pv 0) rfl) (aa (dH (aa (pv 1) (aa (pv 2) (aa (pv 3) ak)))) ak)))))),?_⟩
  refine⟨_,rfl,pw,_,dw,_,_,rfl,hw,G.bJ,G.fF,lz g,_,rfl,g.pf,_,_,_,rfl,rfl,bQ.of hW.hf,Lj hc,_,rfl,_,_,rfl,rfl,?_⟩
  refine⟨_,rfl,pw,_,dw,_,_,rfl,hw,G.bJ,G.fF,lz g,_,rfl,g.pf,_,_,c,rfl,rfl,hW.hf,nW (by rw[ae]; exact hc),?_⟩
  have RK:upd H g.pf (.lst ((S.credits.map fun r=>V.int r.d).set c (.int ((S.cr c).d - x)))) pw=some (.ins A.work dw (lx g)):=by rw[ay w4]; exact hw
  have RL:upd H g.pf (.lst ((S.credits.map fun r=>V.int r.d).set c (.int ((S.cr c).d - x)))) g.pl=some (.lst (S.aC.map fun r=>V.int r.d)):=by rw[ay e8]; exact hW.hl
  refine⟨_,rfl,pw,_,dw,_,_,rfl,RK,G.bJ,G.fE,ly g,_,rfl,g.pl,_,_,_,rfl,rfl,bQ.of RL,Lj hb,_,rfl,_,_,rfl,rfl,?_⟩
  refine⟨_,rfl,pw,_,dw,_,_,rfl,RK,G.bJ,G.fE,ly g,_,rfl,g.pl,_,_,b,rfl,rfl,RL,nW (by rw[ae]; exact hb),?_⟩
  have Mt:upd (upd H g.pf (.lst ((S.credits.map fun r=>V.int r.d).set c (.int ((S.cr c).d - x))))) g.pl (.lst ((S.aC.map fun r=>V.int r.d).set b (.int ((S.bl b).d - x)))) pw=some (.ins A.work dw (lx g)):=by rw[ay w3]; exact RK
  have Wg:upd (upd H g.pf (.lst ((S.credits.map fun r=>V.int r.d).set c (.int ((S.cr c).d - x))))) g.pl (.lst ((S.aC.map fun r=>V.int r.d).set b (.int ((S.bl b).d - x)))) g.pm=some (.lst ms):=by rw[ay e9.symm,ay Mr.symm]; exact m1
  refine⟨_,rfl,pw,_,dw,_,_,rfl,Mt,G.bJ,G.jC,yI g,.inl ⟨rfl,_,bQ.of Wg⟩,_,rfl,_,rfl,_,rfl,(by show 3<=sizeLine; decide),fun p8 n8=>?_⟩
  have n8':H p8=none:=by
   by_cases z1:p8=g.pl
   ·rw[z1,ag] at n8; cases n8
   ·rw[ay z1] at n8
    by_cases z2:p8=g.pf
    ·rw[z2,ag] at n8; cases n8
    ·rw[ay z2] at n8; exact n8
  refine⟨g.pm,ms,_,rfl,rfl,aG.new n8 _ _ Wg,by rw[← aX m2]; exact hz,?_⟩
  obtain⟨W,F⟩:=hW.put (x:=x) hc hb m1 m2 n8'
  exact k _ F W
end
end eT
namespace L2
open PySem PySem.Spec PySem.W PyProof.Rows
section
variable {A:en}{H H':Hp}{pw x:Addr}{S:Bk}{f:eQ}{r:Rw}
def eQ.ir (f:eQ)(p:Addr):eQ:={f with iu:=f.iu ++ [p]}
def eQ.fU (f:eQ)(p:Addr):eQ:={f with cps:=f.cps ++ [p]}
theorem dO.ir (h:dO A H pw S f)(hx:eE H x A.dZ (fC S.aC.length r)):
  dO A (upd (upd H f.pb (.lst (f.iu.map V.ref ++ [.ref x]))) f.pl (.lst ((S.aC.map fun r=>V.int r.d) ++ [.int r.d]))) pw (S.ir r) (f.ir x)/\Frame f.fp H (upd (upd H f.pb (.lst (f.iu.map V.ref ++ [.ref x]))) f.pl (.lst ((S.aC.map fun r=>V.int r.d) ++ [.int r.d]))):=by
 obtain⟨e1,e2,e3,e4,e5,e6,e7,e8,e9,Mr⟩:=eQ.ne h.nd
 have F:Frame f.fp H (upd (upd H f.pb (.lst (f.iu.map V.ref ++ [.ref x]))) f.pl (.lst ((S.aC.map fun r=>V.int r.d) ++ [.int r.d]))):=(Frame.upd (by simp[eQ.fp])).tr (Frame.upd (by simp[eQ.fp]))
 refine⟨?_,F⟩
 obtain⟨o1,o2,o3⟩:=h.objs F
 have tk:=h.tk F
 obtain⟨ms,m1,m2⟩:=h.hm
 have t: ∀q,q≠f.pb->q≠f.pl->upd (upd H f.pb (.lst (f.iu.map V.ref ++ [.ref x]))) f.pl (.lst ((S.aC.map fun r=>V.int r.d) ++ [.int r.d])) q=H q:=fun q z1 z2=>by rw[ay z2,ay z1]
 refine⟨o1,?_,?_,?_,?_,⟨ms,?_,m2.mono tk⟩,o2.add (hx.frame F (h.ins hx)),o3,h.nd⟩
 ·show upd (upd H f.pb _) f.pl _ f.pb=some (.lst ((f.iu ++ [x]).map V.ref))
  rw[ay e2,ag,aR]; rfl
 ·exact(t f.pc e1.symm e5).trans h.hc
 ·show upd (upd H f.pb _) f.pl _ f.pl=some (.lst ((S.aC ++ [r]).map fun r=>V.int r.d))
  rw[ag,aR]; rfl
 ·exact(t f.pf e3.symm e8.symm).trans h.hf
 ·exact(t f.pm e4.symm e9.symm).trans m1
theorem dO.fU (h:dO A H pw S f)(hx:eE H x A.eo (fe S.credits.length r)):
  dO A (upd (upd H f.pc (.lst (f.cps.map V.ref ++ [.ref x]))) f.pf (.lst ((S.credits.map fun r=>V.int r.d) ++ [.int r.d]))) pw (S.fU r) (f.fU x)/\Frame f.fp H (upd (upd H f.pc (.lst (f.cps.map V.ref ++ [.ref x]))) f.pf (.lst ((S.credits.map fun r=>V.int r.d) ++ [.int r.d]))):=by
 obtain⟨e1,e2,e3,e4,e5,e6,e7,e8,e9,Mr⟩:=eQ.ne h.nd
 have F:Frame f.fp H (upd (upd H f.pc (.lst (f.cps.map V.ref ++ [.ref x]))) f.pf (.lst ((S.credits.map fun r=>V.int r.d) ++ [.int r.d]))):=(Frame.upd (by simp[eQ.fp])).tr (Frame.upd (by simp[eQ.fp]))
 refine⟨?_,F⟩
 obtain⟨o1,o2,o3⟩:=h.objs F
 have tk:=h.tk F
 obtain⟨ms,m1,m2⟩:=h.hm
 have t: ∀q,q≠f.pc->q≠f.pf->upd (upd H f.pc (.lst (f.cps.map V.ref ++ [.ref x]))) f.pf (.lst ((S.credits.map fun r=>V.int r.d) ++ [.int r.d])) q=H q:=fun q z1 z2=>by rw[ay z2,ay z1]
 refine⟨o1,?_,?_,?_,?_,⟨ms,?_,m2.mono tk⟩,o2,o3.add (hx.frame F (h.ins hx)),h.nd⟩
 ·exact(t f.pb e1 e3).trans h.hb
 ·show upd (upd H f.pc _) f.pf _ f.pc=some (.lst ((f.cps ++ [x]).map V.ref))
  rw[ay e6,ag,aR]; rfl
 ·exact(t f.pl e5.symm e8).trans h.hl
 ·show upd (upd H f.pc _) f.pf _ f.pf=some (.lst ((S.credits ++ [r]).map fun r=>V.int r.d))
  rw[ag,aR]; rfl
 ·exact(t f.pm e7.symm Mr.symm).trans m1
end
end L2
namespace eT
open PySem L2 PyProof.Rows JL
seal L2.o8 L2.PS L2.PE L2.PT L2.PW L2.PA L2.PC L2.PG L2.JF L2.PI L2.Kt L2.JH L2.PO L2.ox L2.Mc L2.iz L2.Ho L2.Ng
section
variable {P:Program}{w:World}{K:PySem.W.Frag}{mg:Str->Option Value}{base:Heap}
def Lk (A:en)(K:PySem.W.Frag)(E:XK)(t:Str)(H:Hp):Prop:= ∀C,gX K C A.refusal->(t="too much"->C=A.tooMuch)->EX E C t H
def Mu (A:en)(K:PySem.W.Frag):Sp:=fun vs H Q E=> ∃(pw:Addr) (S:Bk) (f:eQ) (n:Int),vs=[.ref pw,.int n]/\dO A H pw S f/\(pZ n S.credits.length-> ∀p,eE H p A.eo (fe n.toNat (S.cr n.toNat))->Q (.ref p) H)/\(¬ pZ n S.credits.length->Lk A K E "no credit" H)
def IG (A:en)(K:PySem.W.Frag):Sp:=fun vs H Q E=> ∃(pw:Addr) (S:Bk) (f:eQ) (n:Int),vs=[.ref pw,.int n]/\dO A H pw S f/\(pZ n S.aC.length-> ∀p,eE H p A.dZ (fC n.toNat (S.bl n.toNat))->Q (.ref p) H)/\(¬ pZ n S.aC.length->Lk A K E "no bill" H)
theorem qJ:aW ["self","number"] ["self","number"] (aA (mem 25 9)):=⟨rfl,rfl,rfl,by decide +kernel,rfl,by decide +kernel,by decide +kernel⟩
theorem A6 (T:Txt K mg){A:en}(G:jB K mg A):gY (mw P w mg) P w K mg base A.work "credit_at" 4 ["self","number"] (Mu A K):=by
 refine qI (k:=3) G.qH G.bJ qJ (fun _ _ _ _ _ _ us hl=>match us,hl with|[_,_],_=>rfl) (fun vs H Q E h=>?_) (fun f dv A' outer s H vs Q E hr mf h=>?_)
 ·obtain⟨pw,S,g,n,rfl,_⟩:=h
  rfl
 ·obtain⟨pw,S,g,n,rfl,hW,k1,k2⟩:=h
  obtain⟨dw,hw⟩:=hW.obj
  have hlen:(g.cps.map V.ref).length=S.credits.length:=by rw[ae]; exact hW.rc.1
  refine⟨_,(ah (b0 (PW.pt (pw_or (a9 jP (pv 1) aj (bc _)) (pw_or1 (a9 z8 (pv 1) (bu bz (by rfl) T.eY bB (aa (cq (pv 0) rfl) ak)) (bc _)))))
(av (jW mf (AW T G) (hr.h.mono (by decide)) rfl rfl))
bw)
(av (ba (aO bh (cq (pv 0) rfl) (pv 1) (fun _ _=>rfl))))),?_⟩
  have no: ¬ pZ n S.credits.length-> ∀dx,H dx=none->E (.ref A.jY) (some dx) (upd H dx (.xd [("text",.str "no credit")])):=fun z dx hd=>(k2 z A.jY G.sE (fun q=>absurd q (by decide +kernel))).at hd
  refine⟨_,rfl,_,_,rfl,rfl,_,rfl,cQ (fun z=>fH (no fun q=>?_)) (fun z=>?_)⟩
  ·have z':n < 0:=a0 z
   have:=q.1
   omega
  have z1: ¬ n < 0:=fun q=>z (aM q)
  refine⟨_,rfl,_,rfl,pw,_,dw,_,_,rfl,hw,G.bJ,G.cO,hZ g,g.pc,_,rfl,.inl (bQ.of hW.hc),_,_,rfl,rfl,_,rfl,cQ (fun z=>no fun q=>?_) (fun z=>?_)⟩
  ·have z':((g.cps.map V.ref).length:Int)<=n:=a0 z
   have:=q.2
   omega
  have z2: ¬ ((g.cps.map V.ref).length:Int)<=n:=fun q=>z (aM q)
  have jJ:pZ n S.credits.length:=⟨by omega,by omega⟩
  obtain⟨c,rfl⟩:=cG jJ.1
  have hc:c < S.credits.length:=by have:=jJ.2; omega
  obtain⟨p,Wh,xj⟩:=hW.rc.get hc
  refine⟨_,rfl,pw,_,dw,_,_,rfl,hw,G.bJ,G.cO,hZ g,_,rfl,g.pc,_,_,.ref p,rfl,rfl,bQ.of hW.hc,cS (by rw[aD,Wh]; rfl),?_⟩
  exact k1 jJ p xj
theorem tq:aW ["self","number"] ["self","number"] (aA (mem 25 10)):=⟨rfl,rfl,rfl,by decide +kernel,rfl,by decide +kernel,by decide +kernel⟩
theorem xD (T:Txt K mg){A:en}(G:jB K mg A):gY (mw P w mg) P w K mg base A.work "bill_at" 4 ["self","number"] (IG A K):=by
 refine qI (k:=3) G.sZ G.bJ tq (fun _ _ _ _ _ _ us hl=>match us,hl with|[_,_],_=>rfl) (fun vs H Q E h=>?_) (fun f dv A' outer s H vs Q E hr mf h=>?_)
 ·obtain⟨pw,S,g,n,rfl,_⟩:=h
  rfl
 ·obtain⟨pw,S,g,n,rfl,hW,k1,k2⟩:=h
  obtain⟨dw,hw⟩:=hW.obj
  have hlen:(g.iu.map V.ref).length=S.aC.length:=by rw[ae]; exact hW.rb.1
  refine⟨_,(ah (b0 (PW.pt (pw_or (a9 jP (pv 1) aj (bc _)) (pw_or1 (a9 z8 (pv 1) (bu bz (by rfl) T.eY bB (aa (cq (pv 0) rfl) ak)) (bc _)))))
(av (jW mf (Gb T G) (hr.h.mono (by decide)) rfl rfl))
bw)
(av (ba (aO bh (cq (pv 0) rfl) (pv 1) (fun _ _=>rfl))))),?_⟩
  have no: ¬ pZ n S.aC.length-> ∀dx,H dx=none->E (.ref A.pL) (some dx) (upd H dx (.xd [("text",.str "no bill")])):=fun z dx hd=>(k2 z A.pL G.xA (fun q=>absurd q (by decide +kernel))).at hd
  refine⟨_,rfl,_,_,rfl,rfl,_,rfl,cQ (fun z=>fH (no fun q=>?_)) (fun z=>?_)⟩
  ·have z':n < 0:=a0 z
   have:=q.1
   omega
  have z1: ¬ n < 0:=fun q=>z (aM q)
  refine⟨_,rfl,_,rfl,pw,_,dw,_,_,rfl,hw,G.bJ,G.eh,jj g,g.pb,_,rfl,.inl (bQ.of hW.hb),_,_,rfl,rfl,_,rfl,cQ (fun z=>no fun q=>?_) (fun z=>?_)⟩
  ·have z':((g.iu.map V.ref).length:Int)<=n:=a0 z
   have:=q.2
   omega
  have z2: ¬ ((g.iu.map V.ref).length:Int)<=n:=fun q=>z (aM q)
  have jJ:pZ n S.aC.length:=⟨by omega,by omega⟩
  obtain⟨c,rfl⟩:=cG jJ.1
  have hc:c < S.aC.length:=by have:=jJ.2; omega
  obtain⟨p,Wh,xj⟩:=hW.rb.get hc
  refine⟨_,rfl,pw,_,dw,_,_,rfl,hw,G.bJ,G.eh,jj g,_,rfl,g.pb,_,_,.ref p,rfl,rfl,bQ.of hW.hb,cS (by rw[aD,Wh]; rfl),?_⟩
  exact k1 jJ p xj
def RM (A:en)(Q:VK)(H:Hp)(pw:Addr)(f:eQ)(S':Bk)(v:V):Prop:= ∀f' H',f'.fp=f.fp->Frame f.fp H H'->dO A H' pw S' f'->Q v H'
def yW (A:en)(K:PySem.W.Frag):Sp:=fun vs H Q E=> ∃(pw:Addr) (S:Bk) (f:eQ) (aN:Str) (day dJ only:Int),vs=[.ref pw,.str aN,.int day,.int dJ,sD only]/\dO A H pw S f/\S.credits.length<=900/\
 (1<=dJ->RM A Q H pw f (S.fU ⟨aN,day,dJ,only,dJ⟩) (.int S.credits.length))/\(dJ < 1->Lk A K E "no amount" H)
theorem jv:aW ["self","who","day","amount","only","number"] ["self","who","day","amount","only"] (aA (mem 25 4)):=⟨rfl,rfl,rfl,by decide +kernel,rfl,by decide +kernel,by decide +kernel⟩
theorem lB {H:Hp}{x dx C:Addr}{fs:List (Str×V)}(nx:H x=none)(nd:H dx=none)(ne:dx≠x):aG H (upd (upd H dx (.own x)) x (.ins C dx fs)):=(aG.new nd).trans (aG.new (by rw[ay ne.symm]; exact nx))
theorem oM (T:Txt K mg){A:en}(G:jB K mg A):gY (mw P w mg) P w K mg base A.work "tell_credit" 5 ["self","who","day","amount","only"] (yW A K):=by
 have gE:uP P w K mg base "check_amount" 4 ["amount"] (tL A):=j7 T G
 have IH:tf P w K mg base "Credit" A.eo 1 ["self","number","who","day","amount","only"] (Ec A):=IF G
 refine qI (k:=4) G.oB G.bJ jv (fun _ _ _ _ _ _ us hl=>match us,hl with|[_,_,_,_,_],_=>rfl) (fun vs H Q E h=>?_) (fun f dv A' outer s H vs Q E hr mf h=>?_)
 ·obtain⟨pw,S,g,aN,day,dJ,only,rfl,_⟩:=h
  rfl
 ·obtain⟨pw,S,g,aN,day,dJ,only,rfl,hW,hl,k1,k2⟩:=h
  have nd:=jv.nd
  obtain⟨dw,hw⟩:=hW.obj
  have hlen:(g.cps.map V.ref).length=S.credits.length:=by rw[ae]; exact hW.rc.1
  refine⟨_,(ah (bR (rO gE (hr.mono (by decide)) rfl mf.pass (aa (pv 3) ak)))
(ah (bb (i:=5) nd rfl (Or.inl rfl) (bu bz (by rfl) T.eY bB (aa (cq (pv 0) rfl) ak)))
(ah (bR (fq aJ aH aI bZ (cq (pv 0) rfl) (aa (RG IH (hr.mono (by decide)) rfl (aa (pv 5) (aa (pv 1) (aa (pv 2) (aa (pv 3) (aa (pv 4) ak)))))) ak)))
(ah (bR (fq aJ aH aI bZ (cq (pv 0) rfl) (aa (pv 3) ak)))
(av (ba (pv 5))))))),?_⟩
  refine⟨_,rfl,dJ,rfl,fun h1=>?_,fun h2=>k2 h2 A.iI G.kC (fun q=>absurd q (by decide +kernel))⟩
  refine⟨_,rfl,pw,_,dw,_,_,rfl,hw,G.bJ,G.cO,hZ g,g.pc,_,rfl,.inl (bQ.of hW.hc),?_⟩
  refine⟨_,rfl,pw,_,dw,_,_,rfl,hw,G.bJ,G.cO,hZ g,.inl ⟨rfl,_,bQ.of hW.hc⟩,_,rfl,_,rfl,_,rfl,_,rfl,_,rfl,fun x dx nx Iz ne=>?_⟩
  refine⟨x,dx,(g.cps.map V.ref).length,⟨aN,day,dJ,only,dJ⟩,rfl,ag,rfl,?_⟩
  rw[gg,hlen]
  have s1:=lB (C:=A.eo) (fs:=fe S.credits.length ⟨aN,day,dJ,only,dJ⟩) nx Iz ne
  have hx:eE (upd (upd H dx (.own x)) x (.ins A.eo dx (fe S.credits.length ⟨aN,day,dJ,only,dJ⟩))) x A.eo (fe S.credits.length ⟨aN,day,dJ,only,dJ⟩):=⟨dx,ag⟩
  generalize upd (upd H dx (.own x)) x (.ins A.eo dx (fe S.credits.length ⟨aN,day,dJ,only,dJ⟩))=H3 at s1 hx
  have yX:=hW.same s1
  obtain⟨W4,F4⟩:=yX.fU hx
  refine⟨g.pc,_,_,rfl,rfl,yX.hc,br (by omega),?_⟩
  have ew:pw≠g.pc:=fun z=>yX.ins yX.obj (z▸(by simp[eQ.fp]))
  obtain⟨e1,e2,e3,e4,e5,e6,e7,e8,e9,Mr⟩:=eQ.ne yX.nd
  refine⟨_,rfl,pw,_,dw,_,_,rfl,(by rw[ay ew]; exact s1 _ _ hw),G.bJ,G.fF,lz g,.inl ⟨rfl,_,bQ.of (by rw[ay e6.symm]; exact yX.hf)⟩,_,rfl,g.pf,_,_,rfl,rfl,(by rw[ay e6.symm]; exact yX.hf),br (by rw[ae]; omega),?_⟩
  refine⟨_,rfl,?_⟩
  exact k1 h1 (g.fU x) _ rfl (F4.l0 s1) W4
def Ed (A:en)(K:PySem.W.Frag):Sp:=fun vs H Q E=> ∃(pw:Addr) (S:Bk) (f:eQ) (aN:Str) (day yn dJ:Int),vs=[.ref pw,.str aN,.int day,.int yn,.int dJ]/\dO A H pw S f/\S.aC.length<=900/\
 (S.bar (.dZ aN day yn dJ)=""->RM A Q H pw f (S.enter (.dZ aN day yn dJ)) (.int S.aC.length))/\(S.bar (.dZ aN day yn dJ)≠""->Lk A K E (S.bar (.dZ aN day yn dJ)) H)
theorem kG:aW ["self","who","day","due","amount","number"] ["self","who","day","due","amount"] (aA (mem 25 1)):=⟨rfl,rfl,rfl,by decide +kernel,rfl,by decide +kernel,by decide +kernel⟩
theorem A7 (T:Txt K mg){A:en}(G:jB K mg A):gY (mw P w mg) P w K mg base A.work "tell_bill" 5 ["self","who","day","due","amount"] (Ed A K):=by
 have gE:uP P w K mg base "check_amount" 4 ["amount"] (tL A):=j7 T G
 have Of:tf P w K mg base "Bill" A.dZ 1 ["self","number","who","day","due","amount"] (Eb A):=Oe G
 refine qI (k:=4) G.qE G.bJ kG (fun _ _ _ _ _ _ us hl=>match us,hl with|[_,_,_,_,_],_=>rfl) (fun vs H Q E h=>?_) (fun f dv A' outer s H vs Q E hr mf h=>?_)
 ·obtain⟨pw,S,g,aN,day,yn,dJ,rfl,_⟩:=h
  rfl
 ·obtain⟨pw,S,g,aN,day,yn,dJ,rfl,hW,hl,k1,k2⟩:=h
  have nd:=kG.nd
  obtain⟨dw,hw⟩:=hW.obj
  have oE:S.bar (.dZ aN day yn dJ)=(if dJ < 1 then("no amount":Str) else if yn < day then("too early":Str) else("":Str)):=rfl
  rw[oE] at k1 k2
  have hlen:(g.iu.map V.ref).length=S.aC.length:=by rw[ae]; exact hW.rb.1
  refine⟨_,(ah (bR (rO gE (hr.mono (by decide)) rfl mf.pass (aa (pv 4) ak)))
(ah (b0 (a9 jP (pv 3) (pv 2) (bc _))
(av (jW mf (A0 T G) (hr.h.mono (by decide)) rfl rfl))
bw)
(ah (bb (i:=5) nd rfl (Or.inl rfl) (bu bz (by rfl) T.eY bB (aa (cq (pv 0) rfl) ak)))
(ah (bR (fq aJ aH aI bZ (cq (pv 0) rfl) (aa (RG Of (hr.mono (by decide)) rfl (aa (pv 5) (aa (pv 1) (aa (pv 2) (aa (pv 3) (aa (pv 4) ak)))))) ak)))
(ah (bR (fq aJ aH aI bZ (cq (pv 0) rfl) (aa (pv 4) ak)))
(av (ba (pv 5)))))))),?_⟩
  refine⟨_,rfl,dJ,rfl,fun h1=>?_,fun h2=>?_⟩
  ·have n1': ¬ dJ < 1:=by omega
   rw[aQ n1'] at k1 k2
   refine⟨_,rfl,_,rfl,_,_,rfl,rfl,_,rfl,cQ (fun z=>?_) (fun z=>?_)⟩
   ·have z':yn < day:=a0 z
    rw[a8 z'] at k2
    exact fun dx n=>(k2 (by decide +kernel) A.tooEarly G.sF (fun q=>absurd q (by decide +kernel))).at n
   have z': ¬ yn < day:=fun q=>z (aM q)
   rw[aQ z'] at k1
   refine⟨_,rfl,pw,_,dw,_,_,rfl,hw,G.bJ,G.eh,jj g,g.pb,_,rfl,.inl (bQ.of hW.hb),?_⟩
   refine⟨_,rfl,pw,_,dw,_,_,rfl,hw,G.bJ,G.eh,jj g,.inl ⟨rfl,_,bQ.of hW.hb⟩,_,rfl,_,rfl,_,rfl,_,rfl,_,rfl,fun x dx nx Iz ne=>?_⟩
   refine⟨x,dx,(g.iu.map V.ref).length,⟨aN,day,yn,dJ,dJ⟩,rfl,ag,rfl,?_⟩
   rw[gg,hlen]
   have s1:=lB (C:=A.dZ) (fs:=fC S.aC.length ⟨aN,day,yn,dJ,dJ⟩) nx Iz ne
   have hx:eE (upd (upd H dx (.own x)) x (.ins A.dZ dx (fC S.aC.length ⟨aN,day,yn,dJ,dJ⟩))) x A.dZ (fC S.aC.length ⟨aN,day,yn,dJ,dJ⟩):=⟨dx,ag⟩
   generalize upd (upd H dx (.own x)) x (.ins A.dZ dx (fC S.aC.length ⟨aN,day,yn,dJ,dJ⟩))=H3 at s1 hx
   have yX:=hW.same s1
   obtain⟨W4,F4⟩:=yX.ir hx
   refine⟨g.pb,_,_,rfl,rfl,yX.hb,br (by omega),?_⟩
   have ew:pw≠g.pb:=fun z=>yX.ins yX.obj (z▸(by simp[eQ.fp]))
   obtain⟨e1,e2,e3,e4,e5,e6,e7,e8,e9,Mr⟩:=eQ.ne yX.nd
   refine⟨_,rfl,pw,_,dw,_,_,rfl,(by rw[ay ew]; exact s1 _ _ hw),G.bJ,G.fE,ly g,.inl ⟨rfl,_,bQ.of (by rw[ay e2.symm]; exact yX.hl)⟩,_,rfl,g.pl,_,_,rfl,rfl,(by rw[ay e2.symm]; exact yX.hl),br (by rw[ae]; omega),?_⟩
   refine⟨_,rfl,?_⟩
   exact k1 rfl (g.ir x) _ rfl (F4.l0 s1) W4
  ·rw[a8 h2] at k2
   exact k2 (by decide +kernel) A.iI G.kC (fun q=>absurd q (by decide +kernel))
theorem nj (g:eQ):(lx g).lookup ("tell_credit":Str)=none:=by rfl
theorem uR (g:eQ):(lx g).lookup ("bill_at":Str)=none:=by rfl
theorem yY (g:eQ):(lx g).lookup ("credit_at":Str)=none:=by rfl
theorem II (g:eQ):(lx g).lookup ("put":Str)=none:=by rfl
def Ee (A:en)(K:PySem.W.Frag):Sp:=fun vs H Q E=> ∃(pw:Addr) (S:Bk) (f:eQ) (aN:Str) (day dJ:Int),vs=[.ref pw,.str aN,.int day,.int dJ]/\dO A H pw S f/\S.credits.length<=900/\
 (S.bar (.qv aN day dJ)=""->RM A Q H pw f (S.enter (.qv aN day dJ)) (.int S.credits.length))/\(S.bar (.qv aN day dJ)≠""->Lk A K E (S.bar (.qv aN day dJ)) H)
theorem nu:aW ["self","who","day","amount"] ["self","who","day","amount"] (aA (mem 25 2)):=⟨rfl,rfl,rfl,by decide +kernel,rfl,by decide +kernel,by decide +kernel⟩
theorem uS (T:Txt K mg){A:en}(G:jB K mg A):gY (mw P w mg) P w K mg base A.work "tell_payment" 6 ["self","who","day","amount"] (Ee A K):=by
 have kW:gY (mw P w mg) P w K mg base A.work "tell_credit" 5 ["self","who","day","amount","only"] (yW A K):=oM T G
 refine qI (k:=5) G.mY G.bJ nu (fun _ _ _ _ _ _ us hl=>match us,hl with|[_,_,_,_],_=>rfl) (fun vs H Q E h=>?_) (fun f dv A' outer s H vs Q E hr mf h=>?_)
 ·obtain⟨pw,S,g,aN,day,dJ,rfl,_⟩:=h
  rfl
 ·obtain⟨pw,S,g,aN,day,dJ,rfl,hW,hl,k1,k2⟩:=h
  obtain⟨dw,hw⟩:=hW.obj
  have oE:S.bar (.qv aN day dJ)=(if dJ < 1 then("no amount":Str) else("":Str)):=rfl
  rw[oE] at k1 k2
  refine⟨_,(av (ba (mZ kW (hr.mono (by decide)) mf.pass (pv 0) (aa (pv 1) (aa (pv 2) (aa (pv 3) (aa Cd ak))))))),?_⟩
  refine⟨_,rfl,pw,dw,_,rfl,hw,nj g,_,rfl,_,rfl,_,rfl,pw,S,g,aN,day,dJ,-1,rfl,hW,hl,fun h1=>?_,fun h2=>?_⟩
  ·rw[aQ (by omega)] at k1
   exact k1 rfl
  ·rw[a8 h2] at k2
   exact k2 (by decide +kernel)
def Ef (A:en)(K:PySem.W.Frag):Sp:=fun vs H Q E=> ∃(pw:Addr) (S:Bk) (f:eQ) (b day dJ:Int),vs=[.ref pw,.int b,.int day,.int dJ]/\dO A H pw S f/\S.credits.length<=900/\
 (S.bar (.note b day dJ)=""->RM A Q H pw f (S.enter (.note b day dJ)) (.int S.credits.length))/\(S.bar (.note b day dJ)≠""->Lk A K E (S.bar (.note b day dJ)) H)
theorem kH:aW ["self","bill_number","day","amount","bill"] ["self","bill_number","day","amount"] (aA (mem 25 3)):=⟨rfl,rfl,rfl,by decide +kernel,rfl,by decide +kernel,by decide +kernel⟩
theorem A8 (T:Txt K mg){A:en}(G:jB K mg A):gY (mw P w mg) P w K mg base A.work "tell_note" 6 ["self","bill_number","day","amount"] (Ef A K):=by
 have kW:gY (mw P w mg) P w K mg base A.work "tell_credit" 5 ["self","who","day","amount","only"] (yW A K):=oM T G
 have rP:gY (mw P w mg) P w K mg base A.work "bill_at" 4 ["self","number"] (IG A K):=xD T G
 refine qI (k:=5) G.qF G.bJ kH (fun _ _ _ _ _ _ us hl=>match us,hl with|[_,_,_,_],_=>rfl) (fun vs H Q E h=>?_) (fun f dv A' outer s H vs Q E hr mf h=>?_)
 ·obtain⟨pw,S,g,b,day,dJ,rfl,_⟩:=h
  rfl
 ·obtain⟨pw,S,g,b,day,dJ,rfl,hW,hl,k1,k2⟩:=h
  have nd:=kH.nd
  obtain⟨dw,hw⟩:=hW.obj
  rw[uy] at k1 k2
  refine⟨_,(ah (bb (i:=4) nd rfl (Or.inl rfl) (mZ rP (hr.mono (by decide)) mf.pass (pv 0) (aa (pv 1) ak)))
(av (ba (mZ kW (hr.mono (by decide)) mf.pass (pv 0) (aa (cq (pv 4) rfl) (aa (pv 2) (aa (pv 3) (aa (pv 1) ak)))))))),?_⟩
  refine⟨_,rfl,pw,dw,_,rfl,hw,uR g,_,rfl,pw,S,g,b,rfl,hW,fun jJ p hp=>?_,fun hn=>?_⟩
  ·obtain⟨dp,RN⟩:=hp
   have zb: ¬ ¬ pZ b S.aC.length:=fun z=>z jJ
   rw[aQ zb] at k1 k2
   have ho:sD b=V.int b:=aQ (fun z=>by have:=jJ.1; omega)
   refine⟨_,rfl,pw,dw,_,rfl,hw,nj g,_,rfl,p,_,dp,_,_,rfl,RN,G.eu,G.kE,CL _ _,_,rfl,_,rfl,_,rfl,pw,S,g,(S.bl b.toNat).aN,day,dJ,b,(by rw[ho]; rfl),hW,hl,fun h1=>?_,fun h2=>?_⟩
   ·rw[aQ (by omega)] at k1
    exact k1 rfl
   ·rw[a8 h2] at k2
    exact k2 (by decide +kernel)
  ·rw[a8 hn] at k2
   exact k2 (by decide +kernel)
theorem xE {S:Bk}{n c b:Nat}(wf:WF S n)(hc:c < S.credits.length)(hb:b < S.aC.length):oK (S.cr c) (S.bl b) b=S.dX c b:=by
 unfold oK Bk.dX
 by_cases z:(S.cr c).c= -1
 ·rw[a8 z,aM z,Bool.true_or,Bool.and_true]
 ·rw[aQ z,bN z,Bool.false_or]
  rcases wf.o c hc with q|⟨b',e1,e2,e3⟩
  ·exact absurd q z
  ·by_cases y:(S.cr c).c=(b:Int)
   ·have:b'=b:=by omega
    subst this
    rw[aM y,aM e3]; rfl
   ·rw[bN y,Bool.and_false]
def Mv (A:en)(K:PySem.W.Frag):Sp:=fun vs H Q E=> ∃(pw:Addr) (S:Bk) (f:eQ) (n:Nat) (ci bi dJ:Int),vs=[.ref pw,.int ci,.int bi,.int dJ]/\dO A H pw S f/\WF S n/\S.made.length < sizeLine/\
 (S.bar (.set ci bi dJ)=""->RM A Q H pw f (S.enter (.set ci bi dJ)) (.int dJ))/\(S.bar (.set ci bi dJ)≠""->Lk A K E (S.bar (.set ci bi dJ)) H)
theorem jw:aW ["self","credit_number","bill_number","amount","credit","bill"] ["self","credit_number","bill_number","amount"] (aA (mem 25 5)):=⟨rfl,rfl,rfl,by decide +kernel,rfl,by decide +kernel,by decide +kernel⟩
theorem wj (T:Txt K mg){A:en}(G:jB K mg A):gY (mw P w mg) P w K mg base A.work "set_by_hand" 5 ["self","credit_number","bill_number","amount"] (Mv A K):=by
 have A9:gY (mw P w mg) P w K mg base A.work "credit_at" 4 ["self","number"] (Mu A K):=A6 T G
 have rP:gY (mw P w mg) P w K mg base A.work "bill_at" 4 ["self","number"] (IG A K):=xD T G
 have IJ:gY sk P w K mg base A.work "put" 1 ["self","credit_number","bill_number","amount"] (CY A):=Ms G
 have CZ:fz P w K mg base "fits" 1 ["credit","bill"] (CW A):=IA T G
 have gE:uP P w K mg base "check_amount" 4 ["amount"] (tL A):=j7 T G
 refine qI (k:=4) G.oC G.bJ jw (fun _ _ _ _ _ _ us hl=>match us,hl with|[_,_,_,_],_=>rfl) (fun vs H Q E h=>?_) (fun f dv A' outer s H vs Q E hr mf h=>?_)
 ·obtain⟨pw,S,g,n,ci,bi,dJ,rfl,_⟩:=h
  rfl
 ·obtain⟨pw,S,g,n,ci,bi,dJ,rfl,hW,wf,hz,k1,k2⟩:=h
  have nd:=jw.nd
  obtain⟨dw,hw⟩:=hW.obj
  rw[yr] at k1 k2
  refine⟨_,(ah (bb (i:=4) nd rfl (Or.inl rfl) (mZ A9 (hr.mono (by decide)) mf.pass (pv 0) (aa (pv 1) ak)))
(ah (bb (i:=5) nd rfl (Or.inl rfl) (mZ rP (hr.mono (by decide)) mf.pass (pv 0) (aa (pv 2) ak)))
(ah (b0 (jN (gi (cL CZ (hr.mono (by decide)) rfl (aa (pv 4) (aa (pv 5) ak)))))
(av (jW mf (yR T G) (hr.h.mono (by decide)) rfl rfl))
bw)
(ah (bR (rO gE (hr.mono (by decide)) rfl mf.pass (aa (pv 3) ak)))
(ah (b0 (PW.pt (pw_or (a9 ju (pv 3) (aO bh (cq (pv 0) rfl) (pv 1) (fun _ _=>rfl)) (bc _)) (pw_or1 (a9 ju (pv 3) (aO bh (cq (pv 0) rfl) (pv 2) (fun _ _=>rfl)) (bc _)))))
(av (jW mf (CV T G) (hr.h.mono (by decide)) rfl rfl))
bw)
(ah (bR (mZ IJ (hr.mono (by decide)) mM (pv 0) (aa (pv 1) (aa (pv 2) (aa (pv 3) ak)))))
(av (ba (pv 3))))))))),?_⟩
  refine⟨_,rfl,pw,dw,_,rfl,hw,yY g,_,rfl,pw,S,g,ci,rfl,hW,fun ic p hp=>?_,fun hn=>?_⟩
  case refine_2=>
   rw[a8 hn] at k2
   exact k2 (by decide +kernel)
  have zc: ¬ ¬ pZ ci S.credits.length:=fun z=>z ic
  rw[aQ zc] at k1 k2
  refine⟨_,rfl,pw,dw,_,rfl,hw,uR g,_,rfl,pw,S,g,bi,rfl,hW,fun ib q hq=>?_,fun hn=>?_⟩
  case refine_2=>
   rw[a8 hn] at k2
   exact k2 (by decide +kernel)
  have zb: ¬ ¬ pZ bi S.aC.length:=fun z=>z ib
  rw[aQ zb] at k1 k2
  obtain⟨c,rfl⟩:=cG ic.1
  obtain⟨b,rfl⟩:=cG ib.1
  have hc:c < S.credits.length:=by have:=ic.2; omega
  have hb:b < S.aC.length:=by have:=ib.2; omega
  rw[eN] at hp hq k1 k2
  rw[eN] at k1 k2
  have hfg:=xE wf hc hb
  refine⟨_,rfl,_,rfl,p,q,c,b,_,_,rfl,hp,hq,_,rfl,?_⟩
  rw[hfg]
  refine cQ (fun z=>?_) (fun z=>?_)
  ·have z':S.dX c b=false:=by simpa using z
   rw[a8 z'] at k2
   exact fun dx nn=>(k2 (by decide +kernel) A.jK G.qC (fun q=>absurd q (by decide +kernel))).at nn
  have zg: ¬ S.dX c b=false:=by simpa using z
  rw[aQ zg] at k1 k2
  refine⟨_,rfl,dJ,rfl,fun h1=>?_,fun h2=>?_⟩
  case refine_2=>
   rw[a8 h2] at k2
   exact k2 (by decide +kernel) A.iI G.kC (fun q=>absurd q (by decide +kernel))
  rw[aQ (by omega: ¬ dJ < 1)] at k1 k2
  have RO:fI (S.cr c).d (S.bl b).d < dJ-> ∀dx,H dx=none->E (.ref A.tooMuch) (some dx) (upd H dx (.xd [("text",.str "too much")])):=fun z dx nn=>by
   rw[a8 z] at k2
   exact(k2 (by decide +kernel) A.tooMuch G.pM (fun _=>rfl)).at nn
  refine⟨_,rfl,_,rfl,pw,_,dw,_,_,rfl,hw,G.bJ,G.fF,lz g,_,rfl,g.pf,_,_,_,rfl,rfl,bQ.of hW.hf,Lj hc,_,_,rfl,rfl,_,rfl,cQ (fun z=>fH (RO ?_)) (fun z=>?_)⟩
  ·have z':(S.cr c).d < dJ:=a0 z
   unfold fI
   split <;> omega
  have z1: ¬ (S.cr c).d < dJ:=fun q=>z (aM q)
  refine⟨_,rfl,_,rfl,pw,_,dw,_,_,rfl,hw,G.bJ,G.fE,ly g,_,rfl,g.pl,_,_,_,rfl,rfl,bQ.of hW.hl,Lj hb,_,_,rfl,rfl,_,rfl,cQ (fun z=>RO ?_) (fun z=>?_)⟩
  ·have z':(S.bl b).d < dJ:=a0 z
   unfold fI
   split <;> omega
  have z2: ¬ (S.bl b).d < dJ:=fun q=>z (aM q)
  have zm: ¬ fI (S.cr c).d (S.bl b).d < dJ:=by
   unfold fI
   split <;> omega
  rw[aQ zm] at k1
  refine⟨_,rfl,pw,dw,_,rfl,hw,II g,_,rfl,_,rfl,_,rfl,pw,S,g,c,b,dJ,rfl,hW,hc,hb,hz,fun H2 F2 W2=>?_⟩
  exact⟨_,rfl,k1 rfl g H2 rfl F2 W2⟩
def Eg:Sp:=fun vs H Q _=>vs=[]/\ ∀(sd:Addr) (f:fL) (H':Hp),aG H H'->dD H' sd Bk.new f->H sd=none->(∀b∈f.fp,H b=none)->Q (.ref sd) H'
theorem wm:aW [] [] (aA (top 53)):=⟨rfl,rfl,rfl,by decide +kernel,rfl,by decide +kernel,by decide +kernel⟩
theorem qK (T:Txt K mg):fz P w K mg base "_law_begun" 1 [] Eg:=by
 refine T.yE.lg (k:=0) wm (fun _ _ _ _ _ _ us hl=>match us,hl with|[],_=>rfl) (fun vs H Q E h=>?_) (fun f dv A outer s H vs Q E hr h=>?_)
 ·obtain⟨rfl,_⟩:=h
  rfl
 ·obtain⟨rfl,k⟩:=h
  refine⟨_,(av (ba (Kw (ue aS (b9 ak) (ue aS (b9 ak) (ue aS (b9 ak) Kv))) (by rfl) rfl (by simp) (by decide)))),?_⟩
  intro sd K6
  refine⟨bF _,fun pb nb=>⟨bF _,fun pc nc=>⟨bF _,fun pm nm=>?_⟩⟩⟩
  have t0:=aG.new (o:= .dK []) K6
  have t1:=aG.new (o:= .lst []) nb
  have t2:=aG.new (o:= .lst []) nc
  have t3:=aG.new (o:= .lst []) nm
  have g0:=((t1.trans t2).trans t3) _ _ (ag (H:=H) (a:=sd) (o:= .dK []))
  have gb:=(t2.trans t3) _ _ (ag (H:=upd H sd (.dK [])) (a:=pb) (o:= .lst []))
  have gc:=t3 _ _ (ag (H:=upd (upd H sd (.dK [])) pb (.lst [])) (a:=pc) (o:= .lst []))
  have gm:=ag (H:=upd (upd (upd H sd (.dK [])) pb (.lst [])) pc (.lst [])) (a:=pm) (o:= .lst [])
  have nb0:=t0.free nb
  have nc0:=(t0.trans t1).free nc
  have nm0:=((t0.trans t1).trans t2).free nm
  have e1:sd≠pb:=aL ag nb
  have e2:sd≠pc:=aL (t1 _ _ ag) nc
  have e3:sd≠pm:=aL ((t1.trans t2) _ _ ag) nm
  have e4:pb≠pc:=aL ag nc
  have e5:pb≠pm:=aL (t2 _ _ ag) nm
  have e6:pc≠pm:=aL ag nm
  have s3:=((t0.trans t1).trans t2).trans t3
  generalize upd (upd (upd (upd H sd (.dK [])) pb (.lst [])) pc (.lst [])) pm (.lst [])=H3 at g0 gb gc gm s3 ⊢
  refine⟨g0,[(Sum.inr "bills",.ref pb),(Sum.inr "credits",.ref pc),(Sum.inr "made",.ref pm)],rfl,(by show 3<=15; omega),?_⟩
  refine k sd ⟨pb,pc,pm,[],[]⟩ _ (s3.dA K6) ⟨?_,by rw[ay e1.symm]; exact gb,by rw[ay e2.symm]; exact gc,⟨[],by rw[ay e3.symm]; exact gm,.nil⟩,.nil,.nil,?_,?_⟩ K6 ?_
  ·rw[ag,NJ]; rfl
  ·simp[fL.fp,e4,e5,e6]
  ·simp[fL.fp,e1,e2,e3]
  ·intro b hb
   simp only[fL.fp,List.append_nil,List.mem_cons,List.not_mem_nil,or_false] at hb
   rcases hb with rfl|rfl|rfl
   ·exact nb0
   ·exact nc0
   ·exact nm0
def C0:Sp:=fun vs H Q _=> ∃(sd:Addr) (S:Bk) (f:fL) (c b:Nat),vs=[.ref sd,.int c,.int b]/\dD H sd S f/\c < S.credits.length/\b < S.aC.length/\ ∀H',aG H H'->Q (.bl (S.dX c b)) H'
theorem qL:aW ["_law_state","_law_credit","_law_bill","_law_one"] ["_law_state","_law_credit","_law_bill"] (aA (top 54)):=⟨rfl,rfl,rfl,by decide +kernel,rfl,by decide +kernel,by decide +kernel⟩
theorem nv (T:Txt K mg):fz P w K mg base "_law_goes" 1 ["_law_state","_law_credit","_law_bill"] C0:=by
 refine T.AB.lg (k:=0) qL (fun _ _ _ _ _ _ us hl=>match us,hl with|[_,_,_],_=>rfl) (fun vs H Q E h=>?_) (fun f dv A outer s H vs Q E hr h=>?_)
 ·obtain⟨sd,S,g,c,b,rfl,_⟩:=h
  rfl
 ·obtain⟨sd,S,g,c,b,rfl,hB,hc,hb,k⟩:=h
  have hu:=kA hr
  have nd:=qL.nd
  obtain⟨p,_,ap,hp⟩:=hB.lc hc
  obtain⟨q,_,aq,hq⟩:=hB.lb hb
  refine⟨_,(ah (bb (i:=3) nd rfl (Or.inl rfl) (aO bh (cX hu (pv 0) aS (fun _ _=>rfl)) (pv 1) (fun _ _=>rfl)))
(av (ba (pj (eW dr (aO bh (pv 3) aj (fun _ _=>rfl)) (aO bh (aO bh (cX hu (pv 0) aS (fun _ _=>rfl)) (pv 2) (fun _ _=>rfl)) aj (fun _ _=>rfl)) (bc _)) (mD (eW nQ (aO bh (pv 3) aj (fun _ _=>rfl)) (b9 (aa (oH kN aj) (aa (pv 2) ak))) (by rfl))))))),?_⟩
  refine⟨_,rfl,sd,_,rfl,hB.gC,_,rfl,g.pc,_,_,.ref p,rfl,rfl,bQ.of hB.hc,ap,?_⟩
  refine⟨_,rfl,p,_,_,.str (S.cr c).aN,rfl,rfl,bQ.of hp,rfl,_,rfl,sd,_,rfl,hB.gB,_,rfl,g.pb,_,_,.ref q,rfl,rfl,bQ.of hB.hb,aq,q,_,_,.str (S.bl b).aN,rfl,rfl,bQ.of hq,rfl,rfl,_,rfl,cQ (fun d=>?_) (fun d=>?_)⟩
  ·have d':(S.cr c).aN=(S.bl b).aN:=by have:=a0 d; injection this
   refine⟨_,rfl,p,_,_,.int (S.cr c).c,rfl,rfl,bQ.of hp,rfl,_,rfl,_,rfl,(by show 2<=sizeLine; decide),fun p9 n9=>?_⟩
   refine⟨p9,_,rfl,.inl (bQ.of ag),rfl,rfl,?_⟩
   have e:S.dX c b=vK (V.int (S.cr c).c) [V.int (-1),V.int (b:Int)]:=by
    unfold Bk.dX
    rw[aM d',Bool.true_and]
    rw[oj]
    simp[vK,Ko]
    omega
   have q9:=k _ (aG.new (o:= .lst [V.int (-1),V.int (b:Int)]) n9)
   rw[e] at q9
   exact q9
  ·have d': ¬ (S.cr c).aN=(S.bl b).aN:=fun z=>d (aM (by rw[z]))
   have e:S.dX c b=false:=by
    unfold Bk.dX
    rw[bN d',MN]
   have q9:=k H (aG.refl _)
   rw[e] at q9
   exact q9
theorem jD {A:Hp->Prop}{H H':Hp}(e:H=H')(h:A H'):A H:=e▸h
def Eh:Sp:=fun vs H Q _=> ∃(sd:Addr) (S:Bk) (f:fL) (c b:Nat) (x:Int),vs=[.ref sd,.int c,.int b,.int x]/\dD H sd S f/\c < S.credits.length/\b < S.aC.length/\S.made.length < sizeLine/\ ∀H',Frame f.fp H H'->dD H' sd (S.put c b x) f->Q .eI H'
theorem sG:aW ["_law_state","_law_credit","_law_bill","_law_amount"] ["_law_state","_law_credit","_law_bill","_law_amount"] (aA (top 55)):=⟨rfl,rfl,rfl,by decide +kernel,rfl,by decide +kernel,by decide +kernel⟩
theorem uT (T:Txt K mg):fz P w K mg base "_law_put" 1 ["_law_state","_law_credit","_law_bill","_law_amount"] Eh:=by
 refine T.CK.lg (k:=0) sG (fun _ _ _ _ _ _ us hl=>match us,hl with|[_,_,_,_],_=>rfl) (fun vs H Q E h=>?_) (fun f dv A outer s H vs Q E hr h=>?_)
 ·obtain⟨sd,S,g,c,b,x,rfl,_⟩:=h
  rfl
 ·obtain⟨sd,S,g,c,b,x,rfl,hB,hc,hb,hz,k⟩:=h
  have hu:=kA hr
  have nd:=sG.nd
  obtain⟨p,pi,ap,hp⟩:=hB.lc hc
  refine⟨_,(ah (kM (aV fb (aO bh (aO bh (cX hu (pv 0) aS (fun _ _=>rfl)) (pv 1) (fun _ _=>rfl)) aj (fun _ _=>rfl)) (pv 3)) (mF (aO bh (cX hu (pv 0) aS (fun _ _=>rfl)) (pv 1) (fun _ _=>rfl)) aj set_list))
(ah (kM (aV fb (aO bh (aO bh (cX hu (pv 0) aS (fun _ _=>rfl)) (pv 2) (fun _ _=>rfl)) aj (fun _ _=>rfl)) (pv 3)) (mF (aO bh (cX hu (pv 0) aS (fun _ _=>rfl)) (pv 2) (fun _ _=>rfl)) aj set_list))
(av (bR (fq aJ aH aI bZ (cX hu (pv 0) aS (fun _ _=>rfl)) (aa (dH (aa (pv 1) (aa (pv 2) (aa (pv 3) ak)))) ak)))))),?_⟩
  refine⟨_,rfl,sd,_,rfl,hB.gC,_,rfl,g.pc,_,_,.ref p,rfl,rfl,bQ.of hB.hc,ap,p,_,_,.int (S.cr c).d,rfl,rfl,bQ.of hp,rfl,_,rfl,_,_,rfl,rfl,?_⟩
  refine⟨_,rfl,sd,_,rfl,hB.gC,_,rfl,g.pc,_,_,.ref p,rfl,rfl,bQ.of hB.hc,ap,p,_,4,4,rfl,rfl,hp,rfl,?_⟩
  have B1:=hB.setC (r:=(S.cr c).less x) pi ⟨_,hp⟩
  have F1:Frame g.fp H (upd H p (.lst ((S.cr c).less x).vs)):=Frame.upd (by have:=List.mem_of_getElem? pi; simp[fL.fp,this])
  refine jD (H':=upd H p (.lst ((S.cr c).less x).vs)) rfl ?_
  generalize upd H p (.lst ((S.cr c).less x).vs)=H1 at B1 F1 ⊢
  obtain⟨q,qi,aq,hq⟩:=B1.lb (b:=b) hb
  change H1 q=some (.lst (S.bl b).vs) at hq
  refine⟨_,rfl,sd,_,rfl,B1.gB,_,rfl,g.pb,_,_,.ref q,rfl,rfl,bQ.of B1.hb,aq,q,_,_,.int (S.bl b).d,rfl,rfl,bQ.of hq,rfl,_,rfl,_,_,rfl,rfl,?_⟩
  refine⟨_,rfl,sd,_,rfl,B1.gB,_,rfl,g.pb,_,_,.ref q,rfl,rfl,bQ.of B1.hb,aq,q,_,4,4,rfl,rfl,hq,rfl,?_⟩
  have B2:=B1.setB (r:=(S.bl b).less x) qi ⟨_,hq⟩
  have F2:Frame g.fp H1 (upd H1 q (.lst ((S.bl b).less x).vs)):=Frame.upd (by have:=List.mem_of_getElem? qi; simp[fL.fp,this])
  refine jD (H':=upd H1 q (.lst ((S.bl b).less x).vs)) rfl ?_
  generalize upd H1 q (.lst ((S.bl b).less x).vs)=H2 at B2 F2 ⊢
  obtain⟨ms,m1,m2⟩:=B2.hm
  refine⟨_,rfl,sd,_,rfl,B2.gM,.inl ⟨rfl,_,bQ.of m1⟩,_,rfl,_,rfl,_,rfl,(by show 3<=sizeLine; decide),fun p8 n8=>?_⟩
  have t8:=aG.new (o:= .tup [V.int c,.int b,.int x]) n8
  refine⟨g.pm,ms,_,rfl,rfl,t8 _ _ m1,?_,?_⟩
  ·rw[← aX m2]
   exact hz
  ·refine k _ ((F1.tr F2).tr ((t8.frame).tr (Frame.upd (by simp[fL.fp])))) ?_
   exact(B2.same t8).VA (t:=(c,b,x)) (t8 _ _ m1) (m2.mono t8.tk) ag
def Ei (x:Int×Nat):List Int:=[x.1,(x.2:Int)]
def Ba (rows:List Rw)(aN:Str)(key:Rw->Int)(i:Nat):List (Int×Nat):=
 ((List.range i).filter fun k=>decide ((rows.getD k default).aN=aN) && decide (0 < (rows.getD k default).d)).map fun k=>(key (rows.getD k default),k)
theorem Ll {rows:List Rw}{aN:Str}{key:Rw->Int}{i:Nat}(h:(rows.getD i default).aN=aN)(h2:0 < (rows.getD i default).d):Ba rows aN key (i + 1)=Ba rows aN key i ++ [(key (rows.getD i default),i)]:=by
 unfold Ba
 rw[vE,gh,aR]
 congr 1
 rw[cW (by rw[aM h,aM h2]; rfl)]
 rfl
theorem Og {rows:List Rw}{aN:Str}{key:Rw->Int}{i:Nat}(h: ¬ ((rows.getD i default).aN=aN/\0 < (rows.getD i default).d)):Ba rows aN key (i + 1)=Ba rows aN key i:=by
 unfold Ba
 rw[List.range_succ,List.filter_append,List.map_append,List.filter_cons_of_neg (by simpa using h)]
 simp
theorem Oh {rows:List Rw}{aN:Str}{key:Rw->Int}{i:Nat}: ∀x∈Ba rows aN key i,x.2 < i:=by
 intro x hx
 obtain⟨k,hk,rfl⟩:=bP.mp hx
 exact c9.mp (fR.mp hk).1
theorem Oi {rows:List Rw}{aN:Str}{key:Rw->Int}{i:Nat}:((Ba rows aN key i).map (·.2)).Nodup:=by
 unfold Ba
 rw[fJ]
 have e:((fun x:Int×Nat=>x.2) ∘ fun k=>(key (rows.getD k default),k))=id:=rfl
 rw[e,J0]
 exact tF.filter _
theorem yZ {rows:List Rw}{aN:Str}{key:Rw->Int}{i:Nat}:(Ba rows aN key i).length<=i:=by
 unfold Ba
 rw[ae]
 exact a6 (a7 _ _) (by rw[dE]; exact aB _)
theorem y0 {x y:Str}(d:decide (V.str x=V.str y)=true):x=y:=by
 have:=a0 d
 injection this
theorem uU {x y:Str}(d: ¬ decide (V.str x=V.str y)=true): ¬ x=y:=fun z=>d (aM (by rw[z]))
theorem nX: ∀{l:List (Int×Nat)} {x y:Int×Nat},(l.map (·.2)).Nodup->x∈l->y∈l->x.2=y.2->x=y
 |[],_,_,_,h,_,_=>by cases h
 |z :: l,x,y,nd,hx,hy,e=>by
  rw[dj,eA] at nd
  rcases aw.mp hx with Av|Av
  ·rcases aw.mp hy with BW|BW
   ·rw[Av,BW]
   ·exact absurd (bP.mpr ⟨y,BW,by rw[← e,Av]⟩) nd.1
  ·rcases aw.mp hy with BW|BW
   ·exact absurd (bP.mpr ⟨x,Av,by rw[e,BW]⟩) nd.1
   ·exact nX nd.2 Av BW e
def Bb:Sp:=fun vs H Q _=> ∃(p:Addr) (ps:List Addr) (rows:List Rw) (aN:Str) (C1:Int) (key:Rw->Int),vs=[.ref p,.str aN,.int C1]/\H p=some (.lst (ps.map V.ref))/\fc H rows ps/\rows.length < 64/\(∀r:Rw,sV r.vs C1=some (.int (key r)))/\
 ∀D H',aG H H'->H D=none->H' D=some (.lst ((inTurn rows aN key).map fun(k:Nat)=>V.int (k:Int)))->Q (.ref D) H'
theorem mh:aW ["_law_rows","_law_who","_law_spot","_law_keys","_law_k"] ["_law_rows","_law_who","_law_spot"] (aA (top 56)):=⟨rfl,rfl,rfl,by decide +kernel,rfl,by decide +kernel,by decide +kernel⟩
theorem uV (T:Txt K mg):fz P w K mg base "_law_in_turn" 1 ["_law_rows","_law_who","_law_spot"] Bb:=by
 refine T.uK.lg (k:=0) mh (fun _ _ _ _ _ _ us hl=>match us,hl with|[_,_,_],_=>rfl) (fun vs H Q E h=>?_) (fun f dv A outer s H vs Q E hr h=>?_)
 ·obtain⟨p,ps,rows,aN,C1,key,rfl,_⟩:=h
  rfl
 ·obtain⟨p,ps,rows,aN,C1,key,rfl,hp,hR,hl,hk,k⟩:=h
  have nd:=mh.nd
  have hlen:=hR.length
  refine⟨_,(ah (bb (i:=3) nd rfl (Or.inl rfl) (b9 ak))
(ah (fM bY rfl (jF rfl T.nU (aa (bu bz (by rfl) T.eY bB (aa (pv 0) ak)) ak)) (bG (i:=4) nd rfl (Or.inl rfl))
(av (b0 (PW.pt (pw_and (a9 dr (aO bh (aO bh (pv 0) (pv 4) (fun _ _=>rfl)) aj (fun _ _=>rfl)) (pv 1) (bc _)) (pw_and1 (a9 ju (aO bh (aO bh (pv 0) (pv 4) (fun _ _=>rfl)) aj (fun _ _=>rfl)) aj (bc _)))))
(av (bR (fq aJ aH aI bZ (pv 3) (aa (dH (aa (aO bh (aO bh (pv 0) (pv 4) (fun _ _=>rfl)) (pv 2) (fun _ _=>rfl)) (aa (pv 4) ak))) ak))))
bw)))
(av (ba (jd (tn:=["_law_key"]) (cn:=[]) (cj:=[]) rfl (yg (by decide +kernel) (by decide +kernel) rfl (by decide +kernel)) (dF (bu yl (by rfl) T.uL boot_sorted (aa (pv 3) ak))) (fun _ _ _ _=>(bG (i:=0) (show(["_law_key"]:List Str).Nodup by decide +kernel) rfl (Or.inl rfl))) (fun _ _ _ _=>lR) (fun _ _ _ _=>(aO (tJ (K:=K) rfl) (pv 0) aj (fun _ _=>rfl)))))))),?_⟩
  refine⟨bF _,fun pk nk=>?_⟩
  have s1:aG H (upd H pk (.lst [])):=aG.new nk
  refine⟨_,rfl,p,_,rfl,.inl (bQ.of (s1 _ _ hp)),((ps.map V.ref).length:Int),rfl,by omega,by rw[ae]; omega,?_⟩
  rw[eN]
  refine k6 (lo:=0) (n:=(ps.map V.ref).length) (fun i σ H2=> ∃(xs:List V) (x4:Option V),σ=[some (.ref p),some (.str aN),some (.int C1),some (.ref pk),x4]/\aG H H2/\H2 pk=some (.lst xs)/\ig H2 ((Ba rows aN key i).map Ei) xs)
   ⟨[],none,rfl,s1,ag,.nil⟩ ?_ ?_
  ·rintro i σ H2 hi ⟨xs,x4,rfl,s2,hx,hT⟩
   rw[lK]
   have yk:i < rows.length:=by rw[ae] at hi; omega
   obtain⟨r,ri,Oj⟩:=hR.at yk
   have ar:sV (ps.map V.ref) (i:Int)=some (.ref r):=cS (by rw[aD,ri]; rfl)
   have xj:=s2 _ _ hp
   have Ej:=s2 _ _ Oj
   have Wi:xs.length<=i:=by
    have:=aX hT
    rw[ae] at this
    have:=yZ (rows:=rows) (aN:=aN) (key:=key) (i:=i)
    omega
   have no: ¬ ((rows.getD i default).aN=aN/\0 < (rows.getD i default).d)-> ∃(xs:List V) (x4:Option V),[some (V.ref p),some (.str aN),some (.int C1),some (.ref pk),some (.int (i:Int))]=[some (.ref p),some (.str aN),some (.int C1),some (.ref pk),x4]/\aG H H2/\H2 pk=some (.lst xs)/\ig H2 ((Ba rows aN key (i + 1)).map Ei) xs:=fun n=>
    ⟨xs,_,rfl,s2,hx,by rw[Og n]; exact hT⟩
   generalize Ol:rows.getD i default=row at Ej no
   refine⟨_,rfl,_,rfl,p,_,_,.ref r,rfl,rfl,bQ.of xj,ar,r,_,_,.str row.aN,rfl,rfl,bQ.of Ej,rfl,_,rfl,rfl,_,rfl,cQ (fun d1=>?_) (fun d1=>cv (no fun z=>uU d1 z.1))⟩
   refine⟨_,rfl,_,rfl,p,_,_,.ref r,rfl,rfl,bQ.of xj,ar,r,_,_,.int row.d,rfl,rfl,bQ.of Ej,rfl,_,_,rfl,rfl,_,rfl,cQ (fun d2=>?_) (fun d2=>no fun z=>d2 (aM z.2))⟩
   have RP:=y0 d1
   have Wj:0 < row.d:=a0 d2
   refine⟨_,rfl,.inl ⟨rfl,_,bQ.of hx⟩,_,rfl,_,rfl,p,_,_,.ref r,rfl,rfl,bQ.of xj,ar,_,rfl,r,_,_,.int (key row),rfl,rfl,bQ.of Ej,hk row,_,rfl,(by show 2<=sizeLine; decide),fun p8 n8=>?_⟩
   have t8:=aG.new (o:= .tup [V.int (key row),.int (i:Int)]) n8
   refine⟨pk,xs,_,rfl,rfl,t8 _ _ hx,br (by omega),xs ++ [.ref p8],_,rfl,(s2.trans t8).dA nk,ag,?_⟩
   rw[Ll (by rw[Ol]; exact RP) (by rw[Ol]; exact Wj),aR,Ol]
   exact ig.snoc (hT.mono (t8.tk.trans (gx (t8 _ _ hx)))) (dW (t8 _ _ hx) _ _ ag)
  ·rintro σ H2 ⟨xs,x4,rfl,s2,hx,hT⟩
   have Wi:=aX hT
   have Yy:=yZ (rows:=rows) (aN:=aN) (key:=key) (i:=(ps.map V.ref).length)
   have GS:=Oh (rows:=rows) (aN:=aN) (key:=key) (i:=(ps.map V.ref).length)
   have mP:(ps.map V.ref).length=rows.length:=by rw[ae]; omega
   have hle: ∀x∈Ba rows aN key (ps.map V.ref).length,x.2 < 1000:=fun x hx=>by have:=GS x hx; omega
   have jJ:inTurn rows aN key=(fP (Ba rows aN key (ps.map V.ref).length)).map (·.2):=by rw[mP]; rfl
   have hnd:=Oi (rows:=rows) (aN:=aN) (key:=key) (i:=(ps.map V.ref).length)
   generalize Ba rows aN key (ps.map V.ref).length=ks at hT Wi Yy hle jJ hnd
   rw[ae] at Wi
   refine⟨_,rfl,pk,xs,_,uM,rfl,bQ.of hx,(by omega),hT,(fun t ht=>?_),(fun t ht u hu=>?_),fun D ys us nD N1 perm le=>?_⟩
   ·obtain⟨x,_,rfl⟩:=bP.mp ht
    simp[Ei]
   ·obtain⟨x,Av,rfl⟩:=bP.mp ht
    obtain⟨y,BW,rfl⟩:=bP.mp hu
    refine uN (hle x Av) (hle y BW) (fun e=>⟨rfl,?_⟩) rfl
    exact nX hnd Av BW e
   ·have Vc:=AI hle hnd (fun x _=>rfl) perm le
    subst Vc
    have tD:=aG.new (o:= .lst ys) nD
    refine⟨D,rfl,⟨_,bQ.of ag⟩,?_⟩
    have JQ:=N1.mono tD.tk
    generalize PH:upd H2 D (.lst ys)=H3 at tD JQ
    have hD3:H3 D=some (.lst ys):=by rw[← PH]; exact ag
    have s3:=s2.trans tD
    clear PH N1 perm le hT
    have Yz:=aX JQ
    refine eD (K:=K) (a:=D) (xs:=ys) (fun D' i σ H6=>H3 D'=none/\ ∃v,σ=[v]/\aG H3 H6/\H6 D'=some (.lst (((fP ks).take i).map fun x=>V.int (x.2:Int)))) (fun D' wo=>⟨wo,none,rfl,aG.new wo,ag⟩) (fun D' i σ H6 _ ⟨_,_,_,t3,_⟩=>bQ.of (t3 _ _ hD3)) ?_ ?_
    ·rintro D' i x σ H6 Mw ⟨wo,v,rfl,t3,iw⟩
     have hi:i < (fP ks).length:=by
      have:=(au.mp Mw).1
      rw[ae] at Yz
      omega
     have g0:((fP ks).map Ei)[i]? =some (Ei (fP ks)[i]):=by rw[aD,af hi]; rfl
     obtain⟨v',hv,pp,e1,JP⟩:=bT JQ g0
     rw[Mw] at hv
     obtain rfl:x=v':=aE hv
     subst e1
     have mI:=ma hi
     have RQ:=t3 _ _ JP
     generalize (fP ks)[i]=z at RQ mI
     have IK:((fP ks).take i).length<=100:=by
      rw[bD]
      have:=(dM ks).length_eq
      omega
     refine⟨_,rfl,pp,_,_,.int (z.2:Int),rfl,rfl,cM.of RQ,rfl,_,iw,br (by rw[ae]; omega),wo,_,rfl,t3.dA wo,?_⟩
     rw[ag,mI,aR]
     rfl
    ·rintro D' σ H6 wo ⟨_,v,rfl,t3,iw⟩
     refine k D' H6 (s3.trans t3) (s3.free wo) ?_
     rw[iw,jJ,fJ,Yz.symm,ae,bf]
     rfl
theorem sH {α β:Type}{F:α->β->Prop}: ∀{l₁:List α} {l₂:List β} (n:Nat),Paired F l₁ l₂->Paired F (l₁.drop n) (l₂.drop n)
 |_,_,0,h=>by rwa [List.drop_zero,List.drop_zero]
 |_,_,_ + 1,.nil=> .nil
 |_,_,n + 1,.cons _ t=>by rw[List.drop_succ_cons,List.drop_succ_cons]; exact sH n t
theorem Gg (xs:List V)(n:Nat)(h:n<=xs.length):qm xs (some (n:Int)) none=xs.drop n:=by
 unfold qm
 rw[HT.Hn,HT.yb,Nat.min_eq_left h,List.take_of_length_le]
 rw[mq]
 exact aB _
structure y1 (H0:Hp)(sd:Addr)(S:Bk)(f:fL)(H2:Hp)(S2:Bk)(m:Nat):Prop where
 fr:Frame f.fp H0 H2
 bk:dD H2 sd S2 f
 bl:S2.aC.length=S.aC.length
 cl:S2.credits.length=S.credits.length
 ml:S2.made.length<=S.made.length + m
theorem y1.put {H0:Hp}{sd:Addr}{S:Bk}{f:fL}{H2 H':Hp}{S2:Bk}{m c b:Nat}{x:Int}(I:y1 H0 sd S f H2 S2 m)(fr:Frame f.fp H2 H')(bk:dD H' sd (S2.put c b x) f):y1 H0 sd S f H' (S2.put c b x) (m + 1):=by
 refine⟨I.fr.tr fr,bk,?_,?_,?_⟩
 ·show(S2.aC.set _ _).length=_
  rw[dQ]; exact I.bl
 ·show(S2.credits.set _ _).length=_
  rw[dQ]; exact I.cl
 ·show(S2.made ++ [_]).length<=_
  rw[aF]
  have:=I.ml
  simp
  omega
theorem y1.up {H0:Hp}{sd:Addr}{S:Bk}{f:fL}{H2:Hp}{S2:Bk}{m n:Nat}(I:y1 H0 sd S f H2 S2 m)(h:m<=n):y1 H0 sd S f H2 S2 n:=⟨I.fr,I.bk,I.bl,I.cl,a6 I.ml (by omega)⟩
theorem y1.from {H0 H1:Hp}{sd:Addr}{S:Bk}{f:fL}{H2:Hp}{S2:Bk}{m:Nat}(I:y1 H0 sd S f H2 S2 m)(s:aG H2 H1):y1 H1 sd S f H1 S2 m:=⟨Frame.refl,I.bk.same s,I.bl,I.cl,I.ml⟩
theorem y1.back {H0 H1:Hp}{sd:Addr}{S:Bk}{f:fL}{H2 H3:Hp}{S2 S3:Bk}{m n:Nat}(I:y1 H0 sd S f H2 S2 m)(s:aG H2 H1)(J:y1 H1 sd S f H3 S3 n):y1 H0 sd S f H3 S3 n:=⟨(I.fr.cZ s).tr J.fr,J.bk,J.bl,J.cl,J.ml⟩
theorem _root_.L2.dD.tM {H:Hp}{sd D:Addr}{S:Bk}{f:fL}(h:dD H sd S f)(n:H D=none):D∉f.fp:=fun z=>by
 obtain⟨ms,m1,_⟩:=h.hm
 have rows: ∀(rs:List Rw) (ps:List Addr),fc H rs ps->D∈ps->False:=fun rs ps hr hp=>by
  obtain⟨i,hi⟩:=xW hp
  have iX:i < rs.length:=by
   rw[hr.length]
   exact(au.mp hi).1
  obtain⟨q,e1,e2⟩:=hr.at iX
  rw[e1] at hi
  cases hi
  rw[n] at e2
  cases e2
 unfold fL.fp at z
 rcases aw.mp z with rfl|z
 ·have:=h.hb; rw[n] at this; cases this
 rcases aw.mp z with rfl|z
 ·have:=h.hc; rw[n] at this; cases this
 rcases aw.mp z with rfl|z
 ·rw[n] at m1; cases m1
 rcases bq.mp z with z|z
 ·exact rows _ _ h.rb z
 ·exact rows _ _ h.rc z
theorem jU (rows:List Rw)(aN:Str)(key:Rw->Int):(inTurn rows aN key).length<=rows.length:=by
 have e:inTurn rows aN key=(fP (Ba rows aN key rows.length)).map (·.2):=rfl
 rw[e,ae,(dM _).length_eq]
 exact yZ
theorem lC {α β:Type}(g:β->α->β)(l:List α)(s:β){i:Nat}{x:α}(h:l[i]? =some x):(l.take (i + 1)).foldl g s=g ((l.take i).foldl g s) x:=by
 rw[ET,h,rm]
 rfl
theorem _root_.L2.Frame.free {fp:List Addr}{H H':Hp}{p:Addr}(a:Frame fp H H')(h:p∉fp)(n:H' p=none):H p=none:=by
 cases e:H p with
 |none=>rfl
 |some o=>have:=a p o h e; rw[n] at this; cases this
def Ek:Sp:=fun vs H Q _=> ∃(sd:Addr) (S:Bk) (f:fL) (aN:Str),vs=[.ref sd,.str aN]/\dD H sd S f/\S.credits.length < 64/\S.aC.length < 64/\S.made.length + 10000 < sizeLine/\
 ∀D ms H',Frame f.fp H H'->dD H' sd (S.iE aN) f->H D=none->H' D=some (.lst ms)->gQ H' ((S.iE aN).made.drop S.made.length) ms->Q (.ref D) H'
theorem oN:aW ["_law_state","_law_who","_law_many","_law_exact","_law_credit","_law_bill","_law_free","_law_left"] ["_law_state","_law_who"] (aA (top 57)):=⟨rfl,rfl,rfl,by decide +kernel,rfl,by decide +kernel,by decide +kernel⟩
theorem y2 (T:Txt K mg):fz P w K mg base "_law_swept" 2 ["_law_state","_law_who"] Ek:=by
 have ny:fz P w K mg base "_law_in_turn" 1 ["_law_rows","_law_who","_law_spot"] Bb:=uV T
 have jk:fz P w K mg base "_law_goes" 1 ["_law_state","_law_credit","_law_bill"] C0:=nv T
 have pN:fz P w K mg base "_law_put" 1 ["_law_state","_law_credit","_law_bill","_law_amount"] Eh:=uT T
 refine T.yF.lg (k:=1) oN (fun _ _ _ _ _ _ us hl=>match us,hl with|[_,_],_=>rfl) (fun vs H Q E h=>?_) (fun f dv A outer s H vs Q E hr h=>?_)
 ·obtain⟨sd,S,g,aN,rfl,_⟩:=h
  rfl
 ·obtain⟨sd,S,g,aN,rfl,hB,qB,Lm,IL,k⟩:=h
  have hu:=kA hr
  have nd:=oN.nd
  obtain⟨ms,m1,m2⟩:=hB.hm
  have Wk:S.made.length=ms.length:=aX m2
  refine⟨_,(ah (bb (i:=2) nd rfl (Or.inl rfl) (bu bz (by rfl) T.eY bB (aa (cX hu (pv 0) aS (fun _ _=>rfl)) ak)))
(ah (fM bY rfl (dF (b9 (aa mC (aa mC ak)))) (bG (i:=3) nd rfl (Or.inl rfl))
(av (fM bY rfl (dF (cL ny (hr.mono (by decide)) rfl (aa (cX hu (pv 0) aS (fun _ _=>rfl)) (aa (pv 1) (aa aj ak))))) (bG (i:=4) nd rfl (Or.inl rfl))
(av (fM bY rfl (dF (cL ny (hr.mono (by decide)) rfl (aa (cX hu (pv 0) aS (fun _ _=>rfl)) (aa (pv 1) (aa aj ak))))) (bG (i:=5) nd rfl (Or.inl rfl))
(ah (bb (i:=6) nd rfl (Or.inl rfl) (aO bh (aO bh (cX hu (pv 0) aS (fun _ _=>rfl)) (pv 4) (fun _ _=>rfl)) aj (fun _ _=>rfl)))
(ah (bb (i:=7) nd rfl (Or.inl rfl) (aO bh (aO bh (cX hu (pv 0) aS (fun _ _=>rfl)) (pv 5) (fun _ _=>rfl)) aj (fun _ _=>rfl)))
(av (b0 (PW.pt (pw_and (a9 ju (pv 6) aj (bc _)) (pw_and1 (gi (cL jk (hr.mono (by decide)) rfl (aa (pv 0) (aa (pv 4) (aa (pv 5) ak))))))))
(av (b0 (PW.pt (pw_or (a9 dr (pv 6) (pv 7) (bc _)) (pw_or1 (jN (gi (pv 3))))))
(av (bR (cL pN (hr.mono (by decide)) rfl (aa (pv 0) (aa (pv 4) (aa (pv 5) (aa (bu (rB rfl) (by rfl) T.AE boot_min (aa (pv 6) (aa (pv 7) ak))) ak)))))))
bw))
bw)))))))))
(av (ba (ql tH (cX hu (pv 0) aS (fun _ _=>rfl)) (qk (pv 2)) yc))))),?_⟩
  refine⟨_,rfl,sd,_,rfl,hB.gM,g.pm,_,rfl,.inl (bQ.of m1),?_⟩
  refine⟨(by show 2<=sizeLine; decide),fun pl nl=>⟨pl,rfl,⟨_,bQ.of ag⟩,?_⟩⟩
  have s1:aG H (upd H pl (.lst ([true,false].map V.bl))):=aG.new nl
  have Wl:=hB.tM nl
  have iO:upd H pl (.lst ([true,false].map V.bl)) pl=some (.lst ([true,false].map V.bl)):=ag
  have Mx:=hB.same s1
  refine jD (H':=upd H pl (.lst ([true,false].map V.bl))) rfl ?_
  generalize upd H pl (.lst ([true,false].map V.bl))=H1 at s1 iO Mx
  refine gT (K:=K) (a:=pl) (xs:=[true,false].map V.bl) (fun i σ H2=> ∃x3 x4 x5 x6 x7:Option V,σ=[some (.ref sd),some (.str aN),some (.int (ms.length:Int)),x3,x4,x5,x6,x7]/\y1 H1 sd S g H2 (([true,false].take i).foldl (bX aN) S) (i * 4096))
   ⟨none,none,none,none,none,rfl,Frame.refl,Mx,rfl,rfl,Nat.le_add_right _ _⟩ (fun i σ H2 _ ⟨_,_,_,_,_,_,I⟩=>bQ.of (I.fr _ _ Wl iO)) ?_ ?_
  ·rintro i x σ H2 hx ⟨x3,x4,x5,x6,x7,rfl,I⟩
   rw[aD] at hx
   obtain⟨ex,hex,rfl⟩:=bM.mp hx
   have hi:i < 2:=(au.mp hex).1
   rw[lC (bX aN) [true,false] S hex]
   generalize ([true,false].take i).foldl (bX aN) S=S1 at I ⊢
   have c1:=I.cl
   have b1:=I.bl
   refine⟨_,rfl,sd,_,rfl,I.bk.gC,_,rfl,g.pc,g.cps,S1.credits,aN,1,(·.a),rfl,I.bk.hc,I.bk.rc,by omega,(fun _=>rfl),fun D1 H3 t3 n3 Gh=>?_⟩
   have D1f:=I.bk.tM n3
   have I3:=I.from t3
   refine⟨D1,rfl,⟨_,bQ.of Gh⟩,?_⟩
   have hcs:(inTurn S1.credits aN (·.a)).length<=63:=by have:=jU S1.credits aN (·.a); omega
   have YA: ∀c∈inTurn S1.credits aN (·.a),c < S.credits.length:=fun c hc=>by have:=(cJ.mp hc).1; omega
   have XX:bX aN S1 ex=(inTurn S1.credits aN (·.a)).foldl (ck aN ex) S1:=rfl
   rw[XX]
   generalize inTurn S1.credits aN (·.a)=cs at Gh hcs YA
   refine gT (K:=K) (a:=D1) (xs:=cs.map fun(k:Nat)=>V.int (k:Int)) (fun j σ H4=> ∃x4 x5 x6 x7:Option V,σ=[some (.ref sd),some (.str aN),some (.int (ms.length:Int)),some (.bl ex),x4,x5,x6,x7]/\y1 H3 sd S g H4 ((cs.take j).foldl (ck aN ex) S1) (i * 4096 + j * 64))
    ⟨_,_,_,_,rfl,I3.up (by omega)⟩ (fun j σ H4 _ ⟨_,_,_,_,_,J⟩=>bQ.of (J.fr _ _ D1f Gh)) ?_ ?_
   ·rintro j x σ H4 hx ⟨x4,x5,x6,x7,rfl,J⟩
    rw[aD] at hx
    obtain⟨c,hc,rfl⟩:=bM.mp hx
    have aaZ:=YA c (gG hc)
    have hj:j < cs.length:=(au.mp hc).1
    rw[lC (ck aN ex) cs S1 hc]
    generalize (cs.take j).foldl (ck aN ex) S1=S2 at J ⊢
    have b2:=J.bl
    refine⟨_,rfl,sd,_,rfl,J.bk.gB,_,rfl,g.pb,g.iu,S2.aC,aN,2,(·.b),rfl,J.bk.hb,J.bk.rb,by omega,(fun _=>rfl),fun D2 H5 t5 n5 Gi=>?_⟩
    have D2f:=J.bk.tM n5
    have J5:=J.from t5
    refine⟨D2,rfl,⟨_,bQ.of Gi⟩,?_⟩
    have hbs:(inTurn S2.aC aN (·.b)).length<=63:=by have:=jU S2.aC aN (·.b); omega
    have KC: ∀b∈inTurn S2.aC aN (·.b),b < S.aC.length:=fun b hb=>by have:=(cJ.mp hb).1; omega
    have q0:ck aN ex S2 c=(inTurn S2.aC aN (·.b)).foldl (bV ex c) S2:=rfl
    rw[q0]
    generalize inTurn S2.aC aN (·.b)=bs at Gi hbs KC
    refine gT (K:=K) (a:=D2) (xs:=bs.map fun(k:Nat)=>V.int (k:Int)) (fun l σ H6=> ∃x5 x6 x7:Option V,σ=[some (.ref sd),some (.str aN),some (.int (ms.length:Int)),some (.bl ex),some (.int (c:Int)),x5,x6,x7]/\y1 H5 sd S g H6 ((bs.take l).foldl (bV ex c) S2) (i * 4096 + j * 64 + l))
     ⟨_,_,_,rfl,J5.up (by omega)⟩ (fun l σ H6 _ ⟨_,_,_,_,L⟩=>bQ.of (L.fr _ _ D2f Gi)) ?_ ?_
    ·rintro l x σ H6 hx ⟨x5,x6,x7,rfl,L⟩
     rw[aD] at hx
     obtain⟨b,hb,rfl⟩:=bM.mp hx
     have aa2:=KC b (gG hb)
     have hl:l < bs.length:=(au.mp hb).1
     rw[lC (bV ex c) bs S2 hb]
     generalize (bs.take l).foldl (bV ex c) S2=S3 at L ⊢
     have b3:=L.bl
     have c3:=L.cl
     have m3:=L.ml
     obtain⟨p,_,ap,hp⟩:=L.bk.lc (b:=c) (by omega)
     obtain⟨q,_,aq,hq⟩:=L.bk.lb (b:=b) (by omega)
     have no: ¬ (0 < (S3.cr c).d/\S3.dX c b=true/\((S3.cr c).d=(S3.bl b).d∨ex=false))-> ∀H7,aG H6 H7-> ∃x5 x6 x7:Option V,[some (V.ref sd),some (.str aN),some (.int (ms.length:Int)),some (.bl ex),some (.int (c:Int)),some (.int (b:Int)),some (.int (S3.cr c).d),some (.int (S3.bl b).d)]=[some (.ref sd),some (.str aN),some (.int (ms.length:Int)),some (.bl ex),some (.int (c:Int)),x5,x6,x7]/\y1 H5 sd S g H7 (bV ex c S3 b) (i * 4096 + j * 64 + (l + 1)):=fun n H7 t7=>by
      refine⟨_,_,_,rfl,?_⟩
      unfold bV
      rw[aQ n]
      exact(L.back t7 (L.from t7)).up (by omega)
     refine⟨_,rfl,sd,_,rfl,L.bk.gC,_,rfl,g.pc,_,_,.ref p,rfl,rfl,bQ.of L.bk.hc,ap,p,_,_,.int (S3.cr c).d,rfl,rfl,bQ.of hp,rfl,?_⟩
     refine⟨_,rfl,sd,_,rfl,L.bk.gB,_,rfl,g.pb,_,_,.ref q,rfl,rfl,bQ.of L.bk.hb,aq,q,_,_,.int (S3.bl b).d,rfl,rfl,bQ.of hq,rfl,?_⟩
     refine⟨_,rfl,_,_,rfl,rfl,_,rfl,cQ (fun d1=>?_) (fun d1=>cv (no (fun z=>d1 (aM z.1)) _ (aG.refl _)))⟩
     have RP:0 < (S3.cr c).d:=a0 d1
     refine⟨_,rfl,_,rfl,_,rfl,sd,S3,g,c,b,rfl,L.bk,by omega,by omega,fun H7 t7=>⟨_,rfl,cQ (fun d2=>?_) (fun d2=>no (fun z=>d2 z.2.1) _ t7)⟩⟩
     have L7:=L.bk.same t7
     have RS:((S3.cr c).d=(S3.bl b).d∨ex=false)-> ∀H',Frame g.fp H7 H'->dD H' sd (S3.put c b (fI (S3.cr c).d (S3.bl b).d)) g-> ∃x5 x6 x7:Option V,[some (V.ref sd),some (.str aN),some (.int (ms.length:Int)),some (.bl ex),some (.int (c:Int)),some (.int (b:Int)),some (.int (S3.cr c).d),some (.int (S3.bl b).d)]=[some (.ref sd),some (.str aN),some (.int (ms.length:Int)),some (.bl ex),some (.int (c:Int)),x5,x6,x7]/\y1 H5 sd S g H' (bV ex c S3 b) (i * 4096 + j * 64 + (l + 1)):=fun z H' Pw Wm=>by
      refine⟨_,_,_,rfl,?_⟩
      unfold bV
      rw[a8 ⟨RP,d2,z⟩]
      exact(L.put (t7.frame.tr Pw) Wm).up (by omega)
     have El:((S3.cr c).d=(S3.bl b).d∨ex=false)->Eh [.ref sd,.int (c:Int),.int (b:Int),.int (if(S3.bl b).d < (S3.cr c).d then(S3.bl b).d else(S3.cr c).d)] H7 (fun _ H'=> ∃x5 x6 x7:Option V,[some (V.ref sd),some (.str aN),some (.int (ms.length:Int)),some (.bl ex),some (.int (c:Int)),some (.int (b:Int)),some (.int (S3.cr c).d),some (.int (S3.bl b).d)]=[some (.ref sd),some (.str aN),some (.int (ms.length:Int)),some (.bl ex),some (.int (c:Int)),x5,x6,x7]/\y1 H5 sd S g H' (bV ex c S3 b) (i * 4096 + j * 64 + (l + 1))) (fun _ _ _=>False):=fun z=>
      ⟨sd,S3,g,c,b,_,rfl,L7,by omega,by omega,by omega,fun H' Pw Wm=>RS z H' Pw Wm⟩
     refine⟨_,rfl,_,rfl,rfl,_,rfl,cQ (fun d3=>fH ?_) (fun d3=>?_)⟩
     ·have d3':(S3.cr c).d=(S3.bl b).d:=by have:=a0 d3; injection this
      exact⟨_,rfl,_,rfl,_,rfl,_,rfl,_,rfl,_,_,rfl,El (.inl d3')⟩
     ·refine⟨_,rfl,_,rfl,cQ (fun d4=>?_) (fun d4=>no (fun z=>?_) _ t7)⟩
      ·have d4':ex=false:=by simpa using d4
       exact⟨_,rfl,_,rfl,_,rfl,_,rfl,_,rfl,_,_,rfl,El (.inr d4')⟩
      ·rcases z.2.2 with z|z
       ·exact d3 (aM (by rw[z]))
       ·exact d4 (by rw[z]; rfl)
    ·rintro σ H6 ⟨x5,x6,x7,rfl,L⟩
     rw[ae,bf] at L
     exact⟨_,_,_,_,rfl,(J.back t5 L).up (by omega)⟩
   ·rintro σ H4 ⟨x4,x5,x6,x7,rfl,J⟩
    rw[ae,bf] at J
    exact⟨_,_,_,_,_,rfl,(I.back t3 J).up (by omega)⟩
  ·rintro σ H2 ⟨x3,x4,x5,x6,x7,rfl,I⟩
   have Vm:([true,false].take ([true,false].map V.bl).length).foldl (bX aN) S=S.iE aN:=rfl
   rw[Vm] at I
   obtain⟨My,k1,k2⟩:=I.bk.hm
   refine⟨_,rfl,sd,_,rfl,I.bk.gM,_,rfl,_,rfl,g.pm,My,rfl,bQ.of k1,fun p np=>?_⟩
   have tp:=aG.new (o:= .lst (qm My (some (ms.length:Int)) none)) np
   have hle:ms.length<=My.length:=by
    have e0:=aX k2
    obtain⟨_,l,e1,_⟩:=qy S aN
    rw[e1,aF] at e0
    omega
   refine k p (My.drop ms.length) _ ((s1.frame.tr I.fr).cZ tp) (I.bk.same tp) ?_ ?_ ?_
   ·exact s1.free (Frame.free I.fr (I.bk.tM np) np)
   ·rw[ag,Gg _ _ hle]
   ·rw[Wk]
    exact sH _ (k2.mono tp.tk)
def y3 (A:en):Sp:=fun vs H Q _=> ∃(x dx:Addr),vs=[.ref x]/\H x=some (.ins A.work dx [])/\ ∀f H',Frame [x] H H'->dO A H' x Bk.new f->(∀b∈f.fp,H b=none)->Q .eI H'
theorem IM (f:eQ):eK "made" (.ref f.pm) (eK "frees" (.ref f.pf) (eK "lefts" (.ref f.pl) (eK "all_credits" (.ref f.pc) (eK "bills" (.ref f.pb) []))))=lx f:=by rfl
theorem Bc {H Hk:Hp}{x dx p C:Addr}{fs:List (Str×V)}{f:Str}(F:Frame [x] H Hk)(hx:Hk x=some (.ins C dx fs))(n:Hk p=none):p≠x/\H p=none/\Frame [x] H (upd (upd Hk p (.lst [])) x (.ins C dx (eK f (.ref p) fs)))/\
  upd (upd Hk p (.lst [])) x (.ins C dx (eK f (.ref p) fs)) x=some (.ins C dx (eK f (.ref p) fs))/\upd (upd Hk p (.lst [])) x (.ins C dx (eK f (.ref p) fs)) p=some (.lst [])/\
  (∀q o,q≠x->Hk q=some o->upd (upd Hk p (.lst [])) x (.ins C dx (eK f (.ref p) fs)) q=some o/\q≠p):=by
 have ne:p≠x:=(aL hx n).symm
 refine⟨ne,F.free (by simpa using ne) n,(F.tr (aG.new n).frame).tr (Frame.upd (by simp)),ag,by rw[ay ne,ag],fun q o hq e=>⟨?_,aL e n⟩⟩
 rw[ay hq]
 exact aG.new n _ _ e
theorem Ln:aW ["self"] ["self"] (aA (mem 25 0)):=⟨rfl,rfl,rfl,by decide +kernel,rfl,by decide +kernel,by decide +kernel⟩
theorem IP {A:en}(G:jB K mg A):tf P w K mg base "Work" A.work 1 ["self"] (y3 A):=by
 refine Lg (k:=0) G.Lc G.Lb Ln (fun _ _ _ _ _ _ us hl=>match us,hl with|[_],_=>rfl) (fun vs H Q E h=>?_) (fun f dv A' outer s H vs Q E hr h=>?_)
 ·obtain⟨x,dx,rfl,_⟩:=h
  rfl
 ·obtain⟨x,dx,rfl,hx,k⟩:=h
  refine⟨_,(ah (fT (pv 0) (b9 ak) rfl)
(ah (fT (pv 0) (b9 ak) rfl)
(ah (fT (pv 0) (b9 ak) rfl)
(ah (fT (pv 0) (b9 ak) rfl)
(av (fT (pv 0) (b9 ak) rfl)))))),?_⟩
  have F0:Frame [x] H H:=Frame.refl
  refine⟨bF _,fun p1 n1=>⟨_,rfl,x,_,dx,_,rfl,aG.new n1 _ _ hx,G.bJ,G.eh,lt1000 A4 (by decide),?_⟩⟩
  obtain⟨ne1,f1,F1,x1,g1,t1⟩:=Bc (f:="bills") F0 hx n1
  generalize hH1:upd (upd H p1 (.lst [])) x (.ins A.work dx (eK "bills" (.ref p1) _))=H1 at F1 x1 g1
  clear hH1 t1
  refine⟨bF _,fun p2 n2=>⟨_,rfl,x,_,dx,_,rfl,aG.new n2 _ _ x1,G.bJ,G.cO,lt1000 (pl A4) (by decide),?_⟩⟩
  obtain⟨ne2,f2,F2,x2,g2,t2⟩:=Bc (f:="all_credits") F1 x1 n2
  obtain⟨g1,RT⟩:=t2 p1 _ ne1 g1
  generalize Tx:upd (upd H1 p2 (.lst [])) x (.ins A.work dx (eK "all_credits" (.ref p2) _))=H2 at F2 x2 g1 g2
  clear Tx t2
  refine⟨bF _,fun p3 n3=>⟨_,rfl,x,_,dx,_,rfl,aG.new n3 _ _ x2,G.bJ,G.fE,lt1000 (pl (pl A4)) (by decide),?_⟩⟩
  obtain⟨ne3,f3,F3,x3,g3,t3⟩:=Bc (f:="lefts") F2 x2 n3
  obtain⟨g1,RU⟩:=t3 p1 _ ne1 g1
  obtain⟨g2,RV⟩:=t3 p2 _ ne2 g2
  generalize PH:upd (upd H2 p3 (.lst [])) x (.ins A.work dx (eK "lefts" (.ref p3) _))=H3 at F3 x3 g1 g2 g3
  clear PH t3
  refine⟨bF _,fun p4 n4=>⟨_,rfl,x,_,dx,_,rfl,aG.new n4 _ _ x3,G.bJ,G.fF,lt1000 (pl (pl (pl A4))) (by decide),?_⟩⟩
  obtain⟨ne4,f4,F4,x4,g4,t4⟩:=Bc (f:="frees") F3 x3 n4
  obtain⟨g1,RW⟩:=t4 p1 _ ne1 g1
  obtain⟨g2,RX⟩:=t4 p2 _ ne2 g2
  obtain⟨g3,RY⟩:=t4 p3 _ ne3 g3
  generalize hH4:upd (upd H3 p4 (.lst [])) x (.ins A.work dx (eK "frees" (.ref p4) _))=H4 at F4 x4 g1 g2 g3 g4
  clear hH4 t4
  refine⟨bF _,fun p5 n5=>⟨_,rfl,x,_,dx,_,rfl,aG.new n5 _ _ x4,G.bJ,G.jC,lt1000 (pl (pl (pl (pl A4)))) (by decide),?_⟩⟩
  obtain⟨ne5,f5,F5,x5,g5,t5⟩:=Bc (f:="made") F4 x4 n5
  obtain⟨g1,RZ⟩:=t5 p1 _ ne1 g1
  obtain⟨g2,R0⟩:=t5 p2 _ ne2 g2
  obtain⟨g3,R3⟩:=t5 p3 _ ne3 g3
  obtain⟨g4,R4⟩:=t5 p4 _ ne4 g4
  refine k ⟨p1,p2,p3,p4,p5,[],[]⟩ _ F5 ⟨⟨dx,?_⟩,g1,g2,g3,g4,⟨[],g5,.nil⟩,⟨rfl,fun i p e=>by simp at e⟩,⟨rfl,fun i p e=>by simp at e⟩,?_⟩ ?_
  ·rw[x5]
   exact di (fun z=>some (HO.ins A.work dx z)) (IM ⟨p1,p2,p3,p4,p5,[],[]⟩)
  ·simp[eQ.fp,RT,RU,RW,RZ,RV,RX,R0,RY,R3,R4]
  ·intro b hb
   simp only[eQ.fp,List.mem_cons,List.not_mem_nil,or_false] at hb
   rcases hb with rfl|rfl|rfl|rfl|rfl
   ·exact f1
   ·exact f2
   ·exact f3
   ·exact f4
   ·exact f5
def iJ (A:en)(H:Hp)(S:Bk)(bs:List Nat)(qs:List Addr):Prop:=Paired (fun(b:Nat) q=>eE H q A.dZ (fC b (S.bl b))) bs qs
def gN (A:en)(H:Hp)(S:Bk)(cs:List Nat)(qs:List Addr):Prop:=Paired (fun(c:Nat) q=>eE H q A.eo (fe c (S.cr c))) cs qs
theorem iJ.same {A:en}{H H':Hp}{S:Bk}{bs:List Nat}{qs:List Addr}(h:iJ A H S bs qs)(s:aG H H'):iJ A H' S bs qs:=Paired.iV h fun _ _ z=>z.same s
theorem gN.same {A:en}{H H':Hp}{S:Bk}{bs:List Nat}{qs:List Addr}(h:gN A H S bs qs)(s:aG H H'):gN A H' S bs qs:=Paired.iV h fun _ _ z=>z.same s
def Mz (A:en):Sp:=fun vs H Q _=> ∃(p pt:Addr) (S:Bk) (c:Nat) (bs:List Nat) (qs:List Addr),vs=[.ref p,.ref pt]/\eE H p A.eo (fe c (S.cr c))/\H pt=some (.lst (qs.map V.ref))/\iJ A H S bs qs/\bs.length<=100/\
 ∀D H',aG H H'->H D=none->H' D=some (.lst ((bs.map fun b=>oK (S.cr c) (S.bl b) b).map V.bl))->Q (.ref D) H'
theorem uW:aW ["credit","bills"] ["credit","bills"] (aA (top 27)):=⟨rfl,rfl,rfl,by decide +kernel,rfl,by decide +kernel,by decide +kernel⟩
theorem wq (T:Txt K mg){A:en}(G:jB K mg A):fz P w K mg base "row_of_fits" 2 ["credit","bills"] (Mz A):=by
 have CZ:fz P w K mg base "fits" 1 ["credit","bill"] (CW A):=IA T G
 refine T.vT.lg (k:=1) uW (fun _ _ _ _ _ _ us hl=>match us,hl with|[_,_],_=>rfl) (fun vs H Q E h=>?_) (fun f dv A' outer s H vs Q E hr h=>?_)
 ·obtain⟨p,pt,S,c,bs,qs,rfl,_⟩:=h
  rfl
 ·obtain⟨p,pt,S,c,bs,qs,rfl,hp,BX,hB,hl,k⟩:=h
  have hlen:=aX hB
  refine⟨_,(av (ba (jd (tn:=["bill"]) (cn:=["credit"]) (cj:=[0]) rfl (i8 (by rfl) (by decide +kernel) rfl (by decide +kernel) (by rfl) [(".0",.local),("bill",.local),("fits",.globalImplicit),("credit",.cell)] (by rfl) (by decide +kernel) rfl (Or.inl rfl) (Or.inl rfl)) (dF (pv 1)) (fun _ _ _ _=>(bG (i:=0) (show(["bill","credit"]:List Str).Nodup by decide +kernel) rfl (Or.inl rfl))) (fun _ _ _ _=>lR) (fun _ _ _ _=>(cL CZ (hr.mono (by decide)) rfl (aa (pv 1) (aa (pv 0) ak))))))),?_⟩
  refine⟨_,rfl,pt,rfl,⟨_,bQ.of BX⟩,?_⟩
  refine eD (K:=K) (a:=pt) (xs:=qs.map V.ref) (fun D i σ H6=>H D=none/\ ∃v,σ=[v,some (.ref p)]/\aG H H6/\H6 D=some (.lst (((bs.take i).map fun b=>oK (S.cr c) (S.bl b) b).map V.bl))) (fun D hD=>⟨hD,none,rfl,aG.new hD,ag⟩) (fun D i σ H6 _ ⟨_,_,_,t3,_⟩=>bQ.of (t3 _ _ BX)) ?_ ?_
  ·rintro D i x σ H6 hx ⟨hD,v,rfl,t3,iw⟩
   rw[aD] at hx
   obtain⟨q,hq,rfl⟩:=bM.mp hx
   have hi:i < bs.length:=by have:=(au.mp hq).1; omega
   obtain⟨q',sh,lD⟩:=bT hB (af hi)
   rw[hq] at sh
   obtain rfl:q=q':=aE sh
   have mI:=ma hi
   generalize bs[i]=b at lD mI
   refine⟨_,rfl,_,rfl,p,q,c,b,_,_,rfl,hp.same t3,lD.same t3,_,iw,br (by rw[ae,ae,bD]; omega),hD,_,rfl,t3.dA hD,?_⟩
   rw[ag,mI,aR,aR]
   rfl
  ·rintro D σ H6 hD ⟨_,v,rfl,t3,iw⟩
   refine k D H6 t3 hD ?_
   rw[iw,ae,← hlen,bf]
def bI.vs:bI->List V
 | .dZ w d u a=>[.str "bill",.str w,.int d,.int u,.int a]
 | .qv w d a=>[.str "pay",.str w,.int d,.int a]
 | .note b d a=>[.str "note",.int b,.int d,.int a]
 | .set c b a=>[.str "set",.int c,.int b,.int a]
 | .fO w=>[.str "sweep",.str w]
 | .iP n=>[.str "undo",.int n]
 | .ask o w d=>[.str (if o then "owed" else "free"),.str w,.int d]
 | .iB _ _ _=>[]
theorem jE {x y:Str}(h:x≠y):V.bl (decide (V.str x=V.str y))=V.bl false:=di V.bl (bN fun z=>h (by injection z))
theorem zN (x:Str):V.bl (decide (V.str x=V.str x))=V.bl true:=di V.bl (aM rfl)
theorem R5 {x y:Str}(h:x≠y):V.bl (!decide (V.str x=V.str y))=V.bl true:=by rw[show decide (V.str x=V.str y)=false from bN fun z=>h (by injection z)]; rfl
theorem YB (x:Str):V.bl (!decide (V.str x=V.str x))=V.bl false:=by rw[show decide (V.str x=V.str x)=true from aM rfl]; rfl
theorem uX {x:Int}{n:Nat}{ta tc:TE}{σ:L2.St}{H:Hp}{Q:Bool->Hp->Prop}(ha: ∀R:VK,R (.int x) H->ta σ H R)(hc: ∀R:VK,R (.int (n:Int)) H->tc σ H R)(q:Q (decide (pZ x n)) H):
  Hb (Hc (JG fun i j=> .bl (decide (i<=j))) (JG fun i j=> .bl (decide (i < j))) (tC (.int 0)) ta tc) σ H Q:=by
 refine ha _ ⟨_,_,rfl,rfl,_,rfl,cQ (fun d=>hc _ ⟨_,_,rfl,rfl,_,rfl,?_⟩) (fun d=>⟨_,rfl,?_⟩)⟩
 ·have d':(0:Int)<=x:=a0 d
  have e:decide (pZ x n)=decide (x < (n:Int)):=mr.mpr ⟨fun z=>z.2,fun z=>⟨d',z⟩⟩
  rw[e] at q
  exact q
 ·have d': ¬ (0:Int)<=x:=fun z=>d (aM z)
  have e:decide (pZ x n)=false:=bN fun z=>d' z.1
  rw[e] at q
  exact q
def Bd:Sp:=fun vs H Q _=> ∃(sd pd:Addr) (S:Bk) (f:fL) (d:bI),vs=[.ref sd,.ref pd]/\dD H sd S f/\H pd=some (.tup (bI.vs d))/\d.tells=true/\ ∀H',aG H H'->Q (.str (S.bar d)) H'
theorem nz:aW ["_law_state","_law_deed","_law_word","_law_spot"] ["_law_state","_law_deed"] (aA (top 58)):=⟨rfl,rfl,rfl,by decide +kernel,rfl,by decide +kernel,by decide +kernel⟩
theorem wt (T:Txt K mg):fz P w K mg base "_law_barred" 2 ["_law_state","_law_deed"] Bd:=by
 have jk:fz P w K mg base "_law_goes" 1 ["_law_state","_law_credit","_law_bill"] C0:=nv T
 refine T.vZ.lg (k:=1) nz (fun _ _ _ _ _ _ us hl=>match us,hl with|[_,_],_=>rfl) (fun vs H Q E h=>?_) (fun f dv A outer s H vs Q E hr h=>?_)
 ·obtain⟨sd,pd,S,g,d,rfl,_⟩:=h
  rfl
 ·obtain⟨sd,pd,S,g,d,rfl,hB,hd,ht,k⟩:=h
  have hu:=kA hr
  have nd:=nz.nd
  refine⟨_,(ah (bb (i:=2) nd rfl (Or.inl rfl) (aO bg (pv 1) aj (fun _ _=>rfl)))
(ah (bb (i:=3) nd rfl (Or.inl rfl) (f9 k7 (by rfl) T.xx boot_int (aa (eW dr (pv 2) aS (bc _)) ak)))
(ah (b0 (PW.pt (pw_and (a9 dr (pv 3) aj (bc _)) (pw_and1 (jN (z9 wX jP aj (aO bg (pv 1) aj (fun _ _=>rfl)) (bu bz (by rfl) T.eY bB (aa (cX hu (pv 0) aS (fun _ _=>rfl)) ak)))))))
(av (ba aS))
bw)
(ah (b0 (PW.pt (pw_and (a9 nQ (pv 2) (b9 (aa aS (aa aS ak))) (by rfl)) (pw_and1 (jN (z9 wX jP aj (aO bg (pv 1) (aV dS aj (pv 3)) (fun _ _=>rfl)) (bu bz (by rfl) T.eY bB (aa (cX hu (pv 0) aS (fun _ _=>rfl)) ak)))))))
(av (ba aS))
bw)
(ah (b0 (PW.pt (pw_and (a9 dr (pv 2) aS (bc _)) (pw_and1 (jN (gi (cL jk (hr.mono (by decide)) rfl (aa (pv 0) (aa (aO bg (pv 1) aj (fun _ _=>rfl)) (aa (aO bg (pv 1) aj (fun _ _=>rfl)) ak)))))))))
(av (ba aS))
bw)
(ah (b0 (PW.pt (pw_and (a9 se (pv 2) aS (bc _)) (pw_and1 (a9 jP (aO bg (pv 1) (oH kN aj) (fun _ _=>rfl)) aj (bc _)))))
(av (ba aS))
bw)
(ah (b0 (PW.pt (pw_and (a9 dr (pv 2) aS (bc _)) (pw_and1 (a9 jP (aO bg (pv 1) aj (fun _ _=>rfl)) (aO bg (pv 1) aj (fun _ _=>rfl)) (bc _)))))
(av (ba aS))
bw)
(ah (b0 (a9 dr (pv 2) aS (bc _))
(av (b0 (a9 ju (aO bg (pv 1) aj (fun _ _=>rfl)) (bu (rB rfl) (by rfl) T.AE boot_min (aa (aO bh (aO bh (cX hu (pv 0) aS (fun _ _=>rfl)) (aO bg (pv 1) aj (fun _ _=>rfl)) (fun _ _=>rfl)) aj (fun _ _=>rfl)) (aa (aO bh (aO bh (cX hu (pv 0) aS (fun _ _=>rfl)) (aO bg (pv 1) aj (fun _ _=>rfl)) (fun _ _=>rfl)) aj (fun _ _=>rfl)) ak))) (bc _))
(av (ba aS))
bw))
bw)
(av (ba aS)))))))))),?_⟩
  have kk: ∀(t:Str) (H':Hp),S.bar d=t->aG H H'->Q (.str t) H':=fun t H' e z=>e▸k H' z
  clear k
  cases d with
  |iP n=>cases ht
  |ask o w d=>cases ht
  |iB w d l=>cases ht
  |dZ wh dy du am=>
   refine⟨_,rfl,pd,_,_,.str "bill",rfl,rfl,cM.of hd,rfl,_,rfl,rfl,.inr ⟨false,(by rw[jE (show("bill":Str)≠"set" by decide +kernel)]),?_⟩⟩
   refine⟨_,rfl,rfl,false,di V.bl (by decide +kernel),cv (cv ?_)⟩
   refine⟨_,rfl,(by show 2<=sizeLine; decide),fun p9 n9=>⟨p9,_,rfl,.inl (bQ.of ag),rfl,rfl,false,di V.bl (by decide +kernel),cv (cv ?_)⟩⟩
   have s9:=aG.new (o:= .lst [V.str "set",.str "note"]) n9
   have Be:=s9 _ _ hd
   refine jD (H':=upd H p9 (.lst [V.str "set",.str "note"])) rfl ?_
   generalize upd H p9 (.lst [V.str "set",.str "note"])=H9 at s9 Be
   refine⟨_,rfl,rfl,false,jE (show("bill":Str)≠"set" by decide +kernel),cv (cv ?_)⟩
   refine⟨_,rfl,rfl,true,R5 (show("bill":Str)≠"sweep" by decide +kernel),fH ⟨_,rfl,_,rfl,pd,_,_,.int am,rfl,rfl,cM.of Be,rfl,_,_,rfl,rfl,_,rfl,cQ (fun z=>?_) (fun z=>?_)⟩⟩
   ·have z':am < 1:=a0 z
    exact kk _ _ (a8 z') s9
   have z1: ¬ am < 1:=fun q=>z (aM q)
   refine⟨_,rfl,rfl,true,zN _,fH ⟨_,rfl,pd,_,_,.int du,rfl,rfl,cM.of Be,rfl,_,rfl,pd,_,_,.int dy,rfl,rfl,cM.of Be,rfl,_,_,rfl,rfl,_,rfl,cQ (fun z=>?_) (fun z=>?_)⟩⟩
   ·have z':du < dy:=a0 z
    exact kk _ _ ((aQ z1).trans (a8 z')) s9
   have z2: ¬ du < dy:=fun q=>z (aM q)
   refine⟨_,rfl,rfl,false,jE (show("bill":Str)≠"set" by decide +kernel),cv ?_⟩
   exact kk _ _ ((aQ z1).trans (aQ z2)) s9
  |qv wh dy am=>
   refine⟨_,rfl,pd,_,_,.str "pay",rfl,rfl,cM.of hd,rfl,_,rfl,rfl,.inr ⟨false,(by rw[jE (show("pay":Str)≠"set" by decide +kernel)]),?_⟩⟩
   refine⟨_,rfl,rfl,false,di V.bl (by decide +kernel),cv (cv ?_)⟩
   refine⟨_,rfl,(by show 2<=sizeLine; decide),fun p9 n9=>⟨p9,_,rfl,.inl (bQ.of ag),rfl,rfl,false,di V.bl (by decide +kernel),cv (cv ?_)⟩⟩
   have s9:=aG.new (o:= .lst [V.str "set",.str "note"]) n9
   have Be:=s9 _ _ hd
   refine jD (H':=upd H p9 (.lst [V.str "set",.str "note"])) rfl ?_
   generalize upd H p9 (.lst [V.str "set",.str "note"])=H9 at s9 Be
   refine⟨_,rfl,rfl,false,jE (show("pay":Str)≠"set" by decide +kernel),cv (cv ?_)⟩
   refine⟨_,rfl,rfl,true,R5 (show("pay":Str)≠"sweep" by decide +kernel),fH ⟨_,rfl,_,rfl,pd,_,_,.int am,rfl,rfl,cM.of Be,rfl,_,_,rfl,rfl,_,rfl,cQ (fun z=>?_) (fun z=>?_)⟩⟩
   ·have z':am < 1:=a0 z
    exact kk _ _ (a8 z') s9
   have z1: ¬ am < 1:=fun q=>z (aM q)
   refine⟨_,rfl,rfl,false,jE (show("pay":Str)≠"bill" by decide +kernel),cv (cv ?_)⟩
   refine⟨_,rfl,rfl,false,jE (show("pay":Str)≠"set" by decide +kernel),cv ?_⟩
   exact kk _ _ (aQ z1) s9
  |fO wh=>
   refine⟨_,rfl,pd,_,_,.str "sweep",rfl,rfl,cM.of hd,rfl,_,rfl,rfl,.inr ⟨false,(by rw[jE (show("sweep":Str)≠"set" by decide +kernel)]),?_⟩⟩
   refine⟨_,rfl,rfl,false,di V.bl (by decide +kernel),cv (cv ?_)⟩
   refine⟨_,rfl,(by show 2<=sizeLine; decide),fun p9 n9=>⟨p9,_,rfl,.inl (bQ.of ag),rfl,rfl,false,di V.bl (by decide +kernel),cv (cv ?_)⟩⟩
   have s9:=aG.new (o:= .lst [V.str "set",.str "note"]) n9
   refine jD (H':=upd H p9 (.lst [V.str "set",.str "note"])) rfl ?_
   generalize upd H p9 (.lst [V.str "set",.str "note"])=H9 at s9
   refine⟨_,rfl,rfl,false,jE (show("sweep":Str)≠"set" by decide +kernel),cv (cv ?_)⟩
   refine⟨_,rfl,rfl,false,YB _,cv (cv ?_)⟩
   refine⟨_,rfl,rfl,false,jE (show("sweep":Str)≠"bill" by decide +kernel),cv (cv ?_)⟩
   refine⟨_,rfl,rfl,false,jE (show("sweep":Str)≠"set" by decide +kernel),cv ?_⟩
   exact kk _ _ rfl s9
  |note bi dy am=>
   refine⟨_,rfl,pd,_,_,.str "note",rfl,rfl,cM.of hd,rfl,_,rfl,rfl,.inr ⟨false,(by rw[jE (show("note":Str)≠"set" by decide +kernel)]),?_⟩⟩
   refine⟨_,rfl,rfl,false,di V.bl (by decide +kernel),cv (cv ?_)⟩
   refine⟨_,rfl,(by show 2<=sizeLine; decide),fun p9 n9=>⟨p9,_,rfl,.inl (bQ.of ag),rfl,rfl,true,di V.bl (by decide +kernel),fH ?_⟩⟩
   have s9:=aG.new (o:= .lst [V.str "set",.str "note"]) n9
   have Be:=s9 _ _ hd
   have B9:=hB.same s9
   generalize upd H p9 (.lst [V.str "set",.str "note"])=H9 at s9 Be B9
   have hlen:g.iu.length=S.aC.length:=B9.rb.length.symm
   refine uX (x:=bi) (n:=S.aC.length) (fun R q=>⟨_,rfl,_,rfl,_,_,rfl,rfl,pd,_,_,.int bi,rfl,rfl,cM.of Be,rfl,q⟩) (fun R q=>⟨_,rfl,sd,_,rfl,B9.gB,g.pb,_,rfl,.inl (bQ.of B9.hb),by rw[ae,hlen]; exact q⟩) (cQ (fun z=>?_) (fun z=>?_))
   ·have z': ¬ pZ bi S.aC.length:=by simpa using z
    exact kk _ _ (a8 z') s9
   have z0: ¬ ¬ pZ bi S.aC.length:=by simpa using z
   refine⟨_,rfl,rfl,false,jE (show("note":Str)≠"set" by decide +kernel),cv (cv ?_)⟩
   refine⟨_,rfl,rfl,true,R5 (show("note":Str)≠"sweep" by decide +kernel),fH ⟨_,rfl,_,rfl,pd,_,_,.int am,rfl,rfl,cM.of Be,rfl,_,_,rfl,rfl,_,rfl,cQ (fun z=>?_) (fun z=>?_)⟩⟩
   ·have z':am < 1:=a0 z
    exact kk _ _ ((aQ z0).trans (a8 z')) s9
   have z1: ¬ am < 1:=fun q=>z (aM q)
   refine⟨_,rfl,rfl,false,jE (show("note":Str)≠"bill" by decide +kernel),cv (cv ?_)⟩
   refine⟨_,rfl,rfl,false,jE (show("note":Str)≠"set" by decide +kernel),cv ?_⟩
   exact kk _ _ ((aQ z0).trans (aQ z1)) s9
  |set ci bi am=>
   have YC:g.cps.length=S.credits.length:=hB.rc.length.symm
   refine⟨_,rfl,pd,_,_,.str "set",rfl,rfl,cM.of hd,rfl,_,rfl,rfl,.inr ⟨true,(by rw[zN]),?_⟩⟩
   refine⟨_,rfl,rfl,true,di V.bl (by decide +kernel),fH ?_⟩
   refine uX (x:=ci) (n:=S.credits.length) (fun R q=>⟨_,rfl,pd,_,_,.int ci,rfl,rfl,cM.of hd,rfl,q⟩) (fun R q=>⟨_,rfl,sd,_,rfl,hB.gC,g.pc,_,rfl,.inl (bQ.of hB.hc),by rw[ae,YC]; exact q⟩) (cQ (fun z=>?_) (fun z=>?_))
   ·have z': ¬ pZ ci S.credits.length:=by simpa using z
    exact kk _ _ (a8 z') (aG.refl _)
   have zc: ¬ ¬ pZ ci S.credits.length:=by simpa using z
   refine⟨_,rfl,(by show 2<=sizeLine; decide),fun p9 n9=>⟨p9,_,rfl,.inl (bQ.of ag),rfl,rfl,true,di V.bl (by decide +kernel),fH ?_⟩⟩
   have s9:=aG.new (o:= .lst [V.str "set",.str "note"]) n9
   have Be:=s9 _ _ hd
   have B9:=hB.same s9
   generalize upd H p9 (.lst [V.str "set",.str "note"])=H9 at s9 Be B9
   have hlen:g.iu.length=S.aC.length:=B9.rb.length.symm
   refine uX (x:=bi) (n:=S.aC.length) (fun R q=>⟨_,rfl,_,rfl,_,_,rfl,rfl,pd,_,_,.int bi,rfl,rfl,cM.of Be,rfl,q⟩) (fun R q=>⟨_,rfl,sd,_,rfl,B9.gB,g.pb,_,rfl,.inl (bQ.of B9.hb),by rw[ae,hlen]; exact q⟩) (cQ (fun z=>?_) (fun z=>?_))
   ·have z': ¬ pZ bi S.aC.length:=by simpa using z
    exact kk _ _ ((aQ zc).trans (a8 z')) s9
   have zb: ¬ ¬ pZ bi S.aC.length:=by simpa using z
   have ic:=EV.mp zc
   have ib:=EV.mp zb
   obtain⟨c,rfl⟩:=cG ic.1
   obtain⟨b,rfl⟩:=cG ib.1
   have hc:c < S.credits.length:=by have:=ic.2; omega
   have hb:b < S.aC.length:=by have:=ib.2; omega
   refine⟨_,rfl,rfl,true,zN _,fH ⟨_,rfl,_,rfl,pd,_,_,.int (c:Int),rfl,rfl,cM.of Be,rfl,_,rfl,pd,_,_,.int (b:Int),rfl,rfl,cM.of Be,rfl,sd,S,g,c,b,rfl,B9,hc,hb,fun H10 IQ=>⟨_,rfl,cQ (fun z=>?_) (fun z=>?_)⟩⟩⟩
   ·have z':S.dX c b=false:=by simpa using z
    exact kk _ _ ((if_neg zc).trans ((if_neg zb).trans (if_pos (by simpa using z')))) (s9.trans IQ)
   have zg: ¬ S.dX (c:Int).toNat (b:Int).toNat=false:=by simpa using z
   have Lo:=IQ _ _ Be
   have PJ:=B9.same IQ
   have Bf:=s9.trans IQ
   refine⟨_,rfl,rfl,true,R5 (show("set":Str)≠"sweep" by decide +kernel),fH ⟨_,rfl,_,rfl,pd,_,_,.int am,rfl,rfl,cM.of Lo,rfl,_,_,rfl,rfl,_,rfl,cQ (fun z=>?_) (fun z=>?_)⟩⟩
   ·have z':am < 1:=a0 z
    exact kk _ _ ((aQ zc).trans ((aQ zb).trans ((aQ zg).trans (a8 z')))) Bf
   have z1: ¬ am < 1:=fun q=>z (aM q)
   refine⟨_,rfl,rfl,false,jE (show("set":Str)≠"bill" by decide +kernel),cv (cv ?_)⟩
   obtain⟨p,_,ap,hp⟩:=PJ.lc hc
   obtain⟨q,_,aq,hq⟩:=PJ.lb hb
   refine⟨_,rfl,rfl,true,zN _,fH ?_⟩
   refine⟨_,rfl,pd,_,_,.int am,rfl,rfl,cM.of Lo,rfl,_,rfl,sd,_,rfl,PJ.gC,_,rfl,pd,_,_,.int (c:Int),rfl,rfl,cM.of Lo,rfl,g.pc,_,_,.ref p,rfl,rfl,bQ.of PJ.hc,ap,p,_,_,.int (S.cr c).d,rfl,rfl,bQ.of hp,rfl,?_⟩
   refine⟨_,rfl,sd,_,rfl,PJ.gB,_,rfl,pd,_,_,.int (b:Int),rfl,rfl,cM.of Lo,rfl,g.pb,_,_,.ref q,rfl,rfl,bQ.of PJ.hb,aq,q,_,_,.int (S.bl b).d,rfl,rfl,bQ.of hq,rfl,_,_,rfl,_,_,rfl,rfl,_,rfl,cQ (fun z=>?_) (fun z=>?_)⟩
   ·have z':fI (S.cr (c:Int).toNat).d (S.bl (b:Int).toNat).d < am:=a0 z
    exact kk _ _ ((aQ zc).trans ((aQ zb).trans ((aQ zg).trans ((aQ z1).trans (a8 z'))))) Bf
   ·have z': ¬ fI (S.cr (c:Int).toNat).d (S.bl (b:Int).toNat).d < am:=fun q=>z (aM q)
    exact kk _ _ ((aQ zc).trans ((aQ zb).trans ((aQ zg).trans ((aQ z1).trans (aQ z'))))) Bf
def Om (H:Hp)(f f':fL):Prop:= ∀x∈f'.fp,x∈f.fp∨H x=none
def Wn (Q:VK)(H:Hp)(sd:Addr)(S:Bk)(f:fL)(d:bI):Prop:=
 ∀v f' H',Frame f.fp H H'->dD H' sd (S.enter d) f'->Om H f f'->Rp H' (S.KJ d).dt v->Q v H'
def y4:Sp:=fun vs H Q _=> ∃(sd pd:Addr) (S:Bk) (f:fL) (d:bI),vs=[.ref sd,.ref pd]/\dD H sd S f/\H pd=some (.tup (bI.vs d))/\d.tells=true/\S.credits.length < 64/\S.aC.length < 64/\S.made.length + 10000 < sizeLine/\
 (S.bar d≠""-> ∀H',aG H H'->Q (.str (S.bar d)) H')/\(S.bar d=""->Wn Q H sd S f d)
theorem oO:aW ["_law_state","_law_deed","_law_text","_law_who"] ["_law_state","_law_deed"] (aA (top 59)):=⟨rfl,rfl,rfl,by decide +kernel,rfl,by decide +kernel,by decide +kernel⟩
theorem qM (T:Txt K mg):fz P w K mg base "_law_enter" 3 ["_law_state","_law_deed"] y4:=by
 have wu:fz P w K mg base "_law_barred" 2 ["_law_state","_law_deed"] Bd:=wt T
 have pN:fz P w K mg base "_law_put" 1 ["_law_state","_law_credit","_law_bill","_law_amount"] Eh:=uT T
 have y6:fz P w K mg base "_law_swept" 2 ["_law_state","_law_who"] Ek:=y2 T
 refine T.yG.lg (k:=2) oO (fun _ _ _ _ _ _ us hl=>match us,hl with|[_,_],_=>rfl) (fun vs H Q E h=>?_) (fun f dv A outer s H vs Q E hr h=>?_)
 ·obtain⟨sd,pd,S,g,d,rfl,_⟩:=h
  rfl
 ·obtain⟨sd,pd,S,g,d,rfl,hB,hd,ht,qB,Lm,IL,kn,ky⟩:=h
  have hu:=kA hr
  have nd:=oO.nd
  refine⟨_,(ah (bb (i:=2) nd rfl (Or.inl rfl) (cL wu (hr.mono (by decide)) rfl (aa (pv 0) (aa (pv 1) ak))))
(ah (b0 (a9 se (pv 2) aS (bc _))
(av (ba (pv 2)))
bw)
(ah (b0 (a9 dr (aO bg (pv 1) aj (fun _ _=>rfl)) aS (bc _))
(ah (bR (fq aJ aH aI bZ (cX hu (pv 0) aS (fun _ _=>rfl)) (aa (b9 (aa (aO bg (pv 1) aj (fun _ _=>rfl)) (aa (aO bg (pv 1) aj (fun _ _=>rfl)) (aa (aO bg (pv 1) aj (fun _ _=>rfl)) (aa (aO bg (pv 1) aj (fun _ _=>rfl)) (aa (aO bg (pv 1) aj (fun _ _=>rfl)) ak)))))) ak)))
(av (ba (aV fb (bu bz (by rfl) T.eY bB (aa (cX hu (pv 0) aS (fun _ _=>rfl)) ak)) aj))))
bw)
(ah (b0 (a9 dr (aO bg (pv 1) aj (fun _ _=>rfl)) aS (bc _))
(ah (bR (fq aJ aH aI bZ (cX hu (pv 0) aS (fun _ _=>rfl)) (aa (b9 (aa (aO bg (pv 1) aj (fun _ _=>rfl)) (aa (aO bg (pv 1) aj (fun _ _=>rfl)) (aa (aO bg (pv 1) aj (fun _ _=>rfl)) (aa (oH kN aj) (aa (aO bg (pv 1) aj (fun _ _=>rfl)) ak)))))) ak)))
(av (ba (aV fb (bu bz (by rfl) T.eY bB (aa (cX hu (pv 0) aS (fun _ _=>rfl)) ak)) aj))))
bw)
(ah (b0 (a9 dr (aO bg (pv 1) aj (fun _ _=>rfl)) aS (bc _))
(ah (bb (i:=3) nd rfl (Or.inl rfl) (aO bh (aO bh (cX hu (pv 0) aS (fun _ _=>rfl)) (aO bg (pv 1) aj (fun _ _=>rfl)) (fun _ _=>rfl)) aj (fun _ _=>rfl)))
(ah (bR (fq aJ aH aI bZ (cX hu (pv 0) aS (fun _ _=>rfl)) (aa (b9 (aa (pv 3) (aa (aO bg (pv 1) aj (fun _ _=>rfl)) (aa (aO bg (pv 1) aj (fun _ _=>rfl)) (aa (aO bg (pv 1) aj (fun _ _=>rfl)) (aa (aO bg (pv 1) aj (fun _ _=>rfl)) ak)))))) ak)))
(av (ba (aV fb (bu bz (by rfl) T.eY bB (aa (cX hu (pv 0) aS (fun _ _=>rfl)) ak)) aj)))))
bw)
(ah (b0 (a9 dr (aO bg (pv 1) aj (fun _ _=>rfl)) aS (bc _))
(ah (bR (cL pN (hr.mono (by decide)) rfl (aa (pv 0) (aa (aO bg (pv 1) aj (fun _ _=>rfl)) (aa (aO bg (pv 1) aj (fun _ _=>rfl)) (aa (aO bg (pv 1) aj (fun _ _=>rfl)) ak))))))
(av (ba (aO bg (pv 1) aj (fun _ _=>rfl)))))
bw)
(av (ba (cL y6 (hr.mono (by decide)) rfl (aa (pv 0) (aa (aO bg (pv 1) aj (fun _ _=>rfl)) ak))))))))))),?_⟩
  refine⟨_,rfl,_,rfl,sd,pd,S,g,d,rfl,hB,hd,ht,fun H1 s1=>?_⟩
  by_cases oE:S.bar d=""
  case neg=>exact⟨_,rfl,rfl,true,R5 oE,fH ⟨_,rfl,kn oE H1 s1⟩⟩
  refine⟨_,rfl,rfl,false,(by rw[oE]; exact YB _),cv ?_⟩
  have B1:=hB.same s1
  have lV:=s1 _ _ hd
  have R6: ∀v f' H',Frame g.fp H1 H'->dD H' sd (S.enter d) f'->Om H1 g f'->Rp H' (S.KJ d).dt v->Q v H':=fun v f' H' fr b fi r=>ky oE v f' H' (fr.l0 s1) b (fun x hx=>(fi x hx).elim .inl fun z=> .inr (s1.free z)) r
  clear ky kn
  have lb:=B1.rb.length
  have lc:=B1.rc.length
  cases d with
  |iP n=>cases ht
  |ask o w d=>cases ht
  |iB w d l=>cases ht
  |dZ wh dy du am=>
   refine⟨_,rfl,pd,_,_,.str "bill",rfl,rfl,cM.of lV,rfl,rfl,true,zN _,fH ?_⟩
   refine⟨_,rfl,sd,_,rfl,B1.gB,.inl ⟨rfl,_,bQ.of B1.hb⟩,_,rfl,pd,_,_,.str wh,rfl,rfl,cM.of lV,rfl,_,rfl,pd,_,_,.int dy,rfl,rfl,cM.of lV,rfl,_,rfl,pd,_,_,.int du,rfl,rfl,cM.of lV,rfl,_,rfl,pd,_,_,.int am,rfl,rfl,cM.of lV,rfl,_,rfl,pd,_,_,.int am,rfl,rfl,cM.of lV,rfl,(by show 5<=sizeLine; decide),fun pr nr=>?_⟩
   have t1:=aG.new (o:= .lst (Rw.vs ⟨wh,dy,du,am,am⟩)) nr
   refine⟨g.pb,_,_,rfl,rfl,t1 _ _ B1.hb,br (by rw[ae]; omega),?_⟩
   have B2:=B1.ir (r:=⟨wh,dy,du,am,am⟩) nr
   have F2:Frame g.fp H1 (upd (upd H1 pr (.lst (Rw.vs ⟨wh,dy,du,am,am⟩))) g.pb (.lst (g.iu.map V.ref ++ [.ref pr]))):=t1.frame.tr (Frame.upd (by simp[fL.fp]))
   refine jD (H':=upd (upd H1 pr (.lst (Rw.vs ⟨wh,dy,du,am,am⟩))) g.pb (.lst (g.iu.map V.ref ++ [.ref pr]))) rfl ?_
   generalize upd (upd H1 pr (.lst (Rw.vs ⟨wh,dy,du,am,am⟩))) g.pb (.lst (g.iu.map V.ref ++ [.ref pr]))=H2 at B2 F2
   refine⟨_,rfl,sd,_,rfl,B2.gB,_,_,rfl,.inl (bQ.of B2.hb),_,_,rfl,rfl,?_⟩
   refine R6 _ (g.ir pr) H2 F2 B2 (fun x hx=>?_) (eJ.mpr ?_)
   ·rcases aw.mp ((g.Ir pr).mem_iff.mp hx) with rfl|hx
    ·exact .inr nr
    ·exact .inl hx
   ·show V.int _ =V.int (S.aC.length:Int)
    congr 1
    rw[ae]
    show((g.iu ++ [pr]).length:Int) - 1=_
    rw[aF,lb]
    simp
  |qv wh dy am=>
   refine⟨_,rfl,pd,_,_,.str "pay",rfl,rfl,cM.of lV,rfl,rfl,false,jE (show("pay":Str)≠"bill" by decide +kernel),cv ?_⟩
   refine⟨_,rfl,pd,_,_,.str "pay",rfl,rfl,cM.of lV,rfl,rfl,true,zN _,fH ?_⟩
   refine⟨_,rfl,sd,_,rfl,B1.gC,.inl ⟨rfl,_,bQ.of B1.hc⟩,_,rfl,pd,_,_,.str wh,rfl,rfl,cM.of lV,rfl,_,rfl,pd,_,_,.int dy,rfl,rfl,cM.of lV,rfl,_,rfl,pd,_,_,.int am,rfl,rfl,cM.of lV,rfl,_,rfl,_,rfl,pd,_,_,.int am,rfl,rfl,cM.of lV,rfl,(by show 5<=sizeLine; decide),fun pr nr=>?_⟩
   have t1:=aG.new (o:= .lst (Rw.vs ⟨wh,dy,am,-1,am⟩)) nr
   refine⟨g.pc,_,_,rfl,rfl,t1 _ _ B1.hc,br (by rw[ae]; omega),?_⟩
   have B2:=B1.fU (r:=⟨wh,dy,am,-1,am⟩) nr
   have F2:Frame g.fp H1 (upd (upd H1 pr (.lst (Rw.vs ⟨wh,dy,am,-1,am⟩))) g.pc (.lst (g.cps.map V.ref ++ [.ref pr]))):=t1.frame.tr (Frame.upd (by simp[fL.fp]))
   refine jD (H':=upd (upd H1 pr (.lst (Rw.vs ⟨wh,dy,am,-1,am⟩))) g.pc (.lst (g.cps.map V.ref ++ [.ref pr]))) rfl ?_
   generalize upd (upd H1 pr (.lst (Rw.vs ⟨wh,dy,am,-1,am⟩))) g.pc (.lst (g.cps.map V.ref ++ [.ref pr]))=H2 at B2 F2
   refine⟨_,rfl,sd,_,rfl,B2.gC,_,_,rfl,.inl (bQ.of B2.hc),_,_,rfl,rfl,?_⟩
   refine R6 _ (g.fU pr) H2 F2 B2 (fun x hx=>?_) (eJ.mpr ?_)
   ·rcases aw.mp ((g.Ea pr).mem_iff.mp hx) with rfl|hx
    ·exact .inr nr
    ·exact .inl hx
   ·show V.int _ =V.int (S.credits.length:Int)
    congr 1
    rw[ae]
    show((g.cps ++ [pr]).length:Int) - 1=_
    rw[aF,lc]
    simp
  |note bi dy am=>
   obtain⟨ib,ia⟩:=nR oE
   obtain⟨b,rfl⟩:=cG ib.1
   have hb:b < S.aC.length:=by have:=ib.2; omega
   obtain⟨q,_,aq,hq⟩:=B1.lb hb
   refine⟨_,rfl,pd,_,_,.str "note",rfl,rfl,cM.of lV,rfl,rfl,false,jE (show("note":Str)≠"bill" by decide +kernel),cv ?_⟩
   refine⟨_,rfl,pd,_,_,.str "note",rfl,rfl,cM.of lV,rfl,rfl,false,jE (show("note":Str)≠"pay" by decide +kernel),cv ?_⟩
   refine⟨_,rfl,pd,_,_,.str "note",rfl,rfl,cM.of lV,rfl,rfl,true,zN _,fH ?_⟩
   refine⟨_,rfl,sd,_,rfl,B1.gB,_,rfl,pd,_,_,.int (b:Int),rfl,rfl,cM.of lV,rfl,g.pb,_,_,.ref q,rfl,rfl,bQ.of B1.hb,aq,q,_,_,.str (S.bl b).aN,rfl,rfl,bQ.of hq,rfl,?_⟩
   refine⟨_,rfl,sd,_,rfl,B1.gC,.inl ⟨rfl,_,bQ.of B1.hc⟩,_,rfl,_,rfl,pd,_,_,.int dy,rfl,rfl,cM.of lV,rfl,_,rfl,pd,_,_,.int am,rfl,rfl,cM.of lV,rfl,_,rfl,pd,_,_,.int (b:Int),rfl,rfl,cM.of lV,rfl,_,rfl,pd,_,_,.int am,rfl,rfl,cM.of lV,rfl,(by show 5<=sizeLine; decide),fun pr nr=>?_⟩
   have t1:=aG.new (o:= .lst (Rw.vs ⟨(S.bl b).aN,dy,am,b,am⟩)) nr
   refine⟨g.pc,_,_,rfl,rfl,t1 _ _ B1.hc,br (by rw[ae]; omega),?_⟩
   have B2:=B1.fU (r:=⟨(S.bl b).aN,dy,am,b,am⟩) nr
   have F2:Frame g.fp H1 (upd (upd H1 pr (.lst (Rw.vs ⟨(S.bl b).aN,dy,am,b,am⟩))) g.pc (.lst (g.cps.map V.ref ++ [.ref pr]))):=t1.frame.tr (Frame.upd (by simp[fL.fp]))
   refine jD (H':=upd (upd H1 pr (.lst (Rw.vs ⟨(S.bl b).aN,dy,am,b,am⟩))) g.pc (.lst (g.cps.map V.ref ++ [.ref pr]))) rfl ?_
   generalize upd (upd H1 pr (.lst (Rw.vs ⟨(S.bl b).aN,dy,am,b,am⟩))) g.pc (.lst (g.cps.map V.ref ++ [.ref pr]))=H2 at B2 F2
   refine⟨_,rfl,sd,_,rfl,B2.gC,_,_,rfl,.inl (bQ.of B2.hc),_,_,rfl,rfl,?_⟩
   refine R6 _ (g.fU pr) H2 F2 B2 (fun x hx=>?_) (eJ.mpr ?_)
   ·rcases aw.mp ((g.Ea pr).mem_iff.mp hx) with rfl|hx
    ·exact .inr nr
    ·exact .inl hx
   ·show V.int _ =V.int (S.credits.length:Int)
    congr 1
    rw[ae]
    show((g.cps ++ [pr]).length:Int) - 1=_
    rw[aF,lc]
    simp
  |set ci bi am=>
   obtain⟨ic,ib,_,_,_,_⟩:=lj oE
   obtain⟨c,rfl⟩:=cG ic.1
   obtain⟨b,rfl⟩:=cG ib.1
   have hc:c < S.credits.length:=by have:=ic.2; omega
   have hb:b < S.aC.length:=by have:=ib.2; omega
   refine⟨_,rfl,pd,_,_,.str "set",rfl,rfl,cM.of lV,rfl,rfl,false,jE (show("set":Str)≠"bill" by decide +kernel),cv ?_⟩
   refine⟨_,rfl,pd,_,_,.str "set",rfl,rfl,cM.of lV,rfl,rfl,false,jE (show("set":Str)≠"pay" by decide +kernel),cv ?_⟩
   refine⟨_,rfl,pd,_,_,.str "set",rfl,rfl,cM.of lV,rfl,rfl,false,jE (show("set":Str)≠"note" by decide +kernel),cv ?_⟩
   refine⟨_,rfl,pd,_,_,.str "set",rfl,rfl,cM.of lV,rfl,rfl,true,zN _,fH ?_⟩
   refine⟨_,rfl,_,rfl,pd,_,_,.int (c:Int),rfl,rfl,cM.of lV,rfl,_,rfl,pd,_,_,.int (b:Int),rfl,rfl,cM.of lV,rfl,_,rfl,pd,_,_,.int am,rfl,rfl,cM.of lV,rfl,sd,S,g,c,b,am,rfl,B1,hc,hb,by omega,fun H2 F2 B2=>?_⟩
   have hd2:=B1.tk F2 _ _ lV
   refine⟨_,rfl,pd,_,_,.int am,rfl,rfl,cM.of hd2,rfl,?_⟩
   exact R6 _ g H2 F2 B2 (fun x hx=> .inl hx) (eJ.mpr rfl)
  |fO wh=>
   refine⟨_,rfl,pd,_,_,.str "sweep",rfl,rfl,cM.of lV,rfl,rfl,false,jE (show("sweep":Str)≠"bill" by decide +kernel),cv ?_⟩
   refine⟨_,rfl,pd,_,_,.str "sweep",rfl,rfl,cM.of lV,rfl,rfl,false,jE (show("sweep":Str)≠"pay" by decide +kernel),cv ?_⟩
   refine⟨_,rfl,pd,_,_,.str "sweep",rfl,rfl,cM.of lV,rfl,rfl,false,jE (show("sweep":Str)≠"note" by decide +kernel),cv ?_⟩
   refine⟨_,rfl,pd,_,_,.str "sweep",rfl,rfl,cM.of lV,rfl,rfl,false,jE (show("sweep":Str)≠"set" by decide +kernel),cv ?_⟩
   refine⟨_,rfl,_,rfl,pd,_,_,.str wh,rfl,rfl,cM.of lV,rfl,sd,S,g,wh,rfl,B1,qB,Lm,IL,fun D ms H2 F2 B2 nD hD hT=>?_⟩
   exact R6 _ g H2 F2 B2 (fun x hx=> .inl hx) (jR.mpr ⟨D,ms,rfl,hD,hT.T3⟩)
def bI.word:bI->Str
 | .dZ _ _ _ _=>"bill"
 | .qv _ _ _=>"pay"
 | .note _ _ _=>"note"
 | .set _ _ _=>"set"
 | .fO _=>"sweep"
 | .iP _=>"undo"
 | .ask o _ _=>if o then "owed" else "free"
 | .iB _ _ _=>"ages"
theorem tN {d:bI}(h:d.tells=true∨ ∃m,d= .iP m): ∃r,bI.vs d= .str (bI.word d) :: r:=by
 cases d with
 |iB w d l=>rcases h with h|⟨m,h⟩ <;> cases h
 |_=>exact⟨_,rfl⟩
theorem Em {d:bI}(h:d.tells=true):vK (.str (bI.word d)) [.str "set",.str "sweep"]=d.isSet:=by
 cases d with
 |dZ _ _ _ _=>show vK (.str "bill") _ =false; decide +kernel
 |qv _ _ _=>show vK (.str "pay") _ =false; decide +kernel
 |note _ _ _=>show vK (.str "note") _ =false; decide +kernel
 |set _ _ _=>show vK (.str "set") _ =true; decide +kernel
 |fO _=>show vK (.str "sweep") _ =true; decide +kernel
 |iP _=>cases h
 |ask _ _ _=>cases h
 |iB _ _ _=>cases h
def gO (H:Hp)(ss:List (Int×bI))(vs:List V):Prop:=Paired (fun(st:Int×bI) v=> ∃p pd,v= .ref p/\H p=some (.tup [.int st.1,.ref pd])/\H pd=some (.tup (bI.vs st.2))/\st.2.tells=true) ss vs
theorem gO.mono {H H':Hp}{ss:List (Int×bI)}{vs:List V}(h:gO H ss vs)(k:cU H H'):gO H' ss vs:=
 Paired.iV h fun _ _ ⟨p,pd,e,q1,q2,t⟩=>⟨p,pd,e,k _ _ q1,k _ _ q2,t⟩
def Bg:Sp:=fun vs H Q _=> ∃(ps:Addr) (ss:List (Int×bI)) (us:List V),vs=[.ref ps]/\H ps=some (.lst us)/\gO H ss us/\ss.length<=59/\
 (cK ss Bk.new=none-> ∀H',aG H H'->Q .eI H')/\(∀S,cK ss Bk.new=some S-> ∀sd f H',aG H H'->dD H' sd S f->(∀b∈f.fp,H b=none)->Q (.ref sd) H')
theorem nA:aW ["_law_steps","_law_state","_law_number","_law_deed"] ["_law_steps"] (aA (top 60)):=⟨rfl,rfl,rfl,by decide +kernel,rfl,by decide +kernel,by decide +kernel⟩
theorem wx (T:Txt K mg):fz P w K mg base "_law_worked" 4 ["_law_steps"] Bg:=by
 have l4:fz P w K mg base "_law_begun" 1 [] Eg:=qK T
 have l5:fz P w K mg base "_law_enter" 3 ["_law_state","_law_deed"] y4:=qM T
 refine T.v7.lg (k:=3) nA (fun _ _ _ _ _ _ us hl=>match us,hl with|[_],_=>rfl) (fun vs H Q E h=>?_) (fun f dv A outer s H vs Q E hr h=>?_)
 ·obtain⟨ps,ss,us,rfl,_⟩:=h
  rfl
 ·obtain⟨ps,ss,us,rfl,mP,Lp,hl,kn,ky⟩:=h
  have nd:=nA.nd
  have hlen:=aX Lp
  refine⟨_,(ah (bb (i:=1) nd rfl (Or.inl rfl) (HB l4 (hr.mono (by decide)) rfl))
(ah (fM bY rfl (dF (pv 0)) (iW rfl (cw (bG (i:=2) nd rfl (Or.inl rfl)) (cw (bG (i:=3) nd rfl (Or.inl rfl)) gJ)))
(av (b0 (gi (bu fB (by rfl) T.dN eX (aa (cL l5 (hr.mono (by decide)) rfl (aa (pv 1) (aa (pv 3) ak))) (aa (g6 (v:= .ty "str") (by rfl) T.D8 boot_str rfl) ak))))
(av (ba Cd))
bw)))
(av (ba (pv 1))))),?_⟩
  refine⟨rfl,fun sd f0 H1 s1 B1 K6 nf=>?_⟩
  refine⟨_,rfl,ps,rfl,⟨_,bQ.of (s1 _ _ mP)⟩,?_⟩
  refine gT (K:=K) (a:=ps) (xs:=us) (fun i σ H2=> ∃(S:Bk) (f:fL) (x2 x3:Option V),σ=[some (.ref ps),some (.ref sd),x2,x3]/\aG H H2/\dD H2 sd S f/\(∀b∈f.fp,H b=none)/\WF S i/\cK ss Bk.new=cK (ss.drop i) S)
   ⟨Bk.new,f0,none,none,rfl,s1,B1,nf,WF.new,rfl⟩ (fun i σ H2 _ ⟨_,_,_,_,_,s2,_⟩=>bQ.of (s2 _ _ mP)) ?_ ?_
  ·rintro i x σ H2 hx ⟨S,f2,x2,x3,rfl,s2,B2,T7,wf,hw⟩
   have hi:i < ss.length:=by have:=(au.mp hx).1; omega
   obtain⟨v,hv,p,pd,rfl,hp,GU,ht⟩:=bT Lp (af hi)
   rw[hx] at hv
   obtain rfl:x= .ref p:=aE hv
   have hdr:=MU hi
   rw[hdr] at hw
   generalize ss[i]=st at hp GU ht hw
   obtain⟨n,d⟩:=st
   have xj:=s2 _ _ hp
   have Oo:=s2 _ _ GU
   refine⟨p,_,rfl,cM.of xj,rfl,_,_,rfl,_,_,rfl,rfl,?_⟩
   refine⟨_,rfl,_,rfl,sd,pd,S,f2,d,rfl,B2,Oo,ht,by have:=wf.lc; omega,by have:=wf.lb; omega,by have:=wf.lm; rw[eZ]; omega,fun hb H3 s3=>?_,fun hb v f3 H3 F3 B3 fi r=>?_⟩
   ·refine⟨_,_,_,true,rfl,.str _,xn (.str (S.bar d)),_,rfl,fH ?_⟩
    refine kn ?_ _ (s2.trans s3)
    rw[hw]
    show(if S.bar d="" then _ else none)=none
    rw[aQ hb]
   ·have hS:TB (S.KJ d).dt=false:=by cases d <;> first|rfl|cases ht
    refine⟨_,_,_,false,rfl,r.ty,(xn _).trans (di some hS),_,rfl,cv ?_⟩
    refine⟨S.enter d,f3,_,_,rfl,F3.same s2 T7,B3,fun b pY=>?_,wf.enter (by omega) hb,?_⟩
    ·rcases fi b pY with z|z
     ·exact T7 b z
     ·exact s2.free z
    ·rw[hw]
     show(if S.bar d="" then _ else none)=_
     rw[a8 hb]
  ·rintro σ H2 ⟨S,f2,x2,x3,rfl,s2,B2,T7,wf,hw⟩
   rw[← hlen,List.drop_length] at hw
   exact⟨_,rfl,ky S hw sd f2 H2 s2 B2 T7⟩
def Lq:Sp:=fun vs H Q _=> ∃(pd:Addr) (wd:Str) (r:List V),vs=[.ref pd]/\H pd=some (.tup (.str wd :: r))/\ ∀H',aG H H'->Q (.bl (vK (.str wd) [.str "bill",.str "pay",.str "note",.str "set",.str "sweep"])) H'
theorem wy:aW ["_law_deed"] ["_law_deed"] (aA (top 61)):=⟨rfl,rfl,rfl,by decide +kernel,rfl,by decide +kernel,by decide +kernel⟩
theorem y7 (T:Txt K mg):fz P w K mg base "_law_tells" 1 ["_law_deed"] Lq:=by
 refine T.yH.lg (k:=0) wy (fun _ _ _ _ _ _ us hl=>match us,hl with|[_],_=>rfl) (fun vs H Q E h=>?_) (fun f dv A outer s H vs Q E hr h=>?_)
 ·obtain⟨pd,wd,r,rfl,_⟩:=h
  rfl
 ·obtain⟨pd,wd,r,rfl,hd,k⟩:=h
  refine⟨_,(av (ba (eW nQ (aO bg (pv 0) aj (fun _ _=>rfl)) (b9 (aa aS (aa aS (aa aS (aa aS (aa aS ak)))))) (by rfl)))),?_⟩
  refine⟨_,rfl,pd,_,_,.str wd,rfl,rfl,cM.of hd,cS (j:=0) rfl,(by show 5<=sizeLine; decide),fun p9 n9=>⟨p9,_,rfl,.inl (bQ.of ag),rfl,rfl,?_⟩⟩
  exact k _ (aG.new n9)
def MA (Q:VK)(H:Hp)(ps:Addr)(f:fL)(r:JJ×iZ):Prop:=
 ∀(t:Addr) (v:V) (uY BY:Addr) (f':fL) (Bh:List V) (H':Hp),H' t=some (.tup [v,.ref uY,.ref BY])->Rp H' r.1.dt v->H' uY=some (.lst Bh)->gO H' r.2.steps Bh->dD H' BY r.2.bk f'->Frame f.fp H H'->Om H f f'->uY∉f'.fp->(∀a o,a∉f.fp->H a=some o->uY=a->uY=ps)->Q (.ref t) H'
def Oq:Sp:=fun vs H Q _=> ∃(ps sd pd:Addr) (n:Nat) (T:iZ) (us:List V) (f:fL) (d:bI),vs=[.ref ps,.ref sd,.int n,.ref pd]/\H ps=some (.lst us)/\gO H T.steps us/\dD H sd T.bk f/\ps∉f.fp/\H pd=some (.tup (bI.vs d))/\(d.tells=true∨ ∃m,d= .iP m)/\Good T n/\n<=59/\MA Q H ps f (gp T n d)
theorem uZ {T:iZ}{n:Int}{d:bI}(h:d.tells=true):gp T n d=if T.bk.bar d="" then(T.bk.KJ d,(⟨T.steps ++ [(n,d)],T.bk.enter d⟩:iZ)) else(.txt (T.bk.bar d),T):=by
 cases d <;> first|rfl|cases h
theorem qN:aW ["_law_steps","_law_state","_law_number","_law_deed","_law_rest","_law_step","_law_later","_law_answer"] ["_law_steps","_law_state","_law_number","_law_deed"] (aA (top 62)):=⟨rfl,rfl,rfl,by decide +kernel,rfl,by decide +kernel,by decide +kernel⟩
theorem gF {α:Type}(p:α->Bool){l:List α}{i:Nat}{x:α}(h:l[i]? =some x):(l.take (i + 1)).filter p=(l.take i).filter p ++ (if p x=true then[x] else[]):=by
 rw[ET,h,gh]
 congr 1
 show[x].filter p=_
 by_cases c:p x=true
 ·rw[a8 c,cW c]; rfl
 ·rw[aQ c,ko c]; rfl
theorem Bi (T:Txt K mg):fz P w K mg base "_law_done" 5 ["_law_steps","_law_state","_law_number","_law_deed"] Oq:=by
 have wz:fz P w K mg base "_law_worked" 4 ["_law_steps"] Bg:=wx T
 have l5:fz P w K mg base "_law_enter" 3 ["_law_state","_law_deed"] y4:=qM T
 refine T.AD.lg (k:=4) qN (fun _ _ _ _ _ _ us hl=>match us,hl with|[_,_,_,_],_=>rfl) (fun vs H Q E h=>?_) (fun f dv A outer s H vs Q E hr h=>?_)
 ·obtain⟨ps,sd,pd,n,T,us,f,d,rfl,_⟩:=h
  rfl
 ·obtain⟨ps,sd,pd,n,T0,us,g,d,rfl,mP,Lp,hB,En,hd,hk,good,hn,k⟩:=h
  have nd:=qN.nd
  have hlen:=aX Lp
  have hT:=good.len
  obtain⟨rr,YD⟩:=tN hk
  have T8:H pd=some (.tup (.str (bI.word d) :: rr)):=YD▸hd
  refine⟨_,(ah (b0 (a9 dr (aO bg (pv 3) aj (fun _ _=>rfl)) aS (bc _))
(ah (bb (i:=4) nd rfl (Or.inl rfl) (b9 ak))
(ah (fM bY rfl (dF (pv 0)) (bG (i:=5) nd rfl (Or.inl rfl))
(av (b0 (PW.pt (pw_or (a9 se (aO bg (pv 5) aj (fun _ _=>rfl)) (aO bg (pv 3) aj (fun _ _=>rfl)) (bc _)) (pw_or1 (a9 ye (aO bg (aO bg (pv 5) aj (fun _ _=>rfl)) aj (fun _ _=>rfl)) (b9 (aa aS (aa aS ak))) (by rfl)))))
(av (bR (fq aJ aH aI bZ (pv 4) (aa (pv 5) ak))))
bw)))
(ah (b0 (a9 dr (bu bz (by rfl) T.eY bB (aa (pv 4) ak)) (bu bz (by rfl) T.eY bB (aa (pv 0) ak)) (bc _))
(av (ba (dH (aa aS (aa (pv 0) (aa (pv 1) ak))))))
bw)
(ah (bb (i:=6) nd rfl (Or.inl rfl) (cL wz (hr.mono (by decide)) rfl (aa (pv 4) ak)))
(ah (b0 (xX (G5 (pv 6)))
(av (ba (dH (aa aS (aa (pv 0) (aa (pv 1) ak))))))
bw)
(av (ba (dH (aa aS (aa (pv 4) (aa (pv 6) ak)))))))))))
bw)
(ah (bb (i:=7) nd rfl (Or.inl rfl) (cL l5 (hr.mono (by decide)) rfl (aa (pv 1) (aa (pv 3) ak))))
(ah (b0 (gi (bu fB (by rfl) T.dN eX (aa (pv 7) (aa (g6 (v:= .ty "str") (by rfl) T.D8 boot_str rfl) ak))))
(av (ba (dH (aa (pv 7) (aa (pv 0) (aa (pv 1) ak))))))
bw)
(av (ba (dH (aa (pv 7) (aa (aV lQ (pv 0) (b9 (aa (dH (aa (pv 2) (aa (pv 3) ak))) ak))) (aa (pv 1) ak))))))))),?_⟩
  refine⟨_,rfl,pd,_,_,.str (bI.word d),rfl,rfl,cM.of T8,cS (j:=0) rfl,rfl,?_⟩
  clear T8 YD rr
  by_cases ht:d.tells=true
  ·
   have hw:bI.word d≠"undo":=by
    cases d with
    |iP m=>cases ht
    |ask _ _ _=>cases ht
    |iB _ _ _=>cases ht
    |dZ _ _ _ _=>show("bill":Str)≠"undo"; decide +kernel
    |qv _ _ _=>show("pay":Str)≠"undo"; decide +kernel
    |note _ _ _=>show("note":Str)≠"undo"; decide +kernel
    |set _ _ _=>show("set":Str)≠"undo"; decide +kernel
    |fO _=>show("sweep":Str)≠"undo"; decide +kernel
   refine⟨false,jE hw,cv ?_⟩
   have wf:=good.wf (by omega)
   rw[uZ ht] at k
   refine⟨_,rfl,_,rfl,sd,pd,T0.bk,g,d,rfl,hB,hd,ht,by have:=wf.lc; omega,by have:=wf.lb; omega,by have:=wf.lm; rw[eZ]; omega,fun hb H3 s3=>?_,fun hb v f3 H3 F3 B3 fi r=>?_⟩
   ·rw[aQ hb] at k
    refine⟨_,rfl,_,_,_,true,rfl,.str _,xn (.str (T0.bk.bar d)),_,rfl,fH ?_⟩
    refine⟨_,rfl,_,rfl,_,rfl,(by show 3<=sizeLine; decide),fun t nt=>?_⟩
    have s4:=s3.trans (aG.new (o:= .tup [V.str (T0.bk.bar d),.ref ps,.ref sd]) nt)
    exact k t _ ps sd g us _ ag (g9.mpr rfl) (s4 _ _ mP) (Lp.mono s4.tk) (hB.same s4) s4.frame (fun x hx=> .inl hx) En (fun _ _ _ _ _=>rfl)
   ·rw[a8 hb] at k
    have hS:TB (T0.bk.KJ d).dt=false:=by cases d <;> first|rfl|cases ht
    refine⟨_,rfl,_,_,_,false,rfl,r.ty,(xn _).trans (di some hS),_,rfl,cv ?_⟩
    have YE:=hB.tk F3
    have Gj:=F3 _ _ En mP
    have Wo:=Lp.mono YE
    have MB:=YE _ _ hd
    refine⟨_,rfl,_,rfl,_,rfl,_,rfl,(by show 2<=sizeLine; decide),fun p1 n1=>⟨(by show 1<=sizeLine; decide),fun p2 n2=>?_⟩⟩
    have t1:=aG.new (o:= .tup [V.int (n:Int),.ref pd]) n1
    have t2:=aG.new (o:= .lst [V.ref p1]) n2
    have g1:upd (upd H3 p1 (.tup [V.int (n:Int),.ref pd])) p2 (.lst [V.ref p1]) p1=some (.tup [V.int (n:Int),.ref pd]):=t2 _ _ ag
    have g2:upd (upd H3 p1 (.tup [V.int (n:Int),.ref pd])) p2 (.lst [V.ref p1]) p2=some (.lst [V.ref p1]):=ag
    have sI:=t1.trans t2
    refine⟨ps,p2,_,_,rfl,rfl,sI _ _ Gj,g2,?_,fun p4 n4=>?_⟩
    ·refine dB (br ?_)
     show us.length + 1<=1000
     omega
    generalize upd (upd H3 p1 (.tup [V.int (n:Int),.ref pd])) p2 (.lst [V.ref p1])=H4 at sI g1 g2 n4
    have t4:=aG.new (o:= .lst (us ++ [V.ref p1])) n4
    refine⟨_,rfl,(by show 3<=sizeLine; decide),fun t nt=>?_⟩
    have t5:=aG.new (o:= .tup [v,V.ref p4,.ref sd]) nt
    have R7:=(sI.trans t4).trans t5
    have B5:=B3.same R7
    refine k t v p4 sd f3 (us ++ [.ref p1]) _ ag (Rp.mono R7 _ r) (t5 _ _ ag) ?_ B5 (F3.cZ R7) fi (B3.off ?_) (fun a o ha e q=>absurd q.symm (aL (sI _ _ (F3 _ _ ha e)) n4))
    ·exact cV (Wo.mono R7.tk) ⟨p1,pd,rfl,(t4.trans t5) _ _ g1,R7 _ _ MB,ht⟩
    ·exact sI.free n4
  ·
   obtain⟨m,rfl⟩: ∃m,d= .iP m:=hk.resolve_left ht
   refine⟨true,zN _,fH ?_⟩
   refine⟨bF _,fun pr nr=>?_⟩
   have s1:aG H (upd H pr (.lst [])):=aG.new nr
   refine⟨_,rfl,ps,rfl,⟨_,bQ.of (s1 _ _ mP)⟩,?_⟩
   refine gT (K:=K) (a:=ps) (xs:=us) (fun i σ H2=> ∃(rs:List V) (x5:Option V),σ=[some (.ref ps),some (.ref sd),some (.int (n:Int)),some (.ref pd),some (.ref pr),x5,none,none]/\aG H H2/\H2 pr=some (.lst rs)/\gO H2 ((T0.steps.take i).filter (cI m)) rs)
    ⟨[],none,rfl,s1,ag,.nil⟩ (fun i σ H2 _ ⟨_,_,_,s2,_⟩=>bQ.of (s2 _ _ mP)) ?_ ?_
   ·rintro i x σ H2 hx ⟨rs,x5,rfl,s2,JR,JS⟩
    have hi:i < T0.steps.length:=by have:=(au.mp hx).1; omega
    have oP:=af hi
    obtain⟨v,hv,p,pe,rfl,hp,YF,T9⟩:=bT Lp oP
    rw[hx] at hv
    obtain rfl:x= .ref p:=aE hv
    have oQ:=gF (cI m) oP
    generalize T0.steps[i]=st at hp YF T9 oQ
    obtain⟨n0,e⟩:=st
    have xj:=s2 _ _ hp
    have Ot:=s2 _ _ YF
    have hd2:=s2 _ _ hd
    have BR:rs.length<=100:=by
     have:=aX JS
     have:=a7 (cI m) (T0.steps.take i)
     rw[bD] at this
     omega
    have yes:cI m (n0,e)=true-> ∀H3,aG H2 H3->(∃(l:Addr) (xs:List V) (y:V),V.ref pr= .ref l/\[V.ref p]=[y]/\H3 l=some (.lst xs)/\xs.length < sizeLine/\ ∃(rs:List V) (x5:Option V),[some (V.ref ps),some (.ref sd),some (.int (n:Int)),some (.ref pd),some (.ref pr),some (.ref p),none,none]=[some (.ref ps),some (.ref sd),some (.int (n:Int)),some (.ref pd),some (.ref pr),x5,none,none]/\aG H (upd H3 l (.lst (xs ++ [y])))/\upd H3 l (.lst (xs ++ [y])) pr=some (.lst rs)/\gO (upd H3 l (.lst (xs ++ [y]))) ((T0.steps.take (i + 1)).filter (cI m)) rs):=fun z H3 s3=>by
     refine⟨pr,rs,_,rfl,rfl,s3 _ _ JR,br (by omega),rs ++ [.ref p],_,rfl,(s2.trans s3).dA nr,ag,?_⟩
     rw[oQ,a8 z]
     have tk:=s3.tk.trans (gx (o:= .lst (rs ++ [.ref p])) (s3 _ _ JR))
     exact cV (JS.mono tk) ⟨p,pe,rfl,tk _ _ xj,tk _ _ Ot,T9⟩
    refine⟨_,rfl,p,_,_,.int n0,rfl,rfl,cM.of xj,rfl,_,rfl,pd,_,_,.int m,rfl,rfl,cM.of hd2,rfl,rfl,_,rfl,cQ (fun z=>fH ?_) (fun z=>?_)⟩
    ·have z':n0≠m:=fun q=>by rw[q] at z; simp at z
     refine⟨_,rfl,.inl ⟨rfl,_,bQ.of JR⟩,_,rfl,yes ?_ H2 (aG.refl _)⟩
     show(!(decide (n0=m) && e.isSet))=true
     rw[bN z']; rfl
    ·have z':n0=m:=by
      by_cases q:n0=m
      ·exact q
      ·exact absurd (by rw[bN (fun w=>q (by injection w))]; rfl) z
     obtain⟨re,hev⟩:=tN (d:=e) (.inl T9)
     rw[hev] at Ot
     refine⟨_,rfl,p,_,_,.ref pe,rfl,rfl,cM.of xj,rfl,pe,_,_,.str (bI.word e),rfl,rfl,cM.of Ot,cS (j:=0) rfl,(by show 2<=sizeLine; decide),fun p9 n9=>⟨p9,_,rfl,.inl (bQ.of ag),rfl,rfl,!e.isSet,di V.bl (by rw[a8 rfl,Em T9]),cQ (fun q=>?_) (fun q=>?_)⟩⟩
     ·have t9:=aG.new (o:= .lst [V.str "set",.str "sweep"]) n9
      refine⟨_,rfl,.inl ⟨rfl,_,bQ.of (t9 _ _ JR)⟩,_,rfl,yes ?_ _ t9⟩
      show(!(decide (n0=m) && e.isSet))=true
      rw[aM z',Bool.true_and]; exact q
     ·have t9:=aG.new (o:= .lst [V.str "set",.str "sweep"]) n9
      refine⟨rs,_,rfl,s2.trans t9,t9 _ _ JR,?_⟩
      have no: ¬ cI m (n0,e)=true:=by
       show ¬ (!(decide (n0=m) && e.isSet))=true
       rw[aM z',Bool.true_and]; exact q
      rw[oQ,aQ no,cA]
      exact JS.mono t9.tk
   ·rintro σ H2 ⟨rs,x5,rfl,s2,JR,JS⟩
    rw[← hlen,bf] at JS
    have BR:=aX JS
    have Ua:=a7 (cI m) T0.steps
    have oR:gp T0 n (.iP m)=if(T0.steps.filter (cI m)).length=T0.steps.length then(.txt "no setting",T0) else
      match cK (T0.steps.filter (cI m)) Bk.new with
      |none=>(.txt "needed",T0)
      |some S=>(.txt "undone",⟨T0.steps.filter (cI m),S⟩):=rfl
    have Eo:=hB.same s2
    refine⟨_,rfl,pr,_,rfl,.inl (bQ.of JR),_,rfl,ps,_,rfl,.inl (bQ.of (s2 _ _ mP)),rfl,_,rfl,cQ (fun z=>?_) (fun z=>?_)⟩
    ·have z':(T0.steps.filter (cI m)).length=T0.steps.length:=by
      have:=a0 z
      injection this with this
      omega
     rw[oR,a8 z'] at k
     refine⟨_,rfl,_,rfl,(by show 3<=sizeLine; decide),fun t nt=>?_⟩
     have s4:=s2.trans (aG.new (o:= .tup [V.str "no setting",.ref ps,.ref sd]) nt)
     exact k t _ ps sd g us _ ag (g9.mpr rfl) (s4 _ _ mP) (Lp.mono s4.tk) (hB.same s4) s4.frame (fun x hx=> .inl hx) En (fun _ _ _ _ _=>rfl)
    have z': ¬ (T0.steps.filter (cI m)).length=T0.steps.length:=fun q=>z (aM (by congr 1; omega))
    rw[oR,aQ z'] at k
    refine⟨_,rfl,pr,T0.steps.filter (cI m),rs,rfl,JR,JS,by omega,fun hw H3 s3=>?_,fun S hw YG f3 H3 s3 B3 nf=>?_⟩
    ·rw[hw] at k
     refine⟨_,rfl,true,rfl,fH ⟨_,rfl,_,rfl,(by show 3<=sizeLine; decide),fun t nt=>?_⟩⟩
     have s4:=(s2.trans s3).trans (aG.new (o:= .tup [V.str "needed",.ref ps,.ref sd]) nt)
     exact k t _ ps sd g us _ ag (g9.mpr rfl) (s4 _ _ mP) (Lp.mono s4.tk) (hB.same s4) s4.frame (fun x hx=> .inl hx) En (fun _ _ _ _ _=>rfl)
    ·rw[hw] at k
     refine⟨_,rfl,false,rfl,cv ⟨_,rfl,_,rfl,(by show 3<=sizeLine; decide),fun t nt=>?_⟩⟩
     have t4:=aG.new (o:= .tup [V.str "undone",.ref pr,.ref YG]) nt
     have s4:=(s2.trans s3).trans t4
     refine k t _ pr YG f3 rs _ ag (g9.mpr rfl) ((s3.trans t4) _ _ JR) (JS.mono (s3.trans t4).tk) (B3.same t4) s4.frame (fun x hx=> .inr (s2.free (nf x hx))) (fun q=>?_) (fun a o ha e q=>absurd q.symm (aL e nr))
     have:=nf pr q
     rw[JR] at this
     cases this
end
end eT
namespace L2
open PySem PySem.Spec PyProof.Rows
theorem zd {X:Cx}{scope:Scope}{x y:Str}{c d:Addr}{j k:Nat}(Ft:closureFor scope X.env=pure [(x,c),(y,d)])(me: ∀z∈scope.names,z.2≠ .cell)(mJ:scope.kind= .function)(ui: ∀x∈scope.names,x.2= .local->scope.names.lookup x.1=some .local)
  (hx:X.env.cells.lookup x=some c) (hy:X.env.cells.lookup y=some d) (QT:List (Str×NameKind)) (QU:(relabel scope X.env).names=QT) (BR: ∀z∈QT,(z.2= .cell∨z.2= .free)->z.1=x∨z.1=y)
  (hN:X.N[j]? =some x) (hN2:X.N[k]? =some y) (hk:X.env.kindOf x=some .cell∨X.env.kindOf x=some .free) (JI:X.env.kindOf y=some .cell∨X.env.kindOf y=some .free)
  (Mf:(relabel scope X.env).names.lookup x=some .cell∨(relabel scope X.env).names.lookup x=some .free) (Wq:(relabel scope X.env).names.lookup y=some .cell∨(relabel scope X.env).names.lookup y=some .free):rE X scope [(x,c),(y,d)] [x,y] [j,k]:=by
 refine⟨Ft,me,mJ,ui,fun z c' h=>?_,fun z h=>?_,.cons ⟨hN,hk,Mf⟩ (.cons ⟨hN2,JI,Wq⟩ .nil)⟩
 ·rcases aw.mp (cB h) with e|e
  ·cases e; exact hx
  ·rcases aw.mp e with e|e
   ·cases e; exact hy
   ·cases e
 ·have e:z=x∨z=y:=by
   rcases h with h|h
   ·rw[QU] at h
    exact BR _ (cB h) (.inl rfl)
   ·rw[QU] at h
    exact BR _ (cB h) (.inr rfl)
  by_cases q:z=x
  ·exact⟨c,by rw[q]; simp[List.lookup]⟩
  ·have q2:z=y:=e.resolve_left q
   have q3:(z == x)=false:=by simpa using q
   exact⟨d,by rw[List.lookup,q3,q2]; simp[List.lookup]⟩
end L2
namespace eT
open PySem L2 PyProof.Rows JL
seal L2.o8 L2.PS L2.PE L2.PT L2.PW L2.PA L2.PC L2.PG L2.JF L2.PI L2.Kt L2.JH L2.PO L2.ox L2.Mc L2.iz L2.Ho L2.Ng
section
variable {P:Program}{w:World}{K:PySem.W.Frag}{mg:Str->Option Value}{base:Heap}
def u0 (A:en):Sp:=fun vs H Q _=> ∃(pw p:Addr) (S:Bk) (f:eQ) (t:Nat×Nat×Int) (day:Int),vs=[.ref pw,.ref p,.int day]/\dO A H pw S f/\H p=some (.tup [.int t.1,.int t.2.1,.int t.2.2])/\t.1 < S.credits.length/\t.2.1 < S.aC.length/\Q (.bl (decide (S.gr t<=day))) H
theorem ze:aW ["work","setting","day"] ["work","setting","day"] (aA (top 40)):=⟨rfl,rfl,rfl,by decide +kernel,rfl,by decide +kernel,by decide +kernel⟩
theorem Bj (T:Txt K mg){A:en}(G:jB K mg A):fz P w K mg base "counts_at" 2 ["work","setting","day"] (u0 A):=by
 have wA:fz P w K mg base "counts_from" 1 ["credit","bill"] (IB A):=wb T G
 refine T.Ay.lg (k:=1) ze (fun _ _ _ _ _ _ us hl=>match us,hl with|[_,_,_],_=>rfl) (fun vs H Q E h=>?_) (fun f dv A' outer s H vs Q E hr h=>?_)
 ·obtain⟨pw,p,S,g,t,day,rfl,_⟩:=h
  rfl
 ·obtain⟨pw,p,S,g,t,day,rfl,hW,hp,hc,hb,k⟩:=h
  obtain⟨dw,hw⟩:=hW.obj
  obtain⟨pc,c1,c2⟩:=hW.rc.get hc
  obtain⟨pb,b1,b2⟩:=hW.rb.get hb
  refine⟨_,(av (ba (eW wX (cL wA (hr.mono (by decide)) rfl (aa (aO bh (cq (pv 0) rfl) (aO bg (pv 1) aj (fun _ _=>rfl)) (fun _ _=>rfl)) (aa (aO bh (cq (pv 0) rfl) (aO bg (pv 1) aj (fun _ _=>rfl)) (fun _ _=>rfl)) ak))) (pv 2) (bc _)))),?_⟩
  refine⟨_,rfl,pw,_,dw,_,_,rfl,hw,G.bJ,G.cO,hZ g,_,rfl,p,_,_,.int t.1,rfl,rfl,cM.of hp,rfl,g.pc,_,_,.ref pc,rfl,rfl,bQ.of hW.hc,cS (by rw[aD,c1]; rfl),?_⟩
  refine⟨_,rfl,pw,_,dw,_,_,rfl,hw,G.bJ,G.eh,jj g,_,rfl,p,_,_,.int t.2.1,rfl,rfl,cM.of hp,rfl,g.pb,_,_,.ref pb,rfl,rfl,bQ.of hW.hb,cS (by rw[aD,b1]; rfl),?_⟩
  exact⟨pc,pb,t.1,t.2.1,S.cr t.1,S.bl t.2.1,rfl,c2,b2,_,rfl,_,_,rfl,rfl,k⟩
def u5 (A:en):Sp:=fun vs H Q _=> ∃(pw:Addr) (S:Bk) (f:eQ) (n:Nat) (day:Int),vs=[.ref pw,.int day]/\dO A H pw S f/\WF S n/\S.made.length<=1000000/\
 ∀D ms H',aG H H'->H D=none->H' D=some (.lst ms)->gQ H' (S.made.filter fun t=>decide (S.gr t<=day)) ms->Q (.ref D) H'
theorem u6:aW ["work","day"] ["work","day"] (aA (top 39)):=⟨rfl,rfl,rfl,by decide +kernel,rfl,by decide +kernel,by decide +kernel⟩
theorem wB (T:Txt K mg){A:en}(G:jB K mg A):fz P w K mg base "counting_at" 3 ["work","day"] (u5 A):=by
 have Bl:fz P w K mg base "counts_at" 2 ["work","setting","day"] (u0 A):=Bj T G
 refine T.vU.lg (k:=2) u6 (fun _ _ _ _ _ _ us hl=>match us,hl with|[_,_],_=>rfl) (fun vs H Q E h=>?_) (fun f dv A' outer s H vs Q E hr h=>?_)
 ·obtain⟨pw,S,g,n,day,rfl,_⟩:=h
  rfl
 ·obtain⟨pw,S,g,n,day,rfl,hW,wf,hz,k⟩:=h
  obtain⟨dw,hw⟩:=hW.obj
  obtain⟨ms,m1,m2⟩:=hW.hm
  have hlen:=aX m2
  refine⟨_,(av (ba (jd (tn:=["setting"]) (cn:=["work","day"]) (cj:=[0,1]) rfl (zd (by rfl) (by decide +kernel) rfl (by decide +kernel) (by rfl) (by rfl) [(".0",.local),("setting",.local),("counts_at",.globalImplicit),("day",.cell),("work",.cell)] (by rfl) (by decide +kernel) rfl rfl (Or.inl rfl) (Or.inl rfl) (Or.inl rfl) (Or.inl rfl)) (dF (cq (pv 0) rfl)) (fun _ _ _ _=>(bG (i:=0) (show(["setting","work","day"]:List Str).Nodup by decide +kernel) rfl (Or.inl rfl))) (fun _ _ _ _=>(pB (gi (cL Bl (hr.mono (by decide)) rfl (aa (pv 1) (aa (pv 0) (aa (pv 2) ak))))))) (fun _ _ _ _=>(pv 0))))),?_⟩
  refine⟨_,rfl,pw,_,dw,_,_,rfl,hw,G.bJ,G.jC,yI g,g.pm,rfl,⟨_,bQ.of m1⟩,?_⟩
  refine eD (K:=K) (a:=g.pm) (xs:=ms) (fun D i σ H6=>H D=none/\ ∃v rs,σ=[v,some (.ref pw),some (.int day)]/\aG H H6/\H6 D=some (.lst rs)/\gQ H6 ((S.made.take i).filter fun t=>decide (S.gr t<=day)) rs) (fun D hD=>⟨hD,none,[],rfl,aG.new hD,ag,.nil⟩) (fun D i σ H6 _ ⟨_,_,_,_,t3,_⟩=>bQ.of (t3 _ _ m1)) ?_ ?_
  ·rintro D i x σ H6 hx ⟨hD,v,rs,rfl,t3,iw,hT⟩
   have hi:i < S.made.length:=by have:=(au.mp hx).1; omega
   have oP:=af hi
   obtain⟨v',hv,p,rfl,hp⟩:=bT m2 oP
   rw[hx] at hv
   obtain rfl:x= .ref p:=aE hv
   have hm:=wf.m _ (bO hi)
   have oQ:=gF (fun t=>decide (S.gr t<=day)) oP
   generalize S.made[i]=t at hp hm oQ
   have JS:rs.length<=1000000:=by
    have:=aX hT
    have:=a7 (fun t=>decide (S.gr t<=day)) (S.made.take i)
    rw[bD] at this
    omega
   refine⟨_,rfl,_,rfl,_,rfl,pw,p,S,g,t,day,rfl,hW.same t3,t3 _ _ hp,hm.1,hm.2,_,rfl,cQ (fun z=>?_) (fun z=>?_)⟩
   ·rw[a8 z] at oQ
    refine⟨_,rfl,_,iw,i9 JS,hD,_,rs ++ [.ref p],rfl,t3.dA hD,ag,?_⟩
    rw[oQ]
    have tk:=gx (o:= .lst (rs ++ [.ref p])) iw
    exact cV (hT.mono tk) ⟨p,rfl,tk _ _ (t3 _ _ hp)⟩
   ·rw[aQ z,cA] at oQ
    refine⟨hD,_,rs,rfl,t3,iw,?_⟩
    rw[oQ]
    exact hT
  ·rintro D σ H6 hD ⟨_,v,rs,rfl,t3,iw,hT⟩
   rw[← hlen,bf] at hT
   exact k D rs H6 t3 hD iw hT
def nE (H:Hp)(l:List (Nat×Int))(vs:List V):Prop:=Paired (fun(t:Nat×Int) v=> ∃p,v= .ref p/\H p=some (.tup [.int t.1,.int t.2])) l vs
theorem nE.mono {H H':Hp}{l:List (Nat×Int)}{vs:List V}(h:nE H l vs)(k:cU H H'):nE H' l vs:=Paired.iV h fun _ _ ⟨p,e,q⟩=>⟨p,e,k _ _ q⟩
section
variable (S:Bk)(bU:Bool)(aN:Str)(day:Int)
end
section
variable {S:Bk}{bU:Bool}{aN:Str}{day:Int}{i:Nat}
end
theorem Lr (bU:Bool)(t:Nat×Nat×Int):sV [V.int t.1,.int t.2.1,.int t.2.2] (if bU=true then(1:Int) else 0)=some (.int (spotOf bU t:Int)):=by cases bU <;> rfl
theorem Gk {S:Bk}{bU:Bool}{aN:Str}{day:Int}{t:Nat×Int}(h:t∈S.qx bU aN day):t.1 < (S.rows bU).length:=by
 unfold Bk.qx at h
 obtain⟨k,hk,rfl⟩:=bP.mp h
 exact(kB.mp (fR.mp hk).1).1
theorem C2 (gr:Int)(dh:List Int):L2.placeOf gr dh < dh.length + 2:=by
 unfold L2.placeOf
 split
 ·omega
 ·have:=a7 (fun l=>decide (l < gr)) dh
  omega
theorem Gm (l:List Int)(i:Nat)(x:Int):(sx l i x).length=l.length:=by unfold sx; rw[List.length_set]
theorem Ls (n:Nat)(b:Int):(List.replicate n [V.int b]).flatten=(List.replicate n b).map V.int:=by
 induction n with
 |zero=>rfl
 |succ n ih=>rw[dC,iU,ih,dC]; rfl
theorem fv {X:Cx}{K:PySem.W.Frag}{e:Expr}{f:Str}{pos:Pos}{ta:TE}(h:X.K=K)(he:PE X e ta)(hb:attributeBase e f X.env (eval e X.env)=eval e X.env):PE X (.Attribute e f pos) (Qt K ta f):=by subst h; exact cq he hb
def Bm (A:en)(bU:Bool):Addr:=if bU=true then A.dZ else A.eo
def zf (bU:Bool)(k:Nat)(r:Rw):List (Str×V):=if bU=true then fC k r else fe k r
theorem xF (bU:Bool)(k:Nat)(r:Rw):(zf bU k r).lookup ("number":Str)=some (V.int k):=by cases bU <;> rfl
theorem Ou (bU:Bool)(k:Nat)(r:Rw):(zf bU k r).lookup ("day":Str)=some (V.int r.a):=by cases bU <;> rfl
theorem Gn (bU:Bool)(k:Nat)(r:Rw):(zf bU k r).lookup ("amount":Str)=some (V.int (HS bU r)):=by cases bU <;> rfl
theorem zh {A:en}(G:jB K mg A)(bU:Bool):vI K (Bm A bU):=by cases bU; exact G.dm; exact G.eu
theorem xG {A:en}(G:jB K mg A)(bU:Bool):cz K (Bm A bU) "number":=by cases bU; exact G.eR; exact G.eU
theorem Ov {A:en}(G:jB K mg A)(bU:Bool):cz K (Bm A bU) "day":=by cases bU; exact G.ja; exact G.mV
theorem Gp {A:en}(G:jB K mg A)(bU:Bool):cz K (Bm A bU) "amount":=by cases bU; exact G.lA; exact G.mX
def Lu (A:en)(H:Hp)(S:Bk)(bU:Bool)(ks:List Nat)(qs:List Addr):Prop:=Paired (fun(k:Nat) q=>eE H q (Bm A bU) (zf bU k ((S.rows bU).getD k default))) ks qs
def pR (S:Bk)(bU:Bool)(day:Int)(k:Nat):Bool:=decide (((S.rows bU).getD k default).a<=day) && decide (0 < S.rest bU k day)
def u9 (A:en):Sp:=fun vs H Q _=> ∃(pw pt:Addr) (S:Bk) (f:eQ) (n:Nat) (bU:Bool) (day:Int) (ks:List Nat) (qs:List Addr),vs=[.ref pw,.ref pt,.int (if bU=true then 1 else 0),.int day]/\dO A H pw S f/\WF S n/\S.made.length<=1000000/\
 H pt=some (.lst (qs.map V.ref))/\Lu A H S bU ks qs/\ks.length<=100/\ ∀D ms H',aG H H'->H D=none->H' D=some (.lst ms)->nE H' ((ks.filter (pR S bU day)).map fun k=>(k,S.rest bU k day)) ms->Q (.ref D) H'
theorem mi:aW ["work","told","place","day","counting","remaining","item","rest"] ["work","told","place","day"] (aA (top 38)):=⟨rfl,rfl,rfl,by decide +kernel,rfl,by decide +kernel,by decide +kernel⟩
theorem nF (T:Txt K mg){A:en}(G:jB K mg A):fz P w K mg base "remaining_at" 4 ["work","told","place","day"] (u9 A):=by
 have wC:fz P w K mg base "counting_at" 3 ["work","day"] (u5 A):=wB T G
 refine T.uJ.lg (k:=3) mi (fun _ _ _ _ _ _ us hl=>match us,hl with|[_,_,_,_],_=>rfl) (fun vs H Q E h=>?_) (fun f dv A' outer s H vs Q E hr h=>?_)
 ·obtain⟨pw,pt,S,g,n,bU,day,ks,qs,rfl,_⟩:=h
  rfl
 ·obtain⟨pw,pt,S,g,n,bU,day,ks,qs,rfl,hW,wf,hz,BX,hI,GS,k⟩:=h
  have nd:=mi.nd
  have hlen:=aX hI
  refine⟨_,(ah (bb (i:=4) nd rfl (Or.inl rfl) (cL wC (hr.mono (by decide)) rfl (aa (pv 0) (aa (pv 3) ak))))
(ah (bb (i:=5) nd rfl (Or.inl rfl) (b9 ak))
(ah (fM bY rfl (dF (pv 1)) (bG (i:=6) nd rfl (Or.inr rfl))
(ah (bb (i:=7) nd rfl (Or.inl rfl) (aV fb (cq (pv 6) rfl) (bu (rH rfl) (by rfl) T.Il boot_sum (aa (jd (tn:=["setting"]) (cn:=["place","item"]) (cj:=[2,6]) rfl (zd (by rfl) (by decide +kernel) rfl (by decide +kernel) (by rfl) (by rfl) [(".0",.local),("setting",.local),("item",.cell),("place",.cell)] (by rfl) (by decide +kernel) rfl rfl (Or.inl rfl) (Or.inl rfl) (Or.inl rfl) (Or.inl rfl)) (dF (pv 4)) (fun _ _ _ _=>(bG (i:=0) (show(["setting","place","item"]:List Str).Nodup by decide +kernel) rfl (Or.inl rfl))) (fun _ _ _ _=>(pB (a9 dr (aO (tJ (K:=K) rfl) (pv 0) (pv 1) (fun _ _=>rfl)) (fv (K:=K) rfl (pv 2) rfl) (bc _)))) (fun _ _ _ _=>(aO (tJ (K:=K) rfl) (pv 0) aj (fun _ _=>rfl)))) ak))))
(av (b0 (PW.pt (pw_and (a9 wX (cq (pv 6) rfl) (pv 3) (bc _)) (pw_and1 (a9 ju (pv 7) aj (bc _)))))
(av (bR (fq aJ aH aI bZ (pv 5) (aa (dH (aa (cq (pv 6) rfl) (aa (pv 7) ak))) ak))))
bw))))
(av (ba (pv 5)))))),?_⟩
  refine⟨_,rfl,_,rfl,pw,S,g,n,day,rfl,hW,wf,hz,fun pc cs H1 s1 nc hc hT=>?_⟩
  refine⟨bF _,fun pr nr=>?_⟩
  have nr0:=s1.free nr
  have sr:=aG.new (o:= .lst []) nr
  refine⟨_,rfl,pt,rfl,⟨_,bQ.of ((s1.trans sr) _ _ BX)⟩,?_⟩
  refine gT (K:=K) (a:=pt) (xs:=qs.map V.ref) (fun i σ H2=> ∃(rs:List V) (x6 x7:Option V),σ=[some (.ref pw),some (.ref pt),some (.int (if bU=true then 1 else 0)),some (.int day),some (.ref pc),some (.ref pr),x6,x7]/\aG H1 H2/\H2 pr=some (.lst rs)/\nE H2 (((ks.take i).filter (pR S bU day)).map fun k=>(k,S.rest bU k day)) rs)
   ⟨[],none,none,rfl,sr,ag,.nil⟩ (fun i σ H2 _ ⟨_,_,_,_,s2,_⟩=>bQ.of ((s1.trans s2) _ _ BX)) ?_ ?_
  ·rintro i x σ H2 hx ⟨rs,x6,x7,rfl,s2,Ej,hP⟩
   rw[aD] at hx
   obtain⟨q,hq,rfl⟩:=bM.mp hx
   have hi:i < ks.length:=by have:=(au.mp hq).1; omega
   have oP:=af hi
   obtain⟨q',sh,lD⟩:=bT hI oP
   rw[hq] at sh
   obtain rfl:q=q':=aE sh
   have oQ:=gF (pR S bU day) oP
   generalize ks[i]=kk at lD oQ
   have s02:=s1.trans s2
   obtain⟨dq,zO⟩:=lD.same s02
   have KG:=s2 _ _ hc
   have Fw:=hT.mono s2.tk
   have qB:=aX Fw
   have Ua:=a7 (fun t=>decide (S.gr t<=day)) S.made
   have BR:rs.length<=100:=by
    have e1:=aX hP
    have e2:=a7 (pR S bU day) (ks.take i)
    rw[ae] at e1
    rw[bD] at e2
    omega
   refine⟨_,rfl,q,_,dq,_,_,rfl,zO,zh G bU,Gp G bU,Gn bU _ _,_,rfl,pc,rfl,⟨_,bQ.of KG⟩,?_⟩
   refine eD (K:=K) (a:=pc) (xs:=cs) (fun D j σ H6=>H2 D=none/\ ∃v,σ=[v,some (.int (if bU=true then 1 else 0)),some (.ref q)]/\aG H2 H6/\H6 D=some (.lst (((((S.made.filter fun t=>decide (S.gr t<=day)).take j).filter fun t=>decide (spotOf bU t=kk)).map (·.2.2)).map V.int))) (fun D hD=>⟨hD,none,rfl,aG.new hD,ag⟩) (fun D j σ H6 _ ⟨_,_,_,t3,_⟩=>bQ.of (t3 _ _ KG)) ?_ ?_
   ·rintro D j x σ H6 Mw ⟨hD,v,rfl,t3,iw⟩
    have hj:j < (S.made.filter fun t=>decide (S.gr t<=day)).length:=by have:=(au.mp Mw).1; omega
    have YH:=af hj
    obtain⟨v',hv,p,rfl,hp⟩:=bT Fw YH
    rw[Mw] at hv
    obtain rfl:x= .ref p:=aE hv
    have IS:=gF (fun t=>decide (spotOf bU t=kk)) YH
    generalize (S.made.filter fun t=>decide (S.gr t<=day))[j]=t at hp IS
    have hsz:((((S.made.filter fun t=>decide (S.gr t<=day)).take j).filter fun t=>decide (spotOf bU t=kk)).map (·.2.2)).length<=1000000:=by
     rw[ae]
     have e1:=a7 (fun t=>decide (spotOf bU t=kk)) ((S.made.filter fun t=>decide (S.gr t<=day)).take j)
     rw[bD] at e1
     omega
    have MC:=t3 _ _ hp
    refine⟨_,rfl,_,rfl,p,_,_,_,rfl,rfl,cM.of MC,Lr bU t,_,rfl,q,_,dq,_,_,rfl,t3 _ _ zO,zh G bU,xG G bU,xF bU _ _,rfl,_,rfl,cQ (fun z=>?_) (fun z=>?_)⟩
    ·have z':spotOf bU t=kk:=by
      have:=a0 z
      injection this with this
      omega
     rw[a8 (aM z')] at IS
     refine⟨_,rfl,p,_,_,.int t.2.2,rfl,rfl,cM.of MC,rfl,_,iw,i9 (by rw[ae]; exact hsz),hD,_,rfl,t3.dA hD,?_⟩
     rw[ag,IS,aR,aR]
     rfl
    ·have z': ¬ spotOf bU t=kk:=fun e=>z (aM (by rw[e]))
     rw[aQ (by rw[bN z']; exact aZ),cA] at IS
     refine⟨hD,_,rfl,t3,?_⟩
     rw[IS]
     exact iw
   ·rintro D σ H6 hD ⟨_,v,rfl,t3,iw⟩
    rw[← qB,bf,B8] at iw
    refine⟨D,_,rfl,bQ.of iw,_,_,rfl,rfl,?_⟩
    have Mq:HS bU ((S.rows bU).getD kk default) - ((S.made.filter fun t=>decide (spotOf bU t=kk) && decide (S.gr t<=day)).map (·.2.2)).sum=S.rest bU kk day:=rfl
    have MD:=t3 _ _ Ej
    have PL:=hP.mono t3.tk
    have s6:=s2.trans t3
    have no:pR S bU day kk=false-> ∃(rs:List V) (x6 x7:Option V),[some (V.ref pw),some (.ref pt),some (.int (if bU=true then 1 else 0)),some (.int day),some (.ref pc),some (.ref pr),some (.ref q),some (.int (S.rest bU kk day))]=[some (.ref pw),some (.ref pt),some (.int (if bU=true then 1 else 0)),some (.int day),some (.ref pc),some (.ref pr),x6,x7]/\aG H1 H6/\H6 pr=some (.lst rs)/\nE H6 (((ks.take (i + 1)).filter (pR S bU day)).map fun k=>(k,S.rest bU k day)) rs:=fun z=>by
     rw[aQ (by rw[z]; exact aZ),cA] at oQ
     exact⟨rs,some (.ref q),some (.int (S.rest bU kk day)),rfl,s6,MD,by rw[oQ]; exact PL⟩
    refine⟨_,rfl,q,_,dq,_,_,rfl,t3 _ _ zO,zh G bU,Ov G bU,Ou bU _ _,_,rfl,_,_,rfl,rfl,_,rfl,cQ (fun z1=>?_) (fun z1=>cv (no ?_))⟩
    ·refine⟨_,rfl,_,_,rfl,rfl,_,rfl,cQ (fun z2=>?_) (fun z2=>no ?_)⟩
     ·have yes:pR S bU day kk=true:=by
       unfold pR
       rw[aM (a0 z1),aM (show 0 < S.rest bU kk day from a0 z2)]; rfl
      rw[a8 yes] at oQ
      refine⟨_,rfl,.inl ⟨rfl,_,bQ.of MD⟩,_,rfl,q,_,dq,_,_,rfl,t3 _ _ zO,zh G bU,xG G bU,xF bU _ _,_,rfl,(by show 2<=sizeLine; decide),fun p8 n8=>?_⟩
      have t8:=aG.new (o:= .tup [V.int (kk:Int),.int (S.rest bU kk day)]) n8
      refine⟨pr,rs,_,rfl,rfl,t8 _ _ MD,br (by omega),rs ++ [.ref p8],some (.ref q),some (.int (S.rest bU kk day)),rfl,(s6.trans t8).dA nr,ag,?_⟩
      rw[oQ,aR]
      have tk:=t8.tk.trans (gx (o:= .lst (rs ++ [.ref p8])) (t8 _ _ MD))
      have fin:nE (upd (upd H6 p8 (.tup [V.int (kk:Int),.int (S.rest bU kk day)])) pr (.lst (rs ++ [.ref p8]))) ((((ks.take i).filter (pR S bU day)).map fun k=>(k,S.rest bU k day)) ++ [(kk,S.rest bU kk day)]) (rs ++ [.ref p8]):=cV (PL.mono tk) ⟨p8,rfl,gx (o:= .lst (rs ++ [.ref p8])) (t8 _ _ MD) _ _ ag⟩
      exact fin
     ·unfold pR
      rw[bN (show ¬ 0 < S.rest bU kk day from fun e=>z2 (aM e)),Bool.and_false]
    ·unfold pR
     rw[bN (fun e=>z1 (aM e)),MN]
  ·rintro σ H2 ⟨rs,x6,x7,rfl,s2,Ej,hP⟩
   rw[ae,← hlen,bf] at hP
   exact⟨_,rfl,k pr rs H2 (s1.trans s2) nr0 Ej hP⟩
structure qa (K:PySem.W.Frag)(mg:Str->Option Value)(x:Str)(st:Stmt)(tb:Addr):Prop where
 ex: ∃(f c:Addr) (oc:Value) (od:Option Addr) (kV doc pm:Value) (an:Option Addr) (ct:Value) (Fg:Array (Option Value)),K.lookup f=some ⟨oc,od,.func (PySem.W.fnOf x x (g8 st) (d9 st) (aA st) .none kV doc pm an (.ref c) ct),Fg⟩/\PySem.W.codeIn K (.ref c) x=true/\
  PySem.W.keepIn K (.ref f)=true/\mg x=some (.ref f)/\PySem.W.codeHdIn K c tb=true
theorem qa.lg {x:Str}{st:Stmt}{tb:Addr}{N ps:List Str}{k:Nat}{sp:Sp}(D:qa K mg x st tb)(KB:K.In base)(S:aW N ps (aA st))
  (hb: ∀(kV doc pm:Value) (an:Option Addr) (dv ct:Value) (us:List Value),us.length=ps.length->bindArgs (PySem.W.fnOf x x (g8 st) (d9 st) (aA st) .none kV doc pm an dv ct) ⟨us,[]⟩=pure (ps.zip us))
  (len: ∀vs H Q E,sp vs H Q E->vs.length=ps.length)
  (gu: ∀(f c:Addr) (A:Around) (outer:List Env) (s:Shared) (H:Hp) (vs:List V) (Q:VK) (E:XK),PySem.W.CodeHd base c tb->fA k (A.deeper (envOfC x (aA st) s.heap.objs.size f (.ref c)))->sp vs H Q E->
   ∃t,o8 (lO sk P w K mg base N x (aA st) f (.ref c) A outer s H E).E6 (d9 st) t/\t {nx:=fun _ H'=>Q .eI H',rt:=Q} (L2.start N vs) H):fz P w K mg base x (k + 1) ps sp:=by
 obtain⟨f,c,oc,od,kV,doc,pm,an,ct,Fg,lk,q0,hk,hm,hh⟩:=D.ex
 have F:gv K x x st f _:=pA lk q0 hk
 refine⟨f,_,Hm lk q0 S len fun A outer s H vs Q E hr ya=>?_,hm,hk,F.binds hb⟩
 obtain⟨t,h,q⟩:=gu f c A outer s H vs Q E (PySem.W.codeHd_of_K KB hh) hr ya
 exact⟨t,h.E6,q⟩
theorem qO {th:List (Int×Nat)}{i:Nat}(h:i < th.length):(th.map Ei).getD i []=Ei (th.getD i (0,0)):=getD_map Ei th i (0,0) [] h
theorem va {th:List (Int×Nat)}{p:List Nat}(h1: ∀x∈th,x.2 < 1000)(nd:(th.map (·.2)).Nodup)(hp:p.Perm (List.range th.length))(le:p.Pairwise (fun i j=>uM ((th.map Ei).getD i [])<=uM ((th.map Ei).getD j []))):p.map (fun i=>th.getD i (0,0))=fP th:=by
 have hr:(List.range th.length).map (fun i=>th.getD i (0,0))=th:=rJ th (0,0)
 refine mU sY _ _ ((hp.map _).trans ((List.Perm.of_eq hr).trans (dM th).symm)) ?_ (AH h1 nd)
 rw[rj]
 refine le.imp_of_mem fun{a b} ha hb z=>?_
 have la:a < th.length:=c9.mp (hp.mem_iff.mp ha)
 have lb:b < th.length:=c9.mp (hp.mem_iff.mp hb)
 rw[qO la,qO lb] at z
 exact z
theorem nG {α β:Type}{F:α->β->Prop}{l₁:List α}{l₂:List β}(h:Paired F l₁ l₂)(d:α)(e:β): ∀p:List Nat,(∀i∈p,i < l₁.length)->Paired F (p.map fun i=>l₁.getD i d) (p.map fun i=>l₂.getD i e)
 |[],_=> .nil
 |i :: p,hi=>by
  have hl:=hi i bC
  obtain⟨b,e1,e2⟩:=bT h (af hl)
  refine .cons ?_ (nG h d e p fun j hj=>hi j (aU _ hj))
  show F (l₁.getD i d) (l₂.getD i e)
  rw[ai,ai,af hl,e1]
  exact e2
theorem bW {H H':Hp}{tb:Addr}{pos:Pos}{qual:Str}(t:Tb H tb pos qual)(s:aG H H'):Tb H' tb pos qual:=by
 obtain⟨ps,h1,h2,h3⟩:=t
 refine⟨ps,s _ _ h1,h2,?_⟩
 rcases h3 with h3|⟨c',h3,h4⟩
 ·exact .inl h3
 ·exact .inr ⟨c',h3,s _ _ h4⟩
theorem vb {H:Hp}{tb q C:Addr}{pos:Pos}{qual:Str}{fs:List (Str×V)}(t:Tb H tb pos qual)(h:eE H q C fs):q∉[tb]:=fun z=>by
 obtain⟨ps,h1,_⟩:=t
 obtain⟨dx,e⟩:=h
 rw[ao.mp z,h1] at e
 cases e
def Ow:Pos:=⟨69,30,69,66⟩
def ff (rows:List Rw)(aN:Str)(i:Nat):List Nat:=(List.range i).filter fun k=>decide ((rows.getD k default).aN=aN)
def zi (A:en)(tb:Addr):Sp:=fun vs H Q _=> ∃(pb:Addr) (iu:List Addr) (S:Bk) (aN:Str),vs=[.ref pb,.str aN]/\H pb=some (.lst (iu.map V.ref))/\gy H A.dZ fC S.aC iu/\S.aC.length < 64/\Tb H tb Ow ((("bills_in_order":Str) ++ ".<locals>.") ++ "<lambda>")/\
 ∀D qs H',Frame [tb] H H'->Tb H' tb Ow ((("bills_in_order":Str) ++ ".<locals>.") ++ "<lambda>")->H D=none->H' D=some (.lst (qs.map V.ref))->iJ A H' S (inOrder S.aC aN (·.b)) qs->Q (.ref D) H'
theorem kI:aW ["bills","who","theirs"] ["bills","who"] (aA (top 17)):=⟨rfl,rfl,rfl,by decide +kernel,rfl,by decide +kernel,by decide +kernel⟩
theorem lE (T:Txt K mg){A:en}{tb:Addr}(G:jB K mg A)(DL:qa K mg "bills_in_order" (top 17) tb)(KB:K.In base)(BM:BMain mg base):fz P w K mg base "bills_in_order" 2 ["bills","who"] (zi A tb):=by
 refine DL.lg (k:=1) KB kI (fun _ _ _ _ _ _ us hl=>match us,hl with|[_,_],_=>rfl) (fun vs H Q E h=>?_) (fun f c A' outer s H vs Q E CH hr h=>?_)
 ·obtain⟨pb,iu,S,aN,rfl,_⟩:=h
  rfl
 ·obtain⟨pb,iu,S,aN,rfl,R8,hO,hl,Wr,k⟩:=h
  have nd:=kI.nd
  refine⟨_,(ah (je (i:=2) nd rfl (Or.inl rfl) (tn:=["bill"]) (cn:=["who"]) (cj:=[1]) rfl (i8 (by rfl) (by decide +kernel) rfl (by decide +kernel) (by rfl) [(".0",.local),("bill",.local),("who",.cell)] (by rfl) (by decide +kernel) rfl (Or.inl rfl) (Or.inl rfl)) (dF (pv 0)) (fun _ _ _ _=>(bG (i:=0) (show(["bill","who"]:List Str).Nodup by decide +kernel) rfl (Or.inl rfl))) (fun _ _ _ _=>(pB (a9 dr (fv (K:=K) rfl (pv 0) rfl) (pv 1) (bc _)))) (fun _ _ _ _=>(pv 0)))
(av (ba (uH (N:=["bill"]) (y:="bill") rfl T.uL BM rfl CH (hr.mono (by decide)) ⟨rfl,rfl,rfl,by decide +kernel,rfl,by decide +kernel,by decide +kernel⟩ (fun _ _ _ _ _=>(dH (aa (fv (K:=K) rfl (pv 0) rfl) (aa (fv (K:=K) rfl (pv 0) rfl) ak)))) (pv 2))))),?_⟩
  refine⟨_,rfl,pb,rfl,⟨_,bQ.of R8⟩,?_⟩
  refine eD (K:=K) (a:=pb) (xs:=iu.map V.ref) (fun D i σ H6=>H D=none/\ ∃(v:Option V) (qs:List Addr),σ=[v,some (.str aN)]/\aG H H6/\H6 D=some (.lst (qs.map V.ref))/\iJ A H6 S (ff S.aC aN i) qs) (fun D hD=>⟨hD,none,[],rfl,aG.new hD,ag,.nil⟩) (fun D i σ H6 _ ⟨_,_,_,_,t3,_⟩=>bQ.of (t3 _ _ R8)) ?_ ?_
  ·rintro D i x σ H6 hx ⟨hD,v,qs,rfl,t3,iw,hB⟩
   rw[aD] at hx
   obtain⟨q,hq,rfl⟩:=bM.mp hx
   have hi:i < S.aC.length:=by have:=(au.mp hq).1; have:=hO.1; omega
   obtain⟨dq,zO⟩:=(hO.2 i q hq).same t3
   have hql:qs.length<=100:=by
    have e1:=aX hB
    have e2:(ff S.aC aN i).length<=i:=a6 (a7 _ _) (by rw[dE]; exact aB _)
    omega
   have qP:ff S.aC aN (i + 1)=ff S.aC aN i ++ (if decide ((S.aC.getD i default).aN=aN)=true then[i] else[]):=by
    unfold ff
    rw[vE,gh]
    congr 1
    by_cases z:decide ((S.aC.getD i default).aN=aN)=true
    ·rw[a8 z,cW (p:=fun k=>decide ((S.aC.getD k default).aN=aN)) z]; rfl
    ·rw[aQ z,ko (p:=fun k=>decide ((S.aC.getD k default).aN=aN)) z]; rfl
   refine⟨_,rfl,q,_,dq,_,_,rfl,zO,G.eu,G.kE,CL _ _,_,rfl,rfl,_,rfl,cQ (fun z=>?_) (fun z=>?_)⟩
   ·rw[a8 (aM (y0 z))] at qP
    refine⟨_,rfl,_,iw,br (by rw[ae]; omega),hD,_,qs ++ [q],rfl,t3.dA hD,by rw[ag,aR]; rfl,?_⟩
    rw[qP]
    have kp: ∀{y C:Addr} {gs:List (Str×V)},eE H6 y C gs->eE (upd H6 D (.lst (qs.map V.ref ++ [V.ref q]))) y C gs:=fun{y C gs} ⟨dy,ey⟩=>⟨dy,by rw[ay (md ey iw (by intro w; cases w))]; exact ey⟩
    exact cV (Paired.iV hB fun _ _ w=>kp w) (kp ⟨dq,zO⟩)
   ·rw[aQ (by rw[bN (uU z)]; exact aZ),cA] at qP
    refine⟨hD,_,qs,rfl,t3,iw,?_⟩
    rw[qP]
    exact hB
  ·rintro D σ H6 hD ⟨_,v,qs,rfl,t3,iw,hB⟩
   have Lm:(iu.map V.ref).length=S.aC.length:=by rw[ae]; exact hO.1
   rw[Lm] at hB
   have Gq:=bW Wr t3
   have hth:hV S.aC aN (·.b)=(ff S.aC aN S.aC.length).map fun k=>((S.bl k).b,k):=rfl
   have GS: ∀x∈ff S.aC aN S.aC.length,x < S.aC.length:=fun x hx=>c9.mp (fR.mp hx).1
   have K1:(ff S.aC aN S.aC.length).Nodup:=tF.filter _
   have Ws:(ff S.aC aN S.aC.length).length<=S.aC.length:=a6 (a7 _ _) (by rw[dE]; exact aB _)
   have jJ:inOrder S.aC aN (·.b)=(fP ((ff S.aC aN S.aC.length).map fun k=>((S.bl k).b,k))).map (·.2):=rfl
   generalize ff S.aC aN S.aC.length=ks at hB GS K1 Ws jJ
   have Wt:=aX hB
   have IT:((ks.map fun k=>((S.bl k).b,k)):List (Int×Nat)).length=ks.length:=ae _
   have qQ: ∀x∈(ks.map fun k=>((S.bl k).b,k)),x.2 < 1000:=fun x hx=>by
    obtain⟨k0,Pu,rfl⟩:=bP.mp hx
    have:=GS k0 Pu
    show k0 < 1000
    omega
   have hnd:((ks.map fun k=>((S.bl k).b,k)).map (·.2)).Nodup:=by
    rw[fJ]
    have e:((fun x:Int×Nat=>x.2) ∘ fun k=>((S.bl k).b,k))=id:=rfl
    rw[e,J0]
    exact K1
   have C3: ∀i,i < ks.length->(ks.map fun k=>((S.bl k).b,k)).getD i (0,0)=((S.bl (ks.getD i 0)).b,ks.getD i 0):=fun i hi=>getD_map (fun k=>((S.bl k).b,k)) ks i 0 (0,0) hi
   generalize Wu:(ks.map fun k=>((S.bl k).b,k))=th at IT qQ hnd C3 jJ
   refine⟨_,rfl,D,qs.map V.ref,th.map Ei,uM,rfl,bQ.of iw,by rw[ae]; omega,by rw[ae,ae]; omega,Gq,(fun t ht=>?_),(fun t ht u hu=>?_),fun i hi H2 fr R hR=>?_,fun D2 p H2 hp le fr Fw GV Gi=>?_⟩
   ·obtain⟨x,_,rfl⟩:=bP.mp ht
    simp[Ei]
   ·obtain⟨x,Av,rfl⟩:=bP.mp ht
    obtain⟨y,BW,rfl⟩:=bP.mp hu
    exact uN (qQ x Av) (qQ y BW) (fun e=>⟨rfl,nX hnd Av BW e⟩) rfl
   ·rw[ae] at hi
    have yk:i < ks.length:=by omega
    obtain⟨q,e1,e2⟩:=bT hB (af yk)
    have Wv:(qs.map V.ref).getD i .eI= .ref q:=by rw[ai,aD,e1]; rfl
    have Ww:ks.getD i 0=ks[i]:=by rw[ai,af yk]; rfl
    obtain⟨dq,zO⟩:=e2.frame fr (vb Gq e2)
    rw[qO (by omega),C3 i yk,Ww] at hR
    rw[Wv]
    exact⟨_,rfl,q,_,dq,_,_,rfl,zO,G.eu,G.mW,Iu _ _,_,rfl,q,_,dq,_,_,rfl,zO,G.eu,G.eU,lu _ _,(by show 2<=sizeLine; decide),fun p np=>hR p np⟩
   ·rw[ae] at hp
    have iO: ∀i∈p,i < ks.length:=fun i hi=>by have:=c9.mp (hp.mem_iff.mp hi); omega
    have Ox:=va qQ hnd (by rw[IT,Wt]; exact hp) le
    have Eo:iJ A H2 S ks qs:=Paired.iV hB fun _ _ w=>w.frame fr (vb Gq w)
    refine k D2 (p.map fun i=>qs.getD i tb) H2 ((t3.frame).tr fr) Fw (t3.free GV) ?_ ?_
    ·rw[Gi,fJ]
     congr 2
     apply eP
     intro i hi
     exact getD_map V.ref qs i tb .eI (by have:=iO i hi; omega)
    ·rw[jJ,← Ox,fJ]
     have e:p.map ((fun x:Int×Nat=>x.2) ∘ fun i=>th.getD i (0,0))=p.map fun i=>ks.getD i 0:=eP fun i hi=>by
      show(th.getD i (0,0)).2=_
      rw[C3 i (iO i hi)]
     rw[e]
     exact nG Eo 0 tb p iO
def Oy:Pos:=⟨72,30,72,72⟩
def zj (A:en)(tb:Addr):Sp:=fun vs H Q _=> ∃(pb:Addr) (iu:List Addr) (S:Bk) (aN:Str),vs=[.ref pb,.str aN]/\H pb=some (.lst (iu.map V.ref))/\gy H A.eo fe S.credits iu/\S.credits.length < 64/\Tb H tb Oy ((("credits_in_order":Str) ++ ".<locals>.") ++ "<lambda>")/\
 ∀D qs H',Frame [tb] H H'->Tb H' tb Oy ((("credits_in_order":Str) ++ ".<locals>.") ++ "<lambda>")->H D=none->H' D=some (.lst (qs.map V.ref))->gN A H' S (inOrder S.credits aN (·.a)) qs->Q (.ref D) H'
theorem jx:aW ["all_credits","who","theirs"] ["all_credits","who"] (aA (top 18)):=⟨rfl,rfl,rfl,by decide +kernel,rfl,by decide +kernel,by decide +kernel⟩
theorem j8 (T:Txt K mg){A:en}{tb:Addr}(G:jB K mg A)(DL:qa K mg "credits_in_order" (top 18) tb)(KB:K.In base)(BM:BMain mg base):fz P w K mg base "credits_in_order" 2 ["all_credits","who"] (zj A tb):=by
 refine DL.lg (k:=1) KB jx (fun _ _ _ _ _ _ us hl=>match us,hl with|[_,_],_=>rfl) (fun vs H Q E h=>?_) (fun f c A' outer s H vs Q E CH hr h=>?_)
 ·obtain⟨pb,iu,S,aN,rfl,_⟩:=h
  rfl
 ·obtain⟨pb,iu,S,aN,rfl,R8,hO,hl,Wr,k⟩:=h
  have nd:=jx.nd
  refine⟨_,(ah (je (i:=2) nd rfl (Or.inl rfl) (tn:=["credit"]) (cn:=["who"]) (cj:=[1]) rfl (i8 (by rfl) (by decide +kernel) rfl (by decide +kernel) (by rfl) [(".0",.local),("credit",.local),("who",.cell)] (by rfl) (by decide +kernel) rfl (Or.inl rfl) (Or.inl rfl)) (dF (pv 0)) (fun _ _ _ _=>(bG (i:=0) (show(["credit","who"]:List Str).Nodup by decide +kernel) rfl (Or.inl rfl))) (fun _ _ _ _=>(pB (a9 dr (fv (K:=K) rfl (pv 0) rfl) (pv 1) (bc _)))) (fun _ _ _ _=>(pv 0)))
(av (ba (uH (N:=["credit"]) (y:="credit") rfl T.uL BM rfl CH (hr.mono (by decide)) ⟨rfl,rfl,rfl,by decide +kernel,rfl,by decide +kernel,by decide +kernel⟩ (fun _ _ _ _ _=>(dH (aa (fv (K:=K) rfl (pv 0) rfl) (aa (fv (K:=K) rfl (pv 0) rfl) ak)))) (pv 2))))),?_⟩
  refine⟨_,rfl,pb,rfl,⟨_,bQ.of R8⟩,?_⟩
  refine eD (K:=K) (a:=pb) (xs:=iu.map V.ref) (fun D i σ H6=>H D=none/\ ∃(v:Option V) (qs:List Addr),σ=[v,some (.str aN)]/\aG H H6/\H6 D=some (.lst (qs.map V.ref))/\gN A H6 S (ff S.credits aN i) qs) (fun D hD=>⟨hD,none,[],rfl,aG.new hD,ag,.nil⟩) (fun D i σ H6 _ ⟨_,_,_,_,t3,_⟩=>bQ.of (t3 _ _ R8)) ?_ ?_
  ·rintro D i x σ H6 hx ⟨hD,v,qs,rfl,t3,iw,hB⟩
   rw[aD] at hx
   obtain⟨q,hq,rfl⟩:=bM.mp hx
   have hi:i < S.credits.length:=by have:=(au.mp hq).1; have:=hO.1; omega
   obtain⟨dq,zO⟩:=(hO.2 i q hq).same t3
   have hql:qs.length<=100:=by
    have e1:=aX hB
    have e2:(ff S.credits aN i).length<=i:=a6 (a7 _ _) (by rw[dE]; exact aB _)
    omega
   have qP:ff S.credits aN (i + 1)=ff S.credits aN i ++ (if decide ((S.credits.getD i default).aN=aN)=true then[i] else[]):=by
    unfold ff
    rw[vE,gh]
    congr 1
    by_cases z:decide ((S.credits.getD i default).aN=aN)=true
    ·rw[a8 z,cW (p:=fun k=>decide ((S.credits.getD k default).aN=aN)) z]; rfl
    ·rw[aQ z,ko (p:=fun k=>decide ((S.credits.getD k default).aN=aN)) z]; rfl
   refine⟨_,rfl,q,_,dq,_,_,rfl,zO,G.dm,G.kQ,Iv _ _,_,rfl,rfl,_,rfl,cQ (fun z=>?_) (fun z=>?_)⟩
   ·rw[a8 (aM (y0 z))] at qP
    refine⟨_,rfl,_,iw,br (by rw[ae]; omega),hD,_,qs ++ [q],rfl,t3.dA hD,by rw[ag,aR]; rfl,?_⟩
    rw[qP]
    have kp: ∀{y C:Addr} {gs:List (Str×V)},eE H6 y C gs->eE (upd H6 D (.lst (qs.map V.ref ++ [V.ref q]))) y C gs:=fun{y C gs} ⟨dy,ey⟩=>⟨dy,by rw[ay (md ey iw (by intro w; cases w))]; exact ey⟩
    exact cV (Paired.iV hB fun _ _ w=>kp w) (kp ⟨dq,zO⟩)
   ·rw[aQ (by rw[bN (uU z)]; exact aZ),cA] at qP
    refine⟨hD,_,qs,rfl,t3,iw,?_⟩
    rw[qP]
    exact hB
  ·rintro D σ H6 hD ⟨_,v,qs,rfl,t3,iw,hB⟩
   have Lm:(iu.map V.ref).length=S.credits.length:=by rw[ae]; exact hO.1
   rw[Lm] at hB
   have Gq:=bW Wr t3
   have hth:hV S.credits aN (·.a)=(ff S.credits aN S.credits.length).map fun k=>((S.cr k).a,k):=rfl
   have GS: ∀x∈ff S.credits aN S.credits.length,x < S.credits.length:=fun x hx=>c9.mp (fR.mp hx).1
   have K1:(ff S.credits aN S.credits.length).Nodup:=tF.filter _
   have Ws:(ff S.credits aN S.credits.length).length<=S.credits.length:=a6 (a7 _ _) (by rw[dE]; exact aB _)
   have jJ:inOrder S.credits aN (·.a)=(fP ((ff S.credits aN S.credits.length).map fun k=>((S.cr k).a,k))).map (·.2):=rfl
   generalize ff S.credits aN S.credits.length=ks at hB GS K1 Ws jJ
   have Wt:=aX hB
   have IT:((ks.map fun k=>((S.cr k).a,k)):List (Int×Nat)).length=ks.length:=ae _
   have qQ: ∀x∈(ks.map fun k=>((S.cr k).a,k)),x.2 < 1000:=fun x hx=>by
    obtain⟨k0,Pu,rfl⟩:=bP.mp hx
    have:=GS k0 Pu
    show k0 < 1000
    omega
   have hnd:((ks.map fun k=>((S.cr k).a,k)).map (·.2)).Nodup:=by
    rw[fJ]
    have e:((fun x:Int×Nat=>x.2) ∘ fun k=>((S.cr k).a,k))=id:=rfl
    rw[e,J0]
    exact K1
   have C3: ∀i,i < ks.length->(ks.map fun k=>((S.cr k).a,k)).getD i (0,0)=((S.cr (ks.getD i 0)).a,ks.getD i 0):=fun i hi=>getD_map (fun k=>((S.cr k).a,k)) ks i 0 (0,0) hi
   generalize Wu:(ks.map fun k=>((S.cr k).a,k))=th at IT qQ hnd C3 jJ
   refine⟨_,rfl,D,qs.map V.ref,th.map Ei,uM,rfl,bQ.of iw,by rw[ae]; omega,by rw[ae,ae]; omega,Gq,(fun t ht=>?_),(fun t ht u hu=>?_),fun i hi H2 fr R hR=>?_,fun D2 p H2 hp le fr Fw GV Gi=>?_⟩
   ·obtain⟨x,_,rfl⟩:=bP.mp ht
    simp[Ei]
   ·obtain⟨x,Av,rfl⟩:=bP.mp ht
    obtain⟨y,BW,rfl⟩:=bP.mp hu
    exact uN (qQ x Av) (qQ y BW) (fun e=>⟨rfl,nX hnd Av BW e⟩) rfl
   ·rw[ae] at hi
    have yk:i < ks.length:=by omega
    obtain⟨q,e1,e2⟩:=bT hB (af yk)
    have Wv:(qs.map V.ref).getD i .eI= .ref q:=by rw[ai,aD,e1]; rfl
    have Ww:ks.getD i 0=ks[i]:=by rw[ai,af yk]; rfl
    obtain⟨dq,zO⟩:=e2.frame fr (vb Gq e2)
    rw[qO (by omega),C3 i yk,Ww] at hR
    rw[Wv]
    exact⟨_,rfl,q,_,dq,_,_,rfl,zO,G.dm,G.ja,Iw _ _,_,rfl,q,_,dq,_,_,rfl,zO,G.dm,G.eR,nV _ _,(by show 2<=sizeLine; decide),fun p np=>hR p np⟩
   ·rw[ae] at hp
    have iO: ∀i∈p,i < ks.length:=fun i hi=>by have:=c9.mp (hp.mem_iff.mp hi); omega
    have Ox:=va qQ hnd (by rw[IT,Wt]; exact hp) le
    have Eo:gN A H2 S ks qs:=Paired.iV hB fun _ _ w=>w.frame fr (vb Gq w)
    refine k D2 (p.map fun i=>qs.getD i tb) H2 ((t3.frame).tr fr) Fw (t3.free GV) ?_ ?_
    ·rw[Gi,fJ]
     congr 2
     apply eP
     intro i hi
     exact getD_map V.ref qs i tb .eI (by have:=iO i hi; omega)
    ·rw[jJ,← Ox,fJ]
     have e:p.map ((fun x:Int×Nat=>x.2) ∘ fun i=>th.getD i (0,0))=p.map fun i=>ks.getD i 0:=eP fun i hi=>by
      show(th.getD i (0,0)).2=_
      rw[C3 i (iO i hi)]
     rw[e]
     exact nG Eo 0 tb p iO
theorem vc {A:en}{H H':Hp}{pw tb:Addr}{S:Bk}{f:eQ}(h:dO A H pw S f)(ht: ∃ps,H tb=some (.mB ps))(fr:Frame [tb] H H'):dO A H' pw S f:=by
 obtain⟨ps,ht⟩:=ht
 have kl: ∀{a:Addr} {xs:List V},H a=some (.lst xs)->H' a=some (.lst xs):=fun{a xs} e=>fr _ _ (fun z=>by rw[ao.mp z,ht] at e; cases e) e
 have ki: ∀{a C dx:Addr} {gs:List (Str×V)},H a=some (.ins C dx gs)->H' a=some (.ins C dx gs):=fun{a C dx gs} e=>fr _ _ (fun z=>by rw[ao.mp z,ht] at e; cases e) e
 have kt:cU H H':=fun a xs e=>fr _ _ (fun z=>by rw[ao.mp z,ht] at e; cases e) e
 obtain⟨dw,hw⟩:=h.obj
 obtain⟨ms,m1,m2⟩:=h.hm
 exact⟨⟨dw,ki hw⟩,kl h.hb,kl h.hc,kl h.hl,kl h.hf,⟨ms,kl m1,m2.mono kt⟩,h.rb.keep fun _ _ _ e=>ki e,h.rc.keep fun _ _ _ e=>ki e,h.nd⟩
def lF (H:Hp)(tb:Addr):Prop:=Tb H tb Ow ((("bills_in_order":Str) ++ ".<locals>.") ++ "<lambda>")
def l6 (H:Hp)(tb:Addr):Prop:=Tb H tb Oy ((("credits_in_order":Str) ++ ".<locals>.") ++ "<lambda>")
def C4 (A:en)(tb:Addr):Sp:=fun vs H Q _=> ∃(pw:Addr) (S:Bk) (f:eQ) (n:Nat) (aN:Str) (day:Int),vs=[.ref pw,.str aN,.int day]/\dO A H pw S f/\WF S n/\n<=60/\lF H tb/\
 ∀D ms H',Frame [tb] H H'->lF H' tb->H D=none->H' D=some (.lst ms)->nE H' (S.qx true aN day) ms->Q (.ref D) H'
def IU (A:en)(tb:Addr):Sp:=fun vs H Q _=> ∃(pw:Addr) (S:Bk) (f:eQ) (n:Nat) (aN:Str) (day:Int),vs=[.ref pw,.str aN,.int day]/\dO A H pw S f/\WF S n/\n<=60/\l6 H tb/\
 ∀D ms H',Frame [tb] H H'->l6 H' tb->H D=none->H' D=some (.lst ms)->nE H' (S.qx false aN day) ms->Q (.ref D) H'
theorem C5:aW ["work","who","day"] ["work","who","day"] (aA (top 36)):=⟨rfl,rfl,rfl,by decide +kernel,rfl,by decide +kernel,by decide +kernel⟩
theorem xH (T:Txt K mg){A:en}{tb:Addr}(G:jB K mg A)(DL:qa K mg "bills_in_order" (top 17) tb)(KB:K.In base)(BM:BMain mg base):fz P w K mg base "owed_at" 5 ["work","who","day"] (C4 A tb):=by
 have i7:fz P w K mg base "bills_in_order" 2 ["bills","who"] (zi A tb):=lE T G DL KB BM
 have j9:fz P w K mg base "remaining_at" 4 ["work","told","place","day"] (u9 A):=nF T G
 refine T.FQ.lg (k:=4) C5 (fun _ _ _ _ _ _ us hl=>match us,hl with|[_,_,_],_=>rfl) (fun vs H Q E h=>?_) (fun f dv A' outer s H vs Q E hr h=>?_)
 ·obtain⟨pw,S,g,n,aN,day,rfl,_⟩:=h
  rfl
 ·obtain⟨pw,S,g,n,aN,day,rfl,hW,wf,hn,hT,k⟩:=h
  obtain⟨dw,hw⟩:=hW.obj
  refine⟨_,(av (ba (cL j9 (hr.mono (by decide)) rfl (aa (pv 0) (aa (cL i7 (hr.mono (by decide)) rfl (aa (cq (pv 0) rfl) (aa (pv 1) ak))) (aa aj (aa (pv 2) ak))))))),?_⟩
  refine⟨_,rfl,_,rfl,pw,_,dw,_,_,rfl,hw,G.bJ,G.eh,jj g,_,rfl,g.pb,g.iu,S,aN,rfl,hW.hb,hW.rb,(by have:=wf.lb; omega),hT,fun D qs H1 fr GW nD hD hB=>?_⟩
  have BZ:=vc hW (let⟨ps,e,_⟩:=hT; ⟨ps,e⟩) fr
  have Lv:(inOrder S.aC aN (·.b)).length<=100:=by
   have e:(inOrder S.aC aN (·.b)).length=((List.range S.aC.length).filter fun k=>decide ((S.aC.getD k default).aN=aN)).length:=by
    unfold inOrder hV
    rw[ae,(dM _).length_eq,ae]
   have:=a7 (fun k=>decide ((S.aC.getD k default).aN=aN)) (List.range S.aC.length)
   rw[dE] at this
   have:=wf.lb
   omega
  refine⟨_,rfl,pw,D,S,g,n,true,day,inOrder S.aC aN (·.b),qs,rfl,BZ,wf,(by have:=wf.lm; omega),hD,hB,Lv,fun D2 ms H2 s2 GV Gi hP=>?_⟩
  exact k D2 ms H2 (fr.cZ s2) (bW GW s2) (fr.free (fun z=>by
   obtain⟨ps,e,_⟩:=GW
   rw[ao.mp z,e] at GV
   cases GV) GV) Gi hP
theorem C6:aW ["work","who","day"] ["work","who","day"] (aA (top 37)):=⟨rfl,rfl,rfl,by decide +kernel,rfl,by decide +kernel,by decide +kernel⟩
theorem Gr (T:Txt K mg){A:en}{tb:Addr}(G:jB K mg A)(DL:qa K mg "credits_in_order" (top 18) tb)(KB:K.In base)(BM:BMain mg base):fz P w K mg base "free_at" 5 ["work","who","day"] (IU A tb):=by
 have ie:fz P w K mg base "credits_in_order" 2 ["all_credits","who"] (zj A tb):=j8 T G DL KB BM
 have j9:fz P w K mg base "remaining_at" 4 ["work","told","place","day"] (u9 A):=nF T G
 refine T.FR.lg (k:=4) C6 (fun _ _ _ _ _ _ us hl=>match us,hl with|[_,_,_],_=>rfl) (fun vs H Q E h=>?_) (fun f dv A' outer s H vs Q E hr h=>?_)
 ·obtain⟨pw,S,g,n,aN,day,rfl,_⟩:=h
  rfl
 ·obtain⟨pw,S,g,n,aN,day,rfl,hW,wf,hn,hT,k⟩:=h
  obtain⟨dw,hw⟩:=hW.obj
  refine⟨_,(av (ba (cL j9 (hr.mono (by decide)) rfl (aa (pv 0) (aa (cL ie (hr.mono (by decide)) rfl (aa (cq (pv 0) rfl) (aa (pv 1) ak))) (aa aj (aa (pv 2) ak))))))),?_⟩
  refine⟨_,rfl,_,rfl,pw,_,dw,_,_,rfl,hw,G.bJ,G.cO,hZ g,_,rfl,g.pc,g.cps,S,aN,rfl,hW.hc,hW.rc,(by have:=wf.lc; omega),hT,fun D qs H1 fr GW nD hD hB=>?_⟩
  have BZ:=vc hW (let⟨ps,e,_⟩:=hT; ⟨ps,e⟩) fr
  have Lv:(inOrder S.credits aN (·.a)).length<=100:=by
   have e:(inOrder S.credits aN (·.a)).length=((List.range S.credits.length).filter fun k=>decide ((S.credits.getD k default).aN=aN)).length:=by
    unfold inOrder hV
    rw[ae,(dM _).length_eq,ae]
   have:=a7 (fun k=>decide ((S.credits.getD k default).aN=aN)) (List.range S.credits.length)
   rw[dE] at this
   have:=wf.lc
   omega
  refine⟨_,rfl,pw,D,S,g,n,false,day,inOrder S.credits aN (·.a),qs,rfl,BZ,wf,(by have:=wf.lm; omega),hD,hB,Lv,fun D2 ms H2 s2 GV Gi hP=>?_⟩
  exact k D2 ms H2 (fr.cZ s2) (bW GW s2) (fr.free (fun z=>by
   obtain⟨ps,e,_⟩:=GW
   rw[ao.mp z,e] at GV
   cases GV) GV) Gi hP
def Ep:Sp:=fun vs H Q _=> ∃(gr:Int) (pl:Addr) (dh:List Int),vs=[.int gr,.ref pl]/\H pl=some (.tup (dh.map V.int))/\dh.length<=11/\ ∀H',aG H H'->Q (.int (L2.placeOf gr dh:Int)) H'
theorem Bn:aW ["late","limits"] ["late","limits"] (aA (top 1)):=⟨rfl,rfl,rfl,by decide +kernel,rfl,by decide +kernel,by decide +kernel⟩
theorem C7 (T:Txt K mg):fz P w K mg base "place_of" 1 ["late","limits"] Ep:=by
 refine T.CF.lg (k:=0) Bn (fun _ _ _ _ _ _ us hl=>match us,hl with|[_,_],_=>rfl) (fun vs H Q E h=>?_) (fun f dv A' outer s H vs Q E hr h=>?_)
 ·obtain⟨gr,pl,dh,rfl,_⟩:=h
  rfl
 ·obtain⟨gr,pl,dh,rfl,iO,IK,k⟩:=h
  refine⟨_,(ah (b0 (a9 wX (pv 0) aj (bc _))
(av (ba aj))
bw)
(av (ba (aV dS aj (bu bz (by rfl) T.eY bB (aa (jd (tn:=["limit"]) (cn:=["late"]) (cj:=[0]) rfl (i8 (by rfl) (by decide +kernel) rfl (by decide +kernel) (by rfl) [(".0",.local),("limit",.local),("late",.cell)] (by rfl) (by decide +kernel) rfl (Or.inl rfl) (Or.inl rfl)) (M9 (pv 1)) (fun _ _ _ _=>(bG (i:=0) (show(["limit","late"]:List Str).Nodup by decide +kernel) rfl (Or.inl rfl))) (fun _ _ _ _=>(pB (a9 jP (pv 0) (pv 1) (bc _)))) (fun _ _ _ _=>(pv 0))) ak)))))),?_⟩
  refine⟨_,rfl,_,_,rfl,rfl,_,rfl,cQ (fun z=>?_) (fun z=>?_)⟩
  ·have z':gr<=0:=a0 z
   have e:L2.placeOf gr dh=0:=a8 z'
   have q:=k H (aG.refl _)
   rw[e] at q
   exact q
  have z': ¬ gr<=0:=fun q=>z (aM q)
  have e:L2.placeOf gr dh=1 + (dh.filter fun l=>decide (l < gr)).length:=aQ z'
  refine⟨_,rfl,pl,rfl,⟨_,cM.of iO⟩,?_⟩
  refine HA (K:=K) (a:=pl) (xs:=dh.map V.int) (fun D' j σ H6=>H D'=none/\ ∃v,σ=[v,some (.int gr)]/\aG H H6/\H6 D'=some (.lst (((dh.take j).filter fun l=>decide (l < gr)).map V.int))) (fun D' wo=>⟨wo,none,rfl,aG.new wo,ag⟩) (fun D' j σ H6 _ ⟨_,_,_,t3,_⟩=>cM.of (t3 _ _ iO)) ?_ ?_
  ·rintro D' j x σ H6 Mw ⟨wo,v,rfl,t3,iw⟩
   rw[aD] at Mw
   obtain⟨y,hy,rfl⟩:=bM.mp Mw
   have oQ:=gF (fun l=>decide (l < gr)) hy
   have hlen:((dh.take j).filter fun l=>decide (l < gr)).length<=100:=by
    have:=a7 (fun l=>decide (l < gr)) (dh.take j)
    rw[bD] at this
    omega
   refine⟨_,rfl,_,rfl,_,_,rfl,rfl,_,rfl,cQ (fun q=>?_) (fun q=>?_)⟩
   ·rw[a8 q] at oQ
    refine⟨_,rfl,_,iw,br (by rw[ae]; omega),wo,_,rfl,t3.dA wo,?_⟩
    rw[ag,oQ,aR]
    rfl
   ·rw[aQ q,cA] at oQ
    refine⟨wo,_,rfl,t3,?_⟩
    rw[oQ]
    exact iw
  ·rintro D' σ H6 wo ⟨_,v,rfl,t3,iw⟩
   refine⟨D',_,rfl,.inl (bQ.of iw),_,_,rfl,rfl,?_⟩
   have q:=k H6 t3
   rw[e] at q
   have e2:(1:Int) + ((((dh.take (dh.map V.int).length).filter fun l=>decide (l < gr)).map V.int).length:Int)=((1 + (dh.filter fun l=>decide (l < gr)).length:Nat):Int):=by
    rw[ae,ae,bf]
    simp
   rw[← e2] at q
   exact q
def IV (A:en)(tb:Addr):Sp:=fun vs H Q _=> ∃(pw pl:Addr) (S:Bk) (f:eQ) (n:Nat) (aN:Str) (day:Int) (dh:List Int),vs=[.ref pw,.str aN,.int day,.ref pl]/\dO A H pw S f/\WF S n/\n<=60/\lF H tb/\H pl=some (.tup (dh.map V.int))/\dh.length<=11/\
 ∀D H',Frame [tb] H H'->lF H' tb->H D=none->H' D=some (.lst ((S.NH aN day dh).map V.int))->Q (.ref D) H'
theorem vd:aW ["work","who","day","limits","sums","number","left","place"] ["work","who","day","limits"] (aA (top 41)):=⟨rfl,rfl,rfl,by decide +kernel,rfl,by decide +kernel,by decide +kernel⟩
theorem Gs (T:Txt K mg){A:en}{tb:Addr}(G:jB K mg A)(DL:qa K mg "bills_in_order" (top 17) tb)(KB:K.In base)(BM:BMain mg base):fz P w K mg base "ages_at" 6 ["work","who","day","limits"] (IV A tb):=by
 have rQ:fz P w K mg base "owed_at" 5 ["work","who","day"] (C4 A tb):=xH T G DL KB BM
 have C8:fz P w K mg base "place_of" 1 ["late","limits"] Ep:=C7 T
 refine T.FT.lg (k:=5) vd (fun _ _ _ _ _ _ us hl=>match us,hl with|[_,_,_,_],_=>rfl) (fun vs H Q E h=>?_) (fun f dv A' outer s H vs Q E hr h=>?_)
 ·obtain⟨pw,pl,S,g,n,aN,day,dh,rfl,_⟩:=h
  rfl
 ·obtain⟨pw,pl,S,g,n,aN,day,dh,rfl,hW,wf,hn,hT,iO,IK,k⟩:=h
  have nd:=vd.nd
  refine⟨_,(ah (bb (i:=4) nd rfl (Or.inl rfl) (aV Cq (b9 (aa aj ak)) (aV dS (bu bz (by rfl) T.eY bB (aa (pv 3) ak)) aj)))
(ah (fM bY rfl (dF (cL rQ (hr.mono (by decide)) rfl (aa (pv 0) (aa (pv 1) (aa (pv 2) ak))))) (iW rfl (cw (bG (i:=5) nd rfl (Or.inl rfl)) (cw (bG (i:=6) nd rfl (Or.inl rfl)) gJ)))
(ah (bb (i:=7) nd rfl (Or.inl rfl) (cL C8 (hr.mono (by decide)) rfl (aa (aV fb (pv 2) (cq (aO bh (cq (pv 0) rfl) (pv 5) (fun _ _=>rfl)) rfl)) (aa (pv 3) ak))))
(av (kM (aV dS (aO bh (pv 4) (pv 7) (fun _ _=>rfl)) (pv 6)) (mF (pv 4) (pv 7) set_list)))))
(av (ba (pv 4))))),?_⟩
  refine⟨(by show 1<=sizeLine; decide),fun p9 n9=>?_⟩
  have t9:=aG.new (o:= .lst [V.int 0]) n9
  have R9:(dh.map V.int).length=dh.length:=ae _
  refine⟨_,rfl,pl,_,rfl,.inr (cM.of (t9 _ _ iO)),_,_,rfl,rfl,p9,_,_,rfl,rfl,ag,by omega,by omega,?_,fun ps Er=>?_⟩
  ·show 1 * _<=sizeLine
   rw[R9,eZ]
   omega
  have e2:(((dh.map V.int).length:Int) + 2).toNat=dh.length + 2:=by rw[R9]; omega
  rw[e2,Ls]
  have Bf:=aG.new (o:= .lst ((List.replicate (dh.length + 2) (0:Int)).map V.int)) Er
  have IQ:=t9.trans Bf
  have mP:upd (upd H p9 (.lst [V.int 0])) ps (.lst ((List.replicate (dh.length + 2) (0:Int)).map V.int)) ps=some (.lst ((List.replicate (dh.length + 2) (0:Int)).map V.int)):=ag
  have Oz:H ps=none:=t9.free Er
  generalize upd (upd H p9 (.lst [V.int 0])) ps (.lst ((List.replicate (dh.length + 2) (0:Int)).map V.int))=H1 at IQ mP
  have GW:=bW hT IQ
  refine⟨_,rfl,_,rfl,_,rfl,pw,S,g,n,aN,day,rfl,hW.same IQ,wf,hn,GW,fun D ms H2 fr Fw nD hD hP=>?_⟩
  refine⟨D,rfl,⟨_,bQ.of hD⟩,?_⟩
  have mB: ∃q,H1 tb=some (.mB q):=let⟨q,e,_⟩:=GW; ⟨q,e⟩
  have off: ∀{a:Addr} {o:HO},H1 a=some o->(∀q,o≠ .mB q)->H2 a=some o:=fun{a o} e hq=>fr _ _ (fun z=>by
   obtain⟨q,eq⟩:=mB
   rw[ao.mp z,eq] at e
   exact hq q (aE e).symm) e
  have zk:=vc (hW.same IQ) mB fr
  have OA:=off mP (fun _ z=>by cases z)
  have OB:=off (IQ _ _ iO) (fun _ z=>by cases z)
  have fr0:Frame [tb] H H2:=fr.l0 IQ
  have IW: ∀t∈S.qx true aN day,t.1 < S.aC.length:=fun t ht=>Gk (bU:=true) ht
  have hag:S.NH aN day dh=(S.qx true aN day).foldl (fun l t=>sx l (L2.placeOf (day - (S.bl t.1).b) dh) t.2) (List.replicate (dh.length + 2) 0):=rfl
  rw[hag] at k
  generalize S.qx true aN day=ts at hP IW k
  have hDp:D≠ps:=fun e=>by rw[e,mP] at nD; cases nD
  refine gT (K:=K) (a:=D) (xs:=ms) (fun i σ H3=> ∃(l:List Int) (x5 x6 x7:Option V),σ=[some (.ref pw),some (.str aN),some (.int day),some (.ref pl),some (.ref ps),x5,x6,x7]/\Frame [ps] H2 H3/\H3 ps=some (.lst (l.map V.int))/\l.length=dh.length + 2/\l=(ts.take i).foldl (fun l t=>sx l (L2.placeOf (day - (S.bl t.1).b) dh) t.2) (List.replicate (dh.length + 2) 0))
   ⟨_,none,none,none,rfl,Frame.refl,OA,List.length_replicate,rfl⟩ (fun i σ H3 _ ⟨_,_,_,_,_,f3,_⟩=>bQ.of (f3 _ _ (by simpa using hDp) hD)) ?_ ?_
  ·rintro i x σ H3 hx ⟨l,x5,x6,x7,rfl,f3,Pq,GX,he⟩
   have Ub: ∀{a:Addr} {o:HO},H2 a=some o->(∀q,o≠ .lst q)->H3 a=some o:=fun{a o} e hq=>f3 _ _ (fun z=>by
    rw[ao.mp z,OA] at e
    exact hq _ (aE e).symm) e
   have hi:i < ts.length:=by have:=(au.mp hx).1; have:=aX hP; omega
   have oP:=af hi
   obtain⟨v,hv,p,rfl,hp⟩:=bT hP oP
   rw[hx] at hv
   obtain rfl:x= .ref p:=aE hv
   have hm:=IW _ (bO hi)
   rw[lC (fun l t=>sx l (L2.placeOf (day - (S.bl t.1).b) dh) t.2) ts _ oP,← he]
   generalize ts[i]=t at hp hm
   obtain⟨dw,hw⟩:=zk.obj
   obtain⟨q,q1,dq,q2⟩:=zk.rb.get hm
   have Wx:g.pb∉[ps]:=fun z=>by
    have e:=hW.hb
    rw[ao.mp z,Oz] at e
    cases e
   have PM:=Ub hp (fun _ z=>by cases z)
   have hw3:=Ub hw (fun _ z=>by cases z)
   have hq3:=Ub q2 (fun _ z=>by cases z)
   have Wy:=Ub OB (fun _ z=>by cases z)
   refine⟨p,_,rfl,cM.of PM,rfl,_,_,rfl,_,_,rfl,rfl,?_⟩
   refine⟨_,rfl,_,rfl,pw,_,dw,_,_,rfl,hw3,G.bJ,G.eh,jj g,_,rfl,g.pb,_,_,.ref q,rfl,rfl,bQ.of (f3 _ _ Wx zk.hb),cS (by rw[aD,q1]; rfl),q,_,dq,_,_,rfl,hq3,G.eu,G.mW,Iu _ _,_,_,rfl,rfl,_,rfl,_,pl,dh,rfl,Wy,IK,fun H4 s4=>?_⟩
   have hpo:=C2 (day - (S.bl t.1).b) dh
   have YI:=s4 _ _ Pq
   refine⟨_,rfl,_,rfl,ps,_,_,.int (l.getD (L2.placeOf (day - (S.bl t.1).b) dh) 0),rfl,rfl,bQ.of YI,m8 (by show L2.placeOf (day - (S.bl t.1).b) dh < _; omega),_,rfl,_,_,rfl,rfl,?_⟩
   refine⟨_,rfl,_,rfl,ps,_,_,L2.placeOf (day - (S.bl t.1).b) dh,rfl,rfl,YI,nW (by rw[ae]; show L2.placeOf (day - (S.bl t.1).b) dh < _; omega),?_⟩
   refine⟨sx l (L2.placeOf (day - (S.bl t.1).b) dh) t.2,_,_,_,rfl,(f3.cZ s4).tr (Frame.upd (by simp)),?_,?_,rfl⟩
   ·rw[ag]
    unfold sx
    rw[vD]
   ·rw[Gm]; exact GX
  ·rintro σ H3 ⟨l,x5,x6,x7,rfl,f3,Pq,GX,he⟩
   rw[← aX hP,bf] at he
   rw[he] at Pq
   refine⟨_,rfl,k ps H3 (fun b o hb e=>f3 b o (fun z=>by rw[ao.mp z,Oz] at e; cases e) (fr0 b o hb e)) ?_ Oz Pq⟩
   obtain⟨q,e1,QP,e3⟩:=Fw
   have kx: ∀{a:Addr} {o:HO},H2 a=some o->(∀q,o≠ .lst q)->H3 a=some o:=fun{a o} e hq=>f3 _ _ (fun z=>by
    rw[ao.mp z,OA] at e
    exact hq _ (aE e).symm) e
   refine⟨q,kx e1 (fun _ z=>by cases z),QP,?_⟩
   rcases e3 with e3|⟨c',e3,e4⟩
   ·exact .inl e3
   ·exact .inr ⟨c',e3,kx e4 (fun _ z=>by cases z)⟩
def eV (pk pw:Addr):List (Str×V):=[("kept",.ref pk),("work",.ref pw)]
theorem tO (pk pw:Addr):(eV pk pw).lookup ("kept":Str)=some (V.ref pk):=by rfl
theorem qR (pk pw:Addr):(eV pk pw).lookup ("work":Str)=some (V.ref pw):=by rfl
theorem IX (pk pw:Addr):eK "work" (.ref pw) (eK "kept" (.ref pk) [])=eV pk pw:=by rfl
def Es (A:en):Sp:=fun vs H Q _=> ∃(x dx:Addr),vs=[.ref x]/\H x=some (.ins A.book dx [])/\ ∀pk pw f H',Frame [x] H H'->H' x=some (.ins A.book dx (eV pk pw))->H' pk=some (.dK [])->dO A H' pw Bk.new f->H pk=none->H pw=none->(∀b∈f.fp,H b=none)->pk∉f.fp->Q .eI H'
theorem Lw:aW ["self"] ["self"] (aA (mem 29 0)):=⟨rfl,rfl,rfl,by decide +kernel,rfl,by decide +kernel,by decide +kernel⟩
theorem OC {A:en}(G:jB K mg A):tf P w K mg base "Book" A.book 3 ["self"] (Es A):=by
 have C9:tf P w K mg base "Work" A.work 1 ["self"] (y3 A):=IP G
 refine Lg (k:=2) G.Le G.Ld Lw (fun _ _ _ _ _ _ us hl=>match us,hl with|[_],_=>rfl) (fun vs H Q E h=>?_) (fun f dv A' outer s H vs Q E hr h=>?_)
 ·obtain⟨x,dx,rfl,_⟩:=h
  rfl
 ·obtain⟨x,dx,rfl,hx,k⟩:=h
  refine⟨_,(ah (fT (pv 0) Ai rfl) (av (fT (pv 0) (Iy C9 (hr.mono (by decide)) rfl) rfl))),?_⟩
  intro pk nk
  have ne1:pk≠x:=(aL hx nk).symm
  refine⟨_,rfl,x,_,dx,_,rfl,aG.new nk _ _ hx,G.eL,G.gK,lt1000 A4 (by decide),?_⟩
  have F1:Frame [x] H (upd (upd H pk (.dK [])) x (.ins A.book dx (eK "kept" (.ref pk) []))):=(aG.new nk).frame.tr (Frame.upd (by simp))
  have g1:upd (upd H pk (.dK [])) x (.ins A.book dx (eK "kept" (.ref pk) [])) x=some (.ins A.book dx (eK "kept" (.ref pk) [])):=ag
  have k1:upd (upd H pk (.dK [])) x (.ins A.book dx (eK "kept" (.ref pk) [])) pk=some (.dK []):=by rw[ay ne1,ag]
  generalize upd (upd H pk (.dK [])) x (.ins A.book dx (eK "kept" (.ref pk) []))=H1 at F1 g1 k1 ⊢
  intro xw Wz Lx OD ne
  have s2:=lB (C:=A.work) (fs:=[]) Lx OD ne
  refine⟨xw,Wz,rfl,ag,fun g H3 Kg W3 nf=>⟨rfl,?_⟩⟩
  have WA:x≠xw:=aL g1 Lx
  have nek:pk≠xw:=aL k1 Lx
  have g3:=Kg _ _ (by simpa using WA) (s2 _ _ g1)
  have k3:=Kg _ _ (by simpa using nek) (s2 _ _ k1)
  refine⟨_,rfl,x,_,dx,_,rfl,g3,G.eL,G.fW,lt1000 (pl A4) (by decide),?_⟩
  rw[IX]
  have fw: ∀b∈g.fp,H1 b=none:=fun b hb=>s2.free (nf b hb)
  have off: ∀b,H1 b=none->b≠x->H b=none:=fun b e n=>F1.free (by simpa using n) e
  have xf:x∉g.fp:=fun z=>by have:=fw x z; rw[g1] at this; cases this
  have Sa:dO A (upd H3 x (.ins A.book dx (eV pk xw))) xw Bk.new g:=by
   obtain⟨dw,hw⟩:=W3.obj
   obtain⟨ms,m1,m2⟩:=W3.hm
   have nx: ∀p∈g.fp,p≠x:=fun p hp z=>xf (z▸hp)
   refine⟨⟨dw,by rw[ay WA.symm]; exact hw⟩,by rw[ay (nx _ (by simp[eQ.fp]))]; exact W3.hb,by rw[ay (nx _ (by simp[eQ.fp]))]; exact W3.hc,by rw[ay (nx _ (by simp[eQ.fp]))]; exact W3.hl,by rw[ay (nx _ (by simp[eQ.fp]))]; exact W3.hf,⟨ms,by rw[ay (nx _ (by simp[eQ.fp]))]; exact m1,?_⟩,?_,?_,W3.nd⟩
   ·cases m2
    exact .nil
   ·exact⟨W3.rb.1,fun i p e=>by have:=(au.mp e).1; have h0:=W3.rb.1; rw[h0] at this; exact absurd this (fS _)⟩
   ·exact⟨W3.rc.1,fun i p e=>by have:=(au.mp e).1; have h0:=W3.rc.1; rw[h0] at this; exact absurd this (fS _)⟩
  refine k pk xw g _ ?_ ag (by rw[ay ne1]; exact k3) Sa nk (off xw Lx WA.symm) (fun b hb=>off b (fw b hb) (fun z=>xf (z▸hb))) (fun z=>by have:=fw pk z; rw[k1] at this; cases this)
  intro b o hb e
  have bx:b≠x:=by simpa using hb
  rw[ay bx]
  have e1:=F1 b o hb e
  exact Kg b o (by simpa using aL e1 Lx) (s2 b o e1)
def zl (r:List Bool):Dt:= .lst (r.map Dt.bl)
def IZ (t:Nat×Nat×Int):Dt:= .tup [.int t.1,.int t.2.1,.int t.2.2]
theorem il (fs ls:List Int)(al:List (List Bool)): ∀i,(cg fs ls al i).2.length<=i
 |0=>aB _
 |i + 1=>by
  have:=il fs ls al i
  unfold cg
  split
  ·omega
  ·rw[aF]; show _ + 1<=_; omega
def WB:Option Nat->V
 |none=> .eI
 |some j=> .int j
def pO (bo:List (Key×V))(j:Nat):Bool:=(gq bo (Sum.inl (j:Int):Key)).isSome
def Et (K:PySem.W.Frag):Sp:=fun vs H Q _=> ∃(f:Int) (pl:Addr) (ls:List Int) (pr:Addr) (row:List Bool) (pt:Addr) (bo:List (Key×V)),vs=[.int f,.ref pl,.ref pr,.ref pt]/\bQ K H pl (ls.map V.int)/\bQ K H pr (row.map V.bl)/\row.length=ls.length/\H pt=some (.dK bo)/\
 ∀H',aG H H'->Q (WB (hX f ls row (pO bo))) H'
def nH (H:Hp)(ms:List (Nat×Nat×Int))(vs:List V):Prop:=Paired (fun(t:Nat×Nat×Int) v=> ∃p,v= .ref p/\H p=some (.tup [.int t.1,.int t.2.1,.int t.2.2])) ms vs
theorem nH.mono {H H':Hp}{ms:List (Nat×Nat×Int)}{vs:List V}(h:nH H ms vs)(k: ∀b xs,H b=some (.tup xs)->H' b=some (.tup xs)):nH H' ms vs:=
 Paired.iV h fun _ _ ⟨p,e,q⟩=>⟨p,e,k _ _ q⟩
theorem nH.rp {H:Hp}: ∀{ms:List (Nat×Nat×Int)} {vs:List V},nH H ms vs->iL H (ms.map IZ) vs
 |_,_,.nil=>ee.mpr rfl
 |_,_,.cons ⟨p,e,q⟩ t=>cf.mpr ⟨_,_,rfl,e▸fZ q (cf.mpr ⟨_,_,rfl,eJ.mpr rfl,cf.mpr ⟨_,_,rfl,eJ.mpr rfl,cf.mpr ⟨_,_,rfl,eJ.mpr rfl,ee.mpr rfl⟩⟩⟩),nH.rp t⟩
theorem Ly {H:Hp}{p:Addr}{o:HO}{bo:List (Key×V)}(h:H p=some (.dK bo)): ∀b xs,H b=some (.tup xs)->upd H p o b=some (.tup xs):=fun b xs e=>by
 rw[ay (md e h (by intro z; cases z))]; exact e
theorem nI:aW ["free","lefts","fitting","taken","bill","left"] ["free","lefts","fitting","taken"] (aA (top 21)):=⟨rfl,rfl,rfl,by decide +kernel,rfl,by decide +kernel,by decide +kernel⟩
theorem wD (T:Txt K mg):fz P w K mg base "first_alike" 1 ["free","lefts","fitting","taken"] (Et K):=by
 refine T.vS.lg (k:=0) nI (fun _ _ _ _ _ _ us hl=>match us,hl with|[_,_,_,_],_=>rfl) (fun vs H Q E h=>?_) (fun f dv A outer s H vs Q E hr h=>?_)
 ·obtain⟨f,pl,ls,pr,row,pt,bo,rfl,_⟩:=h
  rfl
 ·obtain⟨fr,pl,ls,pr,row,pt,bo,rfl,hL,hR,BR,hT,k⟩:=h
  have hu:=kA hr
  have nd:=nI.nd
  refine⟨_,(ah (fM bY rfl (qp rfl T.ji (aa (pv 1) ak)) (iW rfl (cw (bG (i:=4) nd rfl (Or.inl rfl)) (cw (bG (i:=5) nd rfl (Or.inl rfl)) gJ)))
(av (b0 (PW.pt (pw_and (gi (aO bh (pv 2) (pv 4) (fun _ _=>rfl))) (pw_and (a9 dr (pv 5) (pv 0) (bc _)) (pw_and1 (xX (Fo hu (pv 4) (pv 3)))))))
(av (ba (pv 4)))
bw)))
(av (ba Cd))),?_⟩
  refine⟨_,rfl,pl,rfl,⟨_,hL⟩,?_⟩
  refine mN (K:=K) (a:=pl) (xs:=ls.map V.int) (fun i σ H2=> ∃x4 x5,σ=[some (.int fr),some (.ref pl),some (.ref pr),some (.ref pt),x4,x5]/\aG H H2/\ ∀j,j < i->(row.getD j false && decide (ls.getD j 0=fr) && !pO bo j)=false)
   ⟨none,none,rfl,aG.refl _,fun j hj=>absurd hj (fS _)⟩ (fun i σ H2 _ ⟨_,_,_,s2,_⟩=>s2.seq hL) ?_ ?_
  ·rintro i x p σ H2 hx hp ⟨x4,x5,rfl,s2,Sb⟩
   have hi:i < ls.length:=by have:=(au.mp hx).1; rwa [ae] at this
   rw[aD,af hi] at hx
   obtain rfl:V.int ls[i]=x:=aE hx
   have s3:aG H2 (upd H2 p (.tup [.int i,.int ls[i]])):=aG.new hp
   refine⟨p,_,rfl,cM.of ag,rfl,_,_,rfl,_,_,rfl,rfl,?_⟩
   have s4:=s2.trans s3
   generalize upd H2 p (.tup [.int i,.int ls[i]])=H3 at s4 ⊢
   have Sd:i < row.length:=by omega
   have OE:ls.getD i 0=ls[i]:=by rw[ai,af hi]; rfl
   have Se:row.getD i false=row[i]:=by rw[ai,af Sd]; rfl
   have next:(row.getD i false && decide (ls.getD i 0=fr) && !pO bo i)=false-> ∀j,j < i + 1->(row.getD j false && decide (ls.getD j 0=fr) && !pO bo j)=false:=fun e j hj=>by
    rcases Nat.lt_succ_iff_lt_or_eq.mp hj with h|h
    ·exact Sb j h
    ·rw[h]; exact e
   refine⟨_,rfl,_,rfl,pr,_,_,.bl row[i],rfl,rfl,s4.seq hR,cS (by rw[aD,af Sd]; rfl),_,rfl,?_⟩
   refine cQ (fun c1=>?_) (fun c1=>cv ?_)
   ·refine⟨_,rfl,_,rfl,rfl,_,rfl,cQ (fun c2=>?_) (fun c2=>cv ?_)⟩
    ·have Sf:ls[i]=fr:=by have:=a0 c2; injection this
     refine⟨_,rfl,_,rfl,pt,_,rfl,mv.k (k:=Sum.inl (i:Int)) (s4 _ _ hT),_,rfl,cQ (fun c3=>?_) (fun c3=>?_)⟩
     ·
      refine⟨_,rfl,?_⟩
      have e:hX fr ls row (pO bo)=some i:=by
       unfold hX
       refine List.find?_range_eq_some.mpr ⟨?_,c9.mpr hi,fun j hj=>?_⟩
       ·rw[Se,OE,c1,Sf]
        simpa[pO] using c3
       ·rw[Sb j hj]; rfl
      have q:=k H3 s4
      rw[e] at q
      exact q
     ·refine⟨_,_,rfl,s4,next ?_⟩
      have c3':pO bo i=true:=by
       unfold pO
       cases h:(gq bo (Sum.inl (i:Int):Key)).isSome with
       |true=>rfl
       |false=>rw[h] at c3; exact absurd rfl c3
      rw[c3']; simp
    ·have Sf: ¬ ls[i]=fr:=fun z=>c2 (aM (by rw[z]))
     refine⟨_,_,rfl,s4,next ?_⟩
     rw[OE,decide_eq_false Sf]; simp
   ·refine⟨_,_,rfl,s4,next ?_⟩
    rw[Se,Bool.eq_false_iff.mpr c1]; rfl
  ·rintro σ H2 ⟨x4,x5,rfl,s2,Sb⟩
   rw[ae] at Sb
   have e:hX fr ls row (pO bo)=none:=by
    unfold hX
    refine List.find?_eq_none.mpr fun j hj=>?_
    rw[Sb j (c9.mp hj)]
    exact aZ
   have q:=k H2 s2
   rw[e] at q
   exact q
def Bo (K:PySem.W.Frag):Sp:=fun vs H Q _=> ∃(pf pl pa:Addr) (fs ls:List Int) (al:List (List Bool)),vs=[.ref pf,.ref pl,.ref pa]/\bQ K H pf (fs.map V.int)/\bQ K H pl (ls.map V.int)/\Rp H (.lst (al.map zl)) (.ref pa)/\
 fs.length<=1000/\al.length=fs.length/\(∀r∈al,r.length=ls.length)/\ ∀v H',aG H H'->Rp H' (.lst ((cg fs ls al fs.length).2.map IZ)) v->Q v H'
theorem Bp:aW ["frees","lefts","allowed","taken","made","credit","free","bill"] ["frees","lefts","allowed"] (aA (top 20)):=⟨rfl,rfl,rfl,by decide +kernel,rfl,by decide +kernel,by decide +kernel⟩
theorem Lz (T:Txt K mg):fz P w K mg base "alike" 2 ["frees","lefts","allowed"] (Bo K):=by
 have wF:fz P w K mg base "first_alike" 1 ["free","lefts","fitting","taken"] (Et K):=wD T
 refine T.K2.lg (k:=1) Bp (fun _ _ _ _ _ _ us hl=>match us,hl with|[_,_,_],_=>rfl) (fun vs H Q E h=>?_) (fun f dv A outer s H vs Q E hr h=>?_)
 ·obtain⟨pf,pl,pa,fs,ls,al,rfl,_⟩:=h
  rfl
 ·obtain⟨pf,pl,pa,fs,ls,al,rfl,hF,hL,hA,hf1,Vu,I9,k⟩:=h
  have hu:=kA hr
  have nd:=Bp.nd
  obtain⟨pa',refs,e0,WC,LA⟩:=jR.mp hA
  cases e0
  refine⟨_,(ah (bb (i:=3) nd rfl (Or.inl rfl) Ai)
(ah (bb (i:=4) nd rfl (Or.inl rfl) (b9 ak))
(ah (fM bY rfl (qp rfl T.ji (aa (pv 0) ak)) (iW rfl (cw (bG (i:=5) nd rfl (Or.inl rfl)) (cw (bG (i:=6) nd rfl (Or.inl rfl)) gJ)))
(ah (bb (i:=7) nd rfl (Or.inl rfl) (cL wF (hr.mono (by decide)) rfl (aa (pv 6) (aa (pv 1) (aa (aO bh (pv 2) (pv 5) (fun _ _=>rfl)) (aa (pv 3) ak))))))
(av (b0 (xX (Kf (pv 7)))
(ah (DN hu (pv 3) (pv 7) mC rfl)
(av (bR (fq aJ aH aI bZ (pv 4) (aa (dH (aa (pv 5) (aa (pv 7) (aa (pv 6) ak)))) ak)))))
bw))))
(av (ba (pv 4)))))),?_⟩
  intro pt nt
  refine⟨bF _,fun pm nm=>?_⟩
  have s1:aG H (upd H pt (.dK [])):=aG.new nt
  have s2:aG H (upd (upd H pt (.dK [])) pm (.lst [])):=s1.trans (aG.new nm)
  have Sg:H pm=none:=s1.free nm
  have ME:pt≠pm:=aL ag nm
  refine⟨_,rfl,pf,rfl,⟨_,s2.seq hF⟩,?_⟩
  refine mN (K:=K) (a:=pf) (xs:=fs.map V.int) (fun i σ H2=> ∃x5 x6 x7 bo ms,σ=[some (.ref pf),some (.ref pl),some (.ref pa),some (.ref pt),some (.ref pm),x5,x6,x7]/\aG H H2/\H2 pt=some (.dK bo)/\(∀j:Nat,pO bo j=(cg fs ls al i).1 j)/\bo.length<=i/\H2 pm=some (.lst ms)/\nH H2 (cg fs ls al i).2 ms)
   ⟨none,none,none,[],[],rfl,s2,by rw[ay ME]; exact ag,fun j=>rfl,aB _,ag,.nil⟩ (fun i σ H2 _ ⟨_,_,_,_,_,_,s3,_⟩=>s3.seq hF) ?_ ?_
  ·rintro i x p σ H2 hx hp ⟨x5,x6,x7,bo,ms,rfl,s3,hT,mI,GS,hM,zP⟩
   have hi:i < fs.length:=by have:=(au.mp hx).1; rwa [ae] at this
   rw[aD,af hi] at hx
   obtain rfl:V.int fs[i]=x:=aE hx
   have s4:aG H2 (upd H2 p (.tup [.int i,.int fs[i]])):=aG.new hp
   refine⟨p,_,rfl,cM.of ag,rfl,_,_,rfl,_,_,rfl,rfl,?_⟩
   have s5:=s3.trans s4
   have MF:=s4 _ _ hT
   have qS:=s4 _ _ hM
   have Dc:=zP.mono (gf s4)
   generalize upd H2 p (.tup [.int i,.int fs[i]])=H3 at s5 MF qS Dc ⊢
   clear s4 hp
   have Sh:i < al.length:=by omega
   have g0:(al.map zl)[i]? =some (zl al[i]):=by rw[aD,af Sh]; rfl
   obtain⟨rv,Uc,Ud⟩:=LA.get g0
   obtain⟨pr,WD,e1,Oj,Ej⟩:=jR.mp Ud
   subst e1
   have hrx:WD=al[i].map V.bl:=by
    clear Oj Uc Ud
    generalize al[i]=r at Ej
    induction r generalizing WD with
    |nil=>exact ee.mp Ej
    |cons b r ih=>
     obtain⟨v,rest,e,h1,h2⟩:=cf.mp Ej
     rw[e,qr.mp h1,ih rest h2]; rfl
   subst hrx
   have WE:fs.getD i 0=fs[i]:=by rw[ai,af hi]; rfl
   have WG:al.getD i []=al[i]:=by rw[ai,af Sh]; rfl
   refine⟨_,rfl,_,rfl,_,rfl,_,rfl,pa,_,_,.ref pr,rfl,rfl,bQ.of (s5 _ _ WC),cS Uc,_,rfl,fs[i],pl,ls,pr,al[i],pt,bo,rfl,s5.seq hL,bQ.of (s5 _ _ Oj),I9 _ (bO _),MF,fun H4 s6=>?_⟩
   have etk:pO bo=(cg fs ls al i).1:=funext mI
   have r9:cg fs ls al (i + 1)=match hX fs[i] ls al[i] (pO bo) with
     |none=>cg fs ls al i
     |some j=>(fun x=>x == j || (cg fs ls al i).1 x,(cg fs ls al i).2 ++ [(i,j,fs[i])]):=by
    rw[etk,← WE,← WG]; rfl
   cases hb:hX fs[i] ls al[i] (pO bo) with
   |none=>
    rw[hb] at r9
    refine⟨_,rfl,_,rfl,cv ?_⟩
    refine⟨_,_,_,bo,ms,rfl,s5.trans s6,s6 _ _ MF,?_,by omega,s6 _ _ qS,?_⟩
    ·intro j; rw[r9]; exact mI j
    ·rw[r9]; exact Dc.mono (gf s6)
   |some j=>
    rw[hb] at r9
    refine⟨_,rfl,_,rfl,fH ?_⟩
    have PN:=s6 _ _ MF
    have ve:=s6 _ _ qS
    refine⟨_,rfl,_,rfl,pt,_,rfl,Fl.k (k:=Sum.inl (j:Int)) PN (br (by omega)),?_⟩
    have Ja:upd H4 pt (.dK (putK bo (Sum.inl (j:Int):Key) (.bl true))) pm=some (.lst ms):=by rw[ay ME.symm]; exact ve
    have IL:=(Dc.length)
    have PQ:=il fs ls al i
    have s7:aG H (upd H4 pt (.dK (putK bo (Sum.inl (j:Int):Key) (.bl true)))):=(s5.trans s6).dA nt
    have vf:nH (upd H4 pt (.dK (putK bo (Sum.inl (j:Int):Key) (.bl true)))) (cg fs ls al i).2 ms:=(Dc.mono (gf s6)).mono (Ly PN)
    have Gq:upd H4 pt (.dK (putK bo (Sum.inl (j:Int):Key) (.bl true))) pt=some (.dK (putK bo (Sum.inl (j:Int):Key) (.bl true))):=ag
    generalize upd H4 pt (.dK (putK bo (Sum.inl (j:Int):Key) (.bl true)))=H5 at Ja s7 vf Gq ⊢
    refine⟨_,rfl,.inl ⟨rfl,_,bQ.of Ja⟩,_,rfl,_,rfl,_,rfl,(by show 3<=sizeLine; decide),fun p8 n8=>?_⟩
    have s8:aG H5 (upd H5 p8 (.tup [.int i,.int j,.int fs[i]])):=aG.new n8
    refine⟨pm,ms,_,rfl,rfl,s8 _ _ Ja,br (by omega),?_⟩
    refine⟨_,_,_,putK bo (Sum.inl (j:Int):Key) (.bl true),ms ++ [.ref p8],rfl,(s7.trans s8).dA Sg,?_,fun x=>?_,?_,ag,?_⟩
    ·rw[ay ME]; exact s8 _ _ Gq
    ·rw[r9]
     unfold pO
     rw[Hu]
     by_cases hx:x=j
     ·subst hx; simp
     ·have: ¬ (Sum.inl (x:Int):Key)=Sum.inl (j:Int):=fun z=>hx (by injection z with z; omega)
      rw[aQ this]
      have h2:=mI x
      unfold pO at h2
      rw[h2]
      simp[hx]
    ·have:=kz bo (Sum.inl (j:Int):Key) (.bl true)
     omega
    ·rw[r9]
     exact cV ((vf.mono (gf s8)).mono (dW (s8 _ _ Ja))) ⟨p8,rfl,dW (s8 _ _ Ja) _ _ ag⟩
  ·rintro σ H2 ⟨x5,x6,x7,bo,ms,rfl,s3,hT,mI,GS,hM,zP⟩
   rw[ae] at zP
   refine⟨_,rfl,?_⟩
   exact k _ _ s3 (lS hM zP.rp)
def cY (fs ls:List Int)(al:List (List Bool))(i:Nat):List (Nat×Int):=(bK (fs.getD i 0) (cF fs ls al i).1 (al.getD i []) (cF fs ls al i).1.length).2
theorem Bq (fs ls:List Int)(al:List (List Bool))(i:Nat):(cF fs ls al (i + 1)).1=dU (cF fs ls al i).1 (cY fs ls al i):=rfl
theorem sJ (fs ls:List Int)(al:List (List Bool))(i:Nat):(cF fs ls al (i + 1)).2=(cF fs ls al i).2 ++ (cY fs ls al i).map fun x=>(i,x.1,x.2):=rfl
def OF (H:Hp)(ps:List (Nat×Int))(vs:List V):Prop:=Paired (fun(t:Nat×Int) v=> ∃p,v= .ref p/\H p=some (.tup [.int t.1,.int t.2])) ps vs
theorem OF.mono {H H':Hp}{ps:List (Nat×Int)}{vs:List V}(h:OF H ps vs)(k: ∀b xs,H b=some (.tup xs)->H' b=some (.tup xs)):OF H' ps vs:=
 Paired.iV h fun _ _ ⟨p,e,q⟩=>⟨p,e,k _ _ q⟩
theorem gw (f:Int)(l:List Int)(row:List Bool): ∀j,(bK f l row j).2.length<=j
 |0=>aB _
 |j + 1=>by
  have:=gw f l row j
  rw[bK]
  split
  ·rw[aF]; show _ + 1<=_; omega
  ·omega
def Eu (K:PySem.W.Frag):Sp:=fun vs H Q _=> ∃(f:Int) (pl:Addr) (ls:List Int) (pr:Addr) (row:List Bool),vs=[.int f,.ref pl,.ref pr]/\bQ K H pl (ls.map V.int)/\bQ K H pr (row.map V.bl)/\row.length=ls.length/\ls.length<=100/\
 ∀(q:Addr) (ms:List V) (H':Hp),aG H H'->H q=none->H' q=some (.lst ms)->OF H' (bK f ls row ls.length).2 ms->Q (.ref q) H'
theorem sM:aW ["free","lefts","fitting","still_free","parts","bill","left","amount"] ["free","lefts","fitting"] (aA (top 23)):=⟨rfl,rfl,rfl,by decide +kernel,rfl,by decide +kernel,by decide +kernel⟩
theorem Dd (T:Txt K mg):fz P w K mg base "parts_of" 1 ["free","lefts","fitting"] (Eu K):=by
 refine T.CI.lg (k:=0) sM (fun _ _ _ _ _ _ us hl=>match us,hl with|[_,_,_],_=>rfl) (fun vs H Q E h=>?_) (fun f dv A outer s H vs Q E hr h=>?_)
 ·obtain⟨f,pl,ls,pr,row,rfl,_⟩:=h
  rfl
 ·obtain⟨fr,pl,ls,pr,row,rfl,hL,hR,BR,RL,k⟩:=h
  have hu:=kA hr
  have nd:=sM.nd
  refine⟨_,(ah (bb (i:=3) nd rfl (Or.inl rfl) (pv 0))
(ah (bb (i:=4) nd rfl (Or.inl rfl) (b9 ak))
(ah (fM bY rfl (qp rfl T.ji (aa (pv 1) ak)) (iW rfl (cw (bG (i:=5) nd rfl (Or.inl rfl)) (cw (bG (i:=6) nd rfl (Or.inl rfl)) gJ)))
(ah (bb (i:=7) nd rfl (Or.inl rfl) (bu (rB rfl) (by rfl) T.AE boot_min (aa (pv 3) (aa (pv 6) ak))))
(av (b0 (PW.pt (pw_and (gi (aO bh (pv 2) (pv 5) (fun _ _=>rfl))) (pw_and1 (a9 ju (pv 7) aj (bc _)))))
(ah (bR (fq aJ aH aI bZ (pv 4) (aa (dH (aa (pv 5) (aa (pv 7) ak))) ak)))
(av (bb (i:=3) nd rfl (Or.inl rfl) (aV fb (pv 3) (pv 7)))))
bw))))
(av (ba (pv 4)))))),?_⟩
  refine⟨_,rfl,?_⟩
  refine⟨bF _,fun q nq=>?_⟩
  have s1:aG H (upd H q (.lst [])):=aG.new nq
  refine⟨_,rfl,pl,rfl,⟨_,s1.seq hL⟩,?_⟩
  refine mN (K:=K) (a:=pl) (xs:=ls.map V.int) (fun i σ H2=> ∃(x5 x6 x7:Option V) (ms:List V),σ=[some (.int fr),some (.ref pl),some (.ref pr),some (.int (bK fr ls row i).1),some (.ref q),x5,x6,x7]/\aG H H2/\H2 q=some (.lst ms)/\OF H2 (bK fr ls row i).2 ms)
   ⟨none,none,none,[],rfl,s1,ag,.nil⟩ (fun i σ H2 _ ⟨_,_,_,_,_,s2,_⟩=>s2.seq hL) ?_ ?_
  ·rintro i x p σ H2 hx hp ⟨x5,x6,x7,ms,rfl,s2,hM,hP⟩
   have hi:i < ls.length:=by have:=(au.mp hx).1; rwa [ae] at this
   rw[aD,af hi] at hx
   obtain rfl:V.int ls[i]=x:=aE hx
   have s3:aG H2 (upd H2 p (.tup [.int i,.int ls[i]])):=aG.new hp
   refine⟨p,_,rfl,cM.of ag,rfl,_,_,rfl,_,_,rfl,rfl,?_⟩
   have s4:=s2.trans s3
   have PR:=s3 _ _ hM
   have WH:=hP.mono (gf s3)
   generalize upd H2 p (.tup [.int i,.int ls[i]])=H3 at s4 PR WH ⊢
   have Sd:i < row.length:=by omega
   have OE:ls.getD i 0=ls[i]:=getD_at hi
   have Se:row.getD i false=row[i]:=getD_at Sd
   have hlen:ms.length<=i:=by have:=hP.length; have:=gw fr ls row i; omega
   refine⟨_,rfl,_,rfl,_,_,rfl,?_⟩
   have em:(if ls[i] < (bK fr ls row i).1 then ls[i] else(bK fr ls row i).1)=fI (bK fr ls row i).1 (ls.getD i 0):=by rw[OE]; rfl
   rw[em]
   have r9:bK fr ls row (i + 1)=if row.getD i false=true/\0 < fI (bK fr ls row i).1 (ls.getD i 0) then((bK fr ls row i).1 - fI (bK fr ls row i).1 (ls.getD i 0),(bK fr ls row i).2 ++ [(i,fI (bK fr ls row i).1 (ls.getD i 0))]) else bK fr ls row i:=by rw[bK]
   generalize fI (bK fr ls row i).1 (ls.getD i 0)=am at r9 ⊢
   have no: ¬ (row.getD i false=true/\0 < am)-> ∃(x5 x6 x7:Option V) (ms:List V),[some (.int fr),some (.ref pl),some (.ref pr),some (.int (bK fr ls row i).1),some (.ref q),some (V.int i),some (V.int ls[i]),some (V.int am)]=[some (.int fr),some (.ref pl),some (.ref pr),some (.int (bK fr ls row (i + 1)).1),some (.ref q),x5,x6,x7]/\aG H H3/\H3 q=some (.lst ms)/\OF H3 (bK fr ls row (i + 1)).2 ms:=fun c=>by
    rw[r9,aQ c]
    exact⟨_,_,_,ms,rfl,s4,PR,WH⟩
   refine⟨_,rfl,_,rfl,pr,_,_,.bl row[i],rfl,rfl,s4.seq hR,cS (by rw[aD,af Sd]; rfl),_,rfl,?_⟩
   refine cQ (fun c1=>?_) (fun c1=>cv ?_)
   ·refine⟨_,rfl,_,_,rfl,rfl,_,rfl,cQ (fun c2=>?_) (fun c2=>?_)⟩
    ·have Sf:0 < am:=a0 c2
     rw[a8 ⟨by rw[Se]; exact c1,Sf⟩] at r9
     refine⟨_,rfl,.inl ⟨rfl,_,bQ.of PR⟩,_,rfl,_,rfl,(by show 2<=sizeLine; decide),fun p8 n8=>?_⟩
     have s8:aG H3 (upd H3 p8 (.tup [.int i,.int am])):=aG.new n8
     refine⟨q,ms,_,rfl,rfl,s8 _ _ PR,br (by omega),?_⟩
     refine⟨_,rfl,_,rfl,_,_,rfl,rfl,?_⟩
     refine⟨_,_,_,ms ++ [.ref p8],by rw[r9]; rfl,(s4.trans s8).dA nq,ag,?_⟩
     rw[r9]
     exact cV ((WH.mono (gf s8)).mono (dW (s8 _ _ PR))) ⟨p8,rfl,dW (s8 _ _ PR) _ _ ag⟩
    ·exact no fun z=>c2 (aM z.2)
   ·exact no fun z=>c1 (by rw[← Se]; exact z.1)
  ·rintro σ H2 ⟨x5,x6,x7,ms,rfl,s2,hM,hP⟩
   rw[ae] at hP
   refine⟨_,rfl,?_⟩
   exact k _ _ _ s2 nq hM hP
theorem pP (f:Int)(l:List Int)(row:List Bool): ∀j,∀x∈(bK f l row j).2,x.1 < j
 |0,x,hx=>by cases hx
 |j + 1,x,hx=>by
  rw[bK] at hx
  split at hx
  ·rcases bq.mp hx with hx|hx
   ·have:=pP f l row j x hx; omega
   ·rw[ao] at hx; subst hx; exact fk _
  ·have:=pP f l row j x hx; omega
theorem Br (fs ls:List Int)(al:List (List Bool)): ∀i,(cF fs ls al i).2.length<=i * ls.length
 |0=>by show 0<=_; omega
 |i + 1=>by
  have:=Br fs ls al i
  have h2:=gw (fs.getD i 0) (cF fs ls al i).1 (al.getD i []) (cF fs ls al i).1.length
  rw[sJ,aF,ae,vz]
  unfold cY
  rw[jI] at h2 ⊢
  omega
def Bs (K:PySem.W.Frag):Sp:=fun vs H Q _=> ∃(pf pl pa:Addr) (fs ls:List Int) (al:List (List Bool)),vs=[.ref pf,.ref pl,.ref pa]/\bQ K H pf (fs.map V.int)/\bQ K H pl (ls.map V.int)/\Rp H (.lst (al.map zl)) (.ref pa)/\
 fs.length<=63/\ls.length<=63/\al.length=fs.length/\(∀r∈al,r.length=ls.length)/\ ∀(pm:Addr) (ms:List V) (H':Hp),aG H H'->H' pm=some (.lst ms)->nH H' (cF fs ls al fs.length).2 ms->Q (.ref pm) H'
theorem Ew {H:Hp}: ∀(r:List Bool) {xs:List V},iL H (r.map Dt.bl) xs->xs=r.map V.bl
 |[],_,h=>ee.mp h
 |b :: r,_,h=>by
  obtain⟨v,rest,e,h1,h2⟩:=cf.mp h
  rw[e,qr.mp h1,Ew r h2]; rfl
theorem OG {H:Hp}{al:List (List Bool)}{refs:List V}(h:iL H (al.map zl) refs){i:Nat}(hi:i < al.length): ∃pr,refs[i]? =some (.ref pr)/\H pr=some (.lst (al[i].map V.bl)):=by
 have g0:(al.map zl)[i]? =some (zl al[i]):=by rw[aD,af hi]; rfl
 obtain⟨rv,Uc,Ud⟩:=h.get g0
 obtain⟨pr,WD,e1,Oj,Ej⟩:=jR.mp Ud
 rw[Ew _ Ej] at Oj
 exact⟨pr,by rw[Uc,e1],Oj⟩
theorem oS:aW ["frees","lefts","allowed","still_left","made","credit","free","parts","bill","amount"] ["frees","lefts","allowed"] (aA (top 22)):=⟨rfl,rfl,rfl,by decide +kernel,rfl,by decide +kernel,by decide +kernel⟩
theorem zo (T:Txt K mg):fz P w K mg base "shared_out" 2 ["frees","lefts","allowed"] (Bs K):=by
 have De:fz P w K mg base "parts_of" 1 ["free","lefts","fitting"] (Eu K):=Dd T
 refine T.yx.lg (k:=1) oS (fun _ _ _ _ _ _ us hl=>match us,hl with|[_,_,_],_=>rfl) (fun vs H Q E h=>?_) (fun f dv A outer s H vs Q E hr h=>?_)
 ·obtain⟨pf,pl,pa,fs,ls,al,rfl,_⟩:=h
  rfl
 ·obtain⟨pf,pl,pa,fs,ls,al,rfl,hF,hL,hA,hf1,RL,Vu,I9,k⟩:=h
  have hu:=kA hr
  have nd:=oS.nd
  obtain⟨pa',refs,e0,WC,LA⟩:=jR.mp hA
  cases e0
  refine⟨_,(ah (bb (i:=3) nd rfl (Or.inl rfl) (f9 lP (by rfl) T.rM boot_list (aa (pv 1) ak)))
(ah (bb (i:=4) nd rfl (Or.inl rfl) (b9 ak))
(ah (fM bY rfl (qp rfl T.ji (aa (pv 0) ak)) (iW rfl (cw (bG (i:=5) nd rfl (Or.inl rfl)) (cw (bG (i:=6) nd rfl (Or.inl rfl)) gJ)))
(ah (bb (i:=7) nd rfl (Or.inl rfl) (cL De (hr.mono (by decide)) rfl (aa (pv 6) (aa (pv 3) (aa (aO bh (pv 2) (pv 5) (fun _ _=>rfl)) ak)))))
(av (fM bY rfl (dF (pv 7)) (iW rfl (cw (bG (i:=8) nd rfl (Or.inl rfl)) (cw (bG (i:=9) nd rfl (Or.inl rfl)) gJ)))
(ah (kM (aV fb (aO bh (pv 3) (pv 8) (fun _ _=>rfl)) (pv 9)) (mF (pv 3) (pv 8) set_list))
(av (bR (fq aJ aH aI bZ (pv 4) (aa (dH (aa (pv 5) (aa (pv 8) (aa (pv 9) ak)))) ak)))))))))
(av (ba (pv 4)))))),?_⟩
  refine⟨_,rfl,pl,_,rfl,.inl hL,fun q nq=>?_⟩
  refine⟨bF _,fun pm nm=>?_⟩
  have s1:aG H (upd H q (.lst (ls.map V.int))):=aG.new nq
  have s2:aG H (upd (upd H q (.lst (ls.map V.int))) pm (.lst [])):=s1.trans (aG.new nm)
  have Sg:H pm=none:=s1.free nm
  have WI:q≠pm:=aL ag nm
  refine⟨_,rfl,pf,rfl,⟨_,s2.seq hF⟩,?_⟩
  refine mN (K:=K) (a:=pf) (xs:=fs.map V.int) (fun i σ H2=> ∃(x5 x6 x7 x8 x9:Option V) (ms:List V),σ=[some (.ref pf),some (.ref pl),some (.ref pa),some (.ref q),some (.ref pm),x5,x6,x7,x8,x9]/\aG H H2/\H2 q=some (.lst ((cF fs ls al i).1.map V.int))/\H2 pm=some (.lst ms)/\nH H2 (cF fs ls al i).2 ms)
   ⟨none,none,none,none,none,[],rfl,s2,by rw[ay WI]; exact ag,ag,.nil⟩ (fun i σ H2 _ ⟨_,_,_,_,_,_,_,s3,_⟩=>s3.seq hF) ?_ ?_
  ·rintro i x p σ H2 hx hp ⟨x5,x6,x7,x8,x9,ms,rfl,s3,hQ,hM,zP⟩
   have hi:i < fs.length:=by have:=(au.mp hx).1; rwa [ae] at this
   rw[aD,af hi] at hx
   obtain rfl:V.int fs[i]=x:=aE hx
   have s4:aG H2 (upd H2 p (.tup [.int i,.int fs[i]])):=aG.new hp
   refine⟨p,_,rfl,cM.of ag,rfl,_,_,rfl,_,_,rfl,rfl,?_⟩
   have s5:=s3.trans s4
   have Ue:=s4 _ _ hQ
   have qS:=s4 _ _ hM
   have Dc:=zP.mono (gf s4)
   generalize upd H2 p (.tup [.int i,.int fs[i]])=H3 at s5 Ue qS Dc ⊢
   clear s4 hp
   have Sh:i < al.length:=by omega
   obtain⟨pr,WJ,WK⟩:=OG LA Sh
   have WE:fs.getD i 0=fs[i]:=getD_at hi
   have WG:al.getD i []=al[i]:=getD_at Sh
   have IK:=jI fs ls al i
   have OH:cY fs ls al i=(bK fs[i] (cF fs ls al i).1 al[i] (cF fs ls al i).1.length).2:=by unfold cY; rw[WE,WG]
   have YJ:(cY fs ls al i).length<=ls.length:=by rw[OH,IK]; exact gw _ _ _ _
   have WL: ∀x∈cY fs ls al i,x.1 < ls.length:=by rw[OH,IK]; exact pP _ _ _ _
   have PQ:=Br fs ls al i
   have abo:(cF fs ls al i).2.length<=3969:=a6 PQ (qd (show i<=63 by omega) RL)
   refine⟨_,rfl,_,rfl,_,rfl,_,rfl,pa,_,_,.ref pr,rfl,rfl,bQ.of (s5 _ _ WC),cS WJ,fs[i],q,(cF fs ls al i).1,pr,al[i],rfl,bQ.of Ue,bQ.of (s5 _ _ WK),by rw[IK]; exact I9 _ (bO _),by rw[IK]; omega,fun r Sk H4 s6 Sl Wd hP=>?_⟩
   rw[← OH] at hP
   have hQ5:=s6 _ _ Ue
   have ve:=s6 _ _ qS
   have WM:=Dc.mono (gf s6)
   have hrq:r≠q:=(aL Ue Sl).symm
   have QX:r≠pm:=(aL qS Sl).symm
   have s7:=s5.trans s6
   have OB:Sk.length=(cY fs ls al i).length:=hP.length.symm
   refine⟨_,rfl,r,rfl,⟨_,bQ.of Wd⟩,?_⟩
   refine gT (K:=K) (a:=r) (xs:=Sk) (fun m σ H5=> ∃(x8 x9:Option V) (ms:List V),σ=[some (.ref pf),some (.ref pl),some (.ref pa),some (.ref q),some (.ref pm),some (.int i),some (.int fs[i]),some (.ref r),x8,x9]/\aG H H5/\H5 q=some (.lst ((dU (cF fs ls al i).1 ((cY fs ls al i).take m)).map V.int))/\H5 pm=some (.lst ms)/\nH H5 ((cF fs ls al i).2 ++ ((cY fs ls al i).take m).map fun x=>(i,x.1,x.2)) ms/\H5 r=some (.lst Sk)/\OF H5 (cY fs ls al i) Sk)
    ⟨_,_,ms,rfl,s7,hQ5,ve,by simpa using WM,Wd,hP⟩ (fun m σ H5 _ ⟨_,_,_,_,_,_,_,_,h,_⟩=>bQ.of h) ?_ ?_
   ·rintro m x σ H5 hx ⟨y8,y9,Sm,rfl,t5,OI,Ja,vf,MD,PL⟩
    have hm:m < (cY fs ls al i).length:=by have:=(au.mp hx).1; omega
    have g0:(cY fs ls al i)[m]? =some (cY fs ls al i)[m]:=af hm
    obtain⟨v,hv,pp,e1,JP⟩:=bT PL g0
    rw[hx] at hv
    obtain rfl:x=v:=aE hv
    subst e1
    have hb:(cY fs ls al i)[m].1 < ls.length:=WL _ (bO _)
    have mI:=ma hm
    have TJ:(dU (cF fs ls al i).1 ((cY fs ls al i).take m)).length=ls.length:=by rw[pH,IK]
    generalize (cY fs ls al i)[m]=pt at JP hb mI g0
    obtain⟨b,am⟩:=pt
    dsimp only at JP hb
    refine⟨pp,_,rfl,cM.of JP,rfl,_,_,rfl,_,_,rfl,rfl,?_⟩
    refine⟨_,rfl,_,rfl,q,_,_,_,rfl,rfl,bQ.of OI,m8 (by rw[TJ]; exact hb),_,rfl,_,_,rfl,rfl,_,rfl,_,rfl,q,_,_,b,rfl,rfl,OI,nW (by rw[ae,TJ]; exact hb),?_⟩
    rw[← vD]
    have hap:dU (cF fs ls al i).1 ((cY fs ls al i).take (m + 1))=(dU (cF fs ls al i).1 ((cY fs ls al i).take m)).set b ((dU (cF fs ls al i).1 ((cY fs ls al i).take m)).getD b 0 - am):=by rw[mI,sv]
    rw[← hap]
    have t6:aG H (upd H5 q (.lst ((dU (cF fs ls al i).1 ((cY fs ls al i).take (m + 1))).map V.int))):=t5.dA nq
    have Gu:upd H5 q (.lst ((dU (cF fs ls al i).1 ((cY fs ls al i).take (m + 1))).map V.int)) pm=some (.lst Sm):=by rw[ay WI.symm]; exact Ja
    have YK:upd H5 q (.lst ((dU (cF fs ls al i).1 ((cY fs ls al i).take (m + 1))).map V.int)) q=some (.lst ((dU (cF fs ls al i).1 ((cY fs ls al i).take (m + 1))).map V.int)):=ag
    have YL:upd H5 q (.lst ((dU (cF fs ls al i).1 ((cY fs ls al i).take (m + 1))).map V.int)) r=some (.lst Sk):=by rw[ay hrq]; exact MD
    have Gv:=vf.mono (dW (o:= .lst ((dU (cF fs ls al i).1 ((cY fs ls al i).take (m + 1))).map V.int)) OI)
    have YM:=PL.mono (dW (o:= .lst ((dU (cF fs ls al i).1 ((cY fs ls al i).take (m + 1))).map V.int)) OI)
    generalize upd H5 q (.lst ((dU (cF fs ls al i).1 ((cY fs ls al i).take (m + 1))).map V.int))=H6 at t6 Gu YK YL Gv YM ⊢
    have IL:=Gv.length
    rw[aF,ae,bD] at IL
    refine⟨_,rfl,.inl ⟨rfl,_,bQ.of Gu⟩,_,rfl,_,rfl,_,rfl,(by show 3<=sizeLine; decide),fun p8 n8=>?_⟩
    have s8:aG H6 (upd H6 p8 (.tup [.int i,.int b,.int am])):=aG.new n8
    refine⟨pm,Sm,_,rfl,rfl,s8 _ _ Gu,i9 (by omega),?_⟩
    refine⟨_,_,Sm ++ [.ref p8],rfl,(t6.trans s8).dA Sg,?_,ag,?_,?_,?_⟩
    ·rw[ay WI]; exact s8 _ _ YK
    ·rw[mI,aR,← gH]
     exact cV ((Gv.mono (gf s8)).mono (dW (s8 _ _ Gu))) ⟨p8,rfl,dW (s8 _ _ Gu) _ _ ag⟩
    ·rw[ay QX]; exact s8 _ _ YL
    ·exact(YM.mono (gf s8)).mono (dW (s8 _ _ Gu))
   ·rintro σ H5 ⟨y8,y9,Sm,rfl,t5,OI,Ja,vf,MD,PL⟩
    rw[OB,bf] at OI vf
    exact⟨_,_,_,_,_,Sm,rfl,t5,by rw[Bq]; exact OI,Ja,by rw[sJ]; exact vf⟩
  ·rintro σ H2 ⟨x5,x6,x7,x8,x9,ms,rfl,s3,hQ,hM,zP⟩
   rw[ae] at zP
   refine⟨_,rfl,?_⟩
   exact k _ _ _ s3 hM zP
theorem LB {X:Cx}{K:PySem.W.Frag}{es:List Expr}{k:Nat}{pos:Pos}{t:L9}{n:Nat}(hK:X.K=K)(hc:X.calm=true)(h:JF X es t)(hn:(assignEach es X.env).length=n)(r9:(assignEach es X.env).findIdx? (·.1)=none):PG X (.Tuple es k pos) (Ql K n t):=by
 subst hK
 exact iW hc h hn r9
theorem f7 {H H':Hp}{tb:Addr}{fp:List Addr}{pos:Pos}{qual:Str}(t:Tb H tb pos qual)(fr:Frame fp H H')(ht:tb∉fp)(hf: ∀a∈fp,∀φ,H a≠some (.ext φ)):Tb H' tb pos qual:=by
 obtain⟨ps,h1,h2,h3⟩:=t
 refine⟨ps,fr _ _ ht h1,h2,?_⟩
 rcases h3 with h3|⟨c',h3,h4⟩
 ·exact .inl h3
 ·exact .inr ⟨c',h3,fr _ _ (fun z=>hf _ z _ h4) h4⟩
theorem c8 {H:Hp}{tb:Addr}{pos:Pos}{qual:Str}(t:Tb H tb pos qual): ∃ps,H tb=some (.mB ps):=let⟨ps,e,_⟩:=t; ⟨ps,e⟩
theorem dP {fp Q4:List Addr}{H H':Hp}(f:Frame fp H H')(h: ∀x∈fp,x∈Q4):Frame Q4 H H':=fun b o hb e=>f b o (fun z=>hb (h b z)) e
theorem tP {H:Hp}{p C D:Addr}{fs:List (Str×V)}{ys:List V}{o:HO}(h:eE H p C fs)(e:H D=some (.lst ys)):eE (upd H D o) p C fs:=let⟨dx,z⟩:=h; ⟨dx,by rw[ay (md z e (by intro q; cases q))]; exact z⟩
theorem gN.upd {A:en}{H:Hp}{S:Bk}{cs:List Nat}{qs:List Addr}{D:Addr}{ys:List V}{o:HO}(h:gN A H S cs qs)(e:H D=some (.lst ys)):gN A (L2.upd H D o) S cs qs:=Paired.iV h fun _ _ z=>tP z e
theorem iJ.upd {A:en}{H:Hp}{S:Bk}{cs:List Nat}{qs:List Addr}{D:Addr}{ys:List V}{o:HO}(h:iJ A H S cs qs)(e:H D=some (.lst ys)):iJ A (L2.upd H D o) S cs qs:=Paired.iV h fun _ _ z=>tP z e
theorem gN.tb {A:en}{H H':Hp}{S:Bk}{cs:List Nat}{qs:List Addr}{tb:Addr}{pos:Pos}{qual:Str}(h:gN A H S cs qs)(t:Tb H tb pos qual)(fr:Frame [tb] H H'):gN A H' S cs qs:=Paired.iV h fun _ _ z=>z.frame fr (vb t z)
theorem nY {rows:List Rw}{c:Nat}(h:c < rows.length):(rows.map fun r=>V.int r.d)[c]? =some (.int (rows.getD c default).d):=by
 rw[aD,af h,ai,af h]; rfl
theorem nZ (rows:List Rw)(aN:Str)(key:Rw->Int):(inOrder rows aN key).length<=rows.length:=by
 have e:(inOrder rows aN key).length=((List.range rows.length).filter fun k=>decide ((rows.getD k default).aN=aN)).length:=by
  unfold inOrder hV
  rw[ae,(dM _).length_eq,ae]
 have:=a7 (fun k=>decide ((rows.getD k default).aN=aN)) (List.range rows.length)
 rw[dE] at this
 omega
def mj (rows:List Rw)(k:Nat):Bool:=decide (0 < (rows.getD k default).d)
abbrev Jb:=List Int->List Int->List (List Bool)->List (Nat×Nat×Int)
def pQ:Jb:=fun fs ls al=>(cg fs ls al fs.length).2
def Bt:Jb:=fun fs ls al=>(cF fs ls al fs.length).2
structure Jc (way:Jb):Prop where
 lt: ∀fs ls al,∀t∈way fs ls al,t.1 < fs.length/\t.2.1 < ls.length
 len: ∀fs ls al,fs.length<=63->ls.length<=63->(way fs ls al).length<=4000
def OJ (way:Jb)(sp:Sp):Prop:= ∀(pf pl pa:Addr) (fs ls:List Int) (al:List (List Bool)) (H:Hp) (Q:VK),H pf=some (.lst (fs.map V.int))->H pl=some (.lst (ls.map V.int))->Rp H (.lst (al.map zl)) (.ref pa)->fs.length<=63->ls.length<=63->al.length=fs.length->(∀r∈al,r.length=ls.length)->
 (∀(pm:Addr) (ms:List V) (H':Hp),aG H H'->H' pm=some (.lst ms)->gQ H' (way fs ls al) ms->Q (.ref pm) H')->sp [.ref pf,.ref pl,.ref pa] H Q E0
def jb (H:Hp)(D:Addr)(al:List (List Bool))(rs:List V):Prop:=Paired (fun(r:List Bool) v=> ∃p,v= .ref p/\p≠D/\H p=some (.lst (r.map V.bl))) al rs
theorem jb.upd {H:Hp}{D:Addr}{al:List (List Bool)}{rs:List V}{o:HO}(h:jb H D al rs):jb (L2.upd H D o) D al rs:=Paired.iV h fun _ _ ⟨p,e,n,z⟩=>⟨p,e,n,by rw[ay n]; exact z⟩
theorem jb.same {H H':Hp}{D:Addr}{al:List (List Bool)}{rs:List V}(h:jb H D al rs)(s:aG H H'):jb H' D al rs:=Paired.iV h fun _ _ ⟨p,e,n,z⟩=>⟨p,e,n,s _ _ z⟩
theorem xI {H:Hp}: ∀r:List Bool,iL H (r.map Dt.bl) (r.map V.bl)
 |[]=>ee.mpr rfl
 |b :: r=>cf.mpr ⟨_,_,rfl,qr.mpr rfl,xI r⟩
theorem jb.rp {H:Hp}{D:Addr}: ∀{al:List (List Bool)} {rs:List V},jb H D al rs->iL H (al.map zl) rs
 |_,_,.nil=>ee.mpr rfl
 |_,_,.cons ⟨p,e,_,z⟩ t=>cf.mpr ⟨_,_,rfl,e▸lS z (xI _),jb.rp t⟩
theorem Gw {S:Bk}{l:List (Nat×Nat×Int)}{i:Nat}{t:Nat×Nat×Int}(h:l[i]? =some t):kq S (l.take (i + 1))=(kq S (l.take i)).put t.1 t.2.1 t.2.2:=lC (fun(S:Bk) (t:Nat×Nat×Int)=>S.put t.1 t.2.1 t.2.2) l S h
theorem Ex (S:Bk): ∀l,(kq S l).aC.length=S.aC.length/\(kq S l).credits.length=S.credits.length
 |[]=>⟨rfl,rfl⟩
 |t :: l=>by
  obtain⟨a,b⟩:=Ex (S.put t.1 t.2.1 t.2.2) l
  exact⟨a.trans dQ,b.trans dQ⟩
def Ey (P:Program)(w:World)(K:PySem.W.Frag)(mg:Str->Option Value)(base:Heap)(A:en)(tB tC:Addr):Sp:=fun vs H Q _=> ∃(pw fa:Addr) (S:Bk) (f:eQ) (n:Nat) (aN:Str) (way:Jb) (sp:Sp),vs=[.ref pw,.str aN,.ref fa]/\dO A H pw S f/\WF S n/\n<=62/\lF H tB/\l6 H tC/\Jc way/\V5 P w K mg base 2 fa sp/\OJ way sp/\
 ∀gs ts fs ls al,uv S aN gs ts fs ls al-> ∀D ms H',Frame (tB :: tC :: f.fp) H H'->lF H' tB->l6 H' tC->dO A H' pw (kq S ((way fs ls al).map (lW gs ts))) f->H D=none->H' D=some (.lst ms)->gQ H' ((way fs ls al).map (lW gs ts)) ms->Q (.ref D) H'
theorem kJ:aW ["self","who","way","givers","takers","frees","lefts","found","numbered","credit_number","bill_number","amount"] ["self","who","way"] (aA (mem 25 7)):=⟨rfl,rfl,rfl,by decide +kernel,rfl,by decide +kernel,by decide +kernel⟩
theorem Bu (T:Txt K mg){A:en}{tB tC:Addr}(G:jB K mg A)(DB:qa K mg "bills_in_order" (top 17) tB)(DC:qa K mg "credits_in_order" (top 18) tC)(jf:tB≠tC)(KB:K.In base)(BM:BMain mg base):gY sk P w K mg base A.work "one_round" 3 ["self","who","way"] (Ey P w K mg base A tB tC):=by
 have i7:fz P w K mg base "bills_in_order" 2 ["bills","who"] (zi A tB):=lE T G DB KB BM
 have ie:fz P w K mg base "credits_in_order" 2 ["all_credits","who"] (zj A tC):=j8 T G DC KB BM
 have wG:fz P w K mg base "row_of_fits" 2 ["credit","bills"] (Mz A):=wq T G
 have IJ:gY sk P w K mg base A.work "put" 1 ["self","credit_number","bill_number","amount"] (CY A):=Ms G
 refine Lf (k:=2) G.qG G.bJ kJ (fun _ _ _ _ _ _ us hl=>match us,hl with|[_,_,_],_=>rfl) (fun vs H Q E h=>?_) (fun f dv A' outer s H vs Q E hr h=>?_)
 ·obtain⟨pw,fa,S,g,n,aN,way,sp,rfl,_⟩:=h
  rfl
 ·obtain⟨pw,fa,S,g,n,aN,way,sp,rfl,hW,wf,hn,kh,jM,Sn,YN,YO,k⟩:=h
  have nd:=kJ.nd
  have YC:S.credits.length<=62:=by have:=wf.lc; omega
  have hlb:S.aC.length<=62:=by have:=wf.lb; omega
  refine⟨_,(ah (bb (i:=3) nd rfl (Or.inr rfl) (jd (tn:=["credit"]) (cn:=["self"]) (cj:=[0]) rfl (i8 (by rfl) (by decide +kernel) rfl (by decide +kernel) (by rfl) [(".0",.local),("credit",.local),("self",.cell)] (by rfl) (by decide +kernel) rfl (Or.inl rfl) (Or.inl rfl)) (dF (cL ie (hr.mono (by decide)) rfl (aa (cq (pv 0) rfl) (aa (pv 1) ak)))) (fun _ _ _ _=>(bG (i:=0) (show(["credit","self"]:List Str).Nodup by decide +kernel) rfl (Or.inl rfl))) (fun _ _ _ _=>(pB (a9 ju (aO (jg (K:=K) rfl) (fv (K:=K) rfl (pv 1) rfl) (fv (K:=K) rfl (pv 0) rfl) (fun _ _=>rfl)) aj (bc _)))) (fun _ _ _ _=>(pv 0))))
(ah (bb (i:=4) nd rfl (Or.inr rfl) (jd (tn:=["bill"]) (cn:=["self"]) (cj:=[0]) rfl (i8 (by rfl) (by decide +kernel) rfl (by decide +kernel) (by rfl) [(".0",.local),("bill",.local),("self",.cell)] (by rfl) (by decide +kernel) rfl (Or.inl rfl) (Or.inl rfl)) (dF (cL i7 (hr.mono (by decide)) rfl (aa (cq (pv 0) rfl) (aa (pv 1) ak)))) (fun _ _ _ _=>(bG (i:=0) (show(["bill","self"]:List Str).Nodup by decide +kernel) rfl (Or.inl rfl))) (fun _ _ _ _=>(pB (a9 ju (aO (jg (K:=K) rfl) (fv (K:=K) rfl (pv 1) rfl) (fv (K:=K) rfl (pv 0) rfl) (fun _ _=>rfl)) aj (bc _)))) (fun _ _ _ _=>(pv 0))))
(ah (je (i:=5) nd rfl (Or.inl rfl) (tn:=["credit"]) (cn:=["self"]) (cj:=[0]) rfl (i8 (by rfl) (by decide +kernel) rfl (by decide +kernel) (by rfl) [(".0",.local),("credit",.local),("self",.cell)] (by rfl) (by decide +kernel) rfl (Or.inl rfl) (Or.inl rfl)) (dF (pv 3)) (fun _ _ _ _=>(bG (i:=0) (show(["credit","self"]:List Str).Nodup by decide +kernel) rfl (Or.inl rfl))) (fun _ _ _ _=>lR) (fun _ _ _ _=>(aO (jg (K:=K) rfl) (fv (K:=K) rfl (pv 1) rfl) (fv (K:=K) rfl (pv 0) rfl) (fun _ _=>rfl))))
(ah (je (i:=6) nd rfl (Or.inl rfl) (tn:=["bill"]) (cn:=["self"]) (cj:=[0]) rfl (i8 (by rfl) (by decide +kernel) rfl (by decide +kernel) (by rfl) [(".0",.local),("bill",.local),("self",.cell)] (by rfl) (by decide +kernel) rfl (Or.inl rfl) (Or.inl rfl)) (dF (pv 4)) (fun _ _ _ _=>(bG (i:=0) (show(["bill","self"]:List Str).Nodup by decide +kernel) rfl (Or.inl rfl))) (fun _ _ _ _=>lR) (fun _ _ _ _=>(aO (jg (K:=K) rfl) (fv (K:=K) rfl (pv 1) rfl) (fv (K:=K) rfl (pv 0) rfl) (fun _ _=>rfl))))
(ah (bb (i:=7) nd rfl (Or.inl rfl) (N7 (i:=2) (k:=2) (hr.mono (by decide)) rfl (Or.inl rfl) (aa (pv 5) (aa (pv 6) (aa (jd (tn:=["credit"]) (cn:=["takers"]) (cj:=[4]) rfl (i8 (by rfl) (by decide +kernel) rfl (by decide +kernel) (by rfl) [(".0",.local),("credit",.local),("row_of_fits",.globalImplicit),("takers",.cell)] (by rfl) (by decide +kernel) rfl (Or.inl rfl) (Or.inl rfl)) (dF (pv 3)) (fun _ _ _ _=>(bG (i:=0) (show(["credit","takers"]:List Str).Nodup by decide +kernel) rfl (Or.inl rfl))) (fun _ _ _ _=>lR) (fun _ _ _ _=>(cL wG (hr.mono (by decide)) rfl (aa (pv 0) (aa (pv 1) ak))))) ak)))))
(ah (je (i:=8) nd rfl (Or.inl rfl) (tn:=["giver","taker","amount"]) (cn:=["takers","givers"]) (cj:=[4,3]) rfl (zd (by rfl) (by decide +kernel) rfl (by decide +kernel) (by rfl) (by rfl) [(".0",.local),("giver",.local),("taker",.local),("amount",.local),("givers",.cell),("takers",.cell)] (by rfl) (by decide +kernel) rfl rfl (Or.inl rfl) (Or.inl rfl) (Or.inl rfl) (Or.inl rfl)) (dF (pv 7)) (fun _ _ _ _=>(LB (K:=K) (n:=3) rfl rfl (cw (bG (i:=0) (show(["giver","taker","amount","takers","givers"]:List Str).Nodup by decide +kernel) rfl (Or.inl rfl) (Or.inr rfl)) (cw (bG (i:=1) (show(["giver","taker","amount","takers","givers"]:List Str).Nodup by decide +kernel) rfl (Or.inl rfl) (Or.inr rfl)) (cw (bG (i:=2) (show(["giver","taker","amount","takers","givers"]:List Str).Nodup by decide +kernel) rfl (Or.inl rfl) (Or.inr rfl)) gJ))) rfl rfl)) (fun _ _ _ _=>lR) (fun _ _ _ _=>(dH (aa (fv (K:=K) rfl (aO (jg (K:=K) rfl) (pv 4) (pv 0) (fun _ _=>rfl)) rfl) (aa (fv (K:=K) rfl (aO (jg (K:=K) rfl) (pv 3) (pv 1) (fun _ _=>rfl)) rfl) (aa (pv 2) ak))))))
(ah (fM bY rfl (dF (pv 8)) (iW rfl (cw (bG (i:=9) nd rfl (Or.inl rfl)) (cw (bG (i:=10) nd rfl (Or.inl rfl)) (cw (bG (i:=11) nd rfl (Or.inl rfl)) gJ))))
(av (bR (mZ IJ (hr.mono (by decide)) mM (pv 0) (aa (pv 9) (aa (pv 10) (aa (pv 11) ak)))))))
(av (ba (pv 8)))))))))),?_⟩
  obtain⟨dw,hw⟩:=hW.obj
  refine⟨_,rfl,pw,_,dw,_,_,rfl,hw,G.bJ,G.cO,hZ g,_,rfl,g.pc,g.cps,S,aN,rfl,hW.hc,hW.rc,(by omega),jM,fun D1 WN H1 Jd ka So Gh HV=>?_⟩
  have BZ:=vc hW (c8 jM) Jd
  have Je: ∀a∈[tC],∀φ,H a≠some (.ext φ):=fun a ha φ e=>by
   obtain⟨ps,z⟩:=c8 jM
   rw[ao.mp ha,z] at e
   cases e
  have jt:lF H1 tB:=f7 kh Jd (by simpa using jf) Je
  have F1:Frame (tB :: tC :: g.fp) H H1:=dP Jd (by intro x hx; rw[List.mem_singleton.mp hx]; simp)
  clear Je
  refine⟨D1,rfl,⟨_,bQ.of Gh⟩,?_⟩
  have Lv:=nZ S.credits aN (·.a)
  have OK: ∀c∈inOrder S.credits aN (·.a),c < S.credits.length:=fun c hc=>(kB.mp hc).1
  have KH:=ij S.credits aN (·.a)
  generalize inOrder S.credits aN (·.a)=ord at HV Lv OK KH
  have OL:=aX HV
  refine eD (K:=K) (a:=D1) (xs:=WN.map V.ref) (fun D i σ H6=>H1 D=none/\ ∃(v:Option V) (rs:List Addr),σ=[v,some (.ref pw)]/\aG H1 H6/\H6 D=some (.lst (rs.map V.ref))/\gN A H6 S ((ord.take i).filter (mj S.credits)) rs) (fun D hD=>⟨hD,none,[],rfl,aG.new hD,ag,.nil⟩) (fun D i σ H6 _ ⟨_,_,_,_,t3,_⟩=>bQ.of (t3 _ _ Gh)) ?_ ?_
  ·rintro D i x σ H6 hx ⟨hD,v,rs,rfl,t3,iw,OM⟩
   rw[aD] at hx
   obtain⟨q,hq,rfl⟩:=bM.mp hx
   have hi:i < ord.length:=by have:=(au.mp hq).1; omega
   have oP:=af hi
   obtain⟨q',sh,lD⟩:=bT HV oP
   rw[hq] at sh
   obtain rfl:q=q':=aE sh
   have oQ:=gF (mj S.credits) oP
   have qB:=OK _ (bO hi)
   generalize ord[i]=c at lD oQ qB
   obtain⟨dq,LC⟩:=lD.same t3
   have Jf:=BZ.same t3
   obtain⟨ON,OO⟩:=Jf.obj
   have BR:rs.length<=1000:=by
    have e1:=aX OM
    have e2:=a7 (mj S.credits) (ord.take i)
    rw[bD] at e2
    omega
   refine⟨_,rfl,pw,_,ON,_,_,rfl,OO,G.bJ,G.fF,lz g,_,rfl,q,_,dq,_,_,rfl,LC,G.dm,G.eR,nV _ _,g.pf,_,_,.int (S.cr c).d,rfl,rfl,bQ.of Jf.hf,cS (nY qB),_,_,rfl,rfl,_,rfl,cQ (fun z=>?_) (fun z=>?_)⟩
   ·have z':mj S.credits c=true:=z
    rw[a8 z'] at oQ
    refine⟨_,rfl,_,iw,br (by rw[ae]; exact BR),hD,_,rs ++ [q],rfl,t3.dA hD,(by rw[ag,aR]; rfl),?_⟩
    rw[oQ]
    exact cV (OM.upd iw) (tP ⟨dq,LC⟩ iw)
   ·have z': ¬ mj S.credits c=true:=z
    rw[aQ z',cA] at oQ
    refine⟨hD,_,rs,rfl,t3,iw,?_⟩
    rw[oQ]
    exact OM
  rintro pg σ H2 npg ⟨_,v,rs,rfl,s2,Ug,LD⟩
  rw[ae,← OL,bf] at LD
  have YQ:ord.filter (mj S.credits)=inTurn S.credits aN (·.a):=KH.symm
  rw[YQ] at LD
  clear KH YQ OK Lv HV OL Gh
  have OE:(inTurn S.credits aN (·.a)).length<=62:=by
   rw[ij]
   have e1:=a7 (fun k=>decide (0 < (S.credits.getD k default).d)) (inOrder S.credits aN (·.a))
   have e2:=nZ S.credits aN (·.a)
   omega
  have Uh: ∀c∈inTurn S.credits aN (·.a),c < S.credits.length:=fun c hc=>(cJ.mp hc).1
  have zk:=BZ.same s2
  have jl:lF H2 tB:=bW jt s2
  have kr:l6 H2 tC:=bW ka s2
  have F2:=F1.cZ s2
  clear Jd BZ jt ka s2 F1
  obtain⟨WO,Mt⟩:=zk.obj
  refine⟨_,rfl,pw,_,WO,_,_,rfl,Mt,G.bJ,G.eh,jj g,_,rfl,g.pb,g.iu,S,aN,rfl,zk.hb,zk.rb,(by omega),jl,fun D1 WN H1 Jd jt So Gh HV=>?_⟩
  have BZ:=vc zk (c8 jl) Jd
  have Je: ∀a∈[tB],∀φ,H2 a≠some (.ext φ):=fun a ha φ e=>by
   obtain⟨ps,z⟩:=c8 jl
   rw[ao.mp ha,z] at e
   cases e
  have ka:l6 H1 tC:=f7 kr Jd (by simpa using jf.symm) Je
  have F1:Frame (tB :: tC :: g.fp) H H1:=F2.tr (dP Jd (by intro x hx; rw[List.mem_singleton.mp hx]; simp))
  have YR:=LD.tb jl Jd
  have Sq:H1 pg=some (.lst (rs.map V.ref)):=Jd _ _ (fun z=>by
   obtain⟨ps,e⟩:=c8 jl
   rw[ao.mp z,e] at Ug
   cases Ug) Ug
  clear Je
  refine⟨D1,rfl,⟨_,bQ.of Gh⟩,?_⟩
  have Lv:=nZ S.aC aN (·.b)
  have OK: ∀c∈inOrder S.aC aN (·.b),c < S.aC.length:=fun c hc=>(kB.mp hc).1
  have KH:=ij S.aC aN (·.b)
  generalize inOrder S.aC aN (·.b)=ord at HV Lv OK KH
  have OL:=aX HV
  refine eD (K:=K) (a:=D1) (xs:=WN.map V.ref) (fun D i σ H6=>H1 D=none/\ ∃(v:Option V) (us:List Addr),σ=[v,some (.ref pw)]/\aG H1 H6/\H6 D=some (.lst (us.map V.ref))/\iJ A H6 S ((ord.take i).filter (mj S.aC)) us) (fun D hD=>⟨hD,none,[],rfl,aG.new hD,ag,.nil⟩) (fun D i σ H6 _ ⟨_,_,_,_,t3,_⟩=>bQ.of (t3 _ _ Gh)) ?_ ?_
  ·rintro D i x σ H6 hx ⟨hD,v,us,rfl,t3,iw,OM⟩
   rw[aD] at hx
   obtain⟨q,hq,rfl⟩:=bM.mp hx
   have hi:i < ord.length:=by have:=(au.mp hq).1; omega
   have oP:=af hi
   obtain⟨q',sh,lD⟩:=bT HV oP
   rw[hq] at sh
   obtain rfl:q=q':=aE sh
   have oQ:=gF (mj S.aC) oP
   have qB:=OK _ (bO hi)
   generalize ord[i]=c at lD oQ qB
   obtain⟨dq,LC⟩:=lD.same t3
   have Jf:=BZ.same t3
   obtain⟨ON,OO⟩:=Jf.obj
   have BR:us.length<=1000:=by
    have e1:=aX OM
    have e2:=a7 (mj S.aC) (ord.take i)
    rw[bD] at e2
    omega
   refine⟨_,rfl,pw,_,ON,_,_,rfl,OO,G.bJ,G.fE,ly g,_,rfl,q,_,dq,_,_,rfl,LC,G.eu,G.eU,lu _ _,g.pl,_,_,.int (S.bl c).d,rfl,rfl,bQ.of Jf.hl,cS (nY qB),_,_,rfl,rfl,_,rfl,cQ (fun z=>?_) (fun z=>?_)⟩
   ·have z':mj S.aC c=true:=z
    rw[a8 z'] at oQ
    refine⟨_,rfl,_,iw,br (by rw[ae]; exact BR),hD,_,us ++ [q],rfl,t3.dA hD,(by rw[ag,aR]; rfl),?_⟩
    rw[oQ]
    exact cV (OM.upd iw) (tP ⟨dq,LC⟩ iw)
   ·have z': ¬ mj S.aC c=true:=z
    rw[aQ z',cA] at oQ
    refine⟨hD,_,us,rfl,t3,iw,?_⟩
    rw[oQ]
    exact OM
  rintro pt σ H3 YS ⟨_,v',us,rfl,s3,BX,JQ⟩
  rw[ae,← OL,bf] at JQ
  have YT:ord.filter (mj S.aC)=inTurn S.aC aN (·.b):=KH.symm
  rw[YT] at JQ
  clear KH YT OK Lv HV OL Gh
  have htl:(inTurn S.aC aN (·.b)).length<=62:=by
   rw[ij]
   have e1:=a7 (fun k=>decide (0 < (S.aC.getD k default).d)) (inOrder S.aC aN (·.b))
   have e2:=nZ S.aC aN (·.b)
   omega
  have ME: ∀c∈inTurn S.aC aN (·.b),c < S.aC.length:=fun c hc=>(cJ.mp hc).1
  have yX:=BZ.same s3
  have qT:lF H3 tB:=bW jt s3
  have qU:l6 H3 tC:=bW ka s3
  have F3:=F1.cZ s3
  have Sr:=YR.same s3
  have LF:=s3 _ _ Sq
  clear Jd BZ jt ka s3 F1 YR Sq F2 zk jl kr LD Ug Mt
  generalize hgs:inTurn S.credits aN (·.a)=gs at Sr OE Uh
  generalize hts:inTurn S.aC aN (·.b)=ts at JQ htl ME
  have YU:=aX Sr
  have htq:=aX JQ
  have hR:uv S aN gs ts (gs.map fun g=>(S.cr g).d) (ts.map fun t=>(S.bl t).d) (gs.map fun g=>ts.map fun t=>S.dX g t):=⟨hgs.symm,hts.symm,rfl,rfl,rfl⟩
  refine⟨_,rfl,pg,rfl,⟨_,bQ.of LF⟩,?_⟩
  refine eD (K:=K) (a:=pg) (xs:=rs.map V.ref) (fun D i σ H6=>H3 D=none/\ ∃(v:Option V),σ=[v,some (.ref pw)]/\aG H3 H6/\H6 D=some (.lst (((gs.take i).map fun g=>(S.cr g).d).map V.int))) (fun D hD=>⟨hD,none,rfl,aG.new hD,ag⟩) (fun D i σ H6 _ ⟨_,_,_,t3,_⟩=>bQ.of (t3 _ _ LF)) ?_ ?_
  ·rintro D i x σ H6 hx ⟨hD,v,rfl,t3,iw⟩
   rw[aD] at hx
   obtain⟨q,hq,rfl⟩:=bM.mp hx
   have hi:i < gs.length:=by have:=(au.mp hq).1; omega
   obtain⟨q',sh,lD⟩:=bT Sr (af hi)
   rw[hq] at sh
   obtain rfl:q=q':=aE sh
   have mI:=ma hi
   have qB:=Uh _ (bO hi)
   generalize gs[i]=c at lD mI qB
   obtain⟨dq,LC⟩:=lD.same t3
   have Jf:=yX.same t3
   obtain⟨ON,OO⟩:=Jf.obj
   refine⟨_,rfl,pw,_,ON,_,_,rfl,OO,G.bJ,G.fF,lz g,_,rfl,q,_,dq,_,_,rfl,LC,G.dm,G.eR,nV _ _,g.pf,_,_,.int (S.cr c).d,rfl,rfl,bQ.of Jf.hf,cS (nY qB),_,iw,br (by rw[ae,ae,bD]; omega),hD,_,rfl,t3.dA hD,?_⟩
   rw[ag,mI,aR,aR]
   rfl
  rintro pf σ H4 JT ⟨_,v4,rfl,s4,En⟩
  rw[ae,← YU,bf] at En
  have YV:=Sr.same s4
  have MF:=JQ.same s4
  have Sa:=yX.same s4
  have pS:lF H4 tB:=bW qT s4
  have pT:l6 H4 tC:=bW qU s4
  have F4:=F3.cZ s4
  have Ss:=s4 _ _ LF
  have vg:=s4 _ _ BX
  clear s4 F3 qT qU yX JQ Sr LF BX
  refine⟨_,rfl,pt,rfl,⟨_,bQ.of vg⟩,?_⟩
  refine eD (K:=K) (a:=pt) (xs:=us.map V.ref) (fun D i σ H6=>H4 D=none/\ ∃(v:Option V),σ=[v,some (.ref pw)]/\aG H4 H6/\H6 D=some (.lst (((ts.take i).map fun g=>(S.bl g).d).map V.int))) (fun D hD=>⟨hD,none,rfl,aG.new hD,ag⟩) (fun D i σ H6 _ ⟨_,_,_,t3,_⟩=>bQ.of (t3 _ _ vg)) ?_ ?_
  ·rintro D i x σ H6 hx ⟨hD,v,rfl,t3,iw⟩
   rw[aD] at hx
   obtain⟨q,hq,rfl⟩:=bM.mp hx
   have hi:i < ts.length:=by have:=(au.mp hq).1; omega
   obtain⟨q',sh,lD⟩:=bT MF (af hi)
   rw[hq] at sh
   obtain rfl:q=q':=aE sh
   have mI:=ma hi
   have qB:=ME _ (bO hi)
   generalize ts[i]=c at lD mI qB
   obtain⟨dq,LC⟩:=lD.same t3
   have Jf:=Sa.same t3
   obtain⟨ON,OO⟩:=Jf.obj
   refine⟨_,rfl,pw,_,ON,_,_,rfl,OO,G.bJ,G.fE,ly g,_,rfl,q,_,dq,_,_,rfl,LC,G.eu,G.eU,lu _ _,g.pl,_,_,.int (S.bl c).d,rfl,rfl,bQ.of Jf.hl,cS (nY qB),_,iw,br (by rw[ae,ae,bD]; omega),hD,_,rfl,t3.dA hD,?_⟩
   rw[ag,mI,aR,aR]
   rfl
  rintro pl σ H5 Su ⟨_,v5,rfl,s5,iO⟩
  rw[ae,← htq,bf] at iO
  have WQ:=YV.same s5
  have PN:=MF.same s5
  have YW:=Sa.same s5
  have Dg:lF H5 tB:=bW pS s5
  have Dh:l6 H5 tC:=bW pT s5
  have F5:=F4.cZ s5
  have LG:=s5 _ _ Ss
  have OP:=s5 _ _ vg
  have Sv:=s5 _ _ En
  clear s5 F4 pS pT Sa MF YV Ss vg En
  refine⟨fa,sp,rfl,YN,_,rfl,_,rfl,_,rfl,pg,rfl,⟨_,bQ.of LG⟩,?_⟩
  refine eD (K:=K) (a:=pg) (xs:=rs.map V.ref) (fun D i σ H6=>H5 D=none/\ ∃(v:Option V) (ws:List V),σ=[v,some (.ref pt)]/\aG H5 H6/\H6 D=some (.lst ws)/\jb H6 D ((gs.take i).map fun g=>ts.map fun t=>S.dX g t) ws) (fun D hD=>⟨hD,none,[],rfl,aG.new hD,ag,.nil⟩) (fun D i σ H6 _ ⟨_,_,_,_,t3,_⟩=>bQ.of (t3 _ _ LG)) ?_ ?_
  ·rintro D i x σ H6 hx ⟨hD,v,ws,rfl,t3,iw,PU⟩
   rw[aD] at hx
   obtain⟨q,hq,rfl⟩:=bM.mp hx
   have hi:i < gs.length:=by have:=(au.mp hq).1; omega
   obtain⟨q',sh,lD⟩:=bT WQ (af hi)
   rw[hq] at sh
   obtain rfl:q=q':=aE sh
   have mI:=ma hi
   have qB:=Uh _ (bO hi)
   generalize gs[i]=c at lD mI qB
   have DO:=aX PU
   rw[ae,bD] at DO
   refine⟨_,rfl,_,rfl,q,pt,S,c,ts,us,rfl,lD.same t3,t3 _ _ OP,PN.same t3,(by omega),fun p H7 t7 np hp=>?_⟩
   have WR:(ts.map fun b=>oK (S.cr c) (S.bl b) b)=ts.map fun t=>S.dX c t:=eP fun b hb=>xE wf qB (ME b hb)
   rw[WR] at hp
   have PV:=t7 _ _ iw
   have YX:p≠D:=(aL iw np).symm
   refine⟨_,PV,br (by omega),hD,_,ws ++ [.ref p],rfl,(t3.trans t7).dA hD,ag,?_⟩
   rw[mI,aR]
   exact cV ((PU.same t7).upd) ⟨p,rfl,YX,by rw[ay YX]; exact hp⟩
  rintro pa σ H6 npa ⟨_,v6,ws,rfl,s6,LH,PU⟩
  rw[ae,← YU,bf] at PU
  refine YO pf pl pa _ _ _ H6 _ (s6 _ _ Sv) (s6 _ _ iO) (lS LH PU.rp) (by rw[ae]; omega) (by rw[ae]; omega) (by rw[ae,ae]) (fun r hr=>by
   obtain⟨x,_,rfl⟩:=bP.mp hr
   rw[ae,ae]) fun pm ms H7 s7 WS zP=>?_
  have iX:=Sn.lt (gs.map fun g=>(S.cr g).d) (ts.map fun t=>(S.bl t).d) (gs.map fun g=>ts.map fun t=>S.dX g t)
  have hlen:=Sn.len (gs.map fun g=>(S.cr g).d) (ts.map fun t=>(S.bl t).d) (gs.map fun g=>ts.map fun t=>S.dX g t) (by rw[ae]; omega) (by rw[ae]; omega)
  rw[ae,ae] at iX
  have kk:=k _ _ _ _ _ hR
  generalize way (gs.map fun g=>(S.cr g).d) (ts.map fun t=>(S.bl t).d) (gs.map fun g=>ts.map fun t=>S.dX g t)=fd at iX hlen zP kk
  have wH:=s6.trans s7
  have YY:=WQ.same wH
  have YZ:=PN.same wH
  have Ui:=YW.same wH
  have OQ:lF H7 tB:=bW Dg wH
  have OR:l6 H7 tC:=bW Dh wH
  have F7:=F5.cZ wH
  have Sw:=wH _ _ LG
  have Sx:=wH _ _ OP
  clear wH s6 s7 F5 Dg Dh YW PN WQ LG OP Sv iO PU LH k YO YN
  have Ua:=aX zP
  refine⟨_,rfl,pm,rfl,⟨_,bQ.of WS⟩,?_⟩
  refine eD (K:=K) (a:=pm) (xs:=ms) (fun D i σ H6=>H7 D=none/\ ∃(v1 v2 v3:Option V) (ws:List V),σ=[v1,v2,v3,some (.ref pt),some (.ref pg)]/\aG H7 H6/\H6 D=some (.lst ws)/\gQ H6 ((fd.take i).map (lW gs ts)) ws) (fun D hD=>⟨hD,none,none,none,[],rfl,aG.new hD,ag,.nil⟩) (fun D i σ H6 _ ⟨_,_,_,_,_,_,t3,_⟩=>bQ.of (t3 _ _ WS)) ?_ ?_
  ·rintro D i x σ H6 hx ⟨hD,v1,v2,v3,ws,rfl,t3,iw,Gq⟩
   have hi:i < fd.length:=by have:=(au.mp hx).1; omega
   obtain⟨v',hv,p,rfl,hp⟩:=bT zP (af hi)
   rw[hx] at hv
   obtain rfl:x= .ref p:=aE hv
   have mI:=ma hi
   obtain⟨l1,l2⟩:=iX _ (bO hi)
   generalize fd[i]=t at hp mI l1 l2
   have DO:=aX Gq
   rw[ae,bD] at DO
   have g1:gs[t.1]? =some (gs.getD t.1 0):=by rw[ai,af l1]; rfl
   have g2:ts[t.2.1]? =some (ts.getD t.2.1 0):=by rw[ai,af l2]; rfl
   obtain⟨q1,OL,i1⟩:=bT YY g1
   obtain⟨q2,zO,i2⟩:=bT YZ g2
   obtain⟨d1,e1⟩:=i1.same t3
   obtain⟨d2,e2⟩:=i2.same t3
   refine⟨p,_,rfl,cM.of (t3 _ _ hp),rfl,_,_,rfl,_,_,rfl,_,_,rfl,rfl,?_⟩
   refine⟨_,rfl,_,rfl,pg,_,_,.ref q1,rfl,rfl,bQ.of (t3 _ _ Sw),cS (by rw[aD,OL]; rfl),q1,_,d1,_,_,rfl,e1,G.dm,G.eR,nV _ _,?_⟩
   refine⟨_,rfl,_,rfl,pt,_,_,.ref q2,rfl,rfl,bQ.of (t3 _ _ Sx),cS (by rw[aD,zO]; rfl),q2,_,d2,_,_,rfl,e2,G.eu,G.eU,lu _ _,_,rfl,(by show 3<=sizeLine; decide),fun p8 n8=>?_⟩
   have s8:=aG.new (o:= .tup [.int (gs.getD t.1 0:Nat),.int (ts.getD t.2.1 0:Nat),.int t.2.2]) n8
   have Uj:=s8 _ _ iw
   refine⟨_,Uj,i9 (by omega),hD,_,_,_,ws ++ [.ref p8],rfl,(t3.trans s8).dA hD,ag,?_⟩
   rw[mI,aR]
   have tk:=gx (o:= .lst (ws ++ [.ref p8])) Uj
   exact cV ((Gq.mono s8.tk).mono tk) ⟨p8,rfl,tk _ _ ag⟩
  rintro pn σ H8 Sy ⟨_,w1,w2,w3,ws,rfl,s8,Od,Sz⟩
  rw[← Ua,bf] at Sz
  have PX:=Ui.same s8
  have SA:lF H8 tB:=bW OQ s8
  have SD:l6 H8 tC:=bW OR s8
  have F8:=F7.cZ s8
  have WT:H pn=none:=by
   cases e:H pn with
   |none=>rfl
   |some o=>
    exfalso
    by_cases jJ:pn∈tB :: tC :: g.fp
    ·rcases aw.mp jJ with z|jJ
     ·obtain⟨ps,q⟩:=c8 OQ
      rw[← z,Sy] at q
      cases q
     ·rcases aw.mp jJ with z|jJ
      ·obtain⟨ps,q⟩:=c8 OR
       rw[← z,Sy] at q
       cases q
      ·exact Ui.new Sy jJ
    ·have q:=F7 _ _ jJ e
     rw[Sy] at q
     cases q
  have SE:pn∉g.fp:=Ui.new Sy
  have IW: ∀t∈fd.map (lW gs ts),t.1 < S.credits.length/\t.2.1 < S.aC.length:=fun t ht=>by
   obtain⟨u,hu,rfl⟩:=bP.mp ht
   obtain⟨l1,l2⟩:=iX u hu
   exact⟨Uh _ (jT l1),ME _ (jT l2)⟩
  have IK:(fd.map (lW gs ts)).length<=4000:=by rw[ae]; exact hlen
  generalize fd.map (lW gs ts)=L at Sz kk IW IK
  have DO:=aX Sz
  clear iX hlen zP WS Sw Sx YY YZ Ui OQ OR F7 s8
  refine⟨_,rfl,pn,rfl,⟨_,bQ.of Od⟩,?_⟩
  refine gT (K:=K) (a:=pn) (xs:=ws) (fun i σ H2=> ∃(x9 Bv Gx:Option V),σ=[some (.ref pw),some (.str aN),some (.ref fa),some (.ref pg),some (.ref pt),some (.ref pf),some (.ref pl),some (.ref pm),some (.ref pn),x9,Bv,Gx]/\Frame g.fp H8 H2/\dO A H2 pw (kq S (L.take i)) g)
   ⟨none,none,none,rfl,Frame.refl,PX⟩ (fun i σ H2 _ ⟨_,_,_,_,f2,_⟩=>bQ.of (f2 _ _ SE Od)) ?_ ?_
  ·rintro i x σ H2 hx ⟨x9,Bv,Gx,rfl,f2,zk⟩
   have hi:i < L.length:=by have:=(au.mp hx).1; omega
   have oP:=af hi
   obtain⟨v',hv,p,rfl,hp⟩:=bT Sz oP
   rw[hx] at hv
   obtain rfl:x= .ref p:=aE hv
   have BX:=Gw (S:=S) oP
   obtain⟨m1,m2⟩:=IW _ (bO hi)
   generalize L[i]=t at hp BX m1 m2
   obtain⟨b1,b2⟩:=Ex S (L.take i)
   have IL:(kq S (L.take i)).made.length < sizeLine:=by
    rw[jH,aF,bD]
    have:=wf.lm
    exact i9 (by omega)
   obtain⟨WO,Mt⟩:=zk.obj
   refine⟨p,_,rfl,cM.of (PX.tk f2 _ _ hp),rfl,_,_,rfl,_,_,rfl,_,_,rfl,rfl,?_⟩
   refine⟨_,rfl,pw,WO,_,rfl,Mt,II g,_,rfl,_,rfl,_,rfl,pw,_,g,t.1,t.2.1,t.2.2,rfl,zk,(by rw[b2]; exact m1),(by rw[b1]; exact m2),IL,fun H3 f3 W3=>?_⟩
   refine⟨_,_,_,rfl,f2.tr f3,?_⟩
   rw[BX]
   exact W3
  ·rintro σ H2 ⟨x9,Bv,Gx,rfl,f2,zk⟩
   rw[← DO,bf] at zk
   have ext2: ∀a∈g.fp,∀φ,H8 a≠some (.ext φ):=fun a ha φ e=>by
    obtain⟨xs,z⟩:=PX.lists a ha
    rw[z] at e
    cases e
   have Gy:tB∉g.fp:=PX.off fun xs e=>by
    obtain⟨ps,z⟩:=c8 SA
    rw[z] at e
    cases e
   have Gz:tC∉g.fp:=PX.off fun xs e=>by
    obtain⟨ps,z⟩:=c8 SD
    rw[z] at e
    cases e
   exact⟨_,rfl,kk pn ws H2 (F8.tr (dP f2 fun x hx=>by simp[hx])) (f7 SA f2 Gy ext2) (f7 SD f2 Gz ext2) zk WT (f2 _ _ SE Od) (Sz.mono (PX.tk f2))⟩
theorem qV (g:eQ):(lx g).lookup ("one_round":Str)=none:=by rfl
theorem oT {α β:Type}{F:α->β->Prop}: ∀{l₁:List α} {r₁:List β} {l₂:List α} {r₂:List β},Paired F l₁ r₁->Paired F l₂ r₂->Paired F (l₁ ++ l₂) (r₁ ++ r₂)
 |_,_,_,_,.nil,h=>h
 |_,_,_,_,.cons a t,h=> .cons a (oT t h)
theorem Di:Jc pQ:=⟨fun fs ls al t h=>lX fs ls al _ t h,fun fs ls al h1 _=>by
 have:=L2.il fs ls al fs.length
 show(cg fs ls al fs.length).2.length<=4000
 omega⟩
theorem Jg:Jc Bt:=⟨fun fs ls al t h=>uA fs ls al _ t h,fun fs ls al h1 h2=>by
 have:=pI fs ls al fs.length
 have h3:fs.length * ls.length<=63 * 63:=qd h1 h2
 show(cF fs ls al fs.length).2.length<=4000
 omega⟩
theorem sN {H:Hp}: ∀{ms:List (Nat×Nat×Int)} {xs:List V},iL H (ms.map IZ) xs->gQ H ms xs
 |[],_,h=>by
  rw[ee.mp h]
  exact .nil
 |t :: ms,_,h=>by
  obtain⟨v,r,rfl,h1,h2⟩:=cf.mp h
  obtain⟨a,ys,rfl,h3,h4⟩:=jQ.mp h1
  obtain⟨u1,r1,rfl,e1,h5⟩:=cf.mp h4
  obtain⟨u2,r2,rfl,e2,h6⟩:=cf.mp h5
  obtain⟨u3,r3,rfl,e3,h7⟩:=cf.mp h6
  obtain rfl:=ee.mp h7
  obtain rfl:=eJ.mp e1
  obtain rfl:=eJ.mp e2
  obtain rfl:=eJ.mp e3
  exact .cons ⟨a,rfl,h3⟩ (sN h2)
theorem Jh:OJ pQ (Bo K):=fun pf pl pa fs ls al H Q h1 h2 h3 h4 h5 h6 h7 k=>
 ⟨pf,pl,pa,fs,ls,al,rfl,bQ.of h1,bQ.of h2,h3,by omega,h6,h7,fun v H' s r=>by
  obtain⟨a,xs,rfl,e,r'⟩:=jR.mp r
  exact k a xs H' s e (sN r')⟩
theorem OS:OJ Bt (Bs K):=fun pf pl pa fs ls al H Q h1 h2 h3 h4 h5 h6 h7 k=>
 ⟨pf,pl,pa,fs,ls,al,rfl,bQ.of h1,bQ.of h2,h3,h4,h5,h6,h7,fun pm ms H' s e r=>k pm ms H' s e r⟩
def Ez (A:en)(tB tC:Addr):Sp:=fun vs H Q _=> ∃(pw:Addr) (S:Bk) (f:eQ) (n:Nat) (aN:Str),vs=[.ref pw,.str aN]/\dO A H pw S f/\WF S n/\n<=60/\lF H tB/\l6 H tC/\
 ∀D ms H',Frame (tB :: tC :: f.fp) H H'->lF H' tB->l6 H' tC->dO A H' pw (S.iE aN) f->H D=none->H' D=some (.lst ms)->gQ H' ((S.iE aN).made.drop S.made.length) ms->Q (.ref D) H'
theorem oU:aW ["self","who","first","second"] ["self","who"] (aA (mem 25 6)):=⟨rfl,rfl,rfl,by decide +kernel,rfl,by decide +kernel,by decide +kernel⟩
theorem LI (T:Txt K mg){A:en}{tB tC:Addr}(G:jB K mg A)(DB:qa K mg "bills_in_order" (top 17) tB)(DC:qa K mg "credits_in_order" (top 18) tC)(jf:tB≠tC)(KB:K.In base)(BM:BMain mg base):gY sk P w K mg base A.work "sweep" 4 ["self","who"] (Ez A tB tC):=by
 have sO:gY sk P w K mg base A.work "one_round" 3 ["self","who","way"] (Ey P w K mg base A tB tC):=Bu T G DB DC jf KB BM
 obtain⟨f1,m1,V1⟩:=fz.Yp (Lz (P:=P) (w:=w) (base:=base) T)
 obtain⟨f2,m2,V2⟩:=fz.Yp (zo (P:=P) (w:=w) (base:=base) T)
 refine Lf (k:=3) G.wa G.bJ oU (fun _ _ _ _ _ _ us hl=>match us,hl with|[_,_],_=>rfl) (fun vs H Q E h=>?_) (fun f dv A' outer s H vs Q E hr h=>?_)
 ·obtain⟨pw,S,g,n,aN,rfl,_⟩:=h
  rfl
 ·obtain⟨pw,S,g,n,aN,rfl,hW,wf,hn,kh,jM,k⟩:=h
  have nd:=oU.nd
  refine⟨_,(ah (bb (i:=2) nd rfl (Or.inl rfl) (mZ sO (hr.mono (by decide)) mM (pv 0) (aa (pv 1) (aa (Dx (v:= .ref f1) rfl m1 rfl) ak))))
(ah (bb (i:=3) nd rfl (Or.inl rfl) (mZ sO (hr.mono (by decide)) mM (pv 0) (aa (pv 1) (aa (Dx (v:= .ref f2) rfl m2 rfl) ak))))
(av (ba (aV lQ (pv 2) (pv 3)))))),?_⟩
  obtain⟨dw,hw⟩:=hW.obj
  refine⟨_,rfl,pw,dw,_,rfl,hw,qV g,_,rfl,pw,f1,S,g,n,aN,pQ,_,rfl,hW,wf,(by omega),kh,jM,Di,V1,Jh,fun gs ts fs ls al R D1 WU H1 F1 jt ka BZ So Gh GW=>?_⟩
  obtain⟨er,lr⟩:=HP R
  have WR:fs.length=gs.length:=by rw[R.ef,ae]
  have eS:kq S ((pQ fs ls al).map (lW gs ts))=bX aN S true:=by rw[er]; unfold pQ; rw[WR]
  have em:(bX aN S true).made=S.made ++ (pQ fs ls al).map (lW gs ts):=by rw[← eS]; exact jH _ _
  obtain⟨_,l1,e1,b1,n1⟩:=uB S aN true
  have el1:l1=(pQ fs ls al).map (lW gs ts):=List.append_cancel_left (e1.symm.trans em)
  rw[eS] at BZ
  rw[← el1] at GW
  have hcb:S.credits.length * S.aC.length<=60 * 60:=qd (by have:=wf.lc; omega) (by have:=wf.lb; omega)
  have wf1:WF (bX aN S true) (n + 1):=by
   refine wf.later lr (fun t ht=>?_) (dg _) ?_
   ·rw[e1] at ht
    rcases bq.mp ht with ht|ht
    ·exact wf.m t ht
    ·exact b1 t ht
   ·rw[e1,aF]
    have:=wf.lm
    have:=wf.lc
    omega
  obtain⟨dw1,RK⟩:=BZ.obj
  refine⟨_,rfl,pw,dw1,_,rfl,RK,qV g,_,rfl,pw,f2,_,g,n + 1,aN,Bt,_,rfl,BZ,wf1,(by omega),jt,ka,Jg,V2,OS,fun SG Uk SH Ul Um R2 D2 My H2 F2 jl kr zk GV Gi Fw=>?_⟩
  obtain⟨er2,lr2⟩:=HR R2
  have WV:SH.length=SG.length:=by rw[R2.ef,ae]
  have Y0:kq (bX aN S true) ((Bt SH Ul Um).map (lW SG Uk))=S.iE aN:=by
   show _ =bX aN (bX aN S true) false
   rw[er2]; unfold Bt; rw[WV]
  have Y1:(S.iE aN).made=(bX aN S true).made ++ (Bt SH Ul Um).map (lW SG Uk):=by rw[← Y0]; exact jH _ _
  rw[Y0] at zk
  have IL:(S.iE aN).made.length<=8000 * 60 + 8000:=by
   obtain⟨_,l3,e3,_,n3⟩:=qy S aN
   rw[e3,aF]
   have:=wf.lm
   have:=wf.lc
   omega
  have WW:D1∉tB :: tC :: g.fp:=fun z=>by
   rcases aw.mp z with z|z
   ·obtain⟨ps,e⟩:=c8 kh
    rw[← z,So] at e
    cases e
   ·rcases aw.mp z with z|z
    ·obtain⟨ps,e⟩:=c8 jM
     rw[← z,So] at e
     cases e
    ·exact hW.new So z
  have WX:=F2 _ _ WW Gh
  have kt:cU H1 H2:=fun b xs e=>F2 b _ (fun z=>by
   rcases aw.mp z with z|z
   ·obtain⟨ps,e'⟩:=c8 jt
    rw[z,e'] at e
    cases e
   ·rcases aw.mp z with z|z
    ·obtain⟨ps,e'⟩:=c8 ka
     rw[z,e'] at e
     cases e
    ·obtain⟨ys,e'⟩:=BZ.lists b z
     rw[e'] at e
     cases e) e
  have t1:=aX GW
  have t2:=aX Fw
  have hlen:(S.iE aN).made.length=S.made.length + l1.length + ((Bt SH Ul Um).map (lW SG Uk)).length:=by
   rw[Y1,e1,aF,aF]
  refine⟨_,rfl,_,rfl,D1,D2,WU,My,rfl,rfl,WX,Gi,?_,fun p np=>?_⟩
  ·have:WU.length + My.length<=1000000:=by omega
   exact dB (i9 this)
  ·have s3:=aG.new (o:= .lst (WU ++ My)) np
   have F:=F1.tr F2
   have np0:H p=none:=by
    cases e:H p with
    |none=>rfl
    |some o=>
     exfalso
     by_cases jJ:p∈tB :: tC :: g.fp
     ·rcases aw.mp jJ with z|jJ
      ·obtain⟨ps,q⟩:=c8 jl
       rw[← z,np] at q
       cases q
      ·rcases aw.mp jJ with z|jJ
       ·obtain⟨ps,q⟩:=c8 kr
        rw[← z,np] at q
        cases q
       ·exact zk.new np jJ
     ·have q:=F _ _ jJ e
      rw[np] at q
      cases q
   refine k p _ _ (F.cZ s3) (bW jl s3) (bW kr s3) (zk.same s3) np0 ag ?_
   have ed:(S.iE aN).made.drop S.made.length=l1 ++ (Bt SH Ul Um).map (lW SG Uk):=by
    rw[Y1,e1,gH,List.drop_left]
   rw[ed]
   exact oT ((GW.mono kt).mono s3.tk) (Fw.mono s3.tk)
def zp (H:Hp)(ok:Addr->Prop):JJ->V->Prop
 | .int i,v=>v= .int i
 | .txt s,v=>v= .str s
 | .sets l,v=> ∃D ms,v= .ref D/\ok D/\H D=some (.lst ms)/\gQ H l ms
 | .pairs l,v=> ∃D ms,v= .ref D/\ok D/\H D=some (.lst ms)/\nE H l ms
 | .ints l,v=> ∃D,v= .ref D/\ok D/\H D=some (.lst (l.map V.int))
theorem zq (g:eQ):(lx g).lookup ("tell_bill":Str)=none:=by rfl
theorem tu (g:eQ):(lx g).lookup ("tell_payment":Str)=none:=by rfl
theorem zr (g:eQ):(lx g).lookup ("tell_note":Str)=none:=by rfl
theorem vh (g:eQ):(lx g).lookup ("set_by_hand":Str)=none:=by rfl
theorem Ji (g:eQ):(lx g).lookup ("sweep":Str)=none:=by rfl
def zt (A:en)(K:PySem.W.Frag)(tB tC:Addr):Sp:=fun vs H Q E=> ∃(pw pd:Addr) (S:Bk) (f:eQ) (n:Nat) (d:bI),vs=[.ref pw,.ref pd]/\dO A H pw S f/\WF S n/\n<=60/\lF H tB/\l6 H tC/\H pd=some (.tup (bI.vs d))/\d.tells=true/\
 (S.bar d=""-> ∀v f' H',f'.fp=f.fp->Frame (tB :: tC :: f.fp) H H'->lF H' tB->l6 H' tC->dO A H' pw (S.enter d) f'->zp H' (fun D=>H D=none) (S.KJ d) v->Q v H')/\(S.bar d≠""->Lk A K E (S.bar d) H)
theorem EA:aW ["work","deed","kind"] ["work","deed"] (aA (top 30)):=⟨rfl,rfl,rfl,by decide +kernel,rfl,by decide +kernel,by decide +kernel⟩
theorem Jj (T:Txt K mg){A:en}{tB tC:Addr}(G:jB K mg A)(DB:qa K mg "bills_in_order" (top 17) tB)(DC:qa K mg "credits_in_order" (top 18) tC)(jf:tB≠tC)(KB:K.In base)(BM:BMain mg base):uP P w K mg base "done" 7 ["work","deed"] (zt A K tB tC):=by
 have Bw:gY (mw P w mg) P w K mg base A.work "tell_bill" 5 ["self","who","day","due","amount"] (Ed A K):=A7 T G
 have vi:gY (mw P w mg) P w K mg base A.work "tell_payment" 6 ["self","who","day","amount"] (Ee A K):=uS T G
 have Bx:gY (mw P w mg) P w K mg base A.work "tell_note" 6 ["self","bill_number","day","amount"] (Ef A K):=A8 T G
 have wI:gY (mw P w mg) P w K mg base A.work "set_by_hand" 5 ["self","credit_number","bill_number","amount"] (Mv A K):=wj T G
 have LJ:gY sk P w K mg base A.work "sweep" 4 ["self","who"] (Ez A tB tC):=LI T G DB DC jf KB BM
 refine Ob (k:=6) T.N3 EA (fun _ _ _ _ _ _ us hl=>match us,hl with|[_,_],_=>rfl) (fun vs H Q E h=>?_) (fun f dv A' outer s H vs Q E hr mf h=>?_)
 ·obtain⟨pw,pd,S,g,n,d,rfl,_⟩:=h
  rfl
 ·obtain⟨pw,pd,S,g,n,d,rfl,hW,wf,hn,kh,jM,hd,ht,k1,k2⟩:=h
  have nd:=EA.nd
  obtain⟨dw,hw⟩:=hW.obj
  refine⟨_,(ah (bb (i:=2) nd rfl (Or.inl rfl) (aO bg (pv 1) aj (fun _ _=>rfl)))
(ah (b0 (a9 dr (pv 2) aS (bc _))
(av (ba (mZ Bw (hr.mono (by decide)) mf.pass (pv 0) (aa (aO bg (pv 1) aj (fun _ _=>rfl)) (aa (aO bg (pv 1) aj (fun _ _=>rfl)) (aa (aO bg (pv 1) aj (fun _ _=>rfl)) (aa (aO bg (pv 1) aj (fun _ _=>rfl)) ak)))))))
bw)
(ah (b0 (a9 dr (pv 2) aS (bc _))
(av (ba (mZ vi (hr.mono (by decide)) mf.pass (pv 0) (aa (aO bg (pv 1) aj (fun _ _=>rfl)) (aa (aO bg (pv 1) aj (fun _ _=>rfl)) (aa (aO bg (pv 1) aj (fun _ _=>rfl)) ak))))))
bw)
(ah (b0 (a9 dr (pv 2) aS (bc _))
(av (ba (mZ Bx (hr.mono (by decide)) mf.pass (pv 0) (aa (aO bg (pv 1) aj (fun _ _=>rfl)) (aa (aO bg (pv 1) aj (fun _ _=>rfl)) (aa (aO bg (pv 1) aj (fun _ _=>rfl)) ak))))))
bw)
(ah (b0 (a9 dr (pv 2) aS (bc _))
(av (ba (mZ wI (hr.mono (by decide)) mf.pass (pv 0) (aa (aO bg (pv 1) aj (fun _ _=>rfl)) (aa (aO bg (pv 1) aj (fun _ _=>rfl)) (aa (aO bg (pv 1) aj (fun _ _=>rfl)) ak))))))
bw)
(av (ba (mZ LJ (hr.mono (by decide)) mM (pv 0) (aa (aO bg (pv 1) aj (fun _ _=>rfl)) ak))))))))),?_⟩
  have ext: ∀a∈g.fp,∀φ,H a≠some (.ext φ):=fun a ha φ e=>by
   obtain⟨xs,z⟩:=hW.lists a ha
   rw[z] at e
   cases e
  have Gy:tB∉g.fp:=hW.off fun xs e=>by
   obtain⟨ps,z⟩:=c8 kh
   rw[z] at e
   cases e
  have Gz:tC∉g.fp:=hW.off fun xs e=>by
   obtain⟨ps,z⟩:=c8 jM
   rw[z] at e
   cases e
  cases d with
  |iP n=>cases ht
  |ask o w d=>cases ht
  |iB w d l=>cases ht
  |dZ wh dy du am=>
   refine⟨_,rfl,pd,_,_,.str "bill",rfl,rfl,cM.of hd,rfl,?_⟩
   refine⟨_,rfl,rfl,true,zN _,fH ⟨_,rfl,pw,dw,_,rfl,hw,zq g,_,rfl,pd,_,_,.str wh,rfl,rfl,cM.of hd,rfl,_,rfl,pd,_,_,.int dy,rfl,rfl,cM.of hd,rfl,_,rfl,pd,_,_,.int du,rfl,rfl,cM.of hd,rfl,_,rfl,pd,_,_,.int am,rfl,rfl,cM.of hd,rfl,pw,S,g,wh,dy,du,am,rfl,hW,(by have:=wf.lb; omega),fun hb f1 H1 e1 F1 W1=>?_,k2⟩⟩
   exact k1 hb _ f1 H1 e1 (dP F1 fun x hx=>by simp[hx]) (f7 kh F1 Gy ext) (f7 jM F1 Gz ext) W1 rfl
  |qv wh dy am=>
   refine⟨_,rfl,pd,_,_,.str "pay",rfl,rfl,cM.of hd,rfl,?_⟩
   refine⟨_,rfl,rfl,false,jE (show("pay":Str)≠"bill" by decide +kernel),cv ?_⟩
   refine⟨_,rfl,rfl,true,zN _,fH ⟨_,rfl,pw,dw,_,rfl,hw,tu g,_,rfl,pd,_,_,.str wh,rfl,rfl,cM.of hd,rfl,_,rfl,pd,_,_,.int dy,rfl,rfl,cM.of hd,rfl,_,rfl,pd,_,_,.int am,rfl,rfl,cM.of hd,rfl,pw,S,g,wh,dy,am,rfl,hW,(by have:=wf.lc; omega),fun hb f1 H1 e1 F1 W1=>?_,k2⟩⟩
   exact k1 hb _ f1 H1 e1 (dP F1 fun x hx=>by simp[hx]) (f7 kh F1 Gy ext) (f7 jM F1 Gz ext) W1 rfl
  |note b dy am=>
   refine⟨_,rfl,pd,_,_,.str "note",rfl,rfl,cM.of hd,rfl,?_⟩
   refine⟨_,rfl,rfl,false,jE (show("note":Str)≠"bill" by decide +kernel),cv ?_⟩
   refine⟨_,rfl,rfl,false,jE (show("note":Str)≠"pay" by decide +kernel),cv ?_⟩
   refine⟨_,rfl,rfl,true,zN _,fH ⟨_,rfl,pw,dw,_,rfl,hw,zr g,_,rfl,pd,_,_,.int b,rfl,rfl,cM.of hd,rfl,_,rfl,pd,_,_,.int dy,rfl,rfl,cM.of hd,rfl,_,rfl,pd,_,_,.int am,rfl,rfl,cM.of hd,rfl,pw,S,g,b,dy,am,rfl,hW,(by have:=wf.lc; omega),fun hb f1 H1 e1 F1 W1=>?_,k2⟩⟩
   exact k1 hb _ f1 H1 e1 (dP F1 fun x hx=>by simp[hx]) (f7 kh F1 Gy ext) (f7 jM F1 Gz ext) W1 rfl
  |set c b am=>
   refine⟨_,rfl,pd,_,_,.str "set",rfl,rfl,cM.of hd,rfl,?_⟩
   refine⟨_,rfl,rfl,false,jE (show("set":Str)≠"bill" by decide +kernel),cv ?_⟩
   refine⟨_,rfl,rfl,false,jE (show("set":Str)≠"pay" by decide +kernel),cv ?_⟩
   refine⟨_,rfl,rfl,false,jE (show("set":Str)≠"note" by decide +kernel),cv ?_⟩
   refine⟨_,rfl,rfl,true,zN _,fH ⟨_,rfl,pw,dw,_,rfl,hw,vh g,_,rfl,pd,_,_,.int c,rfl,rfl,cM.of hd,rfl,_,rfl,pd,_,_,.int b,rfl,rfl,cM.of hd,rfl,_,rfl,pd,_,_,.int am,rfl,rfl,cM.of hd,rfl,pw,S,g,n,c,b,am,rfl,hW,wf,(i9 (by have:=wf.lm; omega)),fun hb f1 H1 e1 F1 W1=>?_,k2⟩⟩
   exact k1 hb _ f1 H1 e1 (dP F1 fun x hx=>by simp[hx]) (f7 kh F1 Gy ext) (f7 jM F1 Gz ext) W1 rfl
  |fO wh=>
   refine⟨_,rfl,pd,_,_,.str "sweep",rfl,rfl,cM.of hd,rfl,?_⟩
   refine⟨_,rfl,rfl,false,jE (show("sweep":Str)≠"bill" by decide +kernel),cv ?_⟩
   refine⟨_,rfl,rfl,false,jE (show("sweep":Str)≠"pay" by decide +kernel),cv ?_⟩
   refine⟨_,rfl,rfl,false,jE (show("sweep":Str)≠"note" by decide +kernel),cv ?_⟩
   refine⟨_,rfl,rfl,false,jE (show("sweep":Str)≠"set" by decide +kernel),cv ?_⟩
   refine⟨_,rfl,pw,dw,_,rfl,hw,Ji g,_,rfl,pd,_,_,.str wh,rfl,rfl,cM.of hd,rfl,pw,S,g,n,wh,rfl,hW,wf,(by omega),kh,jM,fun D ms H1 F1 jt ka W1 nD hD hT=>?_⟩
   exact k1 rfl _ g H1 rfl F1 jt ka W1 ⟨D,ms,rfl,nD,hD,hT⟩
theorem Jk {α:Type}(x:α)(xs:List α):sV (x :: xs) 0=some x:=cS (xs:=x :: xs) (j:=0) rfl
def kX (H:Hp)(ss:List (Int×bI))(bo:List (Key×V)):Prop:=Paired (fun(st:Int×bI) (kv:Key×V)=>kv.1=Sum.inl st.1/\ ∃pd,kv.2= .ref pd/\H pd=some (.tup (bI.vs st.2))/\st.2.tells=true) ss bo
theorem kX.mono {H H':Hp}{ss:List (Int×bI)}{bo:List (Key×V)}(h:kX H ss bo)(k:cU H H'):kX H' ss bo:=Paired.iV h fun _ _ ⟨e,p,e2,z,t⟩=>⟨e,p,e2,k _ _ z,t⟩
structure fQ (A:en)(H:Hp)(pb pk pw:Addr)(T:iZ)(f:eQ):Prop where
 obj:eE H pb A.book (eV pk pw)
 kept: ∃bo,H pk=some (.dK bo)/\kX H T.steps bo
 wk:dO A H pw T.bk f
theorem fQ.same {A:en}{H H':Hp}{pb pk pw:Addr}{T:iZ}{f:eQ}(h:fQ A H pb pk pw T f)(s:aG H H'):fQ A H' pb pk pw T f:=by
 obtain⟨bo,k1,k2⟩:=h.kept
 exact⟨h.obj.same s,⟨bo,s _ _ k1,k2.mono s.tk⟩,h.wk.same s⟩
theorem EB {A:en}{H H':Hp}{pw:Addr}{S:Bk}{f:eQ}(h:dO A H pw S f)(kl: ∀a xs,H a=some (.lst xs)->H' a=some (.lst xs))(ki: ∀a C dx fs,fs.length=5->H a=some (.ins C dx fs)->H' a=some (.ins C dx fs))(kt:cU H H'):dO A H' pw S f:=by
 obtain⟨dw,hw⟩:=h.obj
 obtain⟨ms,m1,m2⟩:=h.hm
 exact⟨⟨dw,ki _ _ _ _ rfl hw⟩,kl _ _ h.hb,kl _ _ h.hc,kl _ _ h.hl,kl _ _ h.hf,⟨ms,kl _ _ m1,m2.mono kt⟩,⟨h.rb.1,fun i p e=>let⟨dx,z⟩:=h.rb.2 i p e; ⟨dx,ki _ _ _ _ rfl z⟩⟩,⟨h.rc.1,fun i p e=>let⟨dx,z⟩:=h.rc.2 i p e; ⟨dx,ki _ _ _ _ rfl z⟩⟩,h.nd⟩
def Jl (o:HO):Prop:=(∀xs,o≠ .lst xs)/\(∀xs,o≠ .tup xs)/\ ∀C dx fs,fs.length=5->o≠ .ins C dx fs
theorem vj {A:en}{H:Hp}{pw p:Addr}{S:Bk}{f:eQ}{o u:HO}(h:dO A H pw S f)(e:H p=some o)(n:Jl o):dO A (upd H p u) pw S f:=
 EB h (fun a xs z=>by rw[ay (fun q=>by rw[q,e] at z; exact n.1 xs (aE z))]; exact z) (fun a C dx fs hl z=>by rw[ay (fun q=>by rw[q,e] at z; exact n.2.2 C dx fs hl (aE z))]; exact z)
  (fun a xs z=>by rw[ay (fun q=>by rw[q,e] at z; exact n.2.1 xs (aE z))]; exact z)
theorem tQ (bo:List (Key×V)):Jl (.dK bo):=⟨fun _ z=>(by cases z),fun _ z=>(by cases z),fun _ _ _ _ z=>(by cases z)⟩
theorem Jm (φ:Heap->Prop):Jl (.ext φ):=⟨fun _ z=>(by cases z),fun _ z=>(by cases z),fun _ _ _ _ z=>(by cases z)⟩
theorem xJ (C dx pk pw:Addr):Jl (.ins C dx (eV pk pw)):=⟨fun _ z=>(by cases z),fun _ z=>(by cases z),fun _ _ fs hl z=>(by injection z with _ _ z; rw[← z] at hl; cases hl)⟩
theorem zu {H:Hp}{p:Addr}{o u:HO}(e:H p=some o)(n:Jl o):cU H (upd H p u):=fun a xs z=>by rw[ay (fun q=>by rw[q,e] at z; exact n.2.1 xs (aE z))]; exact z
theorem zp.keep {H H':Hp}{ok Y2:Addr->Prop}{a:JJ}{v:V}(h:zp H ok a v)(kl: ∀D xs,ok D->H D=some (.lst xs)->Y2 D/\H' D=some (.lst xs))(kt:cU H H'):zp H' Y2 a v:=by
 cases a with
 |int i=>exact h
 |txt s=>exact h
 |sets l=>
  obtain⟨D,ms,e,o,z,t⟩:=h
  obtain⟨o',z'⟩:=kl _ _ o z
  exact⟨D,ms,e,o',z',t.mono kt⟩
 |pairs l=>
  obtain⟨D,ms,e,o,z,t⟩:=h
  obtain⟨o',z'⟩:=kl _ _ o z
  exact⟨D,ms,e,o',z',nE.mono t kt⟩
 |«ints» l=>
  obtain⟨D,e,o,z⟩:=h
  obtain⟨o',z'⟩:=kl _ _ o z
  exact⟨D,e,o',z'⟩
theorem rR {H:Hp}{m:Int}: ∀{ss:List (Int×bI)} {bo:List (Key×V)},kX H ss bo->gq bo (Sum.inl m:Key)=none-> ∀st∈ss,st.1≠m
 |_,_,.nil,_,_,h=>by cases h
 |_,_,.cons (a:=a) (b:=kv) ⟨e,_⟩ t,hv,st,h=>by
  by_cases q:kv.1=(Sum.inl m:Key)
  ·rw[fN q] at hv
   cases hv
  ·rw[fu q] at hv
   rcases aw.mp h with rfl|h
   ·intro z
    rw[e,z] at q
    exact q rfl
   ·exact rR t hv st h
theorem xK {H:Hp}{m:Int}{v:V}: ∀{ss:List (Int×bI)} {bo:List (Key×V)},kX H ss bo->gq bo (Sum.inl m:Key)=some v-> ∃st∈ss,st.1=m/\ ∃pd,v= .ref pd/\H pd=some (.tup (bI.vs st.2))/\st.2.tells=true
 |_,_,.nil,hv=>by cases hv
 |_,_,.cons (a:=a) (b:=kv) ⟨e,pd,e2,z,tl⟩ t,hv=>by
  by_cases q:kv.1=(Sum.inl m:Key)
  ·rw[fN q] at hv
   rw[e] at q
   refine⟨a,bC,by injection q,pd,?_,z,tl⟩
   rw[← aE hv,e2]
  ·rw[fu q] at hv
   obtain⟨st,h1,h2⟩:=xK t hv
   exact⟨st,aU _ h1,h2⟩
theorem By {H:Hp}{m:Int}: ∀{ss:List (Int×bI)} {bo:List (Key×V)},kX H ss bo->(∀st∈ss,st.1≠m)->gq bo (Sum.inl m:Key)=none
 |_,_,.nil,_=>rfl
 |_,_,.cons (a:=a) (b:=kv) ⟨e,_⟩ t,h=>by
  rw[fu (fun q=>by
   rw[e] at q
   exact h a bC (by injection q))]
  exact By t fun st hs=>h st (aU _ hs)
theorem xM {H:Hp}{m:Int}: ∀{ss:List (Int×bI)} {bo:List (Key×V)},kX H ss bo->kX H (ss.filter fun st=>decide (st.1≠m)) (k8 bo (Sum.inl m:Key))
 |_,_,.nil=> .nil
 |_,_,.cons (a:=a) (b:=kv) ⟨e,r⟩ t=>by
  have ih:=xM (m:=m) t
  unfold k8 at ih ⊢
  by_cases q:a.1=m
  ·have q':kv.1=(Sum.inl m:Key):=by rw[e,q]
   rw[List.filter_cons_of_neg (by simp[q]),List.filter_cons_of_neg (by simp[q'])]
   exact ih
  ·have q': ¬ kv.1=(Sum.inl m:Key):=by rw[e]; intro z; exact q (by injection z)
   rw[List.filter_cons_of_pos (by simp[q]),List.filter_cons_of_pos (by simp[q'])]
   exact .cons ⟨e,r⟩ ih
theorem vk: ∀{ss:List (Int×bI)},ss.Pairwise (fun a b=>a.1 < b.1)-> ∀{x y:Int×bI},x∈ss->y∈ss->x.1=y.1->x=y
 |[],_,_,_,h,_,_=>by cases h
 |a :: ss,hp,x,y,hx,hy,e=>by
  rw[fh] at hp
  rcases aw.mp hx with hx|hx
  ·rcases aw.mp hy with hy|hy
   ·rw[hx,hy]
   ·have:=hp.1 y hy
    rw[hx] at e
    omega
  ·rcases aw.mp hy with hy|hy
   ·have:=hp.1 x hx
    rw[hy] at e
    omega
   ·exact vk hp.2 hx hy e
def GA (ss:List (Int×bI))(m:Int):Bool:=ss.any fun st=>decide (st.1=m) && st.2.isSet
theorem pU (ss:List (Int×bI))(m:Int):(ss.filter (cI m)).length=ss.length↔GA ss m=false:=by
 rw[List.length_filter_eq_length_iff]
 unfold GA
 rw[ra]
 constructor
 ·intro h st hs
  have:=h st hs
  unfold cI at this
  cases h2:decide (st.1=m) && st.2.isSet
  ·simp
  ·rw[h2] at this
   cases this
 ·intro h st hs
  have:=h st hs
  unfold cI
  cases h2:decide (st.1=m) && st.2.isSet
  ·rfl
  ·exact absurd h2 this
theorem Jn {ss:List (Int×bI)}{m:Int}{st:Int×bI}(hp:ss.Pairwise (fun a b=>a.1 < b.1))(hs:st∈ss)(e:st.1=m):GA ss m=st.2.isSet:=by
 unfold GA
 cases h:st.2.isSet with
 |true=>exact List.any_eq_true.mpr ⟨st,hs,by simp[e,h]⟩
 |false=>
  rw[ra]
  intro x hx z
  have z':x.1=m/\x.2.isSet=true:=by simpa using z
  have q:=vk hp hx hs (z'.1.trans e.symm)
  rw[q,h] at z'
  cases z'.2
theorem Bz {ss:List (Int×bI)}{m:Int}(h: ∀st∈ss,st.1≠m):GA ss m=false:=by
 unfold GA
 rw[ra]
 intro x hx z
 have z':x.1=m/\x.2.isSet=true:=by simpa using z
 exact h x hx z'.1
theorem Jo {ss:List (Int×bI)}{m:Int}(hp:ss.Pairwise (fun a b=>a.1 < b.1))(h:GA ss m=true):ss.filter (cI m)=ss.filter fun st=>decide (st.1≠m):=by
 apply EU
 intro st hs
 unfold cI
 by_cases e:st.1=m
 ·rw[← Jn hp hs e,h]
  simp[e]
 ·simp[e]
theorem BA (pk pw:Addr):(eV pk pw).lookup ("in_force":Str)=none:=by rfl
theorem LK (pk pw:Addr):(eV pk pw).lookup ("undo":Str)=none:=by rfl
theorem SI (pk pw:Addr):(eV pk pw).lookup ("do":Str)=none:=by rfl
def xN (A:en):Sp:=fun vs H Q _=> ∃(pb pk pw:Addr) (T:iZ) (f:eQ) (n:Nat) (m:Int),vs=[.ref pb,.int m]/\fQ A H pb pk pw T f/\Good T n/\ ∀H',aG H H'->Q (.bl (GA T.steps m)) H'
theorem rT:aW ["self","number"] ["self","number"] (aA (mem 29 3)):=⟨rfl,rfl,rfl,by decide +kernel,rfl,by decide +kernel,by decide +kernel⟩
theorem Dj {A:en}(G:jB K mg A):gY sk P w K mg base A.book "in_force" 1 ["self","number"] (xN A):=by
 refine Lf (k:=0) G.rN G.eL rT (fun _ _ _ _ _ _ us hl=>match us,hl with|[_,_],_=>rfl) (fun vs H Q E h=>?_) (fun f dv A' outer s H vs Q E hr h=>?_)
 ·obtain⟨pb,pk,pw,T,g,n,m,rfl,_⟩:=h
  rfl
 ·obtain⟨pb,pk,pw,T,g,n,m,rfl,hB,hG,k⟩:=h
  have hu:=kA hr
  obtain⟨db,hb⟩:=hB.obj
  obtain⟨bo,hk,hK⟩:=hB.kept
  refine⟨_,(av (ba (pj (M4 (Nn hu (pv 1) (cq (pv 0) rfl))) (mD (eW nQ (aO bg (cX hu (cq (pv 0) rfl) (pv 1) (fun _ _=>rfl)) aj (fun _ _=>rfl)) (dH (aa aS (aa aS ak))) (by rfl)))))),?_⟩
  refine⟨_,rfl,_,rfl,pb,_,db,_,_,rfl,hb,G.eL,G.gK,tO _ _,pk,_,rfl,mv.k (k:=(Sum.inl m:Key)) hk,_,rfl,?_⟩
  cases hv:gq bo (Sum.inl m:Key) with
  |none=>
   refine cv ?_
   have q:=k H (aG.refl _)
   rw[Bz (rR hK hv)] at q
   exact q
  |some v=>
   refine fH ?_
   obtain⟨st,hs,e,pd,rfl,GU,ht⟩:=xK hK hv
   obtain⟨r,er⟩:=tN (.inl ht)
   rw[er] at GU
   refine⟨_,rfl,pb,_,db,_,_,rfl,hb,G.eL,G.gK,tO _ _,_,rfl,pk,.ref pd,rfl,(by have z:=mv.k (k:=(Sum.inl m:Key)) hk; rw[hv] at z; exact z),pd,_,_,.str (bI.word st.2),rfl,rfl,cM.of GU,Jk _ _,(by show 2<=sizeLine; decide),fun p np=>?_⟩
   have s1:=aG.new (o:= .tup [.str "set",.str "sweep"]) np
   refine⟨p,_,rfl,.inr (cM.of ag),rfl,rfl,?_⟩
   have q:=k _ s1
   rw[Jn hG.inc hs e,← Em ht] at q
   exact q
def SJ (A:en)(K:PySem.W.Frag)(tB tC:Addr):Sp:=fun vs H Q E=> ∃(pb pd pk pw:Addr) (T:iZ) (f:eQ) (n:Nat) (d:bI),vs=[.ref pb,.int n,.ref pd]/\fQ A H pb pk pw T f/\Good T n/\n<=59/\lF H tB/\l6 H tC/\H pd=some (.tup (bI.vs d))/\d.tells=true/\
 (T.bk.bar d=""-> ∀v f' H',f'.fp=f.fp->Frame (tB :: tC :: pk :: f.fp) H H'->lF H' tB->l6 H' tC->fQ A H' pb pk pw ⟨T.steps ++ [((n:Int),d)],T.bk.enter d⟩ f'->zp H' (fun D=>H D=none) (T.bk.KJ d) v->Q v H')/\(T.bk.bar d≠""->Lk A K E (T.bk.bar d) H)
theorem vm:aW ["self","number","deed","answer"] ["self","number","deed"] (aA (mem 29 1)):=⟨rfl,rfl,rfl,by decide +kernel,rfl,by decide +kernel,by decide +kernel⟩
theorem WY (T:Txt K mg){A:en}{tB tC:Addr}(G:jB K mg A)(DB:qa K mg "bills_in_order" (top 17) tB)(DC:qa K mg "credits_in_order" (top 18) tC)(jf:tB≠tC)(KB:K.In base)(BM:BMain mg base):gY (mw P w mg) P w K mg base A.book "do" 8 ["self","number","deed"] (SJ A K tB tC):=by
 have Dk:uP P w K mg base "done" 7 ["work","deed"] (zt A K tB tC):=Jj T G DB DC jf KB BM
 refine qI (k:=7) G.CQ G.eL vm (fun _ _ _ _ _ _ us hl=>match us,hl with|[_,_,_],_=>rfl) (fun vs H Q E h=>?_) (fun f dv A' outer s H vs Q E hr mf h=>?_)
 ·obtain⟨pb,pd,pk,pw,T,g,n,d,rfl,_⟩:=h
  rfl
 ·obtain⟨pb,pd,pk,pw,T,g,n,d,rfl,hB,hG,hn,kh,jM,hd,ht,k1,k2⟩:=h
  have hu:=kA hr
  have nd:=vm.nd
  obtain⟨db,hb⟩:=hB.obj
  obtain⟨bo,hk,hK⟩:=hB.kept
  have hW:=hB.wk
  refine⟨_,(ah (bb (i:=3) nd rfl (Or.inl rfl) (rO Dk (hr.mono (by decide)) rfl mf.pass (aa (cq (pv 0) rfl) (aa (pv 2) ak))))
(ah (DN hu (cq (pv 0) rfl) (pv 1) (pv 2) rfl)
(av (ba (pv 3))))),?_⟩
  refine⟨_,rfl,pb,_,db,_,_,rfl,hb,G.eL,G.fW,qR _ _,_,rfl,pw,pd,T.bk,g,n,d,rfl,hW,hG.wf (by omega),(by omega),kh,jM,hd,ht,fun oE v f1 H1 e1 F1 jt ka W1 hA=>?_,k2⟩
  have GB: ∀a o,H a=some o->(∀xs,o≠ .lst xs)->(∀ps,o≠ .mB ps)->a∉tB :: tC :: g.fp:=fun a o e n1 n2 z=>by
   rcases aw.mp z with z|z
   ·obtain⟨ps,q⟩:=c8 kh
    rw[z,q] at e
    exact n2 ps (aE e).symm
   ·rcases aw.mp z with z|z
    ·obtain⟨ps,q⟩:=c8 jM
     rw[z,q] at e
     exact n2 ps (aE e).symm
    ·obtain⟨xs,q⟩:=hW.lists a z
     rw[q] at e
     exact n1 xs (aE e).symm
  have kt:cU H H1:=fun a xs e=>F1 _ _ (GB _ _ e (fun _ z=>by cases z) (fun _ z=>by cases z)) e
  have SK:=F1 _ _ (GB _ _ hb (fun _ z=>by cases z) (fun _ z=>by cases z)) hb
  have GC:=F1 _ _ (GB _ _ hk (fun _ z=>by cases z) (fun _ z=>by cases z)) hk
  have Y3:=hK.mono kt
  have lV:=kt _ _ hd
  have GS:=aX hK
  have hlen:=hG.len
  refine⟨_,rfl,_,rfl,pb,_,db,_,_,rfl,SK,G.eL,G.gK,tO _ _,_,rfl,pk,_,rfl,Fl.k (k:=(Sum.inl (n:Int):Key)) GC (br (by omega)),?_⟩
  rw[Hv _ (By Y3 fun st hs=>by have:=(hG.lt st hs).2; omega)]
  have s2: ∀a o,a≠pk->H1 a=some o->upd H1 pk (.dK (bo ++ [(Sum.inl (n:Int),V.ref pd)])) a=some o:=fun a o hn e=>by rw[ay hn]; exact e
  have nbk:pb≠pk:=md SK GC (by intro z; cases z)
  have WZ:=zu (u:= .dK (bo ++ [(Sum.inl (n:Int),V.ref pd)])) GC (tQ bo)
  refine⟨_,rfl,k1 oE v f1 _ e1 ((dP F1 fun x hx=>?_).tr (Frame.upd (by simp))) (f7 jt (Frame.upd (fp:=[pk]) (by simp)) (fun z=>?_) (fun a ha φ e=>?_)) (f7 ka (Frame.upd (fp:=[pk]) (by simp)) (fun z=>?_) (fun a ha φ e=>?_)) ⟨⟨db,s2 _ _ nbk SK⟩,⟨_,ag,?_⟩,vj W1 GC (tQ bo)⟩ ?_⟩
  ·rcases aw.mp hx with hx|hx
   ·simp[hx]
   ·rcases aw.mp hx with hx|hx
    ·simp[hx]
    ·simp[hx]
  ·obtain⟨ps,q⟩:=c8 jt
   rw[ao.mp z,GC] at q
   cases q
  ·rw[ao.mp ha,GC] at e
   cases e
  ·obtain⟨ps,q⟩:=c8 ka
   rw[ao.mp z,GC] at q
   cases q
  ·rw[ao.mp ha,GC] at e
   cases e
  ·exact cV (Y3.mono WZ) ⟨rfl,pd,rfl,WZ _ _ lV,ht⟩
  ·exact hA.keep (fun D xs o e=>⟨o,s2 _ _ (md e GC (by intro z; cases z)) e⟩) WZ
theorem BB: ∀{ss:List (Int×bI)} {B S:Bk} {i:Nat} {k:Int} {d:bI},cK (ss.take i) B=some S->ss[i]? =some (k,d)->S.bar d≠""->iF ss B=S.bar d/\cK ss B=none
 |[],_,_,_,_,_,_,h,_=>by simp at h
 |(k0,d0) :: ss,B,S,0,k,d,hw,h,hb=>by
  cases hw
  have e:(k0,d0)=(k,d):=by simpa using h
  cases e
  unfold iF cK
  rw[aQ hb,aQ hb]
  exact⟨rfl,rfl⟩
 |(k0,d0) :: ss,B,S,i + 1,k,d,hw,h,hb=>by
  rw[List.take_succ_cons] at hw
  unfold cK at hw
  split at hw
  ·rename_i q
   have ih:=BB hw (by simpa using h) hb
   unfold iF cK
   rw[a8 q,a8 q]
   exact ih
  ·cases hw
theorem BC {ss:List (Int×bI)}{B S:Bk}{i:Nat}{k:Int}{d:bI}(hw:cK (ss.take i) B=some S)(h:ss[i]? =some (k,d))(hb:S.bar d=""):cK (ss.take (i + 1)) B=some (S.enter d):=by
 obtain⟨hi,e⟩:=au.mp h
 rw[ma hi,kO,hw,e]
 show(if S.bar d="" then some (S.enter d) else none)=_
 rw[a8 hb]
def W0 (A:en)(K:PySem.W.Frag)(tB tC:Addr)(fp:List Addr)(E:XK)(t:Str)(H:Hp):Prop:= ∀C dx H',gX K C A.refusal->Frame fp H H'->lF H' tB->l6 H' tC->H dx=none->H' dx=some (.xd [("text",.str t)])->E (.ref C) (some dx) H'
def EC (A:en)(K:PySem.W.Frag)(tB tC:Addr):Sp:=fun vs H Q E=> ∃(pk:Addr) (ss:List (Int×bI)) (bo:List (Key×V)),vs=[.ref pk]/\H pk=some (.dK bo)/\kX H ss bo/\ss.length<=59/\(iF ss Bk.new=""∨iF ss Bk.new="too much")/\lF H tB/\l6 H tC/\
 (∀S,cK ss Bk.new=some S-> ∀pw f H',Frame [tB,tC] H H'->lF H' tB->l6 H' tC->dO A H' pw S f->H pw=none->(∀b∈f.fp,H b=none)->Q (.ref pw) H')/\(cK ss Bk.new=none->W0 A K tB tC [tB,tC,pk] E "needed" H)
theorem oV:aW ["kept","work","deed"] ["kept"] (aA (top 31)):=⟨rfl,rfl,rfl,by decide +kernel,rfl,by decide +kernel,by decide +kernel⟩
theorem MG {H:Hp}{tb d:Addr}{pos:Pos}{qual:Str}{φ:Heap->Prop}{u:HO}(t:Tb H tb pos qual)(e:H d=some (.ext φ))(n: ∀q:Str,φ≠fun h=>h.CodeRec (.ref d) q):Tb (upd H d u) tb pos qual:=by
 obtain⟨ps,h1,h2,h3⟩:=t
 refine⟨ps,by rw[ay (md h1 e (by intro z; cases z))]; exact h1,h2,?_⟩
 rcases h3 with h3|⟨c',h3,h4⟩
 ·exact .inl h3
 ·refine .inr ⟨c',h3,?_⟩
  by_cases z:c'=d
  ·subst z
   rw[e] at h4
   have h5:=aE h4
   injection h5 with h5
   exact absurd h5 (n qual)
  ·rw[ay z]
   exact h4
theorem zv (T:Txt K mg){A:en}{tB tC:Addr}(G:jB K mg A)(DB:qa K mg "bills_in_order" (top 17) tB)(DC:qa K mg "credits_in_order" (top 18) tC)(jf:tB≠tC)(hnd:A.i6≠A.tooMuch)(KB:K.In base)(BM:BMain mg base):uP P w K mg base "done_again" 8 ["kept"] (EC A K tB tC):=by
 have Dk:uP P w K mg base "done" 7 ["work","deed"] (zt A K tB tC):=Jj T G DB DC jf KB BM
 have C9:tf P w K mg base "Work" A.work 1 ["self"] (y3 A):=IP G
 refine Ob (k:=7) T.yy oV (fun _ _ _ _ _ _ us hl=>match us,hl with|[_],_=>rfl) (fun vs H Q E h=>?_) (fun f dv A' outer s H vs Q E hr mf h=>?_)
 ·obtain⟨pk,ss,bo,rfl,_⟩:=h
  rfl
 ·obtain⟨pk,ss,bo,rfl,hk,hK,hl,hfb,kh,jM,k1,k2⟩:=h
  have nd:=oV.nd
  refine⟨_,(ah (bb (i:=1) nd rfl (Or.inl rfl) (Iy C9 (hr.mono (by decide)) rfl))
(ah (K3 mf.own rfl (pv 0) (bG (i:=2) nd rfl (Or.inl rfl))
(av (Aw mf rfl rfl G.uO G.pM (show mg "Needed"≠some (.ref A.tooMuch) from fun z=>hnd (by rw[G.xB] at z; injection z with z; injection z)) (Ge T G) (hr.h.mono (by decide)) rfl (fun xe pn E hx=>av (bR (rO Dk (hr.mono (by decide)) rfl hx (aa (pv 1) (aa (pv 2) ak))))))))
(av (ba (pv 1))))),?_⟩
  intro xw Wz Lx OD ne
  have s1:=lB (C:=A.work) (fs:=[]) Lx OD ne
  refine⟨xw,Wz,rfl,ag,fun g H1 F1 W1 nf=>⟨rfl,?_⟩⟩
  have fg: ∀b∈g.fp,H b=none:=fun b hb=>s1.free (nf b hb)
  have S1:aG H H1:=fun b o e=>F1 b o (by simpa using aL e Lx) (s1 b o e)
  clear F1 nf s1
  refine⟨_,rfl,?_⟩
  have GC:=S1 _ _ hk
  have hlen:=aX hK
  refine Io (td:=fun _ _ _=>True) GC fun φ hφ=>⟨fun i σ H2=> ∃(S:Bk) (f:eQ) (x2:Option V),σ=[some (.ref pk),some (.ref xw),x2]/\cK (ss.take i) Bk.new=some S/\dO A H2 xw S f/\(∀b∈f.fp,H b=none)/\Frame [tB,tC,pk] H H2/\H2 pk=some (.ext φ)/\lF H2 tB/\l6 H2 tC,?_,?_,?_,?_⟩
  ·have ext: ∀a∈[pk],∀φ,H1 a≠some (.ext φ):=fun a ha φ e=>by
    rw[ao.mp ha,GC] at e
    cases e
   have nB:tB∉[pk]:=fun z=>by
    obtain⟨ps,q⟩:=c8 kh
    rw[ao.mp z,hk] at q
    cases q
   have nC:tC∉[pk]:=fun z=>by
    obtain⟨ps,q⟩:=c8 jM
    rw[ao.mp z,hk] at q
    cases q
   exact⟨Bk.new,g,none,rfl,rfl,vj W1 GC (tQ bo),fg,(S1.frame (fp:=[tB,tC,pk])).tr (Frame.upd (by simp)),ag,f7 (bW kh S1) (Frame.upd (fp:=[pk]) (by simp)) nB ext,f7 (bW jM S1) (Frame.upd (fp:=[pk]) (by simp)) nC ext⟩
  ·rintro i σ H2 ⟨S,f,x2,_,_,_,_,_,e,_⟩
   exact e
  ·rintro i x σ H2 hx ⟨S,f,x2,rfl,hw,hW,hf,F2,e2,jl,kr⟩
   rw[aD] at hx
   obtain⟨kv,T1,rfl⟩:=bM.mp hx
   have hi:i < ss.length:=by have:=(au.mp T1).1; omega
   have oP:=af hi
   obtain⟨kv',SM,ek,pd,epd,GU,ht⟩:=bT hK oP
   rw[T1] at SM
   obtain rfl:kv=kv':=aE SM
   generalize ss[i]=st at oP ek GU ht
   obtain⟨sn,d⟩:=st
   rw[epd]
   have Oo:H2 pd=some (.tup (bI.vs d)):=F2 _ _ (fun z=>by
    simp only[List.mem_cons,List.not_mem_nil,or_false] at z
    rcases z with z|z|z
    ·obtain⟨ps,q⟩:=c8 kh
     rw[← z,GU] at q
     cases q
    ·obtain⟨ps,q⟩:=c8 jM
     rw[← z,GU] at q
     cases q
    ·rw[z,hk] at GU
     cases GU) GU
   have wf:WF S (0 + (ss.take i).length):=rL _ WF.new hw (by rw[bD]; omega)
   refine⟨_,rfl,_,rfl,xw,pd,S,f,_,d,rfl,hW,wf,(by rw[bD]; omega),jl,kr,Oo,ht,fun hb v f' H3 e3 F3 qT qU W3 _=>?_,fun hb=>?_⟩
   ·refine⟨S.enter d,f',_,rfl,BC hw oP hb,W3,(by rw[e3]; exact hf),F2.trans F3 (fun x hx=>?_),F3 _ _ (fun z=>?_) e2,qT,qU⟩
    ·rcases aw.mp hx with hx|hx
     ·exact .inl (by simp[hx])
     ·rcases aw.mp hx with hx|hx
      ·exact .inl (by simp[hx])
      ·exact .inr (hf x hx)
    ·rcases aw.mp z with z|z
     ·obtain⟨ps,q⟩:=c8 jl
      rw[← z,e2] at q
      cases q
     ·rcases aw.mp z with z|z
      ·obtain⟨ps,q⟩:=c8 kr
       rw[← z,e2] at q
       cases q
      ·have:=hf _ z
       rw[hk] at this
       cases this
   ·obtain⟨ef,ew⟩:=BB hw oP hb
    have et:S.bar d="too much":=(hfb.resolve_left (by rw[ef]; exact hb)).symm.trans ef |>.symm
    intro C hC hCt dx H3 s3 nd3 MB
    have Tr:C=A.tooMuch:=hCt et
    refine⟨by rw[Tr],fun W6 n2=>?_⟩
    have s4:=aG.new (o:= .xd [("text",.str "needed")]) n2
    have Jp:=s3.trans s4
    refine k2 ew A.i6 W6 _ G.xC (F2.cZ Jp) (bW jl Jp) (bW kr Jp) ?_ ag
    have SN:=s3.free n2
    cases e:H W6 with
    |none=>rfl
    |some o=>
     exfalso
     by_cases jJ:W6∈[tB,tC,pk]
     ·simp only[List.mem_cons,List.not_mem_nil,or_false] at jJ
      rcases jJ with z|z|z
      ·obtain⟨ps,q⟩:=c8 jl
       rw[← z,SN] at q
       cases q
      ·obtain⟨ps,q⟩:=c8 kr
       rw[← z,SN] at q
       cases q
      ·rw[z,e2] at SN
       cases SN
     ·have q:=F2 _ _ jJ e
      rw[SN] at q
      cases q
  ·rintro σ H2 ⟨S,f,x2,rfl,hw,hW,hf,F2,e2,jl,kr⟩
   rw[← hlen,bf] at hw
   refine⟨_,rfl,k1 S hw xw f _ (fun b o hb e=>?_) (MG jl e2 hφ.2) (MG kr e2 hφ.2) (vj hW e2 (Jm φ)) Lx hf⟩
   by_cases z:b=pk
   ·subst z
    rw[hk] at e
    rw[ag]
    exact e
   ·rw[ay z]
    exact F2 _ _ (by simp only[List.mem_cons,List.not_mem_nil,or_false,not_or] at hb ⊢; exact⟨hb.1,hb.2,z⟩) e
theorem OT (pk pw qb:Addr):eK "work" (.ref qb) (eV pk pw)=eV pk qb:=by rfl
theorem OU (pk tR pw:Addr):eK "kept" (.ref tR) (eV pk pw)=eV tR pw:=by rfl
def Jq (A:en)(K:PySem.W.Frag)(tB tC:Addr):Sp:=fun vs H Q E=> ∃(pb pk pw:Addr) (T:iZ) (f:eQ) (n:Nat) (m:Int),vs=[.ref pb,.int m]/\fQ A H pb pk pw T f/\Good T n/\n<=59/\lF H tB/\l6 H tC/\
 (GA T.steps m=true-> ∀S,cK (T.steps.filter (cI m)) Bk.new=some S-> ∀tR qb f' H',Frame [tB,tC,pb] H H'->lF H' tB->l6 H' tC->fQ A H' pb tR qb ⟨T.steps.filter (cI m),S⟩ f'->H tR=none->(∀b∈f'.fp,H b=none)->Q (.str "undone") H')/\
 (GA T.steps m=true->cK (T.steps.filter (cI m)) Bk.new=none->W0 A K tB tC [tB,tC] E "needed" H)/\(GA T.steps m=false->W0 A K tB tC [tB,tC] E "no setting" H)
theorem qW:aW ["self","number","kept"] ["self","number"] (aA (mem 29 2)):=⟨rfl,rfl,rfl,by decide +kernel,rfl,by decide +kernel,by decide +kernel⟩
theorem OV (T:Txt K mg){A:en}{tB tC:Addr}(G:jB K mg A)(DB:qa K mg "bills_in_order" (top 17) tB)(DC:qa K mg "credits_in_order" (top 18) tC)(jf:tB≠tC)(hnd:A.i6≠A.tooMuch)(KB:K.In base)(BM:BMain mg base):gY (mw P w mg) P w K mg base A.book "undo" 9 ["self","number"] (Jq A K tB tC):=by
 have zw:uP P w K mg base "done_again" 8 ["kept"] (EC A K tB tC):=zv T G DB DC jf hnd KB BM
 have Dl:gY sk P w K mg base A.book "in_force" 1 ["self","number"] (xN A):=Dj G
 refine qI (k:=8) G.yP G.eL qW (fun _ _ _ _ _ _ us hl=>match us,hl with|[_,_],_=>rfl) (fun vs H Q E h=>?_) (fun f dv A' outer s H vs Q E hr mf h=>?_)
 ·obtain⟨pb,pk,pw,TT,g,n,m,rfl,_⟩:=h
  rfl
 ·obtain⟨pb,pk,pw,TT,g,n,m,rfl,hB,hG,hn,kh,jM,k1,k2,k3⟩:=h
  have hu:=kA hr
  have nd:=qW.nd
  obtain⟨db,hb⟩:=hB.obj
  refine⟨_,(ah (b0 (jN (gi (mZ Dl (hr.mono (by decide)) mM (pv 0) (aa (pv 1) ak))))
(av (jW mf (yT T G) (hr.h.mono (by decide)) rfl rfl))
bw)
(ah (bb (i:=2) nd rfl (Or.inl rfl) (f9 AG (by rfl) T.N5 (by rfl) (aa (cq (pv 0) rfl) ak)))
(ah (bR (Hx (pv 2) (pv 1) ⟨rfl,rfl,rfl,rfl⟩))
(ah (fT (pv 0) (rO zw (hr.mono (by decide)) rfl mf.pass (aa (pv 2) ak)) rfl)
(ah (fT (pv 0) (pv 2) rfl)
(av (ba aS))))))),?_⟩
  refine⟨_,rfl,pb,db,_,rfl,hb,BA _ _,_,rfl,pb,pk,pw,TT,g,n,m,rfl,hB,hG,fun H1 s1=>⟨_,rfl,?_⟩⟩
  refine cQ (fun z=>?_) (fun z=>?_)
  ·have z':GA TT.steps m=false:=by simpa using z
   intro dx nn
   have s2:=s1.trans (aG.new (o:= .xd [("text",.str "no setting")]) nn)
   exact k3 z' A.jL dx _ G.qD s2.frame (bW kh s2) (bW jM s2) (s1.free nn) ag
  have z':GA TT.steps m=true:=by simpa using z
  have Mx:=hB.same s1
  obtain⟨bo,hk,hK⟩:=Mx.kept
  have SK:=s1 _ _ hb
  refine⟨_,rfl,pb,_,db,_,_,rfl,SK,G.eL,G.gK,tO _ _,pk,bo,rfl,hk,fun p2 Y4=>?_⟩
  have s2:=aG.new (o:= .dK bo) Y4
  have xj:upd H1 p2 (.dK bo) p2=some (.dK bo):=ag
  have n2:H p2=none:=s1.free Y4
  have S2:=s1.trans s2
  have Y5:=hK.mono s2.tk
  generalize upd H1 p2 (.dK bo)=H2 at xj S2 Y5
  clear s2
  cases hv:gq bo (Sum.inl m:Key) with
  |none=>
   have:=Bz (rR hK hv)
   rw[z'] at this
   cases this
  |some v=>
  refine⟨_,rfl,p2,rfl,.inl ⟨bo,.inl xj⟩,_,rfl,bo,(Sum.inl m:Key),v,xj,rfl,hv,?_⟩
  have Uo:=(xM (m:=m) Y5).mono (zu (u:= .dK (k8 bo (Sum.inl m:Key))) xj (tQ bo))
  rw[← Jo hG.inc z'] at Uo
  have S3:aG H (upd H2 p2 (.dK (k8 bo (Sum.inl m:Key)))):=S2.dA n2
  have PM:upd H2 p2 (.dK (k8 bo (Sum.inl m:Key))) p2=some (.dK (k8 bo (Sum.inl m:Key))):=ag
  generalize upd H2 p2 (.dK (k8 bo (Sum.inl m:Key)))=H3 at Uo S3 PM
  have Ua:=a7 (cI m) TT.steps
  have OE:=hG.len
  have SO:(cK TT.steps Bk.new).isSome=true:=by rw[hG.w]; rfl
  refine⟨_,rfl,p2,_,_,rfl,PM,Uo,(by omega),NI m TT.steps (mS.refl Bk.new) SO,bW kh S3,bW jM S3,fun S hS qb f' H4 F4 pS pT W4 npw nf4=>?_,fun hS=>?_⟩
  case refine_2=>
   intro C dx H4 hC F4 pS pT nd4 hd4
   refine k2 z' hS C dx H4 hC ((S3.frame (fp:=[tB,tC])).trans F4 (fun x hx=>?_)) pS pT (S3.free nd4) hd4
   simp only[List.mem_cons,List.not_mem_nil,or_false] at hx
   rcases hx with hx|hx|hx
   ·exact .inl (by simp[hx])
   ·exact .inl (by simp[hx])
   ·exact .inr (by rw[hx]; exact n2)
  have off: ∀a o,H3 a=some o->(∀ps,o≠ .mB ps)->a∉[tB,tC]:=fun a o e n1 z=>by
   simp only[List.mem_cons,List.not_mem_nil,or_false] at z
   rcases z with z|z
   ·obtain⟨ps,q⟩:=c8 (bW kh S3)
    rw[z,q] at e
    exact n1 ps (aE e).symm
   ·obtain⟨ps,q⟩:=c8 (bW jM S3)
    rw[z,q] at e
    exact n1 ps (aE e).symm
  have zx:=F4 _ _ (off _ _ (S3 _ _ hb) (fun _ z=>by cases z)) (S3 _ _ hb)
  have Up:=F4 _ _ (off _ _ PM (fun _ z=>by cases z)) PM
  have hK4:=Uo.mono (fun a xs e=>F4 _ _ (off _ _ e (fun _ z=>by cases z)) e)
  have F4':Frame [tB,tC,pb] H H4:=dP ((S3.frame (fp:=[tB,tC])).tr F4) (by simp)
  refine⟨_,rfl,pb,_,db,_,rfl,zx,G.eL,G.fW,(by show 2 < 1000; decide),?_⟩
  rw[OT]
  have e5:upd H4 pb (.ins A.book db (eV pk qb)) pb=some (.ins A.book db (eV pk qb)):=ag
  have SQ:=xJ A.book db pk pw
  have W5:=vj (u:= .ins A.book db (eV pk qb)) W4 zx SQ
  have Y6:p2≠pb:=(aL hb n2).symm
  have PY:upd H4 pb (.ins A.book db (eV pk qb)) p2=some (.dK (k8 bo (Sum.inl m:Key))):=by rw[ay Y6]; exact Up
  have Y7:=hK4.mono (zu (u:= .ins A.book db (eV pk qb)) zx SQ)
  have SR: ∀a∈[pb],∀φ,H4 a≠some (.ext φ):=fun a ha φ e=>by
   rw[ao.mp ha,zx] at e
   cases e
  have nB:tB∉[pb]:=fun z=>by
   obtain⟨ps,q⟩:=c8 pS
   rw[ao.mp z,zx] at q
   cases q
  have nC:tC∉[pb]:=fun z=>by
   obtain⟨ps,q⟩:=c8 pT
   rw[ao.mp z,zx] at q
   cases q
  have Dg:lF (upd H4 pb (.ins A.book db (eV pk qb))) tB:=f7 pS (Frame.upd (fp:=[pb]) (by simp)) nB SR
  have Dh:l6 (upd H4 pb (.ins A.book db (eV pk qb))) tC:=f7 pT (Frame.upd (fp:=[pb]) (by simp)) nC SR
  have F5:Frame [tB,tC,pb] H (upd H4 pb (.ins A.book db (eV pk qb))):=F4'.tr (Frame.upd (by simp))
  generalize upd H4 pb (.ins A.book db (eV pk qb))=H5 at e5 W5 PY Y7 Dg Dh F5
  refine⟨_,rfl,_,rfl,pb,_,db,_,rfl,e5,G.eL,G.gK,(by show 2 < 1000; decide),?_⟩
  rw[OU]
  have MH:=xJ A.book db pk qb
  have SS: ∀a∈[pb],∀φ,H5 a≠some (.ext φ):=fun a ha φ e=>by
   rw[ao.mp ha,e5] at e
   cases e
  refine k1 z' S hS p2 qb f' _ (F5.tr (Frame.upd (by simp))) (f7 Dg (Frame.upd (fp:=[pb]) (by simp)) nB SS) (f7 Dh (Frame.upd (fp:=[pb]) (by simp)) nC SS) ⟨⟨db,ag⟩,⟨_,by rw[ay Y6]; exact PY,Y7.mono (zu e5 MH)⟩,vj W5 e5 MH⟩ n2 (fun b hb=>S3.free (nf4 b hb))
def Dt.v:Dt->V
 | .int i=> .int i
 | .str s=> .str s
 | .bl b=> .bl b
 |_=> .eI
def Dt.flat:Dt->Bool
 | .int _=>true
 | .str _=>true
 | .bl _=>true
 |_=>false
theorem vn {H:Hp}: ∀{ds:List Dt} {xs:List V},ds.all Dt.flat=true->iL H ds xs->xs=ds.map Dt.v
 |[],_,_,h=>ee.mp h
 |d :: ds,_,hf,h=>by
  obtain⟨v,r,rfl,h1,h2⟩:=cf.mp h
  rw[List.all_cons,G0] at hf
  rw[vn hf.2 h2]
  cases d with
  |int i=>rw[eJ.mp h1]; rfl
  |str s=>rw[g9.mp h1]; rfl
  |bl b=>rw[qr.mp h1]; rfl
  |eI=>cases hf.1
  |lst _=>cases hf.1
  |tup _=>cases hf.1
def rV (H:Hp)(pd:Addr):bI->Prop
 | .iB w dy l=> ∃pl,H pd=some (.tup [.str "ages",.str w,.int dy,.ref pl])/\H pl=some (.tup (l.map V.int))
 |d=>H pd=some (.tup (bI.vs d))
theorem ED {H:Hp}{d:bI}{v:V}(h:Rp H d.dt v): ∃pd,v= .ref pd/\rV H pd d:=by
 cases d with
 |iB w dy l=>
  obtain⟨a,xs,rfl,h1,h2⟩:=jQ.mp h
  obtain⟨v1,r1,rfl,e1,h2⟩:=cf.mp h2
  obtain⟨v2,r2,rfl,e2,h2⟩:=cf.mp h2
  obtain⟨v3,r3,rfl,e3,h2⟩:=cf.mp h2
  obtain⟨v4,r4,rfl,e4,h2⟩:=cf.mp h2
  obtain rfl:=ee.mp h2
  obtain rfl:=g9.mp e1
  obtain rfl:=g9.mp e2
  obtain rfl:=eJ.mp e3
  obtain⟨pl,ys,rfl,h4,h5⟩:=jQ.mp e4
  have e5:=vn (by rw[List.all_map]; exact List.all_eq_true.mpr fun _ _=>rfl) h5
  rw[e5,fJ] at h4
  exact⟨a,rfl,pl,h1,h4⟩
 |_=>
  obtain⟨a,xs,rfl,h1,h2⟩:=jQ.mp h
  have e5:=vn (by rfl) h2
  rw[e5] at h1
  exact⟨a,rfl,h1⟩
theorem rV.mono {H H':Hp}{pd:Addr}{d:bI}(h:rV H pd d)(k:cU H H'):rV H' pd d:=by
 cases d with
 |iB w dy l=>
  obtain⟨pl,h1,h2⟩:=h
  exact⟨pl,k _ _ h1,k _ _ h2⟩
 |_=>exact k _ _ h
theorem lG {A:en}{H H':Hp}{pb pk pw:Addr}{T:iZ}{f:eQ}(h:fQ A H pb pk pw T f)(k: ∀a o,H a=some o->(∀ps,o≠ .mB ps)->H' a=some o):fQ A H' pb pk pw T f:=by
 obtain⟨db,hb⟩:=h.obj
 obtain⟨bo,k1,k2⟩:=h.kept
 have kt:cU H H':=fun a xs e=>k _ _ e (fun _ z=>by cases z)
 exact⟨⟨db,k _ _ hb (fun _ z=>by cases z)⟩,⟨bo,k _ _ k1 (fun _ z=>by cases z),k2.mono kt⟩,EB h.wk (fun a xs e=>k _ _ e (fun _ z=>by cases z)) (fun a C dx fs _ e=>k _ _ e (fun _ z=>by cases z)) kt⟩
theorem qX {H H':Hp}{fp:List Addr}{a:Addr}{o:HO}(F:Frame fp H H')(ht: ∀t∈fp,∃ps,H t=some (.mB ps))(e:H a=some o)(n: ∀ps,o≠ .mB ps):H' a=some o:=F _ _ (fun z=>by
 obtain⟨ps,q⟩:=ht a z
 rw[q] at e
 exact n ps (aE e).symm) e
theorem LL {d:bI}(h:d.tells=true):bI.word d≠"owed"/\bI.word d≠"free"/\bI.word d≠"ages"/\bI.word d≠"undo":=by
 cases d with
 |dZ _ _ _ _=>show("bill":Str)≠"owed"/\("bill":Str)≠"free"/\("bill":Str)≠"ages"/\("bill":Str)≠"undo"; decide +kernel
 |qv _ _ _=>show("pay":Str)≠"owed"/\("pay":Str)≠"free"/\("pay":Str)≠"ages"/\("pay":Str)≠"undo"; decide +kernel
 |note _ _ _=>show("note":Str)≠"owed"/\("note":Str)≠"free"/\("note":Str)≠"ages"/\("note":Str)≠"undo"; decide +kernel
 |set _ _ _=>show("set":Str)≠"owed"/\("set":Str)≠"free"/\("set":Str)≠"ages"/\("set":Str)≠"undo"; decide +kernel
 |fO _=>show("sweep":Str)≠"owed"/\("sweep":Str)≠"free"/\("sweep":Str)≠"ages"/\("sweep":Str)≠"undo"; decide +kernel
 |iP _=>cases h
 |ask _ _ _=>cases h
 |iB _ _ _=>cases h
def BD (A:en)(tB tC:Addr):Sp:=fun vs H Q _=> ∃(pb pd pk pw:Addr) (T:iZ) (f:eQ) (n:Nat) (d:bI),vs=[.ref pb,.int n,.ref pd]/\fQ A H pb pk pw T f/\Good T n/\n<=59/\lF H tB/\l6 H tC/\rV H pd d/\d.ok/\
 ∀v tR qb f' H',Frame (tB :: tC :: pb :: pk :: f.fp) H H'->lF H' tB->l6 H' tC->fQ A H' pb tR qb (gp T n d).2 f'->(∀x∈tR :: f'.fp,x∈pk :: f.fp∨H x=none)->zp H' (fun D=>H D=none/\D∉tR :: f'.fp) (gp T n d).1 v->Q v H'
theorem qY:aW ["book","number","deed","kind","refusal"] ["book","number","deed"] (aA (top 35)):=⟨rfl,rfl,rfl,by decide +kernel,rfl,by decide +kernel,by decide +kernel⟩
theorem BE (T:Txt K mg){A:en}{tB tC:Addr}(G:jB K mg A)(DB:qa K mg "bills_in_order" (top 17) tB)(DC:qa K mg "credits_in_order" (top 18) tC)(jf:tB≠tC)(hnd:A.i6≠A.tooMuch)(KB:K.In base)(BM:BMain mg base):fz P w K mg base "answer_of" 10 ["book","number","deed"] (BD A tB tC):=by
 have OW:gY (mw P w mg) P w K mg base A.book "undo" 9 ["self","number"] (Jq A K tB tC):=OV T G DB DC jf hnd KB BM
 have W7:gY (mw P w mg) P w K mg base A.book "do" 8 ["self","number","deed"] (SJ A K tB tC):=WY T G DB DC jf KB BM
 have rQ:fz P w K mg base "owed_at" 5 ["work","who","day"] (C4 A tB):=xH T G DB KB BM
 have GD:fz P w K mg base "free_at" 5 ["work","who","day"] (IU A tC):=Gr T G DC KB BM
 have GF:fz P w K mg base "ages_at" 6 ["work","who","day","limits"] (IV A tB):=Gs T G DB KB BM
 refine T.Ax.lg (k:=9) qY (fun _ _ _ _ _ _ us hl=>match us,hl with|[_,_,_],_=>rfl) (fun vs H Q E h=>?_) (fun f dv A' outer s H vs Q E hr h=>?_)
 ·obtain⟨pb,pd,pk,pw,TT,g,n,d,rfl,_⟩:=h
  rfl
 ·obtain⟨pb,pd,pk,pw,TT,g,n,d,rfl,hB,hG,hn,kh,jM,hd,cH,k⟩:=h
  have nd:=qY.nd
  refine⟨_,(ah (bb (i:=3) nd rfl (Or.inl rfl) (aO bg (pv 2) aj (fun _ _=>rfl)))
(ah (b0 (a9 dr (pv 3) aS (bc _))
(av (ba (cL rQ (hr.mono (by decide)) rfl (aa (cq (pv 0) rfl) (aa (aO bg (pv 2) aj (fun _ _=>rfl)) (aa (aO bg (pv 2) aj (fun _ _=>rfl)) ak))))))
bw)
(ah (b0 (a9 dr (pv 3) aS (bc _))
(av (ba (cL GD (hr.mono (by decide)) rfl (aa (cq (pv 0) rfl) (aa (aO bg (pv 2) aj (fun _ _=>rfl)) (aa (aO bg (pv 2) aj (fun _ _=>rfl)) ak))))))
bw)
(ah (b0 (a9 dr (pv 3) aS (bc _))
(av (ba (cL GF (hr.mono (by decide)) rfl (aa (cq (pv 0) rfl) (aa (aO bg (pv 2) aj (fun _ _=>rfl)) (aa (aO bg (pv 2) aj (fun _ _=>rfl)) (aa (aO bg (pv 2) aj (fun _ _=>rfl)) ak)))))))
bw)
(av (FK (i:=4) rfl rfl rfl nd rfl rfl rfl G.fV G.CM (fun xe pn E hx=>(ah (b0 (a9 dr (pv 3) aS (bc _))
(av (ba (mZ OW (hr.mono (by decide)) hx (pv 0) (aa (aO (tJ (K:=K) rfl) (pv 2) aj (fun _ _=>rfl)) ak))))
bw)
(av (ba (mZ W7 (hr.mono (by decide)) hx (pv 0) (aa (pv 1) (aa (pv 2) ak))))))))))))),?_⟩
  obtain⟨db,hb⟩:=hB.obj
  have hW:=hB.wk
  have Jr: ∀t∈[tB,tC],∃ps,H t=some (.mB ps):=fun t z=>by
   simp only[List.mem_cons,List.not_mem_nil,or_false] at z
   rcases z with rfl|rfl
   ·exact c8 kh
   ·exact c8 jM
  have big: ∀x∈[tB,tC],x∈tB :: tC :: pb :: pk :: g.fp:=fun x z=>by
   simp only[List.mem_cons,List.not_mem_nil,or_false] at z
   rcases z with rfl|rfl <;> simp
  have SU: ∀a∈[tB],∀φ,H a≠some (.ext φ):=fun a ha φ e=>by
   obtain⟨ps,q⟩:=c8 kh
   rw[ao.mp ha,q] at e
   cases e
  have W8: ∀a∈[tC],∀φ,H a≠some (.ext φ):=fun a ha φ e=>by
   obtain⟨ps,q⟩:=c8 jM
   rw[ao.mp ha,q] at e
   cases e
  obtain⟨bo,hk,hK⟩:=hB.kept
  have Mp: ∀D,H D=none->D∉pk :: g.fp:=fun D e z=>by
   rcases aw.mp z with z|z
   ·rw[z,hk] at e
    cases e
   ·exact hW.new e z
  have wf:=hG.wf (by omega:n<=60)
  by_cases ht:d.tells=true
  ·have E4:H pd=some (.tup (bI.vs d)):=by cases d <;> first|exact hd|cases ht
   obtain⟨r,er⟩:=tN (.inl ht)
   have T8:H pd=some (.tup (.str (bI.word d) :: r)):=by rw[← er]; exact E4
   obtain⟨w1,w2,w3,w4⟩:=LL ht
   rw[uZ ht] at k
   refine⟨_,rfl,pd,_,_,.str (bI.word d),rfl,rfl,cM.of T8,Jk _ _,?_⟩
   refine⟨_,rfl,rfl,false,jE w1,cv ?_⟩
   refine⟨_,rfl,rfl,false,jE w2,cv ?_⟩
   refine⟨_,rfl,rfl,false,jE w3,cv ?_⟩
   refine⟨_,rfl,rfl,false,jE w4,cv ⟨_,rfl,pb,db,_,rfl,hb,SI _ _,_,rfl,_,rfl,pb,pd,pk,pw,TT,g,n,d,rfl,hB,hG,hn,kh,jM,E4,ht,fun oE v f1 H1 e1 F1 jt ka Mx hA=>?_,fun oE=>?_⟩⟩
   ·rw[a8 oE] at k
    refine k v pk pw f1 H1 (dP F1 fun x z=>?_) jt ka Mx (by rw[e1]; exact fun x hx=> .inl hx) (hA.keep (fun D xs o e=>⟨⟨o,by rw[e1]; exact Mp D o⟩,e⟩) fun _ _ e=>e)
    rcases aw.mp z with z|z
    ·simp[z]
    ·rcases aw.mp z with z|z
     ·simp[z]
     ·rcases aw.mp z with z|z
      ·simp[z]
      ·simp[z]
   ·rw[aQ oE] at k
    intro C hC _ dx H1 s1 Iz BV
    exact⟨C,dx,_,rfl,rfl,hC,BV,k _ pk pw g H1 s1.frame (bW kh s1) (bW jM s1) (hB.same s1) (fun x hx=> .inl hx) rfl⟩
  cases d with
  |dZ _ _ _ _=>exact absurd rfl ht
  |qv _ _ _=>exact absurd rfl ht
  |note _ _ _=>exact absurd rfl ht
  |set _ _ _=>exact absurd rfl ht
  |fO _=>exact absurd rfl ht
  |ask o wh dy=>
   have hd:H pd=some (.tup (bI.vs (.ask o wh dy))):=hd
   cases o with
   |true=>
    refine⟨_,rfl,pd,_,_,.str "owed",rfl,rfl,cM.of hd,rfl,?_⟩
    refine⟨_,rfl,rfl,true,zN _,fH ⟨_,rfl,pb,_,db,_,_,rfl,hb,G.eL,G.fW,qR _ _,_,rfl,pd,_,_,.str wh,rfl,rfl,cM.of hd,rfl,_,rfl,pd,_,_,.int dy,rfl,rfl,cM.of hd,rfl,pw,TT.bk,g,n,wh,dy,rfl,hW,wf,(by omega),kh,fun D ms H1 F1 jt nD hD hP=>?_⟩⟩
    have F2:Frame [tB,tC] H H1:=dP F1 (by simp)
    exact k _ pk pw g H1 (dP F2 big) jt (f7 jM F1 (by simpa using jf.symm) SU) (lG hB fun a o e z=>qX F2 Jr e z) (fun x hx=> .inl hx) ⟨D,ms,rfl,⟨nD,Mp D nD⟩,hD,hP⟩
   |false=>
    refine⟨_,rfl,pd,_,_,.str "free",rfl,rfl,cM.of hd,rfl,?_⟩
    refine⟨_,rfl,rfl,false,jE (show("free":Str)≠"owed" by decide +kernel),cv ?_⟩
    refine⟨_,rfl,rfl,true,zN _,fH ⟨_,rfl,pb,_,db,_,_,rfl,hb,G.eL,G.fW,qR _ _,_,rfl,pd,_,_,.str wh,rfl,rfl,cM.of hd,rfl,_,rfl,pd,_,_,.int dy,rfl,rfl,cM.of hd,rfl,pw,TT.bk,g,n,wh,dy,rfl,hW,wf,(by omega),jM,fun D ms H1 F1 ka nD hD hP=>?_⟩⟩
    have F2:Frame [tB,tC] H H1:=dP F1 (by simp)
    exact k _ pk pw g H1 (dP F2 big) (f7 kh F1 (by simpa using jf) W8) ka (lG hB fun a o e z=>qX F2 Jr e z) (fun x hx=> .inl hx) ⟨D,ms,rfl,⟨nD,Mp D nD⟩,hD,hP⟩
  |iB wh dy dh=>
   obtain⟨pl,hd,iO⟩:=hd
   refine⟨_,rfl,pd,_,_,.str "ages",rfl,rfl,cM.of hd,rfl,?_⟩
   refine⟨_,rfl,rfl,false,jE (show("ages":Str)≠"owed" by decide +kernel),cv ?_⟩
   refine⟨_,rfl,rfl,false,jE (show("ages":Str)≠"free" by decide +kernel),cv ?_⟩
   refine⟨_,rfl,rfl,true,zN _,fH ⟨_,rfl,pb,_,db,_,_,rfl,hb,G.eL,G.fW,qR _ _,_,rfl,pd,_,_,.str wh,rfl,rfl,cM.of hd,rfl,_,rfl,pd,_,_,.int dy,rfl,rfl,cM.of hd,rfl,_,rfl,pd,_,_,.ref pl,rfl,rfl,cM.of hd,rfl,pw,pl,TT.bk,g,n,wh,dy,dh,rfl,hW,wf,(by omega),kh,iO,cH.1,fun D H1 F1 jt nD hD=>?_⟩⟩
   have F2:Frame [tB,tC] H H1:=dP F1 (by simp)
   exact k _ pk pw g H1 (dP F2 big) jt (f7 jM F1 (by simpa using jf.symm) SU) (lG hB fun a o e z=>qX F2 Jr e z) (fun x hx=> .inl hx) ⟨D,rfl,⟨nD,Mp D nD⟩,hD⟩
  |iP m=>
   have hd:H pd=some (.tup (bI.vs (.iP m))):=hd
   refine⟨_,rfl,pd,_,_,.str "undo",rfl,rfl,cM.of hd,rfl,?_⟩
   refine⟨_,rfl,rfl,false,jE (show("undo":Str)≠"owed" by decide +kernel),cv ?_⟩
   refine⟨_,rfl,rfl,false,jE (show("undo":Str)≠"free" by decide +kernel),cv ?_⟩
   refine⟨_,rfl,rfl,false,jE (show("undo":Str)≠"ages" by decide +kernel),cv ?_⟩
   have W9:gp TT n (.iP m)=if(TT.steps.filter (cI m)).length=TT.steps.length then(JJ.txt "no setting",TT) else
     match cK (TT.steps.filter (cI m)) Bk.new with
     |none=>(.txt "needed",TT)
     |some S=>(.txt "undone",⟨TT.steps.filter (cI m),S⟩):=rfl
   refine⟨_,rfl,rfl,true,zN _,fH ⟨_,rfl,pb,db,_,rfl,hb,LK _ _,_,rfl,pd,_,_,.int m,rfl,rfl,cM.of hd,rfl,pb,pk,pw,TT,g,n,m,rfl,hB,hG,hn,kh,jM,fun hF S hS tR qb f' H1 F1 jt ka Mx nk nf=>?_,fun hF hS=>?_,fun hF=>?_⟩⟩
   ·have T6: ¬ (TT.steps.filter (cI m)).length=TT.steps.length:=fun z=>by
     rw[(pU _ _).mp z] at hF
     cases hF
    rw[W9,aQ T6,hS] at k
    refine k _ tR qb f' H1 (dP F1 (fun x z=>?_)) jt ka Mx (fun x hx=> .inr ?_) rfl
    ·simp only[List.mem_cons,List.not_mem_nil,or_false] at z
     rcases z with rfl|rfl|rfl <;> simp
    ·rcases aw.mp hx with hx|hx
     ·rw[hx]; exact nk
     ·exact nf x hx
   ·have T6: ¬ (TT.steps.filter (cI m)).length=TT.steps.length:=fun z=>by
     rw[(pU _ _).mp z] at hF
     cases hF
    rw[W9,aQ T6,hS] at k
    intro C dx H1 hC F1 jt ka Iz BV
    exact⟨C,dx,_,rfl,rfl,hC,BV,k _ pk pw g H1 (dP F1 big) jt ka (lG hB fun a o e z=>qX F1 Jr e z) (fun x hx=> .inl hx) rfl⟩
   ·rw[W9,a8 ((pU _ _).mpr hF)] at k
    intro C dx H1 hC F1 jt ka Iz BV
    exact⟨C,dx,_,rfl,rfl,hC,BV,k _ pk pw g H1 (dP F1 big) jt ka (lG hB fun a o e z=>qX F1 Jr e z) (fun x hx=> .inl hx) rfl⟩
theorem xO (d:bI): ∀(l:List bI) (T:iZ) (n:Nat),gU (l ++ [d]) T n=((gU l T n).1 ++ [(gp (gU l T n).2 ((n + l.length:Nat):Int) d).1],(gp (gU l T n).2 ((n + l.length:Nat):Int) d).2)
 |[],T,n=>rfl
 |e :: l,T,n=>by
  show((gp T n e).1 :: (gU (l ++ [d]) (gp T n e).2 (n + 1)).1,(gU (l ++ [d]) (gp T n e).2 (n + 1)).2)=_
  rw[xO d l,show n + 1 + l.length=n + (e :: l).length by rw[cu]; omega]
  rfl
theorem xP {ds:List bI}{i:Nat}(hi:i < ds.length):gU (ds.take (i + 1)) iZ.new 0=((gU (ds.take i) iZ.new 0).1 ++ [(gp (gU (ds.take i) iZ.new 0).2 (i:Int) ds[i]).1],(gp (gU (ds.take i) iZ.new 0).2 (i:Int) ds[i]).2):=by
 rw[ma hi,xO,bD,Nat.zero_add,Nat.min_eq_left (dB hi)]
theorem GG {A:en}{H:Hp}{pb pk pw pt:Addr}{T:iZ}{f:eQ}{ws:List V}{o:HO}(h:fQ A H pb pk pw T f)(e:H pt=some (.lst ws))(n:pt∉f.fp):fQ A (upd H pt o) pb pk pw T f:=by
 obtain⟨db,hb⟩:=h.obj
 obtain⟨bo,k1,k2⟩:=h.kept
 have kt:cU H (upd H pt o):=gx e
 have ki: ∀{a C dx:Addr} {gs:List (Str×V)},H a=some (.ins C dx gs)->upd H pt o a=some (.ins C dx gs):=fun{a C dx gs} z=>by rw[ay (md z e (by intro q; cases q))]; exact z
 have kl: ∀p∈f.fp,∀xs,H p=some (.lst xs)->upd H pt o p=some (.lst xs):=fun p hp xs z=>by rw[ay (fun(q:p=pt)=>n (q▸hp))]; exact z
 obtain⟨dw,hw⟩:=h.wk.obj
 obtain⟨ms,m1,m2⟩:=h.wk.hm
 have hW:=h.wk
 exact⟨⟨db,ki hb⟩,⟨bo,by rw[ay (md k1 e (by intro q; cases q))]; exact k1,k2.mono kt⟩,
  ⟨⟨dw,ki hw⟩,kl _ (by simp[eQ.fp]) _ hW.hb,kl _ (by simp[eQ.fp]) _ hW.hc,kl _ (by simp[eQ.fp]) _ hW.hl,kl _ (by simp[eQ.fp]) _ hW.hf,⟨ms,kl _ (by simp[eQ.fp]) _ m1,m2.mono kt⟩,hW.rb.keep fun _ _ _ z=>ki z,hW.rc.keep fun _ _ _ z=>ki z,hW.nd⟩⟩
theorem EE {A:en}{H:Hp}{pb pk pw tB tC a:Addr}{T:iZ}{f:eQ}(h:fQ A H pb pk pw T f)(kh:lF H tB)(jM:l6 H tC)(z:a∈tB :: tC :: pb :: pk :: f.fp):(∃ps,H a=some (.mB ps))∨(∃C dx fs,H a=some (.ins C dx fs))∨(∃bo,H a=some (.dK bo))∨(∃xs,H a=some (.lst xs))/\a∈f.fp:=by
 rcases aw.mp z with rfl|z
 ·exact .inl (c8 kh)
 rcases aw.mp z with rfl|z
 ·exact .inl (c8 jM)
 rcases aw.mp z with rfl|z
 ·obtain⟨db,hb⟩:=h.obj
  exact .inr (.inl ⟨_,_,_,hb⟩)
 rcases aw.mp z with rfl|z
 ·obtain⟨bo,k1,_⟩:=h.kept
  exact .inr (.inr (.inl ⟨_,k1⟩))
 ·exact .inr (.inr (.inr ⟨h.wk.lists a z,z⟩))
theorem Js {A:en}{H H':Hp}{pb pk pw tB tC:Addr}{T:iZ}{f:eQ}(h:fQ A H pb pk pw T f)(kh:lF H tB)(jM:l6 H tC)(F:Frame (tB :: tC :: pb :: pk :: f.fp) H H'):cU H H':=fun a xs e=>F _ _ (fun z=>by
 rcases EE h kh jM z with⟨_,q⟩|⟨_,_,_,q⟩|⟨_,q⟩|⟨⟨_,q⟩,_⟩ <;> (rw[e] at q; cases q)) e
theorem Dm {A:en}{H H':Hp}{pb pk pw tB tC a:Addr}{T:iZ}{f:eQ}{xs:List V}(h:fQ A H pb pk pw T f)(kh:lF H tB)(jM:l6 H tC)(F:Frame (tB :: tC :: pb :: pk :: f.fp) H H')(e:H a=some (.lst xs))(n:a∉pk :: f.fp):H' a=some (.lst xs):=F _ _ (fun z=>by
 rcases EE h kh jM z with⟨_,q⟩|⟨_,_,_,q⟩|⟨_,q⟩|⟨_,q⟩
 ·rw[e] at q; cases q
 ·rw[e] at q; cases q
 ·rw[e] at q; cases q
 ·exact n (aU _ q)) e
def EF (A:en)(tB tC:Addr):Sp:=fun vs H Q _=> ∃(pb pk pw ps:Addr) (f:eQ) (ds:List bI) (ms:List V),vs=[.ref pb,.ref ps]/\fQ A H pb pk pw iZ.new f/\H ps=some (.lst ms)/\ps∉f.fp/\gW H ds ms/\ds.length<=60/\(∀d∈ds,d.ok)/\lF H tB/\l6 H tC/\
 ∀pt ws tR qb f' H',Frame (tB :: tC :: pb :: pk :: f.fp) H H'->lF H' tB->l6 H' tC->H pt=none->H' pt=some (.lst ws)->Paired (zp H' (fun D=>D≠pt)) (gU ds iZ.new 0).1 ws->fQ A H' pb tR qb (gU ds iZ.new 0).2 f'->Q (.ref pt) H'
theorem oW:aW ["book","deeds","told","number","deed"] ["book","deeds"] (aA (top 34)):=⟨rfl,rfl,rfl,by decide +kernel,rfl,by decide +kernel,by decide +kernel⟩
theorem gW.get {H:Hp}{i:Nat}: ∀{ds:List bI} {ms:List V},gW H ds ms-> ∀{d:bI},ds[i]? =some d-> ∃v,ms[i]? =some v/\Rp H d.dt v:=fun{ds ms} h {d} e=>iL.get h (by rw[aD,e]; rfl)
theorem zy (T:Txt K mg){A:en}{tB tC:Addr}(G:jB K mg A)(DB:qa K mg "bills_in_order" (top 17) tB)(DC:qa K mg "credits_in_order" (top 18) tC)(jf:tB≠tC)(hnd:A.i6≠A.tooMuch)(KB:K.In base)(BM:BMain mg base):fz P w K mg base "answers_in" 11 ["book","deeds"] (EF A tB tC):=by
 have BF:fz P w K mg base "answer_of" 10 ["book","number","deed"] (BD A tB tC):=BE T G DB DC jf hnd KB BM
 refine T.yz.lg (k:=10) oW (fun _ _ _ _ _ _ us hl=>match us,hl with|[_,_],_=>rfl) (fun vs H Q E h=>?_) (fun f dv A' outer s H vs Q E hr h=>?_)
 ·obtain⟨pb,pk,pw,ps,g,ds,ms,rfl,_⟩:=h
  rfl
 ·obtain⟨pb,pk,pw,ps,g,ds,ms,rfl,hB,mP,Er,Jt,hl,cH,kh,jM,k⟩:=h
  have nd:=oW.nd
  refine⟨_,(ah (bb (i:=2) nd rfl (Or.inl rfl) (b9 ak))
(ah (fM bY rfl (qp rfl T.ji (aa (pv 1) ak)) (iW rfl (cw (bG (i:=3) nd rfl (Or.inl rfl)) (cw (bG (i:=4) nd rfl (Or.inl rfl)) gJ)))
(av (bR (fq aJ aH aI bZ (pv 2) (aa (cL BF (hr.mono (by decide)) rfl (aa (pv 0) (aa (pv 3) (aa (pv 4) ak)))) ak)))))
(av (ba (pv 2))))),?_⟩
  refine⟨bF _,fun pt nt=>?_⟩
  have s1:=aG.new (o:= .lst []) nt
  have hlen:=gW.length Jt
  obtain⟨bo,hk,_⟩:=hB.kept
  have Y8:ps∉pk :: g.fp:=fun z=>by
   rcases aw.mp z with z|z
   ·rw[z,hk] at mP
    cases mP
   ·exact Er z
  have ntk:pt∉pk :: g.fp:=fun z=>by
   rcases aw.mp z with z|z
   ·rw[z,hk] at nt
    cases nt
   ·exact hB.wk.new nt z
  refine⟨_,rfl,ps,rfl,⟨_,bQ.of (s1 _ _ mP)⟩,?_⟩
  refine mN (K:=K) (a:=ps) (xs:=ms) (fun i σ H2=> ∃(x3 x4:Option V) (tR qb:Addr) (f':eQ) (ws:List V),σ=[some (.ref pb),some (.ref ps),some (.ref pt),x3,x4]/\Frame (tB :: tC :: pb :: pk :: g.fp) H H2/\H2 pt=some (.lst ws)/\fQ A H2 pb tR qb (gU (ds.take i) iZ.new 0).2 f'/\Good (gU (ds.take i) iZ.new 0).2 i/\(∀x∈tR :: f'.fp,(x∈pk :: g.fp∨H x=none)/\x≠pt)/\lF H2 tB/\l6 H2 tC/\Paired (zp H2 (fun D=>D≠pt/\D∉tR :: f'.fp)) (gU (ds.take i) iZ.new 0).1 ws)
   ⟨none,none,pk,pw,g,[],rfl,s1.frame,ag,hB.same s1,Good.new,fun x hx=>⟨.inl hx,fun z=>ntk (z▸hx)⟩,bW kh s1,bW jM s1,.nil⟩ (fun i σ H2 _ ⟨_,_,_,_,_,_,_,f2,_⟩=>bQ.of (Dm hB kh jM f2 mP Y8)) ?_ ?_
  ·rintro i x p σ H2 hx hp ⟨x3,x4,tR,qb,f',ws,rfl,F2,BX,Eo,LD,Uq,jl,kr,LA⟩
   have hi:i < ds.length:=by have:=(au.mp hx).1; omega
   have oP:=af hi
   obtain⟨v',hv,V0⟩:=gW.get Jt oP
   rw[hx] at hv
   obtain rfl:x=v':=aE hv
   obtain⟨pd,rfl,hd⟩:=ED V0
   have hd2:=hd.mono (Js hB kh jM F2)
   have LM:=cH _ (bO hi)
   have Ur:=xP hi
   have oR:Good (gp (gU (ds.take i) iZ.new 0).2 (i:Int) ds[i]).2 (i + 1):=LD.step ds[i]
   rw[Ur]
   generalize ds[i]=d at hd2 LM oR
   have BR:(gU (ds.take i) iZ.new 0).1.length<=100:=by rw[sy,bD]; omega
   generalize gU (ds.take i) iZ.new 0=R at Eo LD LA oR BR
   have s3:=aG.new (o:= .tup [.int i,.ref pd]) hp
   refine⟨p,_,rfl,cM.of ag,rfl,_,_,rfl,_,_,rfl,rfl,?_⟩
   have F3:=F2.cZ s3
   have Ju:=s3 _ _ BX
   have Jv:=Eo.same s3
   have qT:lF _ tB:=bW jl s3
   have qU:l6 _ tC:=bW kr s3
   have MB:=hd2.mono s3.tk
   have Xa:Paired (zp (upd H2 p (.tup [.int i,.ref pd])) (fun D=>D≠pt/\D∉tR :: f'.fp)) R.1 ws:=Paired.iV LA fun _ _ z=>z.keep (fun D xs o e=>⟨o,s3 _ _ e⟩) s3.tk
   generalize upd H2 p (.tup [.int i,.ref pd])=H3 at F3 Ju Jv qT qU MB Xa
   have DO:=aX Xa
   refine⟨_,rfl,.inl ⟨rfl,_,bQ.of Ju⟩,_,rfl,_,rfl,_,rfl,pb,pd,tR,qb,R.2,f',i,d,rfl,Jv,LD,(by omega),qT,qU,MB,LM,fun v Y9 pw2 f2 H4 F4 pS pT hB4 jJ hA4=>?_⟩
   have Xb:pt∉tR :: f'.fp:=fun z=>(Uq pt z).2 rfl
   have vg:=Dm Jv qT qU F4 Ju Xb
   have kt4:=Js Jv qT qU F4
   refine⟨pt,ws,v,rfl,rfl,vg,br (by omega),?_⟩
   have SV: ∀x∈Y9 :: f2.fp,(x∈pk :: g.fp∨H x=none)/\x≠pt:=fun x hx=>by
    rcases jJ x hx with h1|h1
    ·exact Uq x h1
    ·refine⟨?_,fun z=>by rw[z,Ju] at h1; cases h1⟩
     by_cases q:x∈pk :: g.fp
     ·exact .inl q
     ·right
      cases e:H x with
      |none=>rfl
      |some o=>
       exfalso
       by_cases q2:x∈tB :: tC :: pb :: pk :: g.fp
       ·rcases aw.mp q2 with q2|q2
        ·obtain⟨_,z⟩:=c8 qT
         rw[← q2,h1] at z
         cases z
        rcases aw.mp q2 with q2|q2
        ·obtain⟨_,z⟩:=c8 qU
         rw[← q2,h1] at z
         cases z
        rcases aw.mp q2 with q2|q2
        ·obtain⟨_,z⟩:=Jv.obj
         rw[← q2,h1] at z
         cases z
        exact q q2
       ·have z:=F3 _ _ q2 e
        rw[h1] at z
        cases z
   have Xc:pt∉f2.fp:=fun z=>(SV pt (aU _ z)).2 rfl
   have SW: ∀a∈[pt],∀φ,H4 a≠some (.ext φ):=fun a ha φ e=>by
    rw[ao.mp ha,vg] at e
    cases e
   have nB:tB∉[pt]:=fun z=>by
    obtain⟨_,q⟩:=c8 pS
    rw[ao.mp z,vg] at q
    cases q
   have nC:tC∉[pt]:=fun z=>by
    obtain⟨_,q⟩:=c8 pT
    rw[ao.mp z,vg] at q
    cases q
   have F34:Frame (tB :: tC :: pb :: pk :: g.fp) H (upd H4 pt (.lst (ws ++ [v]))):=(F3.trans F4 fun x hx=>by
    rcases aw.mp hx with hx|hx
    ·exact .inl (by simp[hx])
    rcases aw.mp hx with hx|hx
    ·exact .inl (by simp[hx])
    rcases aw.mp hx with hx|hx
    ·exact .inl (by simp[hx])
    rcases(Uq x hx).1 with h1|h1
    ·exact .inl (by simp[List.mem_cons.mp h1])
    ·exact .inr h1).trans (Frame.upd (fp:=[pt]) (by simp)) (fun x hx=> .inr (by rw[List.mem_singleton.mp hx]; exact nt))
   refine⟨_,_,Y9,pw2,f2,ws ++ [v],rfl,F34,ag,GG hB4 vg Xc,oR,SV,f7 pS (Frame.upd (fp:=[pt]) (by simp)) nB SW,f7 pT (Frame.upd (fp:=[pt]) (by simp)) nC SW,?_⟩
   have Za:=gx (o:= .lst (ws ++ [v])) vg
   refine cV (Paired.iV Xa fun _ _ z=>z.keep (fun D xs o e=>?_) (kt4.trans Za)) (hA4.keep (fun D xs o e=>?_) Za)
   ·have e4:=Dm Jv qT qU F4 e o.2
    refine⟨⟨o.1,fun q=>?_⟩,by rw[ay o.1]; exact e4⟩
    rcases jJ D q with h1|h1
    ·exact o.2 h1
    ·rw[e] at h1
     cases h1
   ·have nD:D≠pt:=fun z=>by
     have:=o.1
     rw[z,Ju] at this
     cases this
    exact⟨⟨nD,o.2⟩,by rw[ay nD]; exact e⟩
  ·rintro σ H2 ⟨x3,x4,tR,qb,f',ws,rfl,F2,BX,Eo,LD,Uq,jl,kr,LA⟩
   rw[← hlen,bf] at LA Eo
   refine⟨_,rfl,k pt ws tR qb f' H2 F2 jl kr nt BX (Paired.iV LA fun _ _ z=>z.keep (fun D xs o e=>⟨o.1,e⟩) fun _ _ e=>e) Eo⟩
def OX (K:PySem.W.Frag):Sp:=fun vs H Q _=> ∃(a:Addr) (xs:List V) (m b:Int),vs=[.ref a,.int m,.int b]/\bQ K H a xs/\xs.length<=63/\Q (.int m) H
def EG:Sp:=fun vs H Q _=> ∃d v,vs=[v]/\Rp H d v/\Q (.bl (ZY d)) H
theorem zz:aW ["_law_script","_law_most","_law_bound"] ["_law_script","_law_most","_law_bound"] (aA (top 43)):=⟨rfl,rfl,rfl,by decide +kernel,rfl,by decide +kernel,by decide +kernel⟩
theorem BG (T:Txt K mg):fz P w K mg base "_law_room" 1 ["_law_script","_law_most","_law_bound"] (OX K):=by
 refine T.Az.lg (k:=0) zz (fun _ _ _ _ _ _ us hl=>match us,hl with|[_,_,_],_=>rfl) (fun vs H Q E h=>?_) (fun f dv A outer s H vs Q E hr h=>?_)
 ·obtain⟨a,xs,m,b,rfl,_⟩:=h
  rfl
 ·obtain⟨a,xs,m,b,rfl,hS,hz,k⟩:=h
  refine⟨_,(ah (b0 (a9 ju (bu bz (by rfl) T.eY bB (aa (pv 0) ak)) aj (bc _))
   (av (ba (pv 2)))
   bw)
   (av (ba (pv 1)))),?_⟩
  refine⟨_,rfl,a,xs,rfl,.inl hS,_,_,rfl,rfl,_,rfl,?_⟩
  refine cQ (fun c=>?_) (fun c=>?_)
  ·have c':(63:Int) < (xs.length:Int):=a0 c
   omega
  ·exact⟨_,rfl,k⟩
theorem wJ:aW ["_law_found"] ["_law_found"] (aA (top 45)):=⟨rfl,rfl,rfl,by decide +kernel,rfl,by decide +kernel,by decide +kernel⟩
theorem zA (T:Txt K mg):fz P w K mg base "_law_whole" 1 ["_law_found"] EG:=by
 refine T.yA.lg (k:=0) wJ (fun _ _ _ _ _ _ us hl=>match us,hl with|[_],_=>rfl) (fun vs H Q E h=>?_) (fun f dv A outer s H vs Q E hr h=>?_)
 ·obtain⟨d,v,rfl,_⟩:=h
  rfl
 ·obtain⟨d,v,rfl,r,k⟩:=h
  refine⟨_,(av (ba (pj (bu fB (by rfl) T.dN eX (aa (pv 0) (aa (g6 (v:= .ty "int") (by rfl) T.xx boot_int rfl) ak))) (mD (M5 (bu fB (by rfl) T.dN eX (aa (pv 0) (aa (g6 (v:= .ty "bool") (by rfl) T.N4 boot_bool rfl) ak)))))))),?_⟩
  refine⟨_,rfl,v,_,_,X2 d,rfl,r.ty,QW d,_,rfl,?_⟩
  cases d with
  |int i=>exact fH ⟨_,rfl,v,_,_,false,rfl,r.ty,Mi (.int i),_,rfl,k⟩
  |bl i=>exact fH ⟨_,rfl,v,_,_,true,rfl,r.ty,Mi (.bl i),_,rfl,k⟩
  |eI=>exact cv k
  |str x=>exact cv k
  |tup ds=>exact cv k
  |lst ds=>exact cv k
def LN:Sp:=fun vs H Q _=> ∃d v1 v2,vs=[v1,v2]/\Rp H d v1/\Rp H d v2/\d.size<=100000/\d.plain=true/\ ∀H',aG H H'->Q (.bl true) H'
theorem oX:aW ["_law_found","_law_due","_law_todo","_law_pair","_law_k"] ["_law_found","_law_due"] (aA (top 46)):=⟨rfl,rfl,rfl,by decide +kernel,rfl,by decide +kernel,by decide +kernel⟩
theorem zB (T:Txt K mg):fz P w K mg base "_law_alike" 2 ["_law_found","_law_due"] LN:=by
 have zC:fz P w K mg base "_law_whole" 1 ["_law_found"] EG:=zA T
 refine T.yB.lg (k:=1) oX (fun _ _ _ _ _ _ us hl=>match us,hl with|[_,_],_=>rfl) (fun vs H Q E h=>?_) (fun f dv A outer s H vs Q E hr h=>?_)
 ·obtain⟨d,v1,v2,rfl,_⟩:=h
  rfl
 ·obtain⟨d,v1,v2,rfl,r1,r2,hsz,iO,k⟩:=h
  have hu:=kA hr
  have nd:=oX.nd
  refine⟨_,(ah (bb (i:=2) nd rfl (Or.inl rfl) (b9 (aa (dH (aa (pv 0) (aa (pv 1) ak))) ak)))
(ah (G7 bY (a9 (HC hu) (pv 2) (b9 ak) (bc _))
(ah (bb (i:=3) nd rfl (Or.inl rfl) (Nj aJ PySem.F.slot_list_pop PySem.F.type_list_pop Nl (pv 2)))
(av (b0 (gi (bu Cv (by rfl) T.dN eX (aa (aO bg (pv 3) aj (fun _ _=>rfl)) (aa (dH (aa (g6 (v:= .ty "list") (by rfl) T.rM boot_list rfl) (aa (g6 (v:= .ty "tuple") (by rfl) T.tK boot_tuple rfl) ak))) ak))))
(ah (b0 (a9 se (bu fB (by rfl) T.dN eX (aa (aO bg (pv 3) aj (fun _ _=>rfl)) (aa (g6 (v:= .ty "list") (by rfl) T.rM boot_list rfl) ak))) (bu fB (by rfl) T.dN eX (aa (aO bg (pv 3) aj (fun _ _=>rfl)) (aa (g6 (v:= .ty "list") (by rfl) T.rM boot_list rfl) ak))) (bc _))
(av (ba mC))
bw)
(ah (b0 (a9 se (bu fB (by rfl) T.dN eX (aa (aO bg (pv 3) aj (fun _ _=>rfl)) (aa (g6 (v:= .ty "tuple") (by rfl) T.tK boot_tuple rfl) ak))) (bu fB (by rfl) T.dN eX (aa (aO bg (pv 3) aj (fun _ _=>rfl)) (aa (g6 (v:= .ty "tuple") (by rfl) T.tK boot_tuple rfl) ak))) (bc _))
(av (ba mC))
bw)
(ah (b0 (a9 se (bu bz (by rfl) T.eY bB (aa (aO bg (pv 3) aj (fun _ _=>rfl)) ak)) (bu bz (by rfl) T.eY bB (aa (aO bg (pv 3) aj (fun _ _=>rfl)) ak)) (bc _))
(av (ba mC))
bw)
(av (fM bY rfl (jF rfl T.nU (aa (bu bz (by rfl) T.eY bB (aa (aO bg (pv 3) aj (fun _ _=>rfl)) ak)) ak)) (bG (i:=4) nd rfl (Or.inl rfl))
(av (bR (fq aJ aH aI bZ (pv 2) (aa (dH (aa (aO Mh (aO bg (pv 3) aj (fun _ _=>rfl)) (pv 4) (fun _ _=>rfl)) (aa (aO Mh (aO bg (pv 3) aj (fun _ _=>rfl)) (pv 4) (fun _ _=>rfl)) ak))) ak)))))))))
(av (b0 (gi (bu fB (by rfl) T.dN eX (aa (aO bg (pv 3) aj (fun _ _=>rfl)) (aa (g6 (v:= .ty "str") (by rfl) T.D8 boot_str rfl) ak))))
(av (b0 (PW.pt (pw_or (jN (gi (bu fB (by rfl) T.dN eX (aa (aO bg (pv 3) aj (fun _ _=>rfl)) (aa (g6 (v:= .ty "str") (by rfl) T.D8 boot_str rfl) ak))))) (pw_or1 (a9 se (aO bg (pv 3) aj (fun _ _=>rfl)) (aO bg (pv 3) aj (fun _ _=>rfl)) (bc _)))))
(av (ba mC))
bw))
(av (b0 (PW.pt (pw_or (jN (gi (cL zC (hr.mono (by decide)) rfl (aa (aO bg (pv 3) aj (fun _ _=>rfl)) ak)))) (pw_or1 (a9 se (aO bg (pv 3) aj (fun _ _=>rfl)) (aO bg (pv 3) aj (fun _ _=>rfl)) (bc _)))))
(av (ba mC))
bw))))))))
(av (ba mC)))),?_⟩
  refine⟨_,rfl,_,rfl,(by show 2<=sizeLine; decide),fun t0 nt0=>⟨(by show 1<=sizeLine; decide),fun l nl=>?_⟩⟩
  have sA:aG H (upd H t0 (.tup [v1,v2])):=aG.new nt0
  have Zb:H l=none:=sA.free nl
  refine⟨fun m σ H2=> ∃td ds x3 x4,σ=[some v1,some v2,some (.ref l),x3,x4]/\aG H H2/\H2 l=some (.lst td)/\Paired (lT H H2) ds td/\Dt.fG ds=m/\m<=100000/\ ∀d∈ds,d.plain=true,
   ⟨d.size,[.ref t0],[d],none,none,rfl,sA.trans (aG.new nl),ag,.cons ⟨t0,v1,v2,rfl,HG nl _ _ ag,r1,r2⟩ .nil,by simp[Dt.fG],hsz,by simpa using iO⟩,?_⟩
  rintro m σ H2 ⟨td,ds,x3,x4,rfl,s1,hl,hp,hm,Wg,SX⟩
  refine⟨_,rfl,bF _,fun p3 n3=>?_⟩
  have s2:aG H2 (upd H2 p3 (.lst [])):=aG.new n3
  refine⟨l,p3,td,rfl,rfl,bQ.of (s2 _ _ hl),bQ.of ag,_,rfl,?_⟩
  generalize PH:upd H2 p3 (.lst [])=H3 at s2 ⊢
  have GX:=s2 _ _ hl
  cases htd:td with
  |nil=>exact cv (k _ (s1.trans s2))
  |cons z zs=>
  refine fH ⟨fun σ' H'=> ∃m',m' < m/\ ∃td ds x3 x4,σ'=[some v1,some v2,some (.ref l),x3,x4]/\aG H H'/\H' l=some (.lst td)/\Paired (lT H H') ds td/\Dt.fG ds=m'/\m'<=100000/\ ∀d∈ds,d.plain=true,fun _ _ h=>h,?_⟩
  have jf:td.length - 1 < td.length:=by rw[htd]; simp
  obtain⟨y,hy⟩: ∃y,td[td.length - 1]? =some y:=⟨_,af jf⟩
  obtain⟨LO,c,Xd,⟨t,u1,u2,ey,ht,q1,q2⟩,RN⟩:=sm hp hy
  subst ey
  have Rz:c.plain=true:=SX c (by rw[Xd]; simp)
  have TU: ∀d∈LO,d.plain=true:=fun d hd=>SX d (by rw[Xd]; simp[hd])
  have hmm:Dt.fG LO + c.size=m:=by
   have:=hm
   rw[Xd,Dt.iA] at this
   simpa[Dt.fG] using this
  refine⟨_,rfl,.inl ⟨rfl,_,bQ.of GX⟩,l,td,.ref t,rfl,rfl,GX,hy,?_⟩
  have Zc:=s2 _ _ ht
  have s4:aG H (upd H3 l (.lst td.dropLast)):=(s1.trans s2).dA Zb
  have Xe:upd H3 l (.lst td.dropLast) t=some (.tup [u1,u2]):=dW GX _ _ Zc
  have Up:Paired (lT H (upd H3 l (.lst td.dropLast))) LO td.dropLast:=Paired.iV RN fun d v h=>h.mono fun b xs e=>dW GX _ _ (s2 _ _ e)
  have SY:upd H3 l (.lst td.dropLast) l=some (.lst td.dropLast):=ag
  generalize upd H3 l (.lst td.dropLast)=H4 at s4 Xe Up SY ⊢
  clear PH GX Zc s2 n3 hp hl ht
  refine⟨_,rfl,t,_,_,u2,rfl,rfl,cM.of Xe,rfl,(by show 2<=sizeLine; decide),fun p5 n5=>?_⟩
  have s5:aG H4 (upd H4 p5 (.tup [.ty "list",.ty "tuple"])):=aG.new n5
  have q25:=Rp.mono (s4.trans s5) c q2
  have q15:=Rp.mono (s4.trans s5) c q1
  refine⟨u2,p5,["list","tuple"],_,isLT c,rfl,ag,q25.ty,NA c,_,rfl,?_⟩
  have B0:=s5 _ _ Xe
  have Xf:=s5 _ _ SY
  have PY:Paired (lT H (upd H4 p5 (.tup [.ty "list",.ty "tuple"]))) LO td.dropLast:=Paired.iV Up fun d v h=>h.mono fun b xs e=>s5 _ _ e
  have s6:=s4.trans s5
  generalize upd H4 p5 (.tup [.ty "list",.ty "tuple"])=H5 at s5 q25 q15 B0 Xf PY s6 ⊢
  clear s5 n5
  refine cQ (fun S4=>?_) (fun S4=>?_)
  ·
   obtain⟨a1,Xg,e1,S1,R1⟩:=DQ q1 S4
   obtain⟨a2,OY,e2,S2,R2⟩:=DQ q2 S4
   refine⟨_,rfl,t,_,_,u1,rfl,rfl,cM.of B0,rfl,u1,_,_,Vq c,rfl,q15.ty,HE c,_,rfl,t,_,_,u2,rfl,rfl,cM.of B0,rfl,u2,_,_,Vq c,rfl,q25.ty,HE c,rfl,_,rfl,Ak rfl ?_⟩
   refine⟨_,rfl,t,_,_,u1,rfl,rfl,cM.of B0,rfl,u1,_,_,Vr c,rfl,q15.ty,HF c,_,rfl,t,_,_,u2,rfl,rfl,cM.of B0,rfl,u2,_,_,Vr c,rfl,q25.ty,HF c,rfl,_,rfl,Ak rfl ?_⟩
   have hlen:Xg.length=OY.length:=by rw[← R1.length,← R2.length]
   refine⟨_,rfl,t,_,_,u1,rfl,rfl,cM.of B0,rfl,a1,Xg,by rw[e1],S1 K H5 s6,_,rfl,t,_,_,u2,rfl,rfl,cM.of B0,rfl,a2,OY,by rw[e2],S2 K H5 s6,rfl,_,rfl,Ak (by rw[hlen]) ?_⟩
   have Mf:OY.length=(kids c).length:=R2.length.symm
   have Yy:=Fx S4
   have GS:=Dt.qq (kids c)
   refine⟨_,rfl,t,_,_,u2,rfl,rfl,cM.of B0,rfl,a2,OY,by rw[e2],S2 K H5 s6,(OY.length:Int),rfl,by omega,by omega,?_⟩
   rw[eN]
   refine k6 (lo:=0) (n:=OY.length) (fun i σ H6=> ∃MI x4,σ=[some v1,some v2,some (.ref l),some (.ref t),x4]/\aG H H6/\H6 l=some (.lst MI)/\H6 t=some (.tup [u1,u2])/\Paired (lT H H6) (LO ++ (kids c).take i) MI)
    ⟨td.dropLast,x4,rfl,s6,Xf,B0,by simpa using PY⟩ ?_ ?_
   ·rintro i σ H6 hi ⟨MI,x4',rfl,s7,iw,Us,MC⟩
    have Vt:i < (kids c).length:=by omega
    have g0:(kids c)[i]? =some (kids c)[i]:=af Vt
    obtain⟨w1,g1,z1⟩:=R1.get g0
    obtain⟨w2,g2,z2⟩:=R2.get g0
    have PQ:MI.length < sizeLine:=by
     have h1:=MC.length
     have h2:=Dt.qq (LO ++ (kids c).take i)
     have h3:=vM (kids c) i
     rw[Dt.iA] at h2
     exact i9 (by omega)
    refine⟨_,rfl,.inl ⟨rfl,_,bQ.of iw⟩,?_⟩
    refine⟨_,rfl,t,_,_,u1,rfl,rfl,cM.of Us,rfl,_,rfl,a1,Xg,_,w1,e1,rfl,S1 K H6 s7,by rw[lK]; exact cS g1,_,rfl,t,_,_,u2,rfl,rfl,cM.of Us,rfl,_,rfl,a2,OY,_,w2,e2,rfl,S2 K H6 s7,by rw[lK]; exact cS g2,(by show 2<=sizeLine; decide),fun p7 n7=>?_⟩
    have s8:aG H6 (upd H6 p7 (.tup [w1,w2])):=aG.new n7
    have PV:=s8 _ _ iw
    refine⟨l,MI,.ref p7,rfl,rfl,PV,PQ,?_⟩
    refine⟨MI ++ [.ref p7],_,rfl,(s7.trans s8).dA Zb,ag,dW PV _ _ (s8 _ _ Us),?_⟩
    rw[sX g0,← gH]
    exact cV (Paired.iV MC fun d v h=>h.mono fun b xs e=>dW PV _ _ (s8 _ _ e)) ⟨p7,w1,w2,rfl,dW PV _ _ ag,z1,z2⟩
   ·rintro σ H6 ⟨MI,x4',rfl,s7,iw,Us,MC⟩
    rw[Mf,bf] at MC
    refine⟨Dt.fG (LO ++ kids c),?_,MI,_,_,_,rfl,s7,iw,MC,rfl,?_,?_⟩
    ·rw[Dt.iA]; omega
    ·rw[Dt.iA]; omega
    ·intro d hd
     rcases bq.mp hd with hd|hd
     ·exact TU d hd
     ·exact Cw Rz d hd
  ·
   have fin:(fun σ' H'=> ∃m',m' < m/\ ∃td ds x3 x4,σ'=[some v1,some v2,some (.ref l),x3,x4]/\aG H H'/\H' l=some (.lst td)/\Paired (lT H H') ds td/\Dt.fG ds=m'/\m'<=100000/\ ∀d∈ds,d.plain=true) [some v1,some v2,some (.ref l),some (.ref t),x4] H5:=by
    have:=c.size_pos
    exact⟨Dt.fG LO,by omega,_,LO,_,_,rfl,s6,Xf,PY,rfl,by omega,TU⟩
   refine⟨_,rfl,t,_,_,u2,rfl,rfl,cM.of B0,rfl,u2,_,_,TB c,rfl,q25.ty,xn c,_,rfl,?_⟩
   refine cQ (fun hS=>?_) (fun hS=>?_)
   ·have ec: ∃x,c= .str x:=by cases c <;> first|exact⟨_,rfl⟩|cases hS
    obtain⟨x,rfl⟩:=ec
    obtain rfl:=g9.mp q1
    obtain rfl:=g9.mp q2
    refine⟨_,rfl,t,_,_,_,rfl,rfl,cM.of B0,rfl,_,_,_,true,rfl,mH.str x,xn (.str x),_,rfl,cv ?_⟩
    refine⟨_,rfl,t,_,_,_,rfl,rfl,cM.of B0,rfl,_,rfl,t,_,_,_,rfl,rfl,cM.of B0,rfl,rfl,_,rfl,Ak rfl ?_⟩
    exact fin
   ·have ec: ∃x,c= .int x:=by cases c <;> first|exact⟨_,rfl⟩|exact absurd rfl hS|exact absurd rfl S4|cases Rz
    obtain⟨x,rfl⟩:=ec
    obtain rfl:=eJ.mp q1
    obtain rfl:=eJ.mp q2
    refine⟨_,rfl,t,_,_,_,rfl,rfl,cM.of B0,rfl,.int x,_,rfl,eJ.mpr rfl,_,rfl,cv ?_⟩
    refine⟨_,rfl,t,_,_,_,rfl,rfl,cM.of B0,rfl,_,rfl,t,_,_,_,rfl,rfl,cM.of B0,rfl,rfl,_,rfl,Ak rfl ?_⟩
    exact fin
def BH (K:PySem.W.Frag):Sp:=fun vs H Q _=> ∃(po:Addr) (os:List Str) (aN:Str) (cell i:Int),vs=[.ref po,.str aN,.int cell,.int i]/\bQ K H po (os.map V.str)/\os.length<=1000/\ ∀(n:Int) (H':Hp),aG H H'->Q (.int n) H'
theorem nJ:aW ["_law_owners","_law_who","_law_cell","_law_k","_law_rest","_law_number","_law_spot","_law_one"] ["_law_owners","_law_who","_law_cell","_law_k"] (aA (top 49)):=⟨rfl,rfl,rfl,by decide +kernel,rfl,by decide +kernel,by decide +kernel⟩
theorem wK (T:Txt K mg):fz P w K mg base "_law_chosen" 1 ["_law_owners","_law_who","_law_cell","_law_k"] (BH K):=by
 refine T.vX.lg (k:=0) nJ (fun _ _ _ _ _ _ us hl=>match us,hl with|[_,_,_,_],_=>rfl) (fun vs H Q E h=>?_) (fun f dv A outer s H vs Q E hr h=>?_)
 ·obtain⟨po,os,aN,cell,i,rfl,_⟩:=h
  rfl
 ·obtain⟨po,os,aN,cell,i,rfl,hS,ho,k⟩:=h
  have nd:=nJ.nd
  refine⟨_,(ah (bb (i:=4) nd rfl (Or.inl rfl) (aV jz (pv 2) aj))
(ah (bb (i:=5) nd rfl (Or.inl rfl) (aV cE (aV dS (aV jz (pv 4) aj) (pv 3)) (aV dS (bu bz (by rfl) T.eY bB (aa (pv 0) ak)) aj)))
(ah (fM bY rfl (jF rfl T.nU (aa (bu bz (by rfl) T.eY bB (aa (pv 0) ak)) ak)) (bG (i:=6) nd rfl (Or.inl rfl))
(ah (bb (i:=7) nd rfl (Or.inl rfl) (aV cE (aV dS (pv 5) (pv 6)) (bu bz (by rfl) T.eY bB (aa (pv 0) ak))))
(av (b0 (PW.pt (pw_and (a9 dr (aO bh (pv 0) (pv 7) (fun _ _=>rfl)) (pv 1) (bc _)) (pw_and1 (a9 ju (aV cE (pv 2) aj) aj (bc _)))))
(av (ba (pv 7)))
bw))))
(ah (b0 (a9 dr (aV cE (pv 2) aj) aj (bc _))
(av (bb (i:=5) nd rfl (Or.inl rfl) (aO bh (b9 (aa (oH kN aj) (aa (aV jr aj aj) (aa (aV fb (oH kN aj) (aV cE (pv 4) (aV jr aj aj))) ak)))) (aV cE (pv 4) aj) (fun _ _=>rfl))))
bw)
(av (ba (pv 5))))))),?_⟩
  refine⟨_,rfl,_,_,rfl,rfl,⟨by decide,by decide⟩,?_⟩
  refine⟨_,rfl,_,_,rfl,rfl,⟨by decide,by decide⟩,_,rfl,_,_,rfl,rfl,_,rfl,po,_,rfl,.inl hS,_,_,rfl,rfl,_,_,rfl,rfl,(by show(0:Int) < ((os.map V.str).length:Int) + 1; omega),?_⟩
  generalize Xh:(cell / 16 / 2 + i) % (((os.map V.str).length:Int) + 1)=num
  show _
  refine⟨_,rfl,po,_,rfl,.inl hS,((os.map V.str).length:Int),rfl,by omega,by rw[ae]; omega,?_⟩
  rw[eN]
  refine k6 (lo:=0) (n:=(os.map V.str).length) (fun j σ H2=> ∃x6 x7,σ=[some (.ref po),some (.str aN),some (.int cell),some (.int i),some (.int (cell / 16)),some (.int num),x6,x7]/\H2=H)
   ⟨none,none,by rw[← Xh]; rfl,rfl⟩ ?_ ?_
  ·rintro j σ H2 hj ⟨x6,x7,rfl,rfl⟩
   have hm:0 < ((os.map V.str).length:Int):=by omega
   obtain⟨y,_,hy⟩:=kF (g:=V.str) (xs:=os) (m:=((os.map V.str).length:Int)) (x:=num + (0 + (j:Int))) (by rw[ae]) hm
   refine⟨_,rfl,_,rfl,_,_,rfl,rfl,_,rfl,po,_,rfl,.inl hS,_,_,rfl,rfl,hm,?_⟩
   refine⟨_,rfl,_,rfl,po,_,_,.str y,rfl,rfl,hS,hy,_,rfl,rfl,_,rfl,cQ (fun c=>?_) (fun c=>cv ⟨_,_,rfl,rfl⟩)⟩
   refine⟨_,rfl,_,_,rfl,rfl,(by show(0:Int) < 5; decide),_,_,rfl,rfl,_,rfl,cQ (fun c=>?_) (fun c=>⟨_,_,rfl,rfl⟩)⟩
   exact⟨_,rfl,k _ _ (aG.refl _)⟩
  ·rintro σ H2 ⟨x6,x7,rfl,rfl⟩
   refine⟨_,rfl,_,_,rfl,rfl,(by show(0:Int) < 47; decide),rfl,_,rfl,cQ (fun c=>?_) (fun c=>⟨_,rfl,k _ _ (aG.refl _)⟩)⟩
   refine⟨_,rfl,_,_,rfl,rfl,⟨by decide,by decide,by decide⟩,_,rfl,_,rfl,_,_,rfl,rfl,⟨by decide,by decide,by decide⟩,_,_,rfl,rfl,(by show(0:Int) < _; decide +kernel),_,_,rfl,rfl,(by show 3<=sizeLine; decide),fun p4 n4=>?_⟩
   obtain⟨y,hy⟩:=Yw (-1) (10 ^ (9:Int).toNat) (-2 - cell / 16 % 10 ^ (60:Int).toNat) (cell / 16)
   refine⟨_,rfl,_,_,rfl,rfl,(by show(0:Int) < 3; decide),p4,_,_,.int y,rfl,rfl,bQ.of ag,hy,?_⟩
   exact⟨_,rfl,k _ _ (aG.new n4)⟩
def EH:Sp:=fun vs H Q _=> ∃c:Int,vs=[.int c]/\ ∀r:Int,(r=0∨r=1)->Q (.int r) H
theorem wL:aW ["_law_cell"] ["_law_cell"] (aA (top 50)):=⟨rfl,rfl,rfl,by decide +kernel,rfl,by decide +kernel,by decide +kernel⟩
theorem zD (T:Txt K mg):fz P w K mg base "_law_hasty" 1 ["_law_cell"] EH:=by
 refine T.yC.lg (k:=0) wL (fun _ _ _ _ _ _ us hl=>match us,hl with|[_],_=>rfl) (fun vs H Q E h=>?_) (fun f dv A outer s H vs Q E hr h=>?_)
 ·obtain⟨c,rfl,_⟩:=h
  rfl
 ·obtain⟨c,rfl,k⟩:=h
  refine⟨_,(av (ba (f9 k7 (by rfl) T.xx boot_int (aa (Qg (eW dr (aV cE (pv 0) aj) aj (bc _)) (mD (pj (eW dr (aV cE (pv 0) aj) aj (bc _)) (mD (eW dr (aV cE (aV jz (pv 0) aj) aj) aj (bc _)))))) ak)))),?_⟩
  have fin: ∀b:Bool,Q (.int (if b then 1 else 0)) H:=fun b=>k _ (by cases b <;> simp)
  refine⟨_,rfl,_,_,rfl,rfl,(by show(0:Int) < 29; decide),rfl,_,rfl,cQ (fun c=> .inr ⟨_,rfl,fin _⟩) (fun c=>?_)⟩
  refine⟨_,rfl,_,_,rfl,rfl,(by show(0:Int) < 41; decide),rfl,_,rfl,cQ (fun c=>?_) (fun c=> .inr ⟨_,rfl,fin _⟩)⟩
  exact⟨_,rfl,_,_,rfl,rfl,⟨by decide,by decide⟩,_,_,rfl,rfl,(by show(0:Int) < 2; decide),rfl,.inr ⟨_,rfl,fin _⟩⟩
def EI (K:PySem.W.Frag):Sp:=fun vs H Q _=> ∃(a:Addr) (cs:List Int) (i:Nat),vs=[.ref a,.int i]/\bQ K H a (cs.map V.int)/\i < cs.length/\ ∀n:Int,Q (.int n) H
theorem nK:aW ["_law_cells","_law_k","_law_days"] ["_law_cells","_law_k"] (aA (top 51)):=⟨rfl,rfl,rfl,by decide +kernel,rfl,by decide +kernel,by decide +kernel⟩
theorem wM (T:Txt K mg):fz P w K mg base "_law_due_in" 2 ["_law_cells","_law_k"] (EI K):=by
 have zE:fz P w K mg base "_law_hasty" 1 ["_law_cell"] EH:=zD T
 refine T.vY.lg (k:=1) nK (fun _ _ _ _ _ _ us hl=>match us,hl with|[_,_],_=>rfl) (fun vs H Q E h=>?_) (fun f dv A outer s H vs Q E hr h=>?_)
 ·obtain⟨a,cs,i,rfl,_⟩:=h
  rfl
 ·obtain⟨a,cs,i,rfl,hS,hi,k⟩:=h
  have nd:=nK.nd
  refine⟨_,(ah (bb (i:=2) nd rfl (Or.inl rfl) (aV cE (aV dS (aO bh (pv 0) (aV cE (aV dS (pv 1) aj) (bu bz (by rfl) T.eY bB (aa (pv 0) ak))) (fun _ _=>rfl)) (pv 1)) aj))
(jA (b0 (a9 dr (aV cE (aO bh (pv 0) (pv 1) (fun _ _=>rfl)) aj) aj (bc _))
(av (bb (i:=2) nd rfl (Or.inl rfl) (aV cE (aO bh (pv 0) (aV cE (aV dS (pv 1) aj) (bu bz (by rfl) T.eY bB (aa (pv 0) ak))) (fun _ _=>rfl)) (aV jr aj aj))))
bw)
(av (ba (aV fb (pv 2) (aV lM (aV dS (pv 2) aj) (cL zE (hr.mono (by decide)) rfl (aa (aO bh (pv 0) (pv 1) (fun _ _=>rfl)) ak)))))))),?_⟩
  have hm:0 < ((cs.map V.int).length:Int):=by rw[ae]; omega
  obtain⟨y,_,hy⟩:=kF (g:=V.int) (xs:=cs) (m:=((cs.map V.int).length:Int)) (x:=(i:Int) + 1) (by rw[ae]) hm
  refine⟨_,rfl,_,rfl,_,_,rfl,rfl,_,rfl,a,_,rfl,.inl hS,_,_,rfl,rfl,hm,a,_,_,.int y,rfl,rfl,hS,hy,_,rfl,_,_,rfl,rfl,_,_,rfl,rfl,(by show(0:Int) < 9; decide),?_⟩
  refine⟨fun σ' H'=>H'=H/\ ∃d:Int,σ'=[some (.ref a),some (.int i),some (.int d)],?_,?_⟩
  ·refine⟨_,rfl,_,rfl,a,_,_,_,rfl,rfl,hS,m8 hi,_,_,rfl,rfl,(by show(0:Int) < 13; decide),rfl,_,rfl,cQ (fun c=>?_) (fun c=>⟨rfl,_,rfl⟩)⟩
   refine⟨_,rfl,_,rfl,_,_,rfl,rfl,_,rfl,a,_,rfl,.inl hS,_,_,rfl,rfl,hm,a,_,_,.int y,rfl,rfl,hS,hy,_,_,rfl,rfl,⟨by decide,by decide,by decide⟩,_,_,rfl,rfl,(by show(0:Int) < _; decide +kernel),?_⟩
   exact⟨rfl,_,rfl⟩
  rintro σ' H' ⟨rfl,d,rfl⟩
  refine⟨_,rfl,_,rfl,_,_,rfl,rfl,_,rfl,_,rfl,a,_,_,_,rfl,rfl,hS,m8 hi,_,rfl,fun r Xi=>?_⟩
  exact⟨_,_,rfl,rfl,.inr (by rcases Xi with rfl|rfl <;> exact⟨by decide,by decide⟩),_,_,rfl,rfl,k _⟩
def tw (H:Hp)(a pm lH:Addr)(i:Nat)(σ:L2.St)(H2:Hp):Prop:=
 ∃(pb ph:Addr) (bs hs:List Str) (sp:List Int) (ds:List bI) (ms:List V) (x5 x6 x7 x8 x9 Bv Gx Jw LP JU Jx Jy:Option V),σ=[some (.ref a),some (.ref pm),some (.ref pb),some (.ref ph),some (.ref lH),x5,x6,x7,x8,x9,Bv,Gx,Jw,LP,JU,Jx,Jy]/\aG H H2/\
  H2 pm=some (.lst ms)/\gW H2 ds ms/\ds.length=i/\(∀d∈ds,d.ok)/\H2 pb=some (.lst (bs.map V.str))/\bs.length<=i/\H2 ph=some (.lst (hs.map V.str))/\hs.length<=i/\H2 lH=some (.lst (sp.map V.int))/\sp.length<=i/\pb≠pm/\pb≠lH/\ph≠pm/\ph≠lH
theorem tw.mk' {H:Hp}{a pm lH pb ph:Addr}{i:Nat}{H4 H6:Hp}{bs hs:List Str}{sp:List Int}{ds:List bI}{d:bI}{ms:List V}{p8:Addr}{x5 x6 x7 x8 x9 Bv Gx Jw LP JU Jx Jy:Option V}
  (hR:gW H4 ds ms) (hl:ds.length=i) (cH: ∀d∈ds,d.ok) (kp:cU H4 H6) (s6:aG H H6) (hM:H6 pm=some (.lst (ms ++ [.ref p8]))) (hd:Rp H6 d.dt (.ref p8)) (hdo:d.ok)
  (hb:H6 pb=some (.lst (bs.map V.str))) (Lm:bs.length<=i + 1) (hh:H6 ph=some (.lst (hs.map V.str))) (Zd:hs.length<=i + 1) (Kz:H6 lH=some (.lst (sp.map V.int))) (PQ:sp.length<=i + 1)
  (n1:pb≠pm) (n2:pb≠lH) (n3:ph≠pm) (n4:ph≠lH):
  tw H a pm lH (i + 1) [some (.ref a),some (.ref pm),some (.ref pb),some (.ref ph),some (.ref lH),x5,x6,x7,x8,x9,Bv,Gx,Jw,LP,JU,Jx,Jy] H6:=by
 refine⟨pb,ph,bs,hs,sp,ds ++ [d],ms ++ [.ref p8],x5,x6,x7,x8,x9,Bv,Gx,Jw,LP,JU,Jx,Jy,rfl,s6,hM,(hR.mono kp).snoc hd,by rw[aF,hl]; rfl,fun d' E4=>?_,hb,Lm,hh,Zd,Kz,PQ,n1,n2,n3,n4⟩
 rcases bq.mp E4 with h|h
 ·exact cH d' h
 ·rw[ao.mp h]; exact hdo
def dh (r:Int)(j:Nat):List Int:=(List.range j).map fun(t:Nat)=>1 + r % 9 + (0 + (t:Int)) * (2 + r % 30)
theorem BI (r:Int)(j:Nat):(dh r j).length=j:=by unfold dh; rw[List.length_map,List.length_range]
theorem LQ {w:Str}{d:Int}(r:Int)(j:Nat)(hj:j<=11):(bI.iB w d (dh r j)).ok:=by
 have h9:=ou r (show(9:Int)≠0 by decide)
 have Ze:=ou r (show(30:Int)≠0 by decide)
 refine⟨by rw[BI]; exact hj,?_,fun x hx=>?_⟩
 ·unfold dh
  rw[rj]
  refine List.pairwise_lt_range.imp fun{a b} GR=>?_
  have:(0 + (a:Int)) * (2 + r % 30) < (0 + (b:Int)) * (2 + r % 30):=Int.mul_lt_mul_of_pos_right (by omega) (by omega)
  omega
 ·unfold dh at hx
  obtain⟨t,_,rfl⟩:=bP.mp hx
  have:0<=(0 + (t:Int)) * (2 + r % 30):=Int.mul_nonneg (by omega) (by omega)
  omega
theorem S5 (x y:Int)(b:Bool):True/\sV [V.int x,V.int y] (if b=true then 1 else 0)=some (V.int (if b=true then y else x)):=⟨trivial,by cases b <;> rfl⟩
theorem MJ {H H4:Hp}{pm p8 lH pb ph:Addr}{ms xs b' h' s':List V}(nm:H pm=none)(s4:aG H H4)(qS:H4 pm=some (.lst ms))(n8:H4 p8=none)(n1:pb≠pm)(n3:ph≠pm)(EJ:lH≠pm)
  (zx:H4 pb=some (.lst b')) (GY:H4 ph=some (.lst h')) (nL:H4 lH=some (.lst s')):
  cU H4 (upd (upd H4 p8 (.tup xs)) pm (.lst (ms ++ [.ref p8])))/\aG H (upd (upd H4 p8 (.tup xs)) pm (.lst (ms ++ [.ref p8])))/\upd (upd H4 p8 (.tup xs)) pm (.lst (ms ++ [.ref p8])) pm=some (.lst (ms ++ [.ref p8]))/\
  upd (upd H4 p8 (.tup xs)) pm (.lst (ms ++ [.ref p8])) p8=some (.tup xs)/\upd (upd H4 p8 (.tup xs)) pm (.lst (ms ++ [.ref p8])) pb=some (.lst b')/\upd (upd H4 p8 (.tup xs)) pm (.lst (ms ++ [.ref p8])) ph=some (.lst h')/\
  upd (upd H4 p8 (.tup xs)) pm (.lst (ms ++ [.ref p8])) lH=some (.lst s'):=by
 have s8:=aG.new (o:= .tup xs) n8
 refine⟨s8.tk.trans (gx (s8 _ _ qS)),(s4.trans s8).dA nm,ag,dW (s8 _ _ qS) _ _ ag,?_,?_,?_⟩
 ·rw[ay n1]; exact s8 _ _ zx
 ·rw[ay n3]; exact s8 _ _ GY
 ·rw[ay EJ]; exact s8 _ _ nL
theorem S6 {H H4:Hp}{pm lH pb ph:Addr}{ms b' h':List V}{sp:List Int}{x:Int}(Ut:H lH=none)(s4:aG H H4)(qS:H4 pm=some (.lst ms))(n2:pb≠lH)(n4:ph≠lH)(EJ:lH≠pm)
  (zx:H4 pb=some (.lst b')) (GY:H4 ph=some (.lst h')) (nL:H4 lH=some (.lst (sp.map V.int))):
  cU H4 (upd H4 lH (.lst (sp.map V.int ++ [.int x])))/\aG H (upd H4 lH (.lst (sp.map V.int ++ [.int x])))/\upd H4 lH (.lst (sp.map V.int ++ [.int x])) pm=some (.lst ms)/\upd H4 lH (.lst (sp.map V.int ++ [.int x])) pb=some (.lst b')/\
  upd H4 lH (.lst (sp.map V.int ++ [.int x])) ph=some (.lst h')/\upd H4 lH (.lst (sp.map V.int ++ [.int x])) lH=some (.lst ((sp ++ [x]).map V.int)):=by
 refine⟨gx nL,s4.dA Ut,?_,?_,?_,?_⟩
 ·rw[ay EJ.symm]; exact qS
 ·rw[ay n2]; exact zx
 ·rw[ay n4]; exact GY
 ·rw[ag,aR]; rfl
theorem gZ {H:Hp}{d:Dt}{v:V}{ds:List Dt}{vs:List V}(h:Rp H d v)(r:iL H ds vs):iL H (d :: ds) (v :: vs):=cf.mpr ⟨_,_,rfl,h,r⟩
theorem rI {H:Hp}(i:Int):Rp H (.int i) (.int i):=eJ.mpr rfl
theorem rS {H:Hp}(x:Str):Rp H (.str x) (.str x):=g9.mpr rfl
theorem r0 {H:Hp}:iL H [] []:=ee.mpr rfl
theorem EK {H9:Hp}{p9 pb:Addr}{bs:List Str}{aN:Str}{b:Bool}{Q:VK}(h9:H9 p9=some (.lst [V.str aN]))(hb:H9 pb=some (.lst (bs.map V.str)))(hl:bs.length<=100)
  (q: ∀(Jz:Addr) (S7:Hp) (n:Nat),n<=1->aG H9 S7->H9 Jz=none->S7 Jz=some (.lst ((bs ++ List.replicate n aN).map V.str))->Q (.ref Jz) S7):
  QD (.ref p9) (.int (if b=true then 1 else 0)) H9 (fun v H=>QB (.ref pb) v H Q):=by
 have hk:(if b=true then(1:Int) else 0).toNat<=1:=by split <;> decide
 refine⟨p9,_,_,rfl,rfl,h9,(by split <;> decide),(by split <;> decide),(by show 1 * _<=sizeLine; split <;> decide),fun PZ Xj=>?_⟩
 generalize (if b=true then(1:Int) else 0).toNat=n at hk ⊢
 rw[KL]
 have Bf:=aG.new (o:= .lst ((List.replicate n aN).map V.str)) Xj
 refine⟨pb,PZ,_,_,rfl,rfl,Bf _ _ hb,ag,?_,fun Jz GZ=>?_⟩
 ·refine dB (br ?_)
  rw[ae,ae,iN]
  omega
 ·rw[← aR]
  exact q Jz _ n hk (Bf.trans (aG.new GZ)) (Bf.free GZ) ag
def LR (K:PySem.W.Frag):Sp:=fun vs H Q _=> ∃(a:Addr) (cs:List Int),vs=[.ref a]/\bQ K H a (cs.map V.int)/\cs.length<=100/\ ∀(pd:Addr) (ds:List bI) (ms:List V) (H':Hp),aG H H'->H' pd=some (.lst ms)->gW H' ds ms->ds.length=cs.length->(∀d∈ds,d.ok)->Q (.ref pd) H'
theorem oY:aW ["_law_cells","_law_made","_law_bills","_law_held","_law_spots","_law_k","_law_rest","_law_pick","_law_who","_law_day","_law_amount","_law_bill","_law_due","_law_part","_law_credit","_law_menu","_law_limits"] ["_law_cells"] (aA (top 52)):=⟨rfl,rfl,rfl,by decide +kernel,rfl,by decide +kernel,by decide +kernel⟩
theorem zF (T:Txt K mg):fz P w K mg base "_law_deeds" 3 ["_law_cells"] (LR K):=by
 have wN:fz P w K mg base "_law_penned" 2 ["_law_cells","_law_k"] (A3 K):=we T
 have oZ:fz P w K mg base "_law_chosen" 1 ["_law_owners","_law_who","_law_cell","_law_k"] (BH K):=wK T
 have wO:fz P w K mg base "_law_due_in" 2 ["_law_cells","_law_k"] (EI K):=wM T
 refine T.yD.lg (k:=2) oY (fun _ _ _ _ _ _ us hl=>match us,hl with|[_],_=>rfl) (fun vs H Q E h=>?_) (fun f dv A outer s H vs Q E hr h=>?_)
 ·obtain⟨a,cs,rfl,_⟩:=h
  rfl
 ·obtain⟨a,cs,rfl,hS,hc,k⟩:=h
  have nd:=oY.nd
  refine⟨_,(ah (bb (i:=1) nd rfl (Or.inl rfl) (b9 ak))
(ah (bb (i:=2) nd rfl (Or.inl rfl) (b9 ak))
(ah (bb (i:=3) nd rfl (Or.inl rfl) (b9 ak))
(ah (bb (i:=4) nd rfl (Or.inl rfl) (b9 ak))
(ah (fM bY rfl (jF rfl T.nU (aa (bu bz (by rfl) T.eY bB (aa (pv 0) ak)) ak)) (bG (i:=5) nd rfl (Or.inl rfl))
(ah (bb (i:=6) nd rfl (Or.inr rfl) (aV cE (aV jz (aO bh (pv 0) (pv 5) (fun _ _=>rfl)) aj) (aV jr aj aj)))
(ah (bb (i:=7) nd rfl (Or.inl rfl) (aV cE (aV dS (aO bh (pv 0) (pv 5) (fun _ _=>rfl)) (aV lM aj (pv 5))) aj))
(ah (kM (cL wN (hr.mono (by decide)) rfl (aa (pv 0) (aa (pv 5) ak))) (iW rfl (cw (bG (i:=8) nd rfl (Or.inl rfl)) (cw (bG (i:=9) nd rfl (Or.inl rfl)) (cw (bG (i:=10) nd rfl (Or.inl rfl)) gJ)))))
(ah (bb (i:=11) nd rfl (Or.inl rfl) (cL oZ (hr.mono (by decide)) rfl (aa (pv 2) (aa (pv 8) (aa (aO bh (pv 0) (pv 5) (fun _ _=>rfl)) (aa (pv 5) ak))))))
(av (b0 (a9 jP (pv 7) aj (bc _))
(ah (bb (i:=12) nd rfl (Or.inl rfl) (aV dS (pv 9) (cL wO (hr.mono (by decide)) rfl (aa (pv 0) (aa (pv 5) ak)))))
(ah (bR (fq aJ aH aI bZ (pv 1) (aa (dH (aa aS (aa (pv 8) (aa (pv 9) (aa (pv 12) (aa (pv 10) ak)))))) ak)))
(av (bb (i:=2) nd rfl (Or.inl rfl) (aV lQ (pv 2) (aV Cq (b9 (aa (pv 8) ak)) (f9 k7 (by rfl) T.xx boot_int (aa (pj (eW ju (pv 10) aj (bc _)) (mD (eW z8 (pv 12) (pv 9) (bc _)))) ak))))))))
(av (b0 (a9 jP (pv 7) aj (bc _))
(ah (bR (fq aJ aH aI bZ (pv 1) (aa (dH (aa aS (aa (pv 8) (aa (pv 9) (aa (pv 10) ak))))) ak)))
(av (bb (i:=3) nd rfl (Or.inl rfl) (aV lQ (pv 3) (aV Cq (b9 (aa (pv 8) ak)) (f9 k7 (by rfl) T.xx boot_int (aa (eW ju (pv 10) aj (bc _)) ak)))))))
(av (b0 (a9 dr (pv 7) aj (bc _))
(ah (bR (fq aJ aH aI bZ (pv 1) (aa (dH (aa aS (aa (pv 11) (aa (pv 9) (aa (pv 10) ak))))) ak)))
(av (b0 (PW.pt (pw_and (a9 wX aj (pv 11) (bc _)) (pw_and (a9 jP (pv 11) (bu bz (by rfl) T.eY bB (aa (pv 2) ak)) (bc _)) (pw_and1 (a9 ju (pv 10) aj (bc _))))))
(av (bb (i:=3) nd rfl (Or.inl rfl) (aV lQ (pv 3) (b9 (aa (aO bh (pv 2) (pv 11) (fun _ _=>rfl)) ak)))))
bw)))
(av (b0 (a9 jP (pv 7) aj (bc _))
(ah (bR (fq aJ aH aI bZ (pv 4) (aa (pv 5) ak)))
(jA (bb (i:=13) nd rfl (Or.inl rfl) (aO bh (b9 (aa (pv 10) (aa (aV dS aj (aV cE (pv 6) aj)) ak))) (f9 k7 (by rfl) T.xx boot_int (aa (pj (eW ju (pv 10) aj (bc _)) (mD (eW ju (aV cE (pv 6) aj) aj (bc _)))) ak)) (fun _ _=>rfl)))
(ah (bb (i:=14) nd rfl (Or.inl rfl) (cL oZ (hr.mono (by decide)) rfl (aa (pv 3) (aa (pv 8) (aa (aO bh (pv 0) (pv 5) (fun _ _=>rfl)) (aa (aV dS (pv 5) aj) ak))))))
(jA (b0 (a9 dr (aV cE (aO bh (pv 0) (pv 5) (fun _ _=>rfl)) aj) aj (bc _))
(av (bb (i:=14) nd rfl (Or.inl rfl) (aV cE (aV jz (pv 6) aj) (aV dS (bu bz (by rfl) T.eY bB (aa (pv 3) ak)) aj))))
bw)
(av (bR (fq aJ aH aI bZ (pv 1) (aa (dH (aa aS (aa (pv 14) (aa (pv 11) (aa (pv 13) ak))))) ak))))))))
(av (b0 (a9 jP (pv 7) aj (bc _))
(ah (bR (fq aJ aH aI bZ (pv 4) (aa (pv 5) ak)))
(av (bR (fq aJ aH aI bZ (pv 1) (aa (dH (aa aS (aa (pv 8) ak))) ak)))))
(av (b0 (a9 dr (pv 7) aj (bc _))
(ah (bb (i:=15) nd rfl (Or.inl rfl) (aV lQ (pv 4) (b9 (aa (pv 5) (aa (oH kN aj) (aa (aV jr aj aj) (aa aj (aa (aV fb (pv 5) aj) (aa (aV cE (aV jz (pv 6) aj) (aV dS (pv 5) aj)) (aa (aV fb (oH kN aj) (pv 6)) ak))))))))))
(av (bR (fq aJ aH aI bZ (pv 1) (aa (dH (aa aS (aa (aO bh (pv 15) (aV cE (pv 6) (bu bz (by rfl) T.eY bB (aa (pv 15) ak))) (fun _ _=>rfl)) ak))) ak)))))
(av (b0 (a9 dr (pv 7) aj (bc _))
(av (bR (fq aJ aH aI bZ (pv 1) (aa (dH (aa (aO bh (b9 (aa aS (aa aS ak))) (aV cE (pv 6) aj) (fun _ _=>rfl)) (aa (pv 8) (aa (pv 9) ak)))) ak))))
(ah (je (i:=16) nd rfl (Or.inl rfl) (tn:=["_law_j"]) (cn:=["_law_rest"]) (cj:=[6]) rfl (i8 (by rfl) (by decide +kernel) rfl (by decide +kernel) (by rfl) [(".0",.local),("_law_j",.local),("_law_rest",.cell)] (by rfl) (by decide +kernel) rfl (Or.inl rfl) (Or.inl rfl)) (jF rfl T.nU (aa (aV cE (pv 6) aj) ak)) (fun _ _ _ _=>(bG (i:=0) (show(["_law_j","_law_rest"]:List Str).Nodup by decide +kernel) rfl (Or.inl rfl))) (fun _ _ _ _=>lR) (fun _ _ _ _=>(aV dS (aV dS aj (aV cE (pv 1) aj)) (aV lM (pv 0) (aV dS aj (aV cE (pv 1) aj))))))
(av (bR (fq aJ aH aI bZ (pv 1) (aa (dH (aa aS (aa (pv 8) (aa (pv 9) (aa (f9 vL (by rfl) T.tK boot_tuple (aa (pv 16) ak)) ak))))) ak))))))))))))))))))))))))
(av (ba (pv 1)))))))),?_⟩
  refine⟨bF _,fun pm nm=>⟨bF _,fun pb nb=>⟨bF _,fun ph nh=>⟨bF _,fun lH P0=>?_⟩⟩⟩⟩
  have s1:aG H (upd H pm (.lst [])):=aG.new nm
  have t2:=aG.new (o:= .lst []) nb
  have t3:=aG.new (o:= .lst []) nh
  have t4:=aG.new (o:= .lst []) P0
  have s4:=((s1.trans t2).trans t3).trans t4
  have Ut:H lH=none:=((s1.trans t2).trans t3).free P0
  have g1:=((t2.trans t3).trans t4) _ _ (ag (H:=H) (a:=pm) (o:= .lst []))
  have g2:=(t3.trans t4) _ _ (ag (H:=upd H pm (.lst [])) (a:=pb) (o:= .lst []))
  have g3:=t4 _ _ (ag (H:=upd (upd H pm (.lst [])) pb (.lst [])) (a:=ph) (o:= .lst []))
  have g4:=ag (H:=upd (upd (upd H pm (.lst [])) pb (.lst [])) ph (.lst [])) (a:=lH) (o:= .lst [])
  have Zf:pb≠pm:=(aL ag nb).symm
  have Zg:ph≠pm:=(aL (t2 _ _ ag) nh).symm
  have EJ:lH≠pm:=(aL ((t2.trans t3) _ _ ag) P0).symm
  have Zh:pb≠lH:=aL (t3 _ _ ag) P0
  have Zi:ph≠lH:=aL ag P0
  generalize upd (upd (upd (upd H pm (.lst [])) pb (.lst [])) ph (.lst [])) lH (.lst [])=H4 at s4 g1 g2 g3 g4 ⊢
  refine⟨_,rfl,a,_,rfl,.inl (s4.seq hS),((cs.map V.int).length:Int),rfl,by omega,by rw[ae]; omega,?_⟩
  rw[eN]
  refine k6 (lo:=0) (n:=(cs.map V.int).length) (tw H a pm lH)
   ⟨pb,ph,[],[],[],[],[],none,none,none,none,none,none,none,none,none,none,none,none,rfl,s4,g1,r0,rfl,(fun _ h=>by cases h),g2,aB _,g3,aB _,g4,aB _,Zf,Zh,Zg,Zi⟩ ?_ ?_
  ·clear t2 t3 t4 s1 g1 g2 g3 g4 s4 H4 Zf Zh Zg Zi nb nh P0 pb ph
   rintro i σ H2 hi ⟨pb,ph,bs,hs,sp,ds,ms,x5,x6,x7,x8,x9,Bv,Gx,Jw,LP,JU,Jx,Jy,rfl,s2,hM,hR,EL,cH,hb,Lm,hh,Zd,ya,abX,n1,n2,n3,n4⟩
   have Xk:i < cs.length:=by rwa [ae] at hi
   have P1:sV (cs.map V.int) (0 + (i:Int))=some (.int (cs.getD i 0)):=by rw[lK]; exact m8 Xk
   have NZ:=s2.seq hS
   generalize me:cs.getD i 0=cell at P1
   refine⟨_,rfl,_,rfl,a,_,_,.int cell,rfl,rfl,NZ,P1,_,_,rfl,rfl,⟨by decide,by decide⟩,_,_,rfl,rfl,⟨by decide,by decide,by decide⟩,_,_,rfl,rfl,(by show(0:Int) < _; decide +kernel),?_⟩
   refine⟨_,rfl,_,rfl,a,_,_,.int cell,rfl,rfl,NZ,P1,_,rfl,_,_,rfl,rfl,.inl ⟨by decide,by decide⟩,_,_,rfl,rfl,_,_,rfl,rfl,(by show(0:Int) < 16; decide),?_⟩
   refine⟨_,rfl,_,rfl,a,cs,i,(by rw[lK]; rfl),NZ,Xk,fun p aN day dJ H3 s3 hp=>?_⟩
   refine⟨p,_,rfl,cM.of hp,rfl,_,_,rfl,_,_,rfl,_,_,rfl,rfl,?_⟩
   refine⟨_,rfl,_,rfl,_,rfl,_,rfl,a,_,_,.int cell,rfl,rfl,s3.seq NZ,P1,_,rfl,pb,bs,aN,cell,_,rfl,bQ.of (s3 _ _ hb),by omega,fun bl H4 Zj=>?_⟩
   have Jp:=s3.trans Zj
   have s4:=s2.trans Jp
   have qS:=Jp _ _ hM
   have LS:=hR.mono Jp.tk
   have zx:=Jp _ _ hb
   have GY:=Jp _ _ hh
   have nL:=Jp _ _ ya
   have hS4:=s4.seq hS
   have Xl:=hS
   have IL:ms.length<=100:=by have:=hR.length; omega
   clear Jp s3 Zj hp hM hR hb hh ya s2 NZ H2 H3
   refine⟨_,rfl,_,_,rfl,rfl,_,rfl,cQ (fun c1=>?_) (fun c1=>?_)⟩
   ·
    refine⟨_,rfl,_,rfl,_,rfl,a,cs,i,(by rw[lK]; rfl),hS4,Xk,fun n=>⟨_,_,rfl,rfl,?_⟩⟩
    refine⟨_,rfl,.inl ⟨rfl,_,bQ.of qS⟩,_,rfl,_,rfl,_,rfl,_,rfl,(by show 5<=sizeLine; decide),fun p8 n8=>?_⟩
    refine⟨pm,ms,_,rfl,rfl,aG.new n8 _ _ qS,br (by omega),?_⟩
    obtain⟨k5,s5,ve,h8,zQ,B4,l7⟩:=MJ (xs:=[V.str "bill",.str aN,.int day,.int (day + n),.int dJ]) nm s4 qS n8 n1 n3 EJ zx GY nL
    refine⟨_,rfl,_,rfl,(by show 1<=sizeLine; decide),fun p9 n9=>?_⟩
    have t9:=aG.new (o:= .lst [V.str aN]) n9
    refine⟨_,rfl,_,_,rfl,rfl,_,rfl,cQ (fun c=>⟨_,rfl,_,rfl,_,_,rfl,rfl,.inr ⟨_,rfl,?_⟩⟩) (fun c=> .inr ⟨_,rfl,?_⟩)⟩
    all_goals
     refine EK ag (t9 _ _ zQ) (by omega) fun Jz S7 n hn Xm GZ Xn=>?_
     have sI:=t9.trans Xm
     exact tw.mk' (d:= .dZ aN day _ dJ) (pb:=Jz) LS EL cH (k5.trans sI.tk) (s5.trans sI) (sI _ _ ve) (fZ (sI _ _ h8) (gZ (rS _) (gZ (rS _) (gZ (rI _) (gZ (rI _) (gZ (rI _) r0)))))) trivial Xn (by rw[aF,iN]; omega) (sI _ _ B4) (by omega) (sI _ _ l7) (by omega) (aL (t9 _ _ ve) GZ).symm (aL (t9 _ _ l7) GZ).symm n3 n4
   refine⟨_,rfl,_,_,rfl,rfl,_,rfl,cQ (fun c2=>?_) (fun c2=>?_)⟩
   ·
    refine⟨_,rfl,.inl ⟨rfl,_,bQ.of qS⟩,_,rfl,_,rfl,_,rfl,(by show 4<=sizeLine; decide),fun p8 n8=>?_⟩
    refine⟨pm,ms,_,rfl,rfl,aG.new n8 _ _ qS,br (by omega),?_⟩
    obtain⟨k5,s5,ve,h8,zQ,B4,l7⟩:=MJ (xs:=[V.str "pay",.str aN,.int day,.int dJ]) nm s4 qS n8 n1 n3 EJ zx GY nL
    refine⟨_,rfl,_,rfl,(by show 1<=sizeLine; decide),fun p9 n9=>?_⟩
    have t9:=aG.new (o:= .lst [V.str aN]) n9
    refine⟨_,rfl,_,_,rfl,rfl,.inr ⟨_,rfl,?_⟩⟩
    refine EK ag (t9 _ _ B4) (by omega) fun Jz S7 n hn Xm GZ Xn=>?_
    have sI:=t9.trans Xm
    exact tw.mk' (d:= .qv aN day dJ) (ph:=Jz) LS EL cH (k5.trans sI.tk) (s5.trans sI) (sI _ _ ve) (fZ (sI _ _ h8) (gZ (rS _) (gZ (rS _) (gZ (rI _) (gZ (rI _) r0))))) trivial (sI _ _ zQ) (by omega) Xn (by rw[aF,iN]; omega) (sI _ _ l7) (by omega) n1 n2 (aL (t9 _ _ ve) GZ).symm (aL (t9 _ _ l7) GZ).symm
   refine⟨_,rfl,rfl,_,rfl,cQ (fun c3=>?_) (fun c3=>?_)⟩
   ·
    refine⟨_,rfl,.inl ⟨rfl,_,bQ.of qS⟩,_,rfl,_,rfl,_,rfl,(by show 4<=sizeLine; decide),fun p8 n8=>?_⟩
    refine⟨pm,ms,_,rfl,rfl,aG.new n8 _ _ qS,br (by omega),?_⟩
    obtain⟨k5,s5,ve,h8,zQ,B4,l7⟩:=MJ (xs:=[V.str "note",.int bl,.int day,.int dJ]) nm s4 qS n8 n1 n3 EJ zx GY nL
    have no:=fun(Jw LP JU Jx Jy x5 x6 x7 x8 x9 Bv Gx:Option V)=>tw.mk' (a:=a) (x5:=x5) (x6:=x6) (x7:=x7) (x8:=x8) (x9:=x9) (Bv:=Bv) (Gx:=Gx) (Jw:=Jw) (LP:=LP) (JU:=JU) (Jx:=Jx) (Jy:=Jy) (d:= .note bl day dJ) LS EL cH k5 s5 ve (fZ h8 (gZ (rS _) (gZ (rI _) (gZ (rI _) (gZ (rI _) r0))))) trivial zQ (by omega) B4 (by omega) l7 (by omega) n1 n2 n3 n4
    refine⟨_,rfl,_,_,rfl,rfl,_,rfl,cQ (fun d1=>?_) (fun d1=>cv (no ..))⟩
    refine⟨_,rfl,_,rfl,pb,_,rfl,.inl (bQ.of zQ),_,_,rfl,rfl,_,rfl,cQ (fun d2=>?_) (fun d2=>cv (no ..))⟩
    refine⟨_,rfl,_,_,rfl,rfl,_,rfl,cQ (fun d3=>?_) (fun d3=>no ..)⟩
    have RP:0<=bl:=a0 d1
    have Wj:bl < ((bs.map V.str).length:Int):=a0 d2
    obtain⟨bn,rfl⟩:=cG RP
    have hbn:bn < bs.length:=by rw[ae] at Wj; omega
    refine⟨_,rfl,_,rfl,_,rfl,pb,_,_,.str bs[bn],rfl,rfl,bQ.of zQ,cS (by rw[aD,af hbn]; rfl),(by show 1<=sizeLine; decide),fun p9 n9=>?_⟩
    have t9:=aG.new (o:= .lst [V.str bs[bn]]) n9
    refine⟨ph,p9,_,_,rfl,rfl,t9 _ _ B4,ag,dB (br (by rw[ae]; show hs.length + 1<=1000; omega)),fun Jz GZ=>?_⟩
    have sI:=t9.trans (aG.new (o:= .lst (hs.map V.str ++ [V.str bs[bn]])) GZ)
    exact tw.mk' (d:= .note (bn:Int) day dJ) (ph:=Jz) (hs:=hs ++ [bs[bn]]) LS EL cH (k5.trans sI.tk) (s5.trans sI) (sI _ _ ve) (fZ (sI _ _ h8) (gZ (rS _) (gZ (rI _) (gZ (rI _) (gZ (rI _) r0))))) trivial (sI _ _ zQ) (by omega) (by rw[aR]; exact ag) (by rw[aF]; show hs.length + 1<=_; omega) (sI _ _ l7) (by omega) n1 n2 (aL (t9 _ _ ve) GZ).symm (aL (t9 _ _ l7) GZ).symm
   refine⟨_,rfl,_,_,rfl,rfl,_,rfl,cQ (fun c4=>?_) (fun c4=>?_)⟩
   ·
    refine⟨_,rfl,.inl ⟨rfl,_,bQ.of nL⟩,_,rfl,lH,_,_,rfl,rfl,nL,br (by rw[ae]; omega),?_⟩
    obtain⟨k0,s0,P2,Uu,P4,LU⟩:=S6 (x:=0 + (i:Int)) Ut s4 qS n2 n4 EJ zx GY nL
    have Zk:=LS.mono k0
    have Xo:=s0.seq Xl
    generalize upd H4 lH (.lst (sp.map V.int ++ [.int (0 + (i:Int))]))=H5 at s0 P2 Uu P4 LU Zk Xo ⊢
    refine⟨fun σ' H'=>aG H5 H'/\ ∃part:Int,σ'=[some (.ref a),some (.ref pm),some (.ref pb),some (.ref ph),some (.ref lH),some (.int (0 + (i:Int))),some (.int (cell / 16 % 10 ^ (60:Int).toNat)),some (.int ((cell + 5 * (0 + (i:Int))) % 16)),some (.str aN),some (.int day),some (.int dJ),some (.int bl),Jw,some (.int part),JU,Jx,Jy],?_,?_⟩
    ·refine⟨_,rfl,_,rfl,_,_,rfl,rfl,(by show(0:Int) < 3; decide),_,_,rfl,rfl,(by show 2<=sizeLine; decide),fun p9 n9=>?_⟩
     refine⟨_,rfl,_,_,rfl,rfl,_,rfl,cQ (fun d=>⟨_,rfl,_,_,rfl,rfl,(by show(0:Int) < 4; decide),_,_,rfl,rfl,.inr ⟨_,rfl,p9,_,_,_,rfl,rfl,bQ.of ag,(S5 _ _ _).2,?_⟩⟩) (fun d=> .inr ⟨_,rfl,p9,_,_,_,rfl,rfl,bQ.of ag,(S5 _ _ _).2,?_⟩)⟩
     ·exact⟨aG.new n9,_,rfl⟩
     ·exact⟨aG.new n9,_,rfl⟩
    rintro σ' H6 ⟨Xp,part,rfl⟩
    refine⟨_,rfl,_,rfl,_,rfl,_,rfl,a,_,_,.int cell,rfl,rfl,Xp.seq Xo,P1,_,rfl,_,_,rfl,rfl,ph,hs,aN,cell,_,rfl,bQ.of (Xp _ _ P4),by omega,fun cr0 H7 s67=>?_⟩
    have wH:=Xp.trans s67
    refine⟨fun σ' H'=>H'=H7/\ ∃cr:Int,σ'=[some (.ref a),some (.ref pm),some (.ref pb),some (.ref ph),some (.ref lH),some (.int (0 + (i:Int))),some (.int (cell / 16 % 10 ^ (60:Int).toNat)),some (.int ((cell + 5 * (0 + (i:Int))) % 16)),some (.str aN),some (.int day),some (.int dJ),some (.int bl),Jw,some (.int part),some (.int cr),Jx,Jy],?_,?_⟩
    ·refine⟨_,rfl,_,rfl,a,_,_,.int cell,rfl,rfl,wH.seq Xo,P1,_,_,rfl,rfl,(by show(0:Int) < 41; decide),rfl,_,rfl,cQ (fun d=>?_) (fun d=>⟨rfl,_,rfl⟩)⟩
     refine⟨_,rfl,_,_,rfl,rfl,⟨by decide,by decide⟩,_,rfl,ph,_,rfl,.inl (bQ.of (wH _ _ P4)),_,_,rfl,rfl,_,_,rfl,rfl,(by show(0:Int) < ((hs.map V.str).length:Int) + 1; omega),?_⟩
     exact⟨rfl,_,rfl⟩
    rintro σ' H' ⟨rfl,cr,rfl⟩
    have Gu:=wH _ _ P2
    refine⟨_,rfl,.inl ⟨rfl,_,bQ.of Gu⟩,_,rfl,_,rfl,_,rfl,(by show 4<=sizeLine; decide),fun p8 n8=>?_⟩
    refine⟨pm,ms,_,rfl,rfl,aG.new n8 _ _ Gu,br (by omega),?_⟩
    obtain⟨k5,s5,ve,h8,zQ,B4,l7⟩:=MJ (xs:=[V.str "set",.int cr,.int bl,.int part]) nm (s0.trans wH) Gu n8 n1 n3 EJ (wH _ _ Uu) (wH _ _ P4) (wH _ _ LU)
    exact tw.mk' (d:= .set cr bl part) (Zk.mono wH.tk) EL cH k5 s5 ve (fZ h8 (gZ (rS _) (gZ (rI _) (gZ (rI _) (gZ (rI _) r0))))) trivial zQ (by omega) B4 (by omega) l7 (by rw[aF]; show sp.length + 1<=_; omega) n1 n2 n3 n4
   refine⟨_,rfl,_,_,rfl,rfl,_,rfl,cQ (fun c5=>?_) (fun c5=>?_)⟩
   ·
    refine⟨_,rfl,.inl ⟨rfl,_,bQ.of nL⟩,_,rfl,lH,_,_,rfl,rfl,nL,br (by rw[ae]; omega),?_⟩
    obtain⟨k0,s0,P2,Uu,P4,LU⟩:=S6 (x:=0 + (i:Int)) Ut s4 qS n2 n4 EJ zx GY nL
    refine⟨_,rfl,.inl ⟨rfl,_,bQ.of P2⟩,_,rfl,(by show 2<=sizeLine; decide),fun p8 n8=>?_⟩
    refine⟨pm,ms,_,rfl,rfl,aG.new n8 _ _ P2,br (by omega),?_⟩
    obtain⟨k5,s5,ve,h8,zQ,B4,l7⟩:=MJ (xs:=[V.str "sweep",.str aN]) nm s0 P2 n8 n1 n3 EJ Uu P4 LU
    exact tw.mk' (d:= .fO aN) (LS.mono k0) EL cH k5 s5 ve (fZ h8 (gZ (rS _) (gZ (rS _) r0))) trivial zQ (by omega) B4 (by omega) l7 (by rw[aF]; show sp.length + 1<=_; omega) n1 n2 n3 n4
   refine⟨_,rfl,rfl,_,rfl,cQ (fun c6=>?_) (fun c6=>?_)⟩
   ·
    refine⟨_,rfl,_,rfl,_,rfl,_,_,rfl,rfl,⟨by decide,by decide,by decide⟩,_,rfl,_,_,rfl,rfl,_,rfl,_,_,rfl,rfl,⟨by decide,by decide⟩,_,rfl,_,_,rfl,rfl,_,_,rfl,rfl,(by show(0:Int) < 0 + (i:Int) + 1; omega),_,rfl,_,rfl,_,_,rfl,rfl,(by show 7<=sizeLine; decide),fun p9 n9=>?_⟩
    refine⟨lH,p9,_,_,rfl,rfl,aG.new n9 _ _ nL,ag,dB (br (by rw[ae]; show sp.length + 7<=1000; omega)),fun PZ Xj=>?_⟩
    have Bf:=(aG.new (o:= .lst [V.int (0 + (i:Int)),.int (-1),.int (10 ^ (9:Int).toNat),.int 0,.int (0 + (i:Int) - 1),.int ((cell / 16 % 10 ^ (60:Int).toNat) / 3 % (0 + (i:Int) + 1)),.int (-2 - (cell / 16 % 10 ^ (60:Int).toNat))]) n9).trans (aG.new (o:= .lst (sp.map V.int ++ [V.int (0 + (i:Int)),.int (-1),.int (10 ^ (9:Int).toNat),.int 0,.int (0 + (i:Int) - 1),.int ((cell / 16 % 10 ^ (60:Int).toNat) / 3 % (0 + (i:Int) + 1)),.int (-2 - (cell / 16 % 10 ^ (60:Int).toNat))])) Xj)
    have S8:=ag (H:=upd H4 p9 (.lst [V.int (0 + (i:Int)),.int (-1),.int (10 ^ (9:Int).toNat),.int 0,.int (0 + (i:Int) - 1),.int ((cell / 16 % 10 ^ (60:Int).toNat) / 3 % (0 + (i:Int) + 1)),.int (-2 - (cell / 16 % 10 ^ (60:Int).toNat))])) (a:=PZ) (o:= .lst (sp.map V.int ++ [V.int (0 + (i:Int)),.int (-1),.int (10 ^ (9:Int).toNat),.int 0,.int (0 + (i:Int) - 1),.int ((cell / 16 % 10 ^ (60:Int).toNat) / 3 % (0 + (i:Int) + 1)),.int (-2 - (cell / 16 % 10 ^ (60:Int).toNat))]))
    generalize upd (upd H4 p9 (.lst [V.int (0 + (i:Int)),.int (-1),.int (10 ^ (9:Int).toNat),.int 0,.int (0 + (i:Int) - 1),.int ((cell / 16 % 10 ^ (60:Int).toNat) / 3 % (0 + (i:Int) + 1)),.int (-2 - (cell / 16 % 10 ^ (60:Int).toNat))])) PZ (.lst (sp.map V.int ++ [V.int (0 + (i:Int)),.int (-1),.int (10 ^ (9:Int).toNat),.int 0,.int (0 + (i:Int) - 1),.int ((cell / 16 % 10 ^ (60:Int).toNat) / 3 % (0 + (i:Int) + 1)),.int (-2 - (cell / 16 % 10 ^ (60:Int).toNat))]))=H5 at Bf S8 ⊢
    have S9:sp.map V.int ++ [V.int (0 + (i:Int)),.int (-1),.int (10 ^ (9:Int).toNat),.int 0,.int (0 + (i:Int) - 1),.int ((cell / 16 % 10 ^ (60:Int).toNat) / 3 % (0 + (i:Int) + 1)),.int (-2 - (cell / 16 % 10 ^ (60:Int).toNat))]=(sp ++ [0 + (i:Int),-1,10 ^ (9:Int).toNat,0,0 + (i:Int) - 1,(cell / 16 % 10 ^ (60:Int).toNat) / 3 % (0 + (i:Int) + 1),-2 - (cell / 16 % 10 ^ (60:Int).toNat)]).map V.int:=by rw[aR]; rfl
    rw[S9] at S8
    generalize QY:sp ++ [0 + (i:Int),-1,10 ^ (9:Int).toNat,0,0 + (i:Int) - 1,(cell / 16 % 10 ^ (60:Int).toNat) / 3 % (0 + (i:Int) + 1),-2 - (cell / 16 % 10 ^ (60:Int).toNat)]=mn at S8
    have ab1:0 < mn.length:=by rw[← QY,aF]; show 0 < sp.length + 7; omega
    have Zl:0 < ((mn.map V.int).length:Int):=by rw[ae]; omega
    obtain⟨y,_,hy⟩:=kF (g:=V.int) (xs:=mn) (m:=((mn.map V.int).length:Int)) (x:=(cell / 16 % 10 ^ (60:Int).toNat)) (by rw[ae]) Zl
    have OZ:=Bf _ _ qS
    refine⟨_,rfl,.inl ⟨rfl,_,bQ.of OZ⟩,_,rfl,_,rfl,_,rfl,PZ,_,rfl,.inl (bQ.of S8),_,_,rfl,rfl,Zl,PZ,_,_,.int y,rfl,rfl,bQ.of S8,hy,(by show 2<=sizeLine; decide),fun p8 n8=>?_⟩
    refine⟨pm,ms,_,rfl,rfl,aG.new n8 _ _ OZ,br (by omega),?_⟩
    obtain⟨k5,s5,ve,h8,zQ,B4,l7⟩:=MJ (xs:=[V.str "undo",.int y]) nm (s4.trans Bf) OZ n8 n1 n3 EJ (Bf _ _ zx) (Bf _ _ GY) (Bf _ _ nL)
    exact tw.mk' (d:= .iP y) (LS.mono Bf.tk) EL cH k5 s5 ve (fZ h8 (gZ (rS _) (gZ (rI _) r0))) trivial zQ (by omega) B4 (by omega) l7 (by omega) n1 n2 n3 n4
   refine⟨_,rfl,rfl,_,rfl,cQ (fun c7=>?_) (fun c7=>?_)⟩
   ·
    refine⟨_,rfl,.inl ⟨rfl,_,bQ.of qS⟩,(by show 2<=sizeLine; decide),fun p9 n9=>?_⟩
    have t9:=aG.new (o:= .lst [V.str "owed",.str "free"]) n9
    obtain⟨y,Yx,hy⟩:=kF (g:=fun o:Bool=>V.str (if o then "owed" else "free")) (xs:=[true,false]) (m:=2) (x:=(cell / 16 % 10 ^ (60:Int).toNat)) rfl (by decide)
    refine⟨_,rfl,_,_,rfl,rfl,(by show(0:Int) < 2; decide),p9,_,_,_,rfl,rfl,bQ.of ag,hy,_,rfl,_,rfl,(by show 3<=sizeLine; decide),fun p8 n8=>?_⟩
    have Zm:=t9 _ _ qS
    refine⟨pm,ms,_,rfl,rfl,aG.new n8 _ _ Zm,br (by omega),?_⟩
    obtain⟨k5,s5,ve,h8,zQ,B4,l7⟩:=MJ (xs:=[V.str (if y then "owed" else "free"),.str aN,.int day]) nm (s4.trans t9) Zm n8 n1 n3 EJ (t9 _ _ zx) (t9 _ _ GY) (t9 _ _ nL)
    exact tw.mk' (d:= .ask y aN day) (LS.mono t9.tk) EL cH k5 s5 ve (fZ h8 (gZ (rS _) (gZ (rS _) (gZ (rI _) r0)))) trivial zQ (by omega) B4 (by omega) l7 (by omega) n1 n2 n3 n4
   ·
    obtain⟨P5,Xq,ab2⟩:=yU (cell / 16 % 10 ^ (60:Int).toNat) 12 (by decide)
    refine⟨_,rfl,_,_,rfl,rfl,(by show(0:Int) < 12; decide),_,rfl,vC (by decide) (ou _ (by decide)),Int.lt_trans (Ca _ (by decide)) (by decide),?_⟩
    show xl (Ma 0 ((cell / 16 % 10 ^ (60:Int).toNat) % 12).toNat) _ _ _ _ _ _
    rw[Xq,eN]
    refine Cs (lo:=0) (n:=P5) (fun D j σ H6=>H4 D=none/\ ∃v,σ=[v,some (.int (cell / 16 % 10 ^ (60:Int).toNat))]/\aG H4 H6/\H6 D=some (.lst ((dh (cell / 16 % 10 ^ (60:Int).toNat) j).map V.int))) (fun D hD=>⟨hD,none,rfl,aG.new hD,ag⟩) ?_ ?_
    ·rintro D j σ H6 hj ⟨hD,v,rfl,t3,hl⟩
     refine⟨_,rfl,_,_,rfl,rfl,(by show(0:Int) < 9; decide),_,_,rfl,rfl,_,rfl,_,rfl,_,_,rfl,rfl,(by show(0:Int) < 30; decide),_,_,rfl,rfl,_,_,rfl,rfl,.inl ⟨by omega,by omega⟩,_,_,rfl,rfl,?_⟩
     refine⟨_,hl,br (by rw[ae,BI]; omega),hD,_,rfl,t3.dA hD,?_⟩
     rw[ag]
     unfold dh
     rw[vE,aR,aR]; rfl
    ·rintro D σ H6 _ ⟨hD,v,rfl,t3,hl⟩
     have Ja:=t3 _ _ qS
     refine⟨_,rfl,.inl ⟨rfl,_,bQ.of Ja⟩,_,rfl,_,rfl,_,rfl,D,_,rfl,.inl ⟨bQ.of hl,fun pt YS=>?_⟩⟩
     have t7:=t3.trans (aG.new (o:= .tup ((dh (cell / 16 % 10 ^ (60:Int).toNat) P5).map V.int)) YS)
     have g7:=ag (H:=H6) (a:=pt) (o:= .tup ((dh (cell / 16 % 10 ^ (60:Int).toNat) P5).map V.int))
     generalize upd H6 pt (.tup ((dh (cell / 16 % 10 ^ (60:Int).toNat) P5).map V.int))=H7 at t7 g7 ⊢
     refine⟨(by show 4<=sizeLine; decide),fun p8 n8=>?_⟩
     have Gu:=t7 _ _ qS
     refine⟨pm,ms,_,rfl,rfl,aG.new n8 _ _ Gu,br (by omega),?_⟩
     obtain⟨k5,s5,ve,h8,zQ,B4,l7⟩:=MJ (xs:=[V.str "ages",.str aN,.int day,.ref pt]) nm (s4.trans t7) Gu n8 n1 n3 EJ (t7 _ _ zx) (t7 _ _ GY) (t7 _ _ nL)
     exact tw.mk' (d:= .iB aN day (dh (cell / 16 % 10 ^ (60:Int).toNat) P5)) (LS.mono t7.tk) EL cH k5 s5 ve (fZ h8 (gZ (rS _) (gZ (rS _) (gZ (rI _) (gZ (fZ (k5 _ _ g7) (iL.ints _)) r0))))) (LQ (cell / 16 % 10 ^ (60:Int).toNat) P5 (by omega)) zQ (by omega) B4 (by omega) l7 (by omega) n1 n2 n3 n4
  ·rintro σ H2 ⟨pb,ph,bs,hs,sp,ds,ms,x5,x6,x7,x8,x9,Bv,Gx,Jw,LP,JU,Jx,Jy,rfl,s2,hM,hR,EL,cH,_⟩
   rw[ae] at EL
   refine⟨_,rfl,?_⟩
   exact k pm ds ms H2 s2 hM hR EL cH
theorem oa {α:Type}(f:α->Dt)(n:Nat): ∀l:List α,(∀x∈l,(f x).size<=n)->Dt.fG (l.map f)<=l.length * n
 |[],_=>bF _
 |x :: l,h=>by
  have h1:=oa f n l fun y hy=>h y (aU _ hy)
  have h2:=h x bC
  rw[dj,cu,vz]
  show(f x).size + Dt.fG (l.map f)<=_
  omega
theorem pV {α:Type}(f:α->Dt)(l:List α)(h: ∀x∈l,(f x).plain=true):Dt.lU (l.map f)=true:=by
 rw[Dt.pC]
 intro d hd
 obtain⟨x,hx,rfl⟩:=bP.mp hd
 exact h x hx
theorem xQ {d:bI}(h:d.ok):d.dt.size<=100/\d.dt.plain=true:=by
 cases d with
 |iB w dy l=>
  have h1:l.length<=11:=h.1
  have h2:=oa Dt.int 1 l (fun x _=>aB _)
  refine⟨?_,?_⟩
  ·show(Dt.tup [.str "ages",.str w,.int dy,.tup (l.map Dt.int)]).size<=100
   simp only[Dt.size,Dt.fG]
   omega
  ·show(Dt.tup [.str "ages",.str w,.int dy,.tup (l.map Dt.int)]).plain=true
   simp[Dt.plain,Dt.lU,pV Dt.int l (fun x _=>rfl)]
 |_=>exact⟨by simp[bI.dt,Dt.size,Dt.fG],by simp[bI.dt,Dt.plain,Dt.lU]⟩
theorem Dn {ds:List bI}(h: ∀d∈ds,d.ok)(hl:ds.length<=60):(Dt.lst (ds.map bI.dt)).size<=100000/\(Dt.lst (ds.map bI.dt)).plain=true:=by
 have h1:=oa bI.dt 100 ds fun d hd=>(xQ (h d hd)).1
 refine⟨?_,pV bI.dt ds fun d hd=>(xQ (h d hd)).2⟩
 show 1 + Dt.fG (ds.map bI.dt)<=100000
 omega
theorem GH {H:Hp}{pd:Addr}{d:bI}(h:rV H pd d): ∃r,H pd=some (.tup (.str (bI.word d) :: r)):=by
 cases d with
 |iB w dy l=>
  obtain⟨pl,h1,_⟩:=h
  exact⟨_,h1⟩
 |_=>exact⟨_,h⟩
theorem xR (d:bI):vK (.str (bI.word d)) [.str "bill",.str "pay",.str "note",.str "set",.str "sweep"]=d.tells:=by
 cases d with
 |dZ _ _ _ _=>show vK (.str "bill") _ =true; decide +kernel
 |qv _ _ _=>show vK (.str "pay") _ =true; decide +kernel
 |note _ _ _=>show vK (.str "note") _ =true; decide +kernel
 |set _ _ _=>show vK (.str "set") _ =true; decide +kernel
 |fO _=>show vK (.str "sweep") _ =true; decide +kernel
 |iP _=>show vK (.str "undo") _ =false; decide +kernel
 |ask o _ _=>
  cases o
  ·show vK (.str "free") _ =false; decide +kernel
  ·show vK (.str "owed") _ =false; decide +kernel
 |iB _ _ _=>show vK (.str "ages") _ =false; decide +kernel
theorem LV (xs:List V)(a b:Nat)(h:a<=b):(qm xs (some (a:Int)) (some (b:Int))).length<=b - a:=by
 unfold qm
 rw[HT.yb,HT.yb,bD]
 omega
theorem LW (ns:List Int)(lo hi:Option Int): ∃cs:List Int,qm (ns.map V.int) lo hi=cs.map V.int:=by
 unfold qm
 rw[← List.map_drop,← List.map_take]
 exact⟨_,rfl⟩
theorem JA {H:Hp}{tb:Addr}{pos:Pos}{qual:Str}(h:H tb=some (.mB #[])):Tb H tb pos qual:=⟨#[],h,True.intro,.inl rfl⟩
def JB (K:PySem.W.Frag)(cps:List (Addr×Addr)):Sp:=fun vs H Q _=> ∃(a:Addr) (ns:List Int),vs=[.ref a]/\bQ K H a (ns.map V.int)/\ns.length<=63/\(∀cp∈cps,H cp.2=some (.mB #[]))/\ ∀H',Q (.bl true) H'
theorem LX {H:Hp}{sd p:Addr}{S:Bk}{f:fL}{ws:List V}{o:HO}(h:dD H sd S f)(e:H p=some (.lst ws))(n:p∉f.fp):dD (upd H p o) sd S f:=
 h.keep (fun b u hb z=>by
  have nb:b≠p:=by
   rcases hb with hb|hb
   ·rw[hb]
    exact md h.dict e (by intro q; cases q)
   ·exact fun q=>n (q▸hb)
  rw[ay nb]
  exact z) (gx e)
def O0:Sp:=fun vs H Q _=> ∃(pa:Addr) (ds:List bI) (ms:List V),vs=[.ref pa]/\H pa=some (.lst ms)/\gW H ds ms/\ds.length<=59/\(∀d∈ds,d.ok)/\
 ∀(t:Addr) (v:V) (ps sd:Addr) (us:List V) (f:fL) (H':Hp),aG H H'->H' t=some (.tup [v,.ref ps,.ref sd])->H' ps=some (.lst us)->gO H' (gU ds iZ.new 0).2.steps us->dD H' sd (gU ds iZ.new 0).2.bk f->(∀x∈f.fp,H x=none)->ps∉f.fp->Good (gU ds iZ.new 0).2 ds.length->Q (.ref t) H'
theorem jm:aW ["_law_asked","_law_steps","_law_state","_law_due","_law_number","_law_deed","_law_answer"] ["_law_asked"] (aA (top 63)):=⟨rfl,rfl,rfl,by decide +kernel,rfl,by decide +kernel,by decide +kernel⟩
theorem oF (T:Txt K mg):fz P w K mg base "_law_gone_through" 6 ["_law_asked"] O0:=by
 have l4:=qK (P:=P) (w:=w) (base:=base) T
 have zG:=y7 (P:=P) (w:=w) (base:=base) T
 have BJ:=Bi (P:=P) (w:=w) (base:=base) T
 refine T.oA.lg (k:=5) jm (fun _ _ _ _ _ _ us hl=>match us,hl with|[_],_=>rfl) (fun vs H Q E h=>?_) (fun f dv A outer s H vs Q E hr h=>?_)
 ·obtain⟨pa,ds,ms,rfl,_⟩:=h
  rfl
 ·obtain⟨pa,ds,ms,rfl,LH,Jt,EL,cH,k⟩:=h
  have nd:=jm.nd
  have IL:=gW.length Jt
  refine⟨_,(ah (bb (i:=1) nd rfl (Or.inl rfl) (b9 ak))
(ah (bb (i:=2) nd rfl (Or.inl rfl) (HB l4 (hr.mono (by decide)) rfl))
(ah (bb (i:=3) nd rfl (Or.inl rfl) (b9 ak))
(ah (fM bY rfl (jF rfl T.nU (aa (bu bz (by rfl) T.eY bB (aa (pv 0) ak)) ak)) (bG (i:=4) nd rfl (Or.inl rfl))
(ah (bb (i:=5) nd rfl (Or.inl rfl) (aO bh (pv 0) (pv 4) (fun _ _=>rfl)))
(ah (bb (i:=6) nd rfl (Or.inl rfl) aS)
(jA (b0 (PW.pt (pw_or (gi (cL zG (hr.mono (by decide)) rfl (aa (pv 5) ak))) (pw_or1 (a9 dr (aO bg (pv 5) aj (fun _ _=>rfl)) aS (bc _)))))
(av (kM (cL BJ (hr.mono (by decide)) rfl (aa (pv 1) (aa (pv 2) (aa (pv 4) (aa (pv 5) ak))))) (iW rfl (cw (bG (i:=6) nd rfl (Or.inl rfl)) (cw (bG (i:=1) nd rfl (Or.inl rfl)) (cw (bG (i:=2) nd rfl (Or.inl rfl)) gJ))))))
bw)
(av (bR (fq aJ aH aI bZ (pv 3) (aa (pv 6) ak))))))))
(av (ba (dH (aa (pv 3) (aa (pv 1) (aa (pv 2) ak)))))))))),?_⟩
  refine⟨bF _,fun ps Er=>?_⟩
  have s6:=aG.new (o:= .lst []) Er
  have O1:upd H ps (.lst []) ps=some (.lst []):=ag
  generalize upd H ps (.lst [])=H6 at s6 O1
  refine⟨rfl,fun sd g H7 s7 Ta K6 nf=>?_⟩
  have Tc:=s7 _ _ O1
  have wH:=s6.trans s7
  have Xr:ps∉g.fp:=fun z=>by
   have:=nf _ z
   rw[O1] at this
   cases this
  have nf5: ∀b∈g.fp,H b=none:=fun b hb=>s6.free (nf b hb)
  refine⟨bF _,fun pu Uv=>?_⟩
  have s8:=aG.new (o:= .lst []) Uv
  have Td:upd H7 pu (.lst []) pu=some (.lst []):=ag
  have Te:=s8 _ _ Tc
  have wQ:=Ta.same s8
  have Xs:pu∉g.fp:=Ta.off Uv
  have Xt:pu≠ps:=(aL Tc Uv).symm
  have Xu:=wH.trans s8
  have Xv:H pu=none:=wH.free Uv
  generalize upd H7 pu (.lst [])=H8 at s8 Td Te wQ Xu
  refine⟨_,rfl,pa,_,rfl,.inl (bQ.of (Xu _ _ LH)),(ms.length:Int),rfl,by omega,by omega,?_⟩
  rw[eN]
  refine k6 (lo:=0) (n:=ms.length) (fun i σ H2=> ∃(ps sd:Addr) (us ws:List V) (f:fL) (x4 x5 x6:Option V),σ=[some (.ref pa),some (.ref ps),some (.ref sd),some (.ref pu),x4,x5,x6]/\aG H H2/\H2 ps=some (.lst us)/\gO H2 (gU (ds.take i) iZ.new 0).2.steps us/\dD H2 sd (gU (ds.take i) iZ.new 0).2.bk f/\(∀x∈f.fp,H x=none)/\ps∉f.fp/\Good (gU (ds.take i) iZ.new 0).2 i/\H2 pu=some (.lst ws)/\ws.length=i/\pu∉f.fp/\pu≠ps)
   ⟨ps,sd,[],[],g,none,none,none,rfl,Xu,Te,.nil,wQ,nf5,Xr,Good.new,Td,rfl,Xs,Xt⟩ ?_ ?_
  ·rintro i σ H2 hi ⟨ps,sd,us,ws,f,x4,x5,x6,rfl,s2,mP,P6,hB,O2,Er,hG,Zn,DO,JT,Xw⟩
   rw[lK]
   have yk:i < ds.length:=by omega
   have oP:=af yk
   obtain⟨v0,VG,Sl⟩:=gW.get Jt oP
   obtain⟨pd,rfl,Zo⟩:=ED Sl
   have hd:=Zo.mono s2.tk
   have LM:=cH _ (bO yk)
   have Ur:=xP yk
   have oR:Good (gp (gU (ds.take i) iZ.new 0).2 (i:Int) ds[i]).2 (i + 1):=hG.step ds[i]
   rw[Ur]
   generalize ds[i]=d at hd LM oR
   generalize (gU (ds.take i) iZ.new 0).2=TT at P6 hB hG oR
   clear Ur Sl Zo oP
   refine⟨_,rfl,_,rfl,pa,_,_,.ref pd,rfl,rfl,bQ.of (s2 _ _ LH),cS VG,?_⟩
   refine⟨fun σ' H'=> ∃(v:V) (uY BY:Addr) (Bh:List V) (f':fL),σ'=[some (.ref pa),some (.ref uY),some (.ref BY),some (.ref pu),some (.int (i:Int)),some (.ref pd),some v]/\aG H H'/\H' uY=some (.lst Bh)/\gO H' (gp TT i d).2.steps Bh/\dD H' BY (gp TT i d).2.bk f'/\(∀x∈f'.fp,H x=none)/\uY∉f'.fp/\H' pu=some (.lst ws)/\pu∉f'.fp/\pu≠uY,?_,?_⟩
   ·obtain⟨r,Zp⟩:=GH hd
    refine⟨_,rfl,pd,bI.word d,r,rfl,Zp,fun H3 s3=>⟨_,rfl,?_⟩⟩
    have MB:=hd.mono s3.tk
    have Xx:=s3 _ _ Zp
    have Gj:=s3 _ _ mP
    have LY:gO H3 TT.steps us:=P6.mono s3.tk
    have Jv:=hB.same s3
    have Uw:=s2.trans s3
    have JC:=s3 _ _ Zn
    have MK: ∀(R:VK),(∀t v uY BY Bh f' H',H' t=some (.tup [v,.ref uY,.ref BY])->aG H H'->H' uY=some (.lst Bh)->gO H' (gp TT i d).2.steps Bh->dD H' BY (gp TT i d).2.bk f'->(∀x∈f'.fp,H x=none)->uY∉f'.fp->H' pu=some (.lst ws)->pu∉f'.fp->pu≠uY->R (.ref t) H')->MA R H3 ps f (gp TT i d):=fun R h t v uY BY f' Bh H' ht hv hp hS hb fr fi np nq=>
     h t v uY BY Bh f' H' ht (fr.same Uw O2) hp hS hb (fun x hx=>(fi x hx).elim (O2 x) fun z=>Uw.free z) np (fr _ _ JT JC) (fun z=>(fi pu z).elim JT fun q=>by rw[JC] at q; cases q) (fun z=>Xw (z.trans (nq pu _ JT JC z.symm)))
    by_cases ht:d.tells=true
    ·rw[xR,ht]
     have E4:H3 pd=some (.tup (bI.vs d)):=by cases d <;> first|exact MB|cases ht
     refine fH (fH ⟨_,rfl,_,rfl,_,rfl,_,rfl,ps,sd,pd,i,TT,us,f,d,rfl,Gj,LY,Jv,Er,E4,.inl ht,hG,(by omega),MK _ fun t v uY BY Bh f' H' ht Kz hp hS hb hn Xy u1 u2 u3=>?_⟩)
     refine⟨t,_,rfl,cM.of ht,rfl,_,_,rfl,_,_,rfl,_,_,rfl,rfl,?_⟩
     exact⟨v,uY,BY,Bh,f',rfl,Kz,hp,hS,hb,hn,Xy,u1,u2,u3⟩
    ·rw[xR,Bool.eq_false_iff.mpr ht]
     refine cv ⟨_,rfl,pd,_,_,.str (bI.word d),rfl,rfl,cM.of Xx,Jk _ _,rfl,?_⟩
     cases d with
     |dZ _ _ _ _=>exact absurd rfl ht
     |qv _ _ _=>exact absurd rfl ht
     |note _ _ _=>exact absurd rfl ht
     |set _ _ _=>exact absurd rfl ht
     |fO _=>exact absurd rfl ht
     |iP m=>
      refine⟨true,zN _,fH ⟨_,rfl,_,rfl,_,rfl,_,rfl,ps,sd,pd,i,TT,us,f,.iP m,rfl,Gj,LY,Jv,Er,MB,.inr ⟨m,rfl⟩,hG,(by omega),MK _ fun t v uY BY Bh f' H' ht Kz hp hS hb hn Xy u1 u2 u3=>?_⟩⟩
      refine⟨t,_,rfl,cM.of ht,rfl,_,_,rfl,_,_,rfl,_,_,rfl,rfl,?_⟩
      exact⟨v,uY,BY,Bh,f',rfl,Kz,hp,hS,hb,hn,Xy,u1,u2,u3⟩
     |ask o wh dy=>
      refine⟨false,jE (by cases o; exact(show("free":Str)≠"undo" by decide +kernel); exact(show("owed":Str)≠"undo" by decide +kernel)),cv ?_⟩
      exact⟨_,ps,sd,us,f,rfl,Uw,Gj,LY,Jv,O2,Er,JC,JT,Xw⟩
     |iB wh dy dh=>
      refine⟨false,jE (show("ages":Str)≠"undo" by decide +kernel),cv ?_⟩
      exact⟨_,ps,sd,us,f,rfl,Uw,Gj,LY,Jv,O2,Er,JC,JT,Xw⟩
   ·rintro σ' H' ⟨v,uY,BY,Bh,f',rfl,s',RN,Xl,Xz,XA,XB,u1,u2,u3⟩
    refine⟨_,rfl,.inl ⟨rfl,_,bQ.of u1⟩,_,rfl,pu,ws,v,rfl,rfl,u1,br (by omega),?_⟩
    exact⟨uY,BY,Bh,ws ++ [v],f',_,_,_,rfl,s'.dA Xv,by rw[ay u3.symm]; exact RN,Xl.mono (gx u1),LX Xz u1 u2,XA,XB,oR,ag,by rw[aF,DO]; rfl,u2,u3⟩
  ·rintro σ H2 ⟨ps,sd,us,ws,f,x4,x5,x6,rfl,s2,mP,P6,hB,O2,Er,hG,Zn,_⟩
   rw[← IL,bf] at P6 hB hG
   refine⟨_,rfl,_,rfl,_,rfl,(by show 3<=sizeLine; decide),fun t nt=>?_⟩
   have s9:=aG.new (o:= .tup [V.ref pu,.ref ps,.ref sd]) nt
   exact k t _ ps sd us f _ (s2.trans s9) ag (s9 _ _ mP) (P6.mono s9.tk) (hB.same s9) O2 Er hG
def vo (A:en)(tB tC:Addr):Sp:=fun vs H Q _=> ∃(ps:Addr) (ds:List bI) (ms:List V),vs=[.ref ps]/\H ps=some (.lst ms)/\gW H ds ms/\ds.length<=60/\(∀d∈ds,d.ok)/\lF H tB/\l6 H tC/\
 ∀D us H',Frame [tB,tC] H H'->lF H' tB->l6 H' tC->H D=none->H' D=some (.lst us)->gQ H' (gU ds iZ.new 0).2.bk.made us->Q (.ref D) H'
theorem sP:aW ["deeds","book"] ["deeds"] (aA (top 33)):=⟨rfl,rfl,rfl,by decide +kernel,rfl,by decide +kernel,by decide +kernel⟩
theorem Dp (T:Txt K mg){A:en}{tB tC:Addr}(G:jB K mg A)(DB:qa K mg "bills_in_order" (top 17) tB)(DC:qa K mg "credits_in_order" (top 18) tC)(jf:tB≠tC)(hnd:A.i6≠A.tooMuch)(KB:K.In base)(BM:BMain mg base):fz P w K mg base "settings" 12 ["deeds"] (vo A tB tC):=by
 have zH:fz P w K mg base "answers_in" 11 ["book","deeds"] (EF A tB tC):=zy T G DB DC jf hnd KB BM
 have O3:tf P w K mg base "Book" A.book 3 ["self"] (Es A):=OC G
 refine T.CJ.lg (k:=11) sP (fun _ _ _ _ _ _ us hl=>match us,hl with|[_],_=>rfl) (fun vs H Q E h=>?_) (fun f dv A' outer s H vs Q E hr h=>?_)
 ·obtain⟨ps,ds,ms,rfl,_⟩:=h
  rfl
 ·obtain⟨ps,ds,ms,rfl,mP,Jt,hl,cH,kh,jM,k⟩:=h
  have nd:=sP.nd
  refine⟨_,(ah (bb (i:=1) nd rfl (Or.inl rfl) (Iy O3 (hr.mono (by decide)) rfl))
(ah (bR (cL zH (hr.mono (by decide)) rfl (aa (pv 1) (aa (pv 0) ak))))
(av (ba (f9 lP (by rfl) T.rM boot_list (aa (cq (cq (pv 1) rfl) rfl) ak)))))),?_⟩
  intro xb Zq XC XD ne
  have s1:=lB (C:=A.book) (fs:=[]) XC XD ne
  refine⟨xb,Zq,rfl,ag,fun pk pw g H1 F1 hx hk hW nk npw nf Y8=>⟨rfl,?_⟩⟩
  have S1:aG H H1:=fun b o e=>F1 b o (by simpa using aL e XC) (s1 b o e)
  have fr: ∀b∈g.fp,H b=none:=fun b hb=>s1.free (nf b hb)
  have nk0:H pk=none:=s1.free nk
  refine⟨_,rfl,_,rfl,xb,pk,pw,ps,g,ds,ms,rfl,⟨⟨Zq,hx⟩,⟨[],hk,.nil⟩,hW⟩,S1 _ _ mP,(fun z=>by
   have:=fr _ z
   rw[mP] at this
   cases this),Jt.mono S1.tk,hl,cH,bW kh S1,bW jM S1,fun pt ws tR qb f' H2 F2 jl kr nt BX hA Eo=>?_⟩
  have Zr:Frame [tB,tC] H H2:=(S1.frame (fp:=[tB,tC])).trans F2 fun x hx=>by
   rcases aw.mp hx with hx|hx
   ·exact .inl (by simp[hx])
   rcases aw.mp hx with hx|hx
   ·exact .inl (by simp[hx])
   rcases aw.mp hx with hx|hx
   ·exact .inr (by rw[hx]; exact XC)
   rcases aw.mp hx with hx|hx
   ·exact .inr (by rw[hx]; exact nk0)
   ·exact .inr (fr x hx)
  obtain⟨db,Pr⟩:=Eo.obj
  obtain⟨dw,Mt⟩:=Eo.wk.obj
  obtain⟨us,m1,m2⟩:=Eo.wk.hm
  refine⟨_,rfl,xb,_,db,_,_,rfl,Pr,G.eL,G.fW,qR _ _,qb,_,dw,_,_,rfl,Mt,G.bJ,G.jC,yI f',f'.pm,us,rfl,.inl (bQ.of m1),fun D nD=>?_⟩
  have s3:=aG.new (o:= .lst us) nD
  refine k D us _ (Zr.cZ s3) (bW jl s3) (bW kr s3) ?_ ag (m2.mono s3.tk)
  cases e:H D with
  |none=>rfl
  |some o=>
   exfalso
   by_cases jJ:D∈[tB,tC]
   ·simp only[List.mem_cons,List.not_mem_nil,or_false] at jJ
    rcases jJ with z|z
    ·obtain⟨_,q⟩:=c8 jl
     rw[← z,nD] at q
     cases q
    ·obtain⟨_,q⟩:=c8 kr
     rw[← z,nD] at q
     cases q
   ·have q:=Zr _ _ jJ e
    rw[nD] at q
    cases q
end
end eT
namespace L2
open PySem PySem.Spec PySem.W PyProof.Rows
section
variable {X:Cx}
def Tf (K:PySem.W.Frag):List V->Hp->VK->Prop:=fun xs H Q=> ∃(p:Addr) (ns:List Int),xs=[V.ref p]/\bQ K H p (ns.map V.int)/\ns≠[]/\ ∀m,m∈ns->Q (.int m) H
theorem xS (hc:X.calm=true):iz X (.builtin "min") (Tf X.K):=by
 intro pins s σ H xs us Q I r h
 obtain⟨p,ns,rfl,hq,jf,q⟩:=h
 obtain⟨u,rfl,ru⟩:=vals1 r
 cases ru
 obtain⟨cy,rv,pl,hz⟩:=I.list hq
 have hI:IntsAre cy ns:=intsAre_of rv
 have hl:=hI.length
 have hh:=I.ok.hd hc
 have ab5:0 < ns.length:=List.length_pos_iff.mpr jf
 have hT:s.heap.IsList p cy.toArray:=pl.isList
 have hp:p < s.heap.objs.size:=by
  obtain⟨o,ho,_⟩:=hT
  exact aK ho
 have NF:p≠s.heap.objs.size:=aY hp
 refine call_min_walk (MO hT ?_)
 refine⟨_,[_,p],[_],_,_,_,_,rfl,Walks.list (A:=X.A.in1) hh _ p NF cy.toArray,
  ⟨⟨_,Heap.get?_push_size _ rfl,rfl,rfl⟩,hT.push _⟩,fun c hc=>?_,by rw[List.size_toArray]; omega,CmpOf.ints_lt (fun i=>ns.getD i 0) (fun i v hv=>IntsAre.int_at hI i v (by simpa using hv)),fun v h' tk hP hk=>?_⟩
 ·show c < (s.heap.push _).objs.size
  rw[kj]
  rcases aw.mp hc with rfl|hc
  ·exact fk _
  ·rcases aw.mp hc with rfl|hc
   ·exact gI hp
   ·cases hc
 ·obtain⟨b1,b2⟩:=argBest_lt (fun i=>ns.getD i 0) (cy.toArray.size - 1)
  rw[bA] at b1 b2
  obtain⟨t,rfl⟩:=IntsAre.int_at hI _ v (by rw[← Array.getElem?_toList] at hP; exact hP)
  refine⟨.int _,H,I.kept (t':=tk) (fun b o e=>hk b o (fun hm=>?_) (ax _ e)),⟨_,rfl⟩,q _ ?_⟩
  ·rw[ao] at hm
   exact absurd hm (aY (aK e))
  ·rw[bA]
   rw[ai,af (by omega)]
   exact bO _
end
def BK (ms:List (Nat×Nat×Int))(k:Nat):Int:=((ms.filter fun t=>decide (t.2.1=k)).map (·.2.2)).sum
def BL (ms:List (Nat×Nat×Int))(k:Nat):Int:=((ms.filter fun t=>decide (t.1=k)).map (·.2.2)).sum
theorem rW (ms:List (Nat×Nat×Int))(t:Nat×Nat×Int)(k:Nat):BK (ms ++ [t]) k=BK ms k + if t.2.1=k then t.2.2 else 0:=by
 unfold BK
 rw[gh,aR,JZ]
 by_cases h:t.2.1=k <;> simp[h]
theorem rX (ms:List (Nat×Nat×Int))(t:Nat×Nat×Int)(k:Nat):BL (ms ++ [t]) k=BL ms k + if t.1=k then t.2.2 else 0:=by
 unfold BL
 rw[gh,aR,JZ]
 by_cases h:t.1=k <;> simp[h]
theorem GI {ms:List (Nat×Nat×Int)}{k:Nat}(h: ∀t∈ms,t.2.1≠k):BK ms k=0:=by
 unfold BK
 rw[List.filter_eq_nil_iff.mpr fun t ht=>by simp[h t ht]]
 rfl
theorem GJ {ms:List (Nat×Nat×Int)}{k:Nat}(h: ∀t∈ms,t.1≠k):BL ms k=0:=by
 unfold BL
 rw[List.filter_eq_nil_iff.mpr fun t ht=>by simp[h t ht]]
 rfl
structure Acc (S:Bk):Prop where
 m: ∀t∈S.made,t.1 < S.credits.length/\t.2.1 < S.aC.length/\1<=t.2.2/\S.dX t.1 t.2.1=true
 b: ∀k,k < S.aC.length->(S.bl k).d=(S.bl k).c - BK S.made k/\0<=(S.bl k).d
 c: ∀k,k < S.credits.length->(S.cr k).d=(S.cr k).b - BL S.made k/\0<=(S.cr k).d
theorem Acc.new:Acc Bk.new:=⟨(fun _ h=>by cases h),fun _ h=>absurd h (fS _),fun _ h=>absurd h (fS _)⟩
theorem Acc.ir {S:Bk}(h:Acc S){r:Rw}(e:r.d=r.c)(p:0<=r.d):Acc (S.ir r):=by
 have len:(S.ir r).aC.length=S.aC.length + 1:=by simp[Bk.ir]
 have old: ∀k,k < S.aC.length->(S.ir r).bl k=S.bl k:=fun k hk=>getD_snoc hk
 refine⟨fun t ht=>?_,fun k hk=>?_,h.c⟩
 ·obtain⟨a,b,c,d⟩:=h.m t ht
  refine⟨a,by rw[len]; omega,c,?_⟩
  rw[← d]
  unfold Bk.dX
  rw[old _ b]
  rfl
 ·by_cases q:k < S.aC.length
  ·rw[old k q]
   exact h.b k q
  ·have q':k=S.aC.length:=by omega
   have e2:(S.ir r).bl k=r:=by rw[q']; exact getD_last
   rw[e2,show(S.ir r).made=S.made from rfl,GI fun t ht=>by have:=(h.m t ht).2.1; omega]
   omega
theorem Acc.fU {S:Bk}(h:Acc S){r:Rw}(e:r.d=r.b)(p:0<=r.d):Acc (S.fU r):=by
 have len:(S.fU r).credits.length=S.credits.length + 1:=by simp[Bk.fU]
 have old: ∀k,k < S.credits.length->(S.fU r).cr k=S.cr k:=fun k hk=>getD_snoc hk
 refine⟨fun t ht=>?_,h.b,fun k hk=>?_⟩
 ·obtain⟨a,b,c,d⟩:=h.m t ht
  refine⟨by rw[len]; omega,b,c,?_⟩
  rw[← d]
  unfold Bk.dX
  rw[old _ a]
  rfl
 ·by_cases q:k < S.credits.length
  ·rw[old k q]
   exact h.c k q
  ·have q':k=S.credits.length:=by omega
   have e2:(S.fU r).cr k=r:=by rw[q']; exact getD_last
   rw[e2,show(S.fU r).made=S.made from rfl,GJ fun t ht=>by have:=(h.m t ht).1; omega]
   omega
theorem Acc.put {S:Bk}(h:Acc S){c b:Nat}{x:Int}(hc:c < S.credits.length)(hb:b < S.aC.length)(hx:1<=x)(x1:x<=(S.cr c).d)(x2:x<=(S.bl b).d)(hg:S.dX c b=true):Acc (S.put c b x):=by
 have L:Later S (S.put c b x):=Later.put hb hc (by omega)
 refine⟨fun t ht=>?_,fun k hk=>?_,fun k hk=>?_⟩
 ·rw[L.cl,L.bl,L.dX]
  rcases bq.mp (show t∈S.made ++ [(c,b,x)] from ht) with ht|ht
  ·exact h.m t ht
  ·rw[ao.mp ht]
   exact⟨hc,hb,hx,hg⟩
 ·rw[L.bl] at hk
  rw[show(S.put c b x).made=S.made ++ [(c,b,x)] from rfl,rW,mQ hb]
  have:=h.b k hk
  by_cases e:k=b
  ·subst e
   rw[a8 rfl,a8 rfl]
   show(S.bl k).d - x=(S.bl k).c - (BK S.made k + x)/\0<=(S.bl k).d - x
   omega
  ·rw[aQ e,aQ (fun z=>e z.symm)]
   omega
 ·rw[L.cl] at hk
  rw[show(S.put c b x).made=S.made ++ [(c,b,x)] from rfl,rX,pF hc]
  have:=h.c k hk
  by_cases e:k=c
  ·subst e
   rw[a8 rfl,a8 rfl]
   show(S.cr k).d - x=(S.cr k).b - (BL S.made k + x)/\0<=(S.cr k).d - x
   omega
  ·rw[aQ e,aQ (fun z=>e z.symm)]
   omega
theorem rY {ex:Bool}{c:Nat}: ∀{l:List Nat} {S:Bk},l.Nodup->Acc S->c < S.credits.length->(∀b∈l,b < S.aC.length/\0 < (S.bl b).d)->Acc (l.foldl (bV ex c) S)/\(l.foldl (bV ex c) S).credits.length=S.credits.length/\(l.foldl (bV ex c) S).aC.length=S.aC.length
 |[],S,_,h,_,_=>⟨h,rfl,rfl⟩
 |b :: l,S,nd,h,hc,hl=>by
  rw[dR]
  rw[eA] at nd
  obtain⟨hb,pb⟩:=hl b bC
  by_cases q:0 < (S.cr c).d/\S.dX c b=true/\((S.cr c).d=(S.bl b).d∨ex=false)
  ·have e:bV ex c S b=S.put c b (fI (S.cr c).d (S.bl b).d):=a8 q
   rw[e]
   have mn:1<=fI (S.cr c).d (S.bl b).d/\fI (S.cr c).d (S.bl b).d<=(S.cr c).d/\fI (S.cr c).d (S.bl b).d<=(S.bl b).d:=by
    unfold fI
    split <;> omega
   have L:Later S (S.put c b (fI (S.cr c).d (S.bl b).d)):=Later.put hb hc (by omega)
   obtain⟨r1,r2,r3⟩:=rY (ex:=ex) nd.2 (h.put hc hb mn.1 mn.2.1 mn.2.2 q.2.1) (by rw[L.cl]; exact hc) (fun b' pY=>by
    obtain⟨u1,u2⟩:=hl b' (aU _ pY)
    refine⟨by rw[L.bl]; exact u1,?_⟩
    have nb:b'≠b:=fun z=>nd.1 (z▸pY)
    rw[mQ hb,aQ nb]
    exact u2)
   exact⟨r1,r2.trans L.cl,r3.trans L.bl⟩
  ·have e:bV ex c S b=S:=aQ q
   rw[e]
   exact rY nd.2 h hc fun b' pY=>hl b' (aU _ pY)
theorem nM {ex:Bool}{aN:Str}: ∀{l:List Nat} {S:Bk},Acc S->(∀c∈l,c < S.credits.length)->Acc (l.foldl (ck aN ex) S)
 |[],_,h,_=>h
 |c :: l,S,h,hl=>by
  rw[dR]
  obtain⟨r1,r2,_⟩:=rY (ex:=ex) (iC S.aC aN (·.b)) h (hl c bC) (fun b hb=>⟨(cJ.mp hb).1,(cJ.mp hb).2.2⟩)
  exact nM r1 fun c' Ke=>by
   show c' < (ck aN ex S c).credits.length
   rw[show(ck aN ex S c).credits.length=S.credits.length from r2]
   exact hl c' (aU _ Ke)
theorem Acc.iE {S:Bk}(h:Acc S)(aN:Str):Acc (S.iE aN):=
 nM (nM h fun c hc=>(cJ.mp hc).1) fun c hc=>(cJ.mp hc).1
theorem Acc.enter {S:Bk}(h:Acc S){d:bI}(hb:S.bar d=""):Acc (S.enter d):=by
 cases d with
 |dZ w dy u a=>
  refine h.ir rfl ?_
  have pY:(if a < 1 then("no amount":Str) else if u < dy then("too early":Str) else("":Str))="":=hb
  split at pY
  ·exact absurd pY n4
  ·show 0<=a; omega
 |qv w dy a=>
  refine h.fU rfl ?_
  have pY:(if a < 1 then("no amount":Str) else("":Str))="":=hb
  split at pY
  ·exact absurd pY n4
  ·show 0<=a; omega
 |note b dy a=>
  refine h.fU rfl ?_
  have:=(nR hb).2
  show 0<=a
  omega
 |set c b a=>
  obtain⟨⟨c1,c2⟩,⟨b1,b2⟩,g,x,m1,m2⟩:=lj hb
  exact h.put (by omega) (by omega) x m1 m2 g
 |fO w=>exact h.iE w
 |iP m=>exact h
 |ask o w d=>exact h
 |iB w d l=>exact h
theorem vp: ∀(l:List (Int×bI)) {S T:Bk},Acc S->cK l S=some T->Acc T
 |[],S,T,h,e=>by
  cases e
  exact h
 |(k,d) :: l,S,T,h,e=>by
  unfold cK at e
  split at e
  ·rename_i hb
   exact vp l (h.enter hb) e
  ·cases e
theorem Good.acc {T:iZ}{n:Nat}(h:Good T n):Acc T.bk:=vp T.steps Acc.new h.w
def eF (l:List Rw):Nat:=(l.filter fun r=>decide (0 < r.d)).length
theorem og (r:Rw)(l:List Rw):eF (r :: l)=eF l + if 0 < r.d then 1 else 0:=by
 unfold eF
 by_cases h:0 < r.d
 ·rw[List.filter_cons_of_pos (by simpa using h),if_pos h]; rfl
 ·rw[List.filter_cons_of_neg (by simpa using h),if_neg h]; rfl
theorem vq: ∀{l:List Rw} {i:Nat} {r:Rw},i < l.length->r.d<=(l.getD i default).d->eF (l.set i r)<=eF l/\(0 < (l.getD i default).d->r.d<=0->eF (l.set i r) + 1=eF l)
 |[],_,_,h,_=>absurd h (fS _)
 |x :: l,0,r,_,hd=>by
  have E4:r.d<=x.d:=hd
  show eF (r :: l)<=eF (x :: l)/\(0 < x.d->r.d<=0->eF (r :: l) + 1=eF (x :: l))
  rw[og,og]
  by_cases a:0 < r.d
  ·rw[a8 a,a8 (by omega)]
   exact⟨aB _,fun _ h=>by omega⟩
  ·rw[aQ a]
   by_cases b:0 < x.d
   ·rw[a8 b]
    exact⟨by omega,fun _ _=>rfl⟩
   ·rw[aQ b]
    exact⟨aB _,fun h=>absurd h b⟩
 |x :: l,i + 1,r,h,hd=>by
  obtain⟨h1,h2⟩:=vq (l:=l) (i:=i) (r:=r) (Nat.lt_of_succ_lt_succ h) hd
  show eF (x :: l.set i r)<=eF (x :: l)/\(0 < (l.getD i default).d->r.d<=0->eF (x :: l.set i r) + 1=eF (x :: l))
  rw[og,og]
  exact⟨by omega,fun a b=>by have:=h2 a b; omega⟩
def Bk.zI (S:Bk):Nat:=S.made.length + eF S.aC + eF S.credits
theorem EM {S:Bk}{c b:Nat}{x:Int}(hc:c < S.credits.length)(hb:b < S.aC.length)(hx:0<=x):(S.put c b x).zI<=S.zI + 1/\(0 < (S.cr c).d->0 < (S.bl b).d->x=fI (S.cr c).d (S.bl b).d->(S.put c b x).zI<=S.zI):=by
 obtain⟨b1,b2⟩:=vq (l:=S.aC) (i:=b) (r:=(S.bl b).less x) hb (by show(S.bl b).d - x<=(S.bl b).d; omega)
 obtain⟨c1,c2⟩:=vq (l:=S.credits) (i:=c) (r:=(S.cr c).less x) hc (by show(S.cr c).d - x<=(S.cr c).d; omega)
 have e:(S.put c b x).zI=S.made.length + 1 + eF (S.aC.set b ((S.bl b).less x)) + eF (S.credits.set c ((S.cr c).less x)):=by
  show(S.made ++ [(c,b,x)]).length + _ + _ =_
  rw[aF]
  rfl
 rw[e]
 unfold Bk.zI
 refine⟨by omega,fun h1 h2 h3=>?_⟩
 by_cases q:(S.bl b).d < (S.cr c).d
 ·have hz:((S.bl b).less x).d<=0:=by
   show(S.bl b).d - x<=0
   rw[h3]
   unfold fI
   rw[a8 q]
   omega
  have:=b2 h2 hz
  omega
 ·have hz:((S.cr c).less x).d<=0:=by
   show(S.cr c).d - x<=0
   rw[h3]
   unfold fI
   rw[aQ q]
   omega
  have:=c2 h1 hz
  omega
theorem rZ {ex:Bool}{c:Nat}: ∀{l:List Nat} {S:Bk},l.Nodup->c < S.credits.length->(∀b∈l,b < S.aC.length/\0 < (S.bl b).d)->(l.foldl (bV ex c) S).zI<=S.zI/\(l.foldl (bV ex c) S).credits.length=S.credits.length
 |[],S,_,_,_=>⟨aB _,rfl⟩
 |b :: l,S,nd,hc,hl=>by
  rw[dR]
  rw[eA] at nd
  obtain⟨hb,pb⟩:=hl b bC
  by_cases q:0 < (S.cr c).d/\S.dX c b=true/\((S.cr c).d=(S.bl b).d∨ex=false)
  ·have e:bV ex c S b=S.put c b (fI (S.cr c).d (S.bl b).d):=a8 q
   rw[e]
   have mn:0<=fI (S.cr c).d (S.bl b).d:=by
    unfold fI
    split <;> omega
   have L:Later S (S.put c b (fI (S.cr c).d (S.bl b).d)):=Later.put hb hc mn
   have p:=(EM hc hb mn).2 q.1 pb rfl
   obtain⟨r1,r2⟩:=rZ (ex:=ex) (S:=S.put c b (fI (S.cr c).d (S.bl b).d)) nd.2 (by rw[L.cl]; exact hc) (fun b' pY=>by
    obtain⟨u1,u2⟩:=hl b' (aU _ pY)
    refine⟨by rw[L.bl]; exact u1,?_⟩
    have nb:b'≠b:=fun z=>nd.1 (z▸pY)
    rw[mQ hb,aQ nb]
    exact u2)
   exact⟨a6 r1 p,r2.trans L.cl⟩
  ·have e:bV ex c S b=S:=aQ q
   rw[e]
   exact rZ nd.2 hc fun b' pY=>hl b' (aU _ pY)
theorem nN {ex:Bool}{aN:Str}: ∀{l:List Nat} {S:Bk},(∀c∈l,c < S.credits.length)->(l.foldl (ck aN ex) S).zI<=S.zI
 |[],_,_=>aB _
 |c :: l,S,hl=>by
  rw[dR]
  obtain⟨r1,r2⟩:=rZ (ex:=ex) (iC S.aC aN (·.b)) (hl c bC) (fun b hb=>⟨(cJ.mp hb).1,(cJ.mp hb).2.2⟩)
  refine a6 (nN fun c' Ke=>?_) r1
  show c' < (ck aN ex S c).credits.length
  rw[show(ck aN ex S c).credits.length=S.credits.length from r2]
  exact hl c' (aU _ Ke)
theorem GK (S:Bk)(aN:Str):(S.iE aN).zI<=S.zI:=
 a6 (nN fun c hc=>(cJ.mp hc).1) (nN fun c hc=>(cJ.mp hc).1)
theorem r6 (l:List Rw)(r:Rw):eF (l ++ [r])<=eF l + 1:=by
 unfold eF
 rw[gh,aF]
 have:=a7 (fun r:Rw=>decide (0 < r.d)) [r]
 have e:[r].length=1:=rfl
 omega
theorem GL {S:Bk}{d:bI}(hb:S.bar d=""):(S.enter d).zI<=S.zI + 1:=by
 cases d with
 |dZ w dy u a=>
  have:=r6 S.aC ⟨w,dy,u,a,a⟩
  show S.made.length + eF (S.aC ++ [_]) + eF S.credits<=S.made.length + eF S.aC + eF S.credits + 1
  omega
 |qv w dy a=>
  have:=r6 S.credits ⟨w,dy,a,-1,a⟩
  show S.made.length + eF S.aC + eF (S.credits ++ [_])<=S.made.length + eF S.aC + eF S.credits + 1
  omega
 |note b dy a=>
  have:=r6 S.credits ⟨(S.bl b.toNat).aN,dy,a,b,a⟩
  show S.made.length + eF S.aC + eF (S.credits ++ [_])<=S.made.length + eF S.aC + eF S.credits + 1
  omega
 |set c b a=>
  obtain⟨⟨c1,c2⟩,⟨b1,b2⟩,g,x,m1,m2⟩:=lj hb
  exact(EM (by omega) (by omega) (by omega)).1
 |fO w=>exact rn (GK S w)
 |iP m=>exact dg _
 |ask o w d=>exact dg _
 |iB w d l=>exact dg _
theorem vt: ∀(l:List (Int×bI)) {S T:Bk},cK l S=some T->T.zI<=S.zI + l.length
 |[],S,T,e=>by
  cases e
  exact aB _
 |(k,d) :: l,S,T,e=>by
  unfold cK at e
  split at e
  ·rename_i hb
   have h1:=vt l e
   have h2:=GL hb
   rw[cu]
   omega
  ·cases e
theorem Good.made {T:iZ}{n:Nat}(h:Good T n):T.bk.made.length<=n:=by
 have h1:=vt T.steps h.w
 have h2:=h.len
 have h3:Bk.new.zI=0:=rfl
 have h4:T.bk.made.length<=T.bk.zI:=by unfold Bk.zI; omega
 omega
end L2
namespace eT
open PySem L2 PyProof.Rows JL
seal L2.o8 L2.PS L2.PE L2.PT L2.PW L2.PA L2.PC L2.PG L2.JF L2.PI L2.Kt L2.JH L2.PO L2.ox L2.Mc L2.iz L2.Ho L2.Ng
section
variable {P:Program}{w:World}{K:PySem.W.Frag}{mg:Str->Option Value}{base:Heap}
theorem xT {H:Hp}{rs:List Rw}{ps:List Addr}(h:fc H rs ps){a:Addr}(ha:a∈ps): ∃xs,H a=some (.lst xs):=by
 induction h with
 |nil=>cases ha
 | @cons r p rs ps hr t ih=>
  rcases aw.mp ha with ha|ha
  ·rw[ha]
   exact⟨_,hr⟩
  ·exact ih ha
theorem LZ {H:Hp}{sd a:Addr}{S:Bk}{f:fL}(h:dD H sd S f)(hb:a∈f.fp): ∃xs,H a=some (.lst xs):=by
 obtain⟨ms,m1,_⟩:=h.hm
 unfold fL.fp at hb
 rcases aw.mp hb with z|z
 ·rw[z]; exact⟨_,h.hb⟩
 rcases aw.mp z with z|z
 ·rw[z]; exact⟨_,h.hc⟩
 rcases aw.mp z with z|z
 ·rw[z]; exact⟨_,m1⟩
 rcases bq.mp z with z|z
 ·exact xT h.rb z
 ·exact xT h.rc z
theorem O4 {H H':Hp}{sd:Addr}{S:Bk}{f:fL}(h:dD H sd S f)(k: ∀a o,H a=some o->(∀ps,o≠ .mB ps)->H' a=some o):dD H' sd S f:=by
 refine h.keep (fun b o hb e=>?_) (fun a xs e=>k _ _ e (fun _ z=>by cases z))
 refine k _ _ e (fun ps z=>?_)
 rcases hb with hb|hb
 ·rw[hb,h.dict,z] at e
  cases e
 ·obtain⟨xs,q⟩:=LZ h hb
  rw[q,z] at e
  cases e
theorem GN {ms:List (Nat×Nat×Int)}(h:ms.length<=60):(Dt.lst (ms.map fun t=> .tup [.int t.1,.int t.2.1,.int t.2.2])).size<=100000/\(Dt.lst (ms.map fun t=> .tup [.int t.1,.int t.2.1,.int t.2.2])).plain=true:=by
 have h1:=oa (fun t:Nat×Nat×Int=>Dt.tup [.int t.1,.int t.2.1,.int t.2.2]) 4 ms (fun x _=>aB _)
 refine⟨?_,pV _ ms fun x _=>rfl⟩
 show 1 + Dt.fG (ms.map fun t=>Dt.tup [.int t.1,.int t.2.1,.int t.2.2])<=100000
 omega
def kK (S:Bk)(ms:List (Nat×Nat×Int)):List Int:=(List.range S.credits.length).map fun k=>(S.cr k).b - BL ms k
def mm (S:Bk)(ms:List (Nat×Nat×Int)):List Int:=(List.range S.aC.length).map fun k=>(S.bl k).c - BK ms k
theorem xU (g:Nat->Int){n i:Nat}(h:i < n):((List.range n).map g).getD i 0=g i:=by
 rw[ai,aD,List.getElem?_range h]; rfl
theorem BN {g g':Nat->Int}{n i:Nat}{v:Int}(h:i < n)(e:g' i=v)(o: ∀k,k≠i->g' k=g k):((List.range n).map g).set i v=(List.range n).map g':=by
 apply List.ext_getElem
 ·rw[dQ,ae,ae]
 ·intro k h1 h2
  rw[dQ,ae,dE] at h1
  rw[List.getElem_set,G2,G2,List.getElem_range]
  split
  ·rename_i z
   rw[← z,e]
  ·rename_i z
   rw[o k fun q=>z q.symm]
theorem Dq (S:Bk)(ms:List (Nat×Nat×Int)){t:Nat×Nat×Int}(h:t.1 < S.credits.length):(kK S ms).set t.1 ((kK S ms).getD t.1 0 - t.2.2)=kK S (ms ++ [t]):=by
 unfold kK
 rw[xU _ h]
 refine BN h ?_ fun k hk=>?_
 ·rw[rX,a8 rfl]; omega
 ·rw[rX,aQ fun z=>hk z.symm]; omega
theorem Dr (S:Bk)(ms:List (Nat×Nat×Int)){t:Nat×Nat×Int}(h:t.2.1 < S.aC.length):(mm S ms).set t.2.1 ((mm S ms).getD t.2.1 0 - t.2.2)=mm S (ms ++ [t]):=by
 unfold mm
 rw[xU _ h]
 refine BN h ?_ fun k hk=>?_
 ·rw[rW,a8 rfl]; omega
 ·rw[rW,aQ fun z=>hk z.symm]; omega
theorem xV {rows:List Rw}{g:Rw->Int}{i:Nat}(h:i < rows.length):(rows.take (i + 1)).map g=(rows.take i).map g ++ [g (rows.getD i default)]:=by
 rw[ma h,aR,ai,af h]; rfl
theorem BO (rows:List Rw)(g:Rw->Int):rows.map g=(List.range rows.length).map fun k=>g (rows.getD k default):=by
 have e:=rJ rows (default:Rw)
 have e2:rows.map g=((List.range rows.length).map fun j=>rows.getD j default).map g:=by rw[e]
 rw[e2,fJ]; rfl
theorem JD:aW ["_law_script","_law_cells","_law_asked","_law_state","_law_handed","_law_found","_law_frees","_law_lefts","_law_credit","_law_bill","_law_amount"] ["_law_script"] (aA (top 64)):=⟨rfl,rfl,rfl,by decide +kernel,rfl,by decide +kernel,by decide +kernel⟩
theorem O5 {cps:List (Addr×Addr)}{f:Addr}{fd:FuncData}(F:gv K "law" "law" (top 64) f fd)(T:Txt K mg){A:en}{tB tC:Addr}(G:jB K mg A)(DB:qa K mg "bills_in_order" (top 17) tB)(DC:qa K mg "credits_in_order" (top 18) tC)(jf:tB≠tC)(hnd:A.i6≠A.tooMuch)(KB:K.In base)(BM:BMain mg base)(VN: ∃c,(c,tB)∈cps)(hcC: ∃c,(c,tC)∈cps):lN P w K mg base sk 13 f fd ["_law_script"] (JB K cps):=by
 have Ds:fz P w K mg base "settings" 12 ["deeds"] (vo A tB tC):=Dp T G DB DC jf hnd KB BM
 have BP:=BG (P:=P) (w:=w) (base:=base) T
 have zJ:=zF (P:=P) (w:=w) (base:=base) T
 have qZ:=zB (P:=P) (w:=w) (base:=base) T
 have jk:=nv (P:=P) (w:=w) (base:=base) T
 have oG:=oF (P:=P) (w:=w) (base:=base) T
 refine F.ok (k:=12) JD (fun vs H Q E h=>?_) (fun dv A' outer s H vs Q E hr h=>?_)
 ·obtain⟨a,ns,rfl,_⟩:=h
  rfl
 ·obtain⟨a,ns,rfl,hS,hz,hO,k⟩:=h
  have kh:lF H tB:=let⟨c,hc⟩:=VN; JA (hO _ hc)
  have jM:l6 H tC:=let⟨c,hc⟩:=hcC; JA (hO _ hc)
  have nd:=JD.nd
  have hu:=kA hr
  refine⟨_,(ah (bb (i:=1) nd rfl (Or.inl rfl) (ql tH (pv 0) (qk aj) (qk (aV dS aj (cL BP (hr.mono (by decide)) rfl (aa (pv 0) (aa aj (aa aj ak))))))))
(ah (bb (i:=2) nd rfl (Or.inl rfl) (cL zJ (hr.mono (by decide)) rfl (aa (pv 1) ak)))
(ah (bb (i:=3) nd rfl (Or.inl rfl) (aO bg (cL oG (hr.mono (by decide)) rfl (aa (pv 2) ak)) aj (fun _ _=>rfl)))
(ah (bb (i:=4) nd rfl (Or.inl rfl) (f9 lP (by rfl) T.rM boot_list (aa (pv 2) ak)))
(ah (bb (i:=5) nd rfl (Or.inl rfl) (cL Ds (hr.mono (by decide)) rfl (aa (pv 4) ak)))
(ah (b0 (PW.pt (pw_or (jN (gi (cL qZ (hr.mono (by decide)) rfl (aa (pv 4) (aa (pv 2) ak))))) (pw_or1 (jN (gi (cL qZ (hr.mono (by decide)) rfl (aa (pv 5) (aa (cX hu (pv 3) aS (fun _ _=>rfl)) ak))))))))
(av (ba mC))
bw)
(ah (je (i:=6) nd rfl (Or.inl rfl) (tn:=["_law_row"]) (cn:=[]) (cj:=[]) rfl (yg (by decide +kernel) (by decide +kernel) rfl (by decide +kernel)) (dF (cX hu (pv 3) aS (fun _ _=>rfl))) (fun _ _ _ _=>(bG (i:=0) (show(["_law_row"]:List Str).Nodup by decide +kernel) rfl (Or.inl rfl))) (fun _ _ _ _=>lR) (fun _ _ _ _=>(aO (jg (K:=K) rfl) (pv 0) aj (fun _ _=>rfl))))
(ah (je (i:=7) nd rfl (Or.inl rfl) (tn:=["_law_row"]) (cn:=[]) (cj:=[]) rfl (yg (by decide +kernel) (by decide +kernel) rfl (by decide +kernel)) (dF (cX hu (pv 3) aS (fun _ _=>rfl))) (fun _ _ _ _=>(bG (i:=0) (show(["_law_row"]:List Str).Nodup by decide +kernel) rfl (Or.inl rfl))) (fun _ _ _ _=>lR) (fun _ _ _ _=>(aO (jg (K:=K) rfl) (pv 0) aj (fun _ _=>rfl))))
(ah (fM bY rfl (dF (pv 5)) (iW rfl (cw (bG (i:=8) nd rfl (Or.inl rfl)) (cw (bG (i:=9) nd rfl (Or.inl rfl)) (cw (bG (i:=10) nd rfl (Or.inl rfl)) gJ))))
(ah (b0 (PW.pt (pw_or (a9 jP (pv 10) aj (bc _)) (pw_or1 (jN (gi (cL jk (hr.mono (by decide)) rfl (aa (pv 3) (aa (pv 8) (aa (pv 9) ak)))))))))
(av (ba mC))
bw)
(ah (kM (aV fb (aO bh (pv 6) (pv 8) (fun _ _=>rfl)) (pv 10)) (mF (pv 6) (pv 8) set_list))
(av (kM (aV fb (aO bh (pv 7) (pv 9) (fun _ _=>rfl)) (pv 10)) (mF (pv 7) (pv 9) set_list))))))
(av (ba (pj (eW z8 (bu (xS rfl) (by rfl) T.AE boot_min (aa (aV lQ (pv 6) (b9 (aa aj ak))) ak)) aj (bc _)) (mD (eW z8 (bu (xS rfl) (by rfl) T.AE boot_min (aa (aV lQ (pv 7) (b9 (aa aj ak))) ak)) aj (bc _))))))))))))))),?_⟩
  refine⟨_,rfl,_,rfl,_,rfl,a,_,44,140,rfl,hS,(by rw[ae]; exact hz),_,_,rfl,rfl,_,rfl,a,_,rfl,hS,fun pc nc=>?_⟩
  obtain⟨cs,Zs⟩:=LW ns (some 1) (some (1 + 44))
  have qB:cs.length<=44:=by
   have h:=LV (ns.map V.int) 1 45 (by decide)
   have e:qm (ns.map V.int) (some ((1:Nat):Int)) (some ((45:Nat):Int))=cs.map V.int:=Zs
   rw[e,ae] at h
   exact h
  rw[Zs]
  have s1:=aG.new (o:= .lst (cs.map V.int)) nc
  have Zt:upd H pc (.lst (cs.map V.int)) pc=some (.lst (cs.map V.int)):=ag
  generalize upd H pc (.lst (cs.map V.int))=H1 at s1 Zt
  refine⟨_,rfl,pc,cs,rfl,bQ.of Zt,(by omega),fun pa ds ms H2 s2 LH Jt EL cH=>?_⟩
  have S2:=s1.trans s2
  have jl:lF H2 tB:=bW kh S2
  have kr:l6 H2 tC:=bW jM S2
  clear s1 s2 S2 kh jM
  refine⟨_,rfl,pa,ds,ms,rfl,LH,Jt,(by omega),cH,fun t v ps sd us g H3 s3 ht mP P6 Ta O2 Er hG=>?_⟩
  refine⟨t,_,_,.ref sd,rfl,rfl,cM.of ht,rfl,?_⟩
  have O6:=s3 _ _ LH
  have Tg:=Jt.mono s3.tk
  have qT:lF H3 tB:=bW jl s3
  have qU:l6 H3 tC:=bW kr s3
  clear s3 jl kr LH Jt
  refine⟨_,rfl,pa,ms,rfl,.inl (bQ.of O6),fun ph nh=>?_⟩
  have s4:=aG.new (o:= .lst ms) nh
  have pS:lF _ tB:=bW qT s4
  have pT:l6 _ tC:=bW qU s4
  have O7:=s4 _ _ O6
  have L0:=Tg.mono s4.tk
  have L1:=Ta.same s4
  have L3:upd H3 ph (.lst ms) ph=some (.lst ms):=ag
  generalize upd H3 ph (.lst ms)=H4 at s4 pS pT O7 L0 L1 L3
  clear s4 qT qU O6 Tg Ta
  refine⟨_,rfl,ph,ds,ms,rfl,L3,L0,(by omega),cH,pS,pT,fun D ws H5 F5 Dg Dh nD hD zP=>?_⟩
  have Jr: ∀t∈[tB,tC],∃ps,H4 t=some (.mB ps):=fun t z=>by
   simp only[List.mem_cons,List.not_mem_nil,or_false] at z
   rcases z with rfl|rfl
   ·exact c8 pS
   ·exact c8 pT
  have Th:=qX F5 Jr O7 (fun _ z=>by cases z)
  have Ti:=qX F5 Jr L3 (fun _ z=>by cases z)
  have O8:=L0.mono (fun b xs e=>qX F5 Jr e (fun _ z=>by cases z))
  have O9:=O4 L1 (fun a o e z=>qX F5 Jr e z)
  have nDf:D∉g.fp:=L1.off nD
  have L4:=hG.acc
  have Tj:=hG.made
  have wf:=hG.wf (by omega:ds.length<=60)
  generalize (gU ds iZ.new 0).2.bk=S at O9 zP L4 Tj wf
  clear L1 F5 Dg Dh pS pT O7 L3 L0 Jr
  obtain⟨sz,pl⟩:=Dn cH (by omega)
  refine⟨_,rfl,_,rfl,_,_,_,rfl,lS Ti O8,lS Th O8,sz,pl,fun H6 s6=>⟨_,rfl,cv ?_⟩⟩
  have L5:=O9.same s6
  have XE:=s6 _ _ hD
  have vf:=zP.mono s6.tk
  obtain⟨Bh,m1,m2⟩:=L5.hm
  obtain⟨sz2,pl2⟩:=GN (ms:=S.made) (by omega)
  refine⟨_,rfl,_,rfl,sd,_,rfl,L5.gM,_,_,_,rfl,lS XE (gQ.T3 vf),lS m1 (gQ.T3 m2),sz2,pl2,fun H7 s7=>⟨_,rfl,cv ?_⟩⟩
  have zK:=L5.same s7
  have Ux:=s7 _ _ XE
  have Gv:=vf.mono s7.tk
  clear L5 O9 s6 s7 XE vf m1 m2 hD zP Th Ti O8
  have lc:=zK.rc.length
  have lb:=zK.rb.length
  have ab9:S.credits.length<=60:=by have:=wf.lc; omega
  have ab_:S.aC.length<=60:=by have:=wf.lb; omega
  refine⟨_,rfl,sd,_,rfl,zK.gC,g.pc,rfl,⟨_,bQ.of zK.hc⟩,?_⟩
  refine eD (K:=K) (a:=g.pc) (xs:=g.cps.map V.ref) (fun D i σ H8=>H7 D=none/\ ∃v,σ=[v]/\aG H7 H8/\H8 D=some (.lst (((S.credits.take i).map (·.b)).map V.int))) (fun D hD=>⟨hD,none,rfl,aG.new hD,ag⟩) (fun D i σ H8 _ ⟨_,_,_,t3,_⟩=>bQ.of (t3 _ _ zK.hc)) ?_ ?_
  ·rintro D' i x σ H8 hx ⟨wo,v,rfl,t3,Uj⟩
   have hi:i < S.credits.length:=by
    have:=(au.mp hx).1
    rw[ae] at this
    omega
   obtain⟨p,e1,e2,e3⟩:=zK.lc hi
   rw[aD,e1] at hx
   obtain rfl:V.ref p=x:=aE hx
   refine⟨_,rfl,p,_,_,.int (S.cr i).b,rfl,rfl,bQ.of (t3 _ _ e3),rfl,_,Uj,br (by rw[ae,ae,bD]; omega),wo,_,rfl,t3.dA wo,?_⟩
   rw[ag,xV hi,aR]
   rfl
  rintro pf σ H8 JT ⟨_,v8,rfl,t8,En⟩
  rw[ae,← lc,bf] at En
  have ef:S.credits.map (·.b)=kK S []:=by
   rw[BO]
   exact eP fun k _=>(Int.sub_zero _).symm
  rw[ef] at En
  have wQ:=zK.same t8
  have nff:pf∉g.fp:=zK.off JT
  refine⟨_,rfl,sd,_,rfl,wQ.gB,g.pb,rfl,⟨_,bQ.of wQ.hb⟩,?_⟩
  refine eD (K:=K) (a:=g.pb) (xs:=g.iu.map V.ref) (fun D i σ H9=>H8 D=none/\ ∃v,σ=[v]/\aG H8 H9/\H9 D=some (.lst (((S.aC.take i).map (·.c)).map V.int))) (fun D hD=>⟨hD,none,rfl,aG.new hD,ag⟩) (fun D i σ H9 _ ⟨_,_,_,t3,_⟩=>bQ.of (t3 _ _ wQ.hb)) ?_ ?_
  ·rintro D' i x σ H9 hx ⟨wo,v,rfl,t3,hl9⟩
   have hi:i < S.aC.length:=by
    have:=(au.mp hx).1
    rw[ae] at this
    omega
   obtain⟨p,e1,e2,e3⟩:=wQ.lb hi
   rw[aD,e1] at hx
   obtain rfl:V.ref p=x:=aE hx
   refine⟨_,rfl,p,_,_,.int (S.bl i).c,rfl,rfl,bQ.of (t3 _ _ e3),rfl,_,hl9,br (by rw[ae,ae,bD]; omega),wo,_,rfl,t3.dA wo,?_⟩
   rw[ag,xV hi,aR]
   rfl
  rintro JV σ H9 Su ⟨_,v9,rfl,t9,iO⟩
  rw[ae,← lb,bf] at iO
  have el:S.aC.map (·.c)=mm S []:=by
   rw[BO]
   exact eP fun k _=>(Int.sub_zero _).symm
  rw[el] at iO
  have Tn:=wQ.same t9
  have Wl:JV∉g.fp:=wQ.off Su
  have Pa:=t9 _ _ En
  have XF:=t8.trans t9
  have Zu:=XF _ _ Ux
  have To:=Gv.mono XF.tk
  have Zv:pf≠JV:=aL En Su
  have XG:D∉[pf,JV]:=fun z=>by
   simp only[List.mem_cons,List.not_mem_nil,or_false] at z
   rcases z with z|z
   ·rw[← z,Ux] at JT
    cases JT
   ·have:=t8 _ _ Ux
    rw[← z,this] at Su
    cases Su
  clear zK wQ t8 t9 XF Ux Gv En ef el
  have DO:=aX To
  have Pb: ∀ms,(kK S ms).length=S.credits.length:=fun ms=>by unfold kK; rw[List.length_map,List.length_range]
  have Pc: ∀ms,(mm S ms).length=S.aC.length:=fun ms=>by unfold mm; rw[List.length_map,List.length_range]
  refine⟨_,rfl,D,rfl,⟨_,bQ.of Zu⟩,?_⟩
  refine gT (K:=K) (a:=D) (xs:=ws) (fun i σ H'=> ∃(x8 x9 Bv:Option V),σ=[some (.ref a),some (.ref pc),some (.ref pa),some (.ref sd),some (.ref ph),some (.ref D),some (.ref pf),some (.ref JV),x8,x9,Bv]/\Frame [pf,JV] H9 H'/\H' pf=some (.lst ((kK S (S.made.take i)).map V.int))/\H' JV=some (.lst ((mm S (S.made.take i)).map V.int)))
   ⟨none,none,none,rfl,Frame.refl,Pa,iO⟩ (fun i σ H' _ ⟨_,_,_,_,f2,_⟩=>bQ.of (f2 _ _ XG Zu)) ?_ ?_
  ·rintro i x σ H' hx ⟨x8,x9,Bv,rfl,f2,Uy,QC⟩
   have hi:i < S.made.length:=by have:=(au.mp hx).1; omega
   have oP:=af hi
   obtain⟨v',hv,p,rfl,hp⟩:=bT To oP
   rw[hx] at hv
   obtain rfl:x= .ref p:=aE hv
   obtain⟨a1,a2,a3,a4⟩:=L4.m _ (bO hi)
   have mI:=ma hi
   generalize S.made[i]=t at hp a1 a2 a3 a4 mI
   have GB: ∀{b:Addr} {o:HO},H9 b=some o->(∀xs,o≠ .lst xs)->H' b=some o:=fun{b o} e n=>f2 _ _ (fun z=>by
    simp only[List.mem_cons,List.not_mem_nil,or_false] at z
    rcases z with z|z
    ·rw[z,Pa] at e
     exact n _ (aE e).symm
    ·rw[z,iO] at e
     exact n _ (aE e).symm) e
   have Xz:dD H' sd S g:=Tn.keep (fun b o hb e=>f2 _ _ (fun z=>by
    simp only[List.mem_cons,List.not_mem_nil,or_false] at z
    rcases hb with hb|hb
    ·have e9:=Tn.dict
     rcases z with z|z
     ·rw[← hb,z,Pa] at e9
      cases e9
     ·rw[← hb,z,iO] at e9
      cases e9
    ·rcases z with z|z
     ·exact nff (z▸hb)
     ·exact Wl (z▸hb)) e) (fun b xs e=>GB e (fun _ z=>by cases z))
   refine⟨p,_,rfl,cM.of (GB hp (fun _ z=>by cases z)),rfl,_,_,rfl,_,_,rfl,_,_,rfl,rfl,?_⟩
   refine⟨_,rfl,_,_,rfl,rfl,_,rfl,cQ (fun z=>?_) (fun _=>?_)⟩
   ·have:=a0 z
    omega
   refine⟨_,rfl,_,rfl,_,rfl,sd,S,g,t.1,t.2.1,rfl,Xz,a1,a2,fun H2 s2=>⟨_,rfl,cQ (fun z=>?_) (fun _=>?_)⟩⟩
   ·rw[a4] at z
    cases z
   have Zw:=s2 _ _ Uy
   have GX:=s2 _ _ QC
   refine⟨_,rfl,_,rfl,pf,_,_,.int ((kK S (S.made.take i)).getD t.1 0),rfl,rfl,bQ.of Zw,m8 (by rw[Pb]; exact a1),_,rfl,_,_,rfl,rfl,?_⟩
   refine⟨_,rfl,_,rfl,pf,_,_,t.1,rfl,rfl,Zw,nW (by rw[ae,Pb]; exact a1),?_⟩
   have SY:upd H2 pf (.lst (((kK S (S.made.take i)).map V.int).set t.1 (.int ((kK S (S.made.take i)).getD t.1 0 - t.2.2)))) JV=some (.lst ((mm S (S.made.take i)).map V.int)):=by rw[ay Zv.symm]; exact GX
   refine⟨_,rfl,_,rfl,JV,_,_,.int ((mm S (S.made.take i)).getD t.2.1 0),rfl,rfl,bQ.of SY,m8 (by rw[Pc]; exact a2),_,rfl,_,_,rfl,rfl,?_⟩
   refine⟨_,rfl,_,rfl,JV,_,_,t.2.1,rfl,rfl,SY,nW (by rw[ae,Pc]; exact a2),?_⟩
   refine⟨_,_,_,rfl,((f2.cZ s2).tr (Frame.upd (by simp))).tr (Frame.upd (by simp)),?_,?_⟩
   ·rw[ay Zv,ag,mI,← Dq S _ a1,vD]
   ·rw[ag,mI,← Dr S _ a2,vD]
  ·rintro σ H' ⟨x8,x9,Bv,rfl,f2,Uy,QC⟩
   rw[← DO,bf] at Uy QC
   have XH: ∀m∈kK S S.made ++ [0],0<=m:=fun m hm=>by
    rcases bq.mp hm with hm|hm
    ·obtain⟨q,hq,rfl⟩:=bP.mp hm
     have:=L4.c q (c9.mp hq)
     omega
    ·rw[ao.mp hm]
     exact eO _
   have posB: ∀m∈mm S S.made ++ [0],0<=m:=fun m hm=>by
    rcases bq.mp hm with hm|hm
    ·obtain⟨q,hq,rfl⟩:=bP.mp hm
     have:=L4.b q (c9.mp hq)
     omega
    ·rw[ao.mp hm]
     exact eO _
   refine⟨_,rfl,(by show 1<=sizeLine; decide),fun p1 n1=>?_⟩
   have u1:=aG.new (o:= .lst [V.int 0]) n1
   refine⟨pf,p1,_,_,rfl,rfl,u1 _ _ Uy,ag,?_,fun p2 n2=>?_⟩
   ·refine dB (br ?_)
    rw[ae,Pb]
    show S.credits.length + 1<=1000
    omega
   have u2:=aG.new (o:= .lst ((kK S S.made).map V.int ++ [V.int 0])) n2
   refine⟨p2,kK S S.made ++ [0],rfl,bQ.of (by rw[ag,List.map_append]; rfl),by simp,fun m hm=>?_⟩
   have Sg:=XH m hm
   refine⟨_,_,rfl,rfl,true,di V.bl (aM Sg),fH ?_⟩
   have GX:=u2 _ _ (u1 _ _ QC)
   refine⟨_,rfl,(by show 1<=sizeLine; decide),fun p3 n3=>?_⟩
   have u3:=aG.new (o:= .lst [V.int 0]) n3
   refine⟨JV,p3,_,_,rfl,rfl,u3 _ _ GX,ag,?_,fun p4 n4=>?_⟩
   ·refine dB (br ?_)
    rw[ae,Pc]
    show S.aC.length + 1<=1000
    omega
   refine⟨p4,mm S S.made ++ [0],rfl,bQ.of (by rw[ag,List.map_append]; rfl),by simp,fun m' hm'=>?_⟩
   have TC:=posB m' hm'
   refine⟨_,_,rfl,rfl,?_⟩
   have e:decide (m'≥0)=true:=aM TC
   show Q (.bl (decide (m'≥0))) _
   rw[e]
   exact k _
section
variable {h:Heap}{x q:Str}{st:Stmt}{f C R:Addr}{oc kV dc pm cd ct:Value}{od an:Option Addr}{sl:Array (Option Value)}
abbrev ML (K:PySem.W.Frag)(f:Addr)(x q:Str)(st:Stmt)(oc:Value)(od an:Option Addr)(kV dc pm cd ct:Value)(sl:Array (Option Value)):Prop:=K.lookup f=some ⟨oc,od,.func (PySem.W.fnOf x q (g8 st) (d9 st) (aA st) .none kV dc pm an cd ct),sl⟩
theorem dz (X:K.In h)(G:h.Ns mainGlobals mg)(a:PySem.W.nsIn K mainGlobals x=some (some (.ref f)))(l:ML K f x x st oc od an kV dc pm cd ct sl)(c:PySem.W.codeIn K cd x=true)(k:PySem.W.keepIn K (.ref f)=true):Df K mg x st:=⟨_,_,pA l c k,dk X G a⟩
theorem lI (a:PySem.W.findIn K (.ref C) x=some (some (.ref f)))(i:PySem.W.isFn K (.ref f)=true)(l:ML K f x q st oc od an kV dc pm cd ct sl)(c:PySem.W.codeIn K cd q=true)(k:PySem.W.keepIn K (.ref f)=true): ∃f fd,gv K x q st f fd/\Meth K C x f:=⟨_,_,pA l c k,a,i,k⟩
theorem EN (a:PySem.W.findIn K (.ref C) "__init__"=some (some (.ref f)))(i:PySem.W.isFn K (.ref f)=true)(l:ML K f "__init__" q st oc od an kV dc pm cd ct sl)(c:PySem.W.codeIn K cd q=true)(k:PySem.W.keepIn K (.ref f)=true)(m:PySem.W.makesIn K C=true)(kc:PySem.W.keepIn K (.ref C)=true): ∃f fd,gv K "__init__" q st f fd/\Mk K C f:=⟨_,_,pA l c k,m,a,i,kc⟩
theorem sQ (a:PySem.W.findIn K (.ref C) "__init__"=some (some (.ref f)))(t:PySem.W.typeIn K (.ref f)=some (.type "function"))(l:ML K f "__init__" q st oc od an kV dc pm cd ct sl)(c:PySem.W.codeIn K cd q=true)(k:PySem.W.keepIn K (.ref f)=true): ∃f fd,gv K "__init__" q st f fd/\PySem.W.findIn K (.ref C) "__init__"=some (some (.ref f))/\PySem.W.typeIn K (.ref f)=some (.type "function"):=⟨_,_,pA l c k,a,t⟩
theorem Pd (r:PySem.W.readsIn K C (.type "type")=true)(s:PySem.W.specialIn K (.ref C) "__getattribute__"=some (some (.builtin "type.__getattribute__")))(a:PySem.W.findCls K (.ref C) (.type "type") "__init__"=some (.val (.ref f)))(l:ML K f "__init__" q st oc od an kV dc pm cd ct sl)(c:PySem.W.codeIn K cd q=true)(k:PySem.W.keepIn K (.ref f)=true): ∃f fd,gv K "__init__" q st f fd/\D3 K C f:=⟨_,_,pA l c k,r,s,a,k⟩
theorem sR {nm:Str}{N:Addr}{bs:List Value}{sn:List Str}{sub:List Value}{ab:Bool}{col:Option Bool}{dd:Option Addr}{k0 k1 k2 k3 k5:Option Value}(o:K.lookup C=some (excClassObj nm q C N bs [.ref R,.type "Exception",.type "BaseException",.type "object"] true sn sub ab col dd k0 k1 k2 k3 k5 "Exception.__new__"))
  (a:PySem.W.findIn K (.ref C) "__setattr__"=some (some (.builtin "object.__setattr__"))) (b:PySem.W.findIn K (.ref C) "__getattribute__"=some (some (.builtin "BaseException.__getattribute__"))) (c:PySem.W.findIn K (.ref C) "__getattr__"=some none) (d:PySem.W.findIn K (.ref C) "text"=some none):gX K C R:=⟨⟨_,_,_,_,_,_,_,_,_,_,_,_,_,_,_,o,.inr rfl⟩,a,b,c,d⟩
theorem Pe {nm:Str}{N:Addr}{bs:List Value}{sn:List Str}{sub:List Value}{ab:Bool}{col:Option Bool}{dd:Option Addr}{k0 k1 k2 k3 k5:Option Value}(o:K.lookup C=some (excClassObj nm q C N bs [.type "Exception",.type "BaseException",.type "object"] true sn sub ab col dd k0 k1 k2 k3 k5 "Exception.__new__"))
  (a:PySem.W.findIn K (.ref C) "__setattr__"=some (some (.builtin "object.__setattr__"))) (b:PySem.W.findIn K (.ref C) "__getattribute__"=some (some (.builtin "BaseException.__getattribute__"))) (c:PySem.W.findIn K (.ref C) "__getattr__"=some none) (d:PySem.W.findIn K (.ref C) "text"=some none):gX K C C:=⟨⟨_,_,_,_,_,_,_,_,_,_,_,_,_,_,_,o,.inl ⟨rfl,rfl⟩⟩,a,b,c,d⟩
theorem MM {c tb:Addr}(X:K.In h)(G:h.Ns mainGlobals mg)(a:PySem.W.nsIn K mainGlobals x=some (some (.ref f)))(l:ML K f x x st oc od an kV dc pm (.ref c) ct sl)(cd:PySem.W.codeIn K (.ref c) x=true)(k:PySem.W.keepIn K (.ref f)=true)(hd:PySem.W.codeHdIn K c tb=true)(n:K.lookup tb=none):qa K mg x st tb/\ ∃c,PySem.W.codeHdIn K c tb=true/\K.lookup tb=none:=⟨⟨f,c,oc,od,kV,dc,pm,an,ct,sl,l,cd,k,dk X G a,hd⟩,c,hd,n⟩
end
end
theorem Pf {K:PySem.W.Frag}{mg:Str->Option Value}{l8 iK fX l9 eG kb nO jn ke kg lJ jo nP:Addr}(h1:mg "Refusal"=some (.ref eG))(h2:gX K eG eG)(h3:PySem.W.keepIn K (.ref eG)=true)(h4: ∃f fd,gv K "__init__" "Refusal.__init__" (mem 3 0) f fd/\D3 K eG f)(h5:mg "NoCredit"=some (.ref kb))(h6:gX K kb eG)(h7:PySem.W.keepIn K (.ref kb)=true)(h8: ∃f fd,gv K "__init__" "NoCredit.__init__" (mem 4 0) f fd/\PySem.W.findIn K (.ref kb) "__init__"=some (some (.ref f))/\PySem.W.typeIn K (.ref f)=some (.type "function"))(h9:mg "NoBill"=some (.ref nO))(Q7:gX K nO eG)(Vz:PySem.W.keepIn K (.ref nO)=true)(TL: ∃f fd,gv K "__init__" "NoBill.__init__" (mem 5 0) f fd/\PySem.W.findIn K (.ref nO) "__init__"=some (some (.ref f))/\PySem.W.typeIn K (.ref f)=some (.type "function"))(h13:mg "NotTheirs"=some (.ref jn))(h14:gX K jn eG)(Vi:PySem.W.keepIn K (.ref jn)=true)(h16: ∃f fd,gv K "__init__" "NotTheirs.__init__" (mem 6 0) f fd/\PySem.W.findIn K (.ref jn) "__init__"=some (some (.ref f))/\PySem.W.typeIn K (.ref f)=some (.type "function"))(h17:mg "NoAmount"=some (.ref ke))(h18:gX K ke eG)(h19:PySem.W.keepIn K (.ref ke)=true)(h20: ∃f fd,gv K "__init__" "NoAmount.__init__" (mem 7 0) f fd/\PySem.W.findIn K (.ref ke) "__init__"=some (some (.ref f))/\PySem.W.typeIn K (.ref f)=some (.type "function"))(h21:mg "TooEarly"=some (.ref kg))(h22:gX K kg eG)(h23:PySem.W.keepIn K (.ref kg)=true)(Wa: ∃f fd,gv K "__init__" "TooEarly.__init__" (mem 8 0) f fd/\PySem.W.findIn K (.ref kg) "__init__"=some (some (.ref f))/\PySem.W.typeIn K (.ref f)=some (.type "function"))(h25:mg "TooMuch"=some (.ref lJ))(h26:gX K lJ eG)(h27:PySem.W.keepIn K (.ref lJ)=true)(h28: ∃f fd,gv K "__init__" "TooMuch.__init__" (mem 9 0) f fd/\PySem.W.findIn K (.ref lJ) "__init__"=some (some (.ref f))/\PySem.W.typeIn K (.ref f)=some (.type "function"))(h29:mg "NoSetting"=some (.ref jo))(Ze:gX K jo eG)(h31:PySem.W.keepIn K (.ref jo)=true)(h32: ∃f fd,gv K "__init__" "NoSetting.__init__" (mem 10 0) f fd/\PySem.W.findIn K (.ref jo) "__init__"=some (some (.ref f))/\PySem.W.typeIn K (.ref f)=some (.type "function"))(h33:mg "Needed"=some (.ref nP))(Wb:gX K nP eG)(h35:PySem.W.keepIn K (.ref nP)=true)(h36: ∃f fd,gv K "__init__" "Needed.__init__" (mem 11 0) f fd/\PySem.W.findIn K (.ref nP) "__init__"=some (some (.ref f))/\PySem.W.typeIn K (.ref f)=some (.type "function"))(h37:mg "Bill"=some (.ref l8))(h38:vI K l8)(h39:cz K l8 "number")(h40:cz K l8 "who")(h41:cz K l8 "day")(h42:cz K l8 "due")(h43:cz K l8 "amount")(h44: ∃f fd,gv K "__init__" "Bill.__init__" (mem 13 0) f fd/\Mk K l8 f)(h45:mg "Credit"=some (.ref iK))(h46:vI K iK)(h47:cz K iK "number")(h48:cz K iK "who")(h49:cz K iK "day")(h50:cz K iK "amount")(h51:cz K iK "only")(h52: ∃f fd,gv K "__init__" "Credit.__init__" (mem 14 0) f fd/\Mk K iK f)(h53:mg "Work"=some (.ref fX))(Wc:vI K fX)(h55:cz K fX "bills")(h56:cz K fX "all_credits")(h57:cz K fX "lefts")(h58:cz K fX "frees")(h59:cz K fX "made")(h60: ∃f fd,gv K "__init__" "Work.__init__" (mem 25 0) f fd/\Mk K fX f)(h61: ∃f fd,gv K "tell_bill" "Work.tell_bill" (mem 25 1) f fd/\Meth K fX "tell_bill" f)(h62: ∃f fd,gv K "tell_payment" "Work.tell_payment" (mem 25 2) f fd/\Meth K fX "tell_payment" f)(h63: ∃f fd,gv K "tell_note" "Work.tell_note" (mem 25 3) f fd/\Meth K fX "tell_note" f)(BS: ∃f fd,gv K "tell_credit" "Work.tell_credit" (mem 25 4) f fd/\Meth K fX "tell_credit" f)(h65: ∃f fd,gv K "set_by_hand" "Work.set_by_hand" (mem 25 5) f fd/\Meth K fX "set_by_hand" f)(h66: ∃f fd,gv K "sweep" "Work.sweep" (mem 25 6) f fd/\Meth K fX "sweep" f)(h67: ∃f fd,gv K "one_round" "Work.one_round" (mem 25 7) f fd/\Meth K fX "one_round" f)(h68: ∃f fd,gv K "put" "Work.put" (mem 25 8) f fd/\Meth K fX "put" f)(h69: ∃f fd,gv K "credit_at" "Work.credit_at" (mem 25 9) f fd/\Meth K fX "credit_at" f)(h70: ∃f fd,gv K "bill_at" "Work.bill_at" (mem 25 10) f fd/\Meth K fX "bill_at" f)(h71:mg "Book"=some (.ref l9))(h72:vI K l9)(h73:cz K l9 "kept")(h74:cz K l9 "work")(h75: ∃f fd,gv K "__init__" "Book.__init__" (mem 29 0) f fd/\Mk K l9 f)(h76: ∃f fd,gv K "do" "Book.do" (mem 29 1) f fd/\Meth K l9 "do" f)(h77: ∃f fd,gv K "undo" "Book.undo" (mem 29 2) f fd/\Meth K l9 "undo" f)(h78: ∃f fd,gv K "in_force" "Book.in_force" (mem 29 3) f fd/\Meth K l9 "in_force" f):jB K mg ⟨l8,iK,fX,l9,eG,kb,nO,jn,ke,kg,lJ,jo,nP⟩:=⟨h1,h2,h3,h4,h5,h6,h7,h8,h9,Q7,Vz,TL,h13,h14,Vi,h16,h17,h18,h19,h20,h21,h22,h23,Wa,h25,h26,h27,h28,h29,Ze,h31,h32,h33,Wb,h35,h36,h37,h38,h39,h40,h41,h42,h43,h44,h45,h46,h47,h48,h49,h50,h51,h52,h53,Wc,h55,h56,h57,h58,h59,h60,h61,h62,h63,BS,h65,h66,h67,h68,h69,h70,h71,h72,h73,h74,h75,h76,h77,h78⟩
theorem all_mk {l:PySem.W.OpenLaw}{w:World}{K:PySem.W.Frag}{h:Heap}{mg:Str->Option Value}{f fa:Addr}{oc kV dc pm cd ct:Value}{od an:Option Addr}{sl:Array (Option Value)}(X:K.In h)(G:h.Ns mainGlobals mg)(hfa:mg "law"=some (.ref fa)){A:en}(GP:jB K mg A)(hnd:A.i6≠A.tooMuch)(T:Txt K mg)(DB:qa K mg "bills_in_order" (top 17) 249/\ ∃c,PySem.W.codeHdIn K c 249=true/\K.lookup 249=none)(DC:qa K mg "credits_in_order" (top 18) 254/\ ∃c,PySem.W.codeHdIn K c 254=true/\K.lookup 254=none)(a:PySem.W.nsIn K mainGlobals "law"=some (some (.ref f)))(lk:ML K f "law" "law" (top 64) oc od an kV dc pm cd ct sl)(c:PySem.W.codeIn K cd "law"=true)(k:PySem.W.keepIn K (.ref f)=true):
  ∃(fd:FuncData) (cps:List (Addr×Addr)),(∀cp∈cps,cp.2∈[254,249])/\(∀cp∈cps,PySem.W.codeHdIn K cp.1 cp.2=true/\K.lookup cp.2=none)/\(∀(s:Shared) (u:Value),BindsTo s fd ⟨[u],[]⟩ [("_law_script",u)])/\
   ∀base:Heap,K.In base->base.Ns mainGlobals mg->BMain mg base->lN l.prog w K mg base sk 13 fa fd ["_law_script"] (JB K cps):=by
 have e:=hfa.symm.trans (dk X G a)
 cases e
 obtain⟨DB,cb,b1,b2⟩:=DB
 obtain⟨DC,cc,c1,c2⟩:=DC
 refine⟨_,[(cb,249),(cc,254)],fun cp hc=>?_,fun cp hc=>?_,fun s v=> .of_eq rfl,fun base KB _ BM=>O5 (pA (st:=top 64) lk c k) T GP DB DC (by decide) hnd KB BM ⟨cb,by simp⟩ ⟨cc,by simp⟩⟩
 ·simp only[List.mem_cons,List.not_mem_nil,or_false] at hc
  rcases hc with rfl|rfl <;> simp
 ·simp only[List.mem_cons,List.not_mem_nil,or_false] at hc
  rcases hc with rfl|rfl
  ·exact⟨b1,b2⟩
  ·exact⟨c1,c2⟩
end eT
open PySem PySem.W PyProof.Rows L2
set_option maxRecDepth 100000 in
set_option maxHeartbeats 0 in
theorem PySem.Challenge.cw_spikebook_k06_whole_never_twice_holds : PySem.Challenge.rw_spikebook_k06_whole_never_twice.Holds := by
 w_on; o_law; k_head; (case hw=>w_witness2)
 k_fill
 refine L2.Ik (n:=63) (k:=13) (ts:=[254,249]) (x:="_law_script") (sp:=fun K cps=>eT.JB K cps) rfl (by decide) rfl ⟨rfl,by decide,by decide⟩ (fun w h Y=>⟨PySem.W.km_in_of Y,PySem.W.km_tabs_of Y⟩) ?F (fun _ cps _ a ns hl hO hS=>⟨a,ns,rfl,hS,hl,hO,fun _=>rfl⟩)
 case F=>
  intro w mg fa h KX G QM
  refine' eT.all_mk KX G QM (eT.Pf (dk KX G ?q1) (eT.Pe ?q2 ?q3 ?q4 ?q5 ?q6) ?q7 (eT.Pd ?q8 ?q9 ?q10 ?q11 ?q12 ?q13) (dk KX G ?q14) (eT.sR ?q15 ?q16 ?q17 ?q18 ?q19) ?q20 (eT.sQ ?q21 ?q22 ?q23 ?q24 ?q25) (dk KX G ?q26) (eT.sR ?q27 ?q28 ?q29 ?q30 ?q31) ?q32 (eT.sQ ?q33 ?q34 ?q35 ?q36 ?q37) (dk KX G ?q38) (eT.sR ?q39 ?q40 ?q41 ?q42 ?q43) ?q44 (eT.sQ ?q45 ?q46 ?q47 ?q48 ?q49) (dk KX G ?q50) (eT.sR ?q51 ?q52 ?q53 ?q54 ?q55) ?q56 (eT.sQ ?q57 ?q58 ?q59 ?q60 ?q61) (dk KX G ?q62) (eT.sR ?q63 ?q64 ?q65 ?q66 ?q67) ?q68 (eT.sQ ?q69 ?q70 ?q71 ?q72 ?q73) (dk KX G ?q74) (eT.sR ?q75 ?q76 ?q77 ?q78 ?q79) ?q80 (eT.sQ ?q81 ?q82 ?q83 ?q84 ?q85) (dk KX G ?q86) (eT.sR ?q87 ?q88 ?q89 ?q90 ?q91) ?q92 (eT.sQ ?q93 ?q94 ?q95 ?q96 ?q97) (dk KX G ?q98) (eT.sR ?q99 ?q100 ?q101 ?q102 ?q103) ?q104 (eT.sQ ?q105 ?q106 ?q107 ?q108 ?q109) (dk KX G ?q110) ⟨?q111,?q112,?q113,?q114⟩ ?q115 ?q116 ?q117 ?q118 ?q119 (eT.EN ?q120 ?q121 ?q122 ?q123 ?q124 ?q125 ?q126) (dk KX G ?q127) ⟨?q128,?q129,?q130,?q131⟩ ?q132 ?q133 ?q134 ?q135 ?q136 (eT.EN ?q137 ?q138 ?q139 ?q140 ?q141 ?q142 ?q143) (dk KX G ?q144) ⟨?q145,?q146,?q147,?q148⟩ ?q149 ?q150 ?q151 ?q152 ?q153 (eT.EN ?q154 ?q155 ?q156 ?q157 ?q158 ?q159 ?q160) (eT.lI ?q161 ?q162 ?q163 ?q164 ?q165) (eT.lI ?q166 ?q167 ?q168 ?q169 ?q170) (eT.lI ?q171 ?q172 ?q173 ?q174 ?q175) (eT.lI ?q176 ?q177 ?q178 ?q179 ?q180) (eT.lI ?q181 ?q182 ?q183 ?q184 ?q185) (eT.lI ?q186 ?q187 ?q188 ?q189 ?q190) (eT.lI ?q191 ?q192 ?q193 ?q194 ?q195) (eT.lI ?q196 ?q197 ?q198 ?q199 ?q200) (eT.lI ?q201 ?q202 ?q203 ?q204 ?q205) (eT.lI ?q206 ?q207 ?q208 ?q209 ?q210) (dk KX G ?q211) ⟨?q212,?q213,?q214,?q215⟩ ?q216 ?q217 (eT.EN ?q218 ?q219 ?q220 ?q221 ?q222 ?q223 ?q224) (eT.lI ?q225 ?q226 ?q227 ?q228 ?q229) (eT.lI ?q230 ?q231 ?q232 ?q233 ?q234) (eT.lI ?q235 ?q236 ?q237 ?q238 ?q239)) ?hnd ⟨eT.dz KX G ?q240 ?q241 ?q242 ?q243,eT.dz KX G ?q244 ?q245 ?q246 ?q247,eT.dz KX G ?q248 ?q249 ?q250 ?q251,eT.dz KX G ?q252 ?q253 ?q254 ?q255,eT.dz KX G ?q256 ?q257 ?q258 ?q259,eT.dz KX G ?q260 ?q261 ?q262 ?q263,eT.dz KX G ?q264 ?q265 ?q266 ?q267,eT.dz KX G ?q268 ?q269 ?q270 ?q271,eT.dz KX G ?q272 ?q273 ?q274 ?q275,eT.dz KX G ?q276 ?q277 ?q278 ?q279,eT.dz KX G ?q280 ?q281 ?q282 ?q283,eT.dz KX G ?q284 ?q285 ?q286 ?q287,eT.dz KX G ?q288 ?q289 ?q290 ?q291,eT.dz KX G ?q292 ?q293 ?q294 ?q295,eT.dz KX G ?q296 ?q297 ?q298 ?q299,eT.dz KX G ?q300 ?q301 ?q302 ?q303,eT.dz KX G ?q304 ?q305 ?q306 ?q307,eT.dz KX G ?q308 ?q309 ?q310 ?q311,eT.dz KX G ?q312 ?q313 ?q314 ?q315,eT.dz KX G ?q316 ?q317 ?q318 ?q319,eT.dz KX G ?q320 ?q321 ?q322 ?q323,eT.dz KX G ?q324 ?q325 ?q326 ?q327,eT.dz KX G ?q328 ?q329 ?q330 ?q331,eT.dz KX G ?q332 ?q333 ?q334 ?q335,eT.dz KX G ?q336 ?q337 ?q338 ?q339,eT.dz KX G ?q340 ?q341 ?q342 ?q343,eT.dz KX G ?q344 ?q345 ?q346 ?q347,eT.dz KX G ?q348 ?q349 ?q350 ?q351,eT.dz KX G ?q352 ?q353 ?q354 ?q355,eT.dz KX G ?q356 ?q357 ?q358 ?q359,eT.dz KX G ?q360 ?q361 ?q362 ?q363,eT.dz KX G ?q364 ?q365 ?q366 ?q367,eT.dz KX G ?q368 ?q369 ?q370 ?q371,eT.dz KX G ?q372 ?q373 ?q374 ?q375,eT.dz KX G ?q376 ?q377 ?q378 ?q379,eT.dz KX G ?q380 ?q381 ?q382 ?q383,eT.dz KX G ?q384 ?q385 ?q386 ?q387,eT.dz KX G ?q388 ?q389 ?q390 ?q391,eT.dz KX G ?q392 ?q393 ?q394 ?q395,eT.dz KX G ?q396 ?q397 ?q398 ?q399,eT.dz KX G ?q400 ?q401 ?q402 ?q403,eT.dz KX G ?q404 ?q405 ?q406 ?q407,eT.dz KX G ?q408 ?q409 ?q410 ?q411,eT.dz KX G ?q412 ?q413 ?q414 ?q415,cm KX G ?q416,cm KX G ?q417,cm KX G ?q418,cm KX G ?q419,cm KX G ?q420,cm KX G ?q421,cm KX G ?q422,cm KX G ?q423,cm KX G ?q424,cm KX G ?q425,cm KX G ?q426,cm KX G ?q427,cm KX G ?q428,cm KX G ?q429,cm KX G ?q430⟩ (eT.MM KX G ?q431 ?q432 ?q433 ?q434 ?u1 ?u2) (eT.MM KX G ?q435 ?q436 ?q437 ?q438 ?u3 ?u4) ?q439 ?q440 ?q441 ?q442
  case q1|q2|q3|q4|q5|q6|q7|q8|q9|q10|q11|q12|q13|q14|q15|q16|q17|q18|q19|q20|q21|q22|q23|q24|q25|q26|q27|q28|q29|q30|q31|q32|q33|q34|q35|q36|q37|q38|q39|q40|q41|q42|q43|q44|q45|q46|q47|q48|q49|q50|q51|q52|q53|q54|q55|q56|q57|q58|q59|q60|q61|q62|q63|q64|q65|q66|q67|q68|q69|q70|q71|q72|q73|q74|q75|q76|q77|q78|q79|q80|q81|q82|q83|q84|q85|q86|q87|q88|q89|q90|q91|q92|q93|q94|q95|q96|q97|q98|q99|q100|q101|q102|q103|q104|q105|q106|q107|q108|q109|q110|q111|q112|q113|q114|q115|q116|q117|q118|q119|q120|q121|q122|q123|q124|q125|q126|q127|q128|q129|q130|q131|q132|q133|q134|q135|q136|q137|q138|q139|q140|q141|q142|q143|q144|q145|q146|q147|q148|q149|q150|q151|q152|q153|q154|q155|q156|q157|q158|q159|q160|q161|q162|q163|q164|q165|q166|q167|q168|q169|q170|q171|q172|q173|q174|q175|q176|q177|q178|q179|q180|q181|q182|q183|q184|q185|q186|q187|q188|q189|q190|q191|q192|q193|q194|q195|q196|q197|q198|q199|q200|q201|q202|q203|q204|q205|q206|q207|q208|q209|q210|q211|q212|q213|q214|q215|q216|q217|q218|q219|q220|q221|q222|q223|q224|q225|q226|q227|q228|q229|q230|q231|q232|q233|q234|q235|q236|q237|q238|q239|q240|q241|q242|q243|q244|q245|q246|q247|q248|q249|q250|q251|q252|q253|q254|q255|q256|q257|q258|q259|q260|q261|q262|q263|q264|q265|q266|q267|q268|q269|q270|q271|q272|q273|q274|q275|q276|q277|q278|q279|q280|q281|q282|q283|q284|q285|q286|q287|q288|q289|q290|q291|q292|q293|q294|q295|q296|q297|q298|q299|q300|q301|q302|q303|q304|q305|q306|q307|q308|q309|q310|q311|q312|q313|q314|q315|q316|q317|q318|q319|q320|q321|q322|q323|q324|q325|q326|q327|q328|q329|q330|q331|q332|q333|q334|q335|q336|q337|q338|q339|q340|q341|q342|q343|q344|q345|q346|q347|q348|q349|q350|q351|q352|q353|q354|q355|q356|q357|q358|q359|q360|q361|q362|q363|q364|q365|q366|q367|q368|q369|q370|q371|q372|q373|q374|q375|q376|q377|q378|q379|q380|q381|q382|q383|q384|q385|q386|q387|q388|q389|q390|q391|q392|q393|q394|q395|q396|q397|q398|q399|q400|q401|q402|q403|q404|q405|q406|q407|q408|q409|q410|q411|q412|q413|q414|q415|q416|q417|q418|q419|q420|q421|q422|q423|q424|q425|q426|q427|q428|q429|q430|q431|q432|q433|q434|q435|q436|q437|q438|q439|q440|q441|q442=>((try unfold eT.ML); (try unfold L2.cz); k_is)
  (case hnd=>decide)
  (case u1=>kernel_rfl)
  (case u2=>kernel_rfl)
  (case u3=>kernel_rfl)
  (case u4=>kernel_rfl)
