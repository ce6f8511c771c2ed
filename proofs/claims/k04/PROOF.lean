import PyProof.Rows.All
import Wide.All
import OpenK.AllK
import Wide.FinOn
import Lean
import PyProof.EqAt
import PyProof.EqKinds
import PyProof.TupleCall
import PySem.Str
import PyProof.StationsW
import PyProof.PassesOwn
import PyProof.RulesAs
import PyProof.ExcClass2
import PyProof.InstStore
import PyProof.ExcArgs
import PyProof.ExcClass
import PyProof.InstStoreFacts
import PyProof.ExcBaseAll.Exception
import PyProof.ExcAttrAll.Exception
import PyProof.DictValues
import PyProof.DictWalks
import PySem.Challenge.RW_spikebook_k04_answers
set_option Elab.async false
set_option linter.all false
set_option maxRecDepth 100000
set_option maxHeartbeats 4000000
def ae:=@List.length_map
def af:=@List.getElem?_eq_getElem
def ak:=@List.getD_eq_getElem?_getD
def ao:=@List.mem_singleton
def av:=@List.getElem?_eq_some_iff
def aw:=@List.mem_cons
def ax:=@PySem.Heap.get?_push_of_some
def ay:=@PySem.wpAny_bind
def aB:=@List.getElem?_map
def aC:=@Nat.le_refl
def aE:=@decide_eq_true
def aF:=@Option.some.inj
def aG:=@PySem.F.slot_list_append
def aI:=@PySem.F.type_list_append
def aK:=@List.length_append
def aM:=@PySem.F.plainAttrs_list
def aO:=@PySem.Heap.lt_size
def aQ:=@PySem.Paired.length
def aR:=@List.map_append
def aS:=@of_decide_eq_true
def aV:=@if_neg
def aY:=@Bool.false_ne_true
def a7:=@List.length_filter_le
def a8:=@Nat.le_trans
def bc:=@Nat.ne_of_lt
def bg:=@if_pos
def bh:=@List.take_length
def bo:=@PySem.boot_len
def bu:=@Nat.lt_of_lt_of_le
def bz:=@List.mem_cons_of_mem
def bA:=@decide_eq_false
def bC:=@List.length_take
def bE:=@List.mem_append_right
def bF:=@Nat.zero_le
def bG:=@Option.map_eq_some_iff
def bH:=@PySem.wpAny_loadPart_at
def bJ:=@List.size_toArray
def bL:=@List.mem_append
def bM:=@PySem.wpAny_pure
def bN:=@List.mem_map
def bQ:=@List.getElem_mem
def bS:=@PySem.PassesOwn.never
def bT:=@List.mem_cons_self
def bV:=@PySem.Heap.get?_push_size
def b9:=@List.append_nil
def cq:=@PySem.W.mg_none_of
def cz:=@List.length_cons
def cB:=@PySem.mem_of_lookup
def cD:=@PySem.wpAny_mono
def cI:=@List.filter_cons_of_pos
def cJ:=@Int.eq_ofNat_of_zero_le
def cQ:=@PySem.Paired.snoc
def c8:=@congrArg
def de:=@PySem.wpAny_isSubtype_exc
def df:=@List.mem_append_left
def di:=@List.map_cons
def dj:=@PySem.W.mg_of
def dz:=@List.replicate_succ
def dC:=@List.mem_range
def dF:=@List.length_range
def dS:=@Nat.le_succ
def dU:=@Nat.le_of_lt
def dW:=@PySem.wpAny_passesOwn
def dX:=@Int.toNat_natCast
def ez:=@PySem.W.kia_one
def eA:=@List.length_set
def eB:=@PySem.W.kia_tup
def eD:=@PyProof.Rows.boot_isinstance
def eK:=@PySem.sizeLine_eq
def eL:=@PySem.wpAny_Call_Name_kw
def eX:=@List.mem_filter
def eY:=@List.length_replicate
def eZ:=@List.map_map
def fm:=@List.pairwise_cons
def fP:=@List.nodup_cons
def fQ:=@List.foldl_cons
def fR:=@Int.le_refl
def fW:=@PySem.wpAny_truthy_bool
def fZ:=@Nat.lt_succ_self
def gE:=@List.mem_of_getElem?
def gF:=@List.append_assoc
def gR:=@beq_eq_false_iff_ne
def gS:=@List.map_congr_left
def gT:=@List.filter_cons_of_neg
def ix:=@PySem.wpAny_holding
def iy:=@PySem.wpAny_standAt
def iJ:=@Nat.le_of_eq
def iK:=@Nat.not_lt_zero
def iS:=@Nat.lt_irrefl
def iT:=@PySem.Calls.callWith_builtin
def iU:=@List.flatten_cons
def iV:=@Nat.lt_succ_of_lt
def jm:=@PySem.wpAny_execs_nil
def jA:=@Int.zero_add
def km:=@PySem.W.callWith_K
def ko:=@List.filter_append
def k4:=@List.getElem?_set_self
def k6:=@PySem.W.cellsFrom_some
def lK:=@Nat.mul_le_mul
def lL:=@Bool.and_false
def mr:=@List.length_drop
def mv:=@List.nodup_range
def mw:=@decide_eq_decide
def mC:=@List.getElem?_set_ne
def mD:=@PySem.Heap.get?_update_other
def mE:=@PySem.Heap.get?_push_ne
def nP:=@PySem.Heap.size_push
def nZ:=@PyProof.Rows.callWith_type1
def oa:=@Bool.eq_iff_iff
def og:=@List.of_mem_zip
def oh:=@Option.map_some
def oj:=@Array.length_toList
def om:=@Int.emod_nonneg
def oo:=@List.range_succ
def oE:=@PyProof.Rows.take_snoc
def oY:=@List.getElem?_append_right
def oZ:=@PySem.Heap.size_update
def pS:=@Nat.ne_of_gt
def pT:=@Nat.lt_of_le_of_lt
def pU:=@List.filter_filter
def pY:=@List.getElem?_eq_none_iff
def pZ:=@Bool.false_and
def rh:=@List.any_eq_false
def rj:=@PySem.W.kitx_list
def rm:=@PySem.W.kitx_dict
def rn:=@List.pairwise_map
def rq:=@List.filter_congr
def rz:=@List.foldl_append
def rA:=@PySem.Heap.SameBut.update
def rB:=@Array.size_setIfInBounds
def sW:=@PySem.wpAny_newFunctionEnv_cells
def sX:=@List.any_cons
def tR:=@PySem.tupleKind_room_in1
def vC:=@PyProof.Rows.listUpdate_at
def vE:=@Ne.symm
def vF:=@PySem.W.methodCall_KW
def vG:=@List.map_nil
def vH:=@Nat.succ_mul
def vI:=@List.length_nil
def vJ:=@List.getElem?_eq_none
def vK:=@Int.le_trans
def wX:=@Nat.not_lt
def yd:=@List.getElem?_of_mem
def zS:=@List.take_succ
def zW:=@PySem.W.plainGet_of
def zX:=@PySem.W.callWith_K0
def zY:=@List.map_id
def zZ:=@List.toList_toArray
def BZ:=@PySem.codeAny_mono
def B0:=@PySem.Heap.get?_update_self
def B4:=@Int.emod_lt_of_pos
def Dk:=@PySem.wpAny_call
def EL:=@beq_iff_eq
def EM:=@PySem.Calls.evalArgs_plain
def EN:=@Option.isSome_map
def EO:=@List.take_add_one
def ER:=@Classical.not_not
def ES:=@Nat.le_succ_of_le
def ET:=@PySem.codeAny_call_builtin
def GK:=@List.map_set
def G3:=@Bool.and_eq_true
def G4:=@PySem.Heap.get?_update_ne
def G5:=@PySem.wpAny_field
def JU:=@Array.getD_eq_getD_getElem?
def JV:=@Array.Perm.refl
def JW:=@PySem.wpAny_newList
def JX:=@List.filter_map
def LW:=@PyProof.Rows.get?_update_seq
def MD:=@PySem.plainObj_wpAny_Assign_Attribute
def ME:=@List.Perm.refl
def MF:=@List.mem_of_find?_eq_some
def MG:=@List.getElem?_append_left
def MH:=@PySem.F.excBase_Exception
def MI:=@List.drop_eq_getElem_cons
def OX:=@Option.isSome_iff_exists
def OY:=@PySem.F.slot_dict_values
namespace L2
open PySem PySem.Spec PyProof.Rows
abbrev Key:=Sum Int Str
def wY:Key->Value->Bool
 | .inl k,v=>Value.isInt k v
 | .inr x,v=>Value.isStrOf x v
def T2 (w:World):Key->Int
 | .inl k=>hashInt k
 | .inr x=>hashStr w x
theorem fu: ∀{k:Key} {v:Value},wY k v=true->(∃i t,k=Sum.inl i/\v=Value.int i t)∨(∃x t,k=Sum.inr x/\v=Value.str x t)
 | .inl i,v,h=>by
  obtain⟨t,e⟩:=Value.isInt_shape (k:=i) (v:=v) h
  exact .inl ⟨i,t,rfl,e⟩
 | .inr x,v,h=>by
  obtain⟨t,e⟩:=Value.isStrOf_shape (x:=x) (v:=v) h
  exact .inr ⟨x,t,rfl,e⟩
theorem EU (i:Int)(t:Tok):wY (.inl i) (.int i t)=true:=by simp[wY,Value.isInt]
theorem EV (x:Str)(t:Tok):wY (.inr x) (.str x t)=true:=by simp[wY,Value.isStrOf]
theorem MJ (a b:Int):decide ((Sum.inl a:Key)=Sum.inl b)=(a == b):=by
 by_cases e:a=b
 ·subst e; simp
 ·have h: ¬ (Sum.inl a:Key)=Sum.inl b:=fun q=>e (Sum.inl.inj q)
  rw[bA h]
  exact(gR.mpr e).symm
theorem MK (a b:Str):decide ((Sum.inr a:Key)=Sum.inr b)=decide (a=b):=by
 by_cases e:a=b
 ·subst e; simp
 ·have h: ¬ (Sum.inr a:Key)=Sum.inr b:=fun q=>e (Sum.inr.inj q)
  rw[bA h,bA e]
theorem ML (a:Int)(b:Str):decide ((Sum.inl a:Key)=Sum.inr b)=false:=bA (fun q=>nomatch q)
theorem MM (a:Str)(b:Int):decide ((Sum.inr a:Key)=Sum.inl b)=false:=bA (fun q=>nomatch q)
def dZ (prog:Program)(w:World):PySem.KeyKind prog w Key where
 is:=wY
 hash:=T2 w
 inj:=fun v a b ha hb=>by
  rcases fu ha with⟨i,t,rfl,rfl⟩|⟨x,t,rfl,rfl⟩
  ·rcases fu hb with⟨j,u,rfl,e⟩|⟨y,u,rfl,e⟩
   ·injection e with e1 _; rw[e1]
   ·exact nomatch e
  ·rcases fu hb with⟨j,u,rfl,e⟩|⟨y,u,rfl,e⟩
   ·exact nomatch e
   ·injection e with e1 _; rw[e1]
 byValue:=fun k v h=>by
  rcases fu h with⟨i,t,rfl,rfl⟩|⟨x,t,rfl,rfl⟩ <;> rfl
 pyHash:=fun hv h=>by
  rcases fu hv with⟨i,t,rfl,rfl⟩|⟨x,t,rfl,rfl⟩
  ·exact wpAny_pyHash_int h
  ·exact wpAny_pyHash_str h
 eqBool:=fun hu hv h=>by
  rcases fu hu with⟨i,t,rfl,rfl⟩|⟨x,t,rfl,rfl⟩
  ·rcases fu hv with⟨j,u,rfl,rfl⟩|⟨y,u,rfl,rfl⟩
   ·rw[MJ] at h; exact wpAny_eqBool_int h
   ·rw[ML] at h; exact SeqAt.EqAt.int_str i t y u _ _ _ _ h
  ·rcases fu hv with⟨j,u,rfl,rfl⟩|⟨y,u,rfl,rfl⟩
   ·rw[MM] at h; exact SeqAt.EqAt.str_int x t j u _ _ _ _ h
   ·rw[MK] at h; exact wpAny_eqBool_str h
 «strs»:=fun k x t v h=>by
  rcases fu h with⟨i,u,rfl,e⟩|⟨y,u,rfl,e⟩
  ·exact nomatch e
  ·injection e with e1 _
   subst e1
   cases v <;> rfl
theorem z5 (prog:Program)(w:World)(i:Int)(t:Tok):(dZ prog w).is (.inl i) (.int i t)=true:=EU i t
theorem z6 (prog:Program)(w:World)(x:Str)(t:Tok):(dZ prog w).is (.inr x) (.str x t)=true:=EV x t
inductive V where
 |eI|bl (b:Bool)|int (i:Int)|str (x:Str)|EW (b:Array UInt8)|JY (b:UInt64)|ref (a:Addr)|ty (n:String)
 deriving DecidableEq
def RelV:V->Value->Prop
 | .eI,u=>u=Value.none
 | .bl b,u=>u=Value.bool b
 | .int i,u=> ∃t,u=Value.int i t
 | .str x,u=> ∃t,u=Value.str x t
 | .EW b,u=> ∃t,u=Value.bytes b t
 | .JY b,u=> ∃t,u=Value.float b t
 | .ref a,u=>u=Value.ref a
 | .ty n,u=>u=Value.type n
abbrev Vals:List V->List Value->Prop:=Paired RelV
theorem Vals.length {xs:List V}{us:List Value}(r:Vals xs us):xs.length=us.length:=aQ r
theorem Vals.get: ∀{xs:List V} {us:List Value} {i:Nat} {x:V},Vals xs us->xs[i]? =some x-> ∃u,us[i]? =some u/\RelV x u
 |_,_,_,_,.nil,e=>by simp at e
 |_,_,0,_,.cons r _,e=>by simp at e; subst e; exact⟨_,rfl,r⟩
 |_,_,i + 1,x,.cons _ t,e=>by
  obtain⟨u,h1,h2⟩:=Vals.get (i:=i) (x:=x) t (by simpa using e)
  exact⟨u,by simpa using h1,h2⟩
theorem Vals.set {x:V}{u:Value}(r:RelV x u): ∀{xs:List V} {us:List Value} (i:Nat),Vals xs us->Vals (xs.set i x) (us.set i u)
 |_,_,_,.nil=> .nil
 |_,_,0,.cons _ t=> .cons r t
 |_,_,i + 1,.cons q t=> .cons q (Vals.set r i t)
theorem Vals.append: ∀{xs ys:List V} {us ws:List Value},Vals xs us->Vals ys ws->Vals (xs ++ ys) (us ++ ws)
 |_,_,_,_,.nil,s=>s
 |_,_,_,_,.cons r t,s=> .cons r (Vals.append t s)
theorem Vals.take: ∀{xs:List V} {us:List Value} (n:Nat),Vals xs us->Vals (xs.take n) (us.take n)
 |_,_,0,_=> .nil
 |_,_,_ + 1,.nil=> .nil
 |_,_,n + 1,.cons r t=> .cons r (Vals.take n t)
theorem Vals.drop: ∀{xs:List V} {us:List Value} (n:Nat),Vals xs us->Vals (xs.drop n) (us.drop n)
 |_,_,0,r=>r
 |_,_,_ + 1,.nil=> .nil
 |_,_,n + 1,.cons _ t=>Vals.drop n t
theorem Vals.none_of: ∀{xs:List V} {us:List Value} {i:Nat},Vals xs us->xs[i]? =none->us[i]? =none:=fun{xs us i} r e=>by
 have h1:=r.length
 have h2:xs.length<=i:=pY.mp e
 exact pY.mpr (by omega)
def k7:Option V->Option Value->Prop
 |some v,some u=>RelV v u
 |none,none=>True
 |_,_=>False
def KV {κ:Type}:List (κ×V)->List (κ×Value)->Prop:=Paired fun(p:κ×V) (q:κ×Value)=>p.1=q.1/\RelV p.2 q.2
def kV:Key->V
 | .inl i=> .int i
 | .inr x=> .str x
inductive HO where
 |lst (xs:List V)
 |tup (xs:List V)
 |dK (br:List (Key×V))|dT (br:List (List Key×V))
 |set (S:Int->Bool) (n:Nat)
 |ins (C dx:Addr) (fs:List (Str×V))
 |own (x:Addr)
 |xd (fs:List (Str×V))
 |met (f x:Addr)
 |T3 (lo hi:Int)
 |BR (o:Obj) (u:HO)
 |nQ (ps:Array Value)
 |ext (φ:Heap->Prop)
abbrev Hp:=Addr->Option HO
def upd (H:Hp)(a:Addr)(o:HO):Hp:=fun b=>if b=a then some o else H b
theorem ag {H:Hp}{a:Addr}{o:HO}:upd H a o a=some o:=by unfold upd; rw[if_pos rfl]
theorem aA {H:Hp}{a b:Addr}{o:HO}(h:b≠a):upd H a o b=H b:=by unfold upd; rw[if_neg h]
theorem mF {H:Hp}{a b:Addr}{o u:HO}(h:H a=some o)(h':H b=some u)(d:o≠u):a≠b:=by
 intro e; subst e; rw[h] at h'; exact d (aF h')
theorem aN {H:Hp}{a b:Addr}{o:HO}(h:H a=some o)(h':H b=none):a≠b:=by
 intro e; subst e; rw[h] at h'; cases h'
section
variable (P:Program)(w:World)
def dJ (H:Hp)(h:Heap)(a:Addr):HO->Prop
 | .lst xs=>xs.length<=sizeLine/\ ∃(cy:List Value) (n:Nat),Vals xs cy/\h.get? a=some {cls:= .type "list",data:= .seq cy.toArray n}
 | .tup xs=>xs.length<=sizeLine/\ ∃cy:List Value,Vals xs cy/\IsTup h a cy.toArray
 | .dK br=>br.length<=sizeLine/\(a == sysModules)=false/\ ∃vs,KV br vs/\h.DictOf (dZ P w) a vs
 | .dT br=>br.length<=sizeLine/\(a == sysModules)=false/\ ∃xs:List (List Key×Addr×Value),
   Paired (fun(p:List Key×V) (q:List Key×Addr×Value)=>p.1=q.1/\H q.2.1=some (.tup (p.1.map kV))/\RelV p.2 q.2.2) br xs/\
   ∃o es ep,h.get? a=some o/\o.ExactDict/\o.data= .dict es ep/\es.toList=xs.map (entryOfKey (tupleKind (dZ P w)))/\(xs.map (·.1)).Nodup
 | .set S n=>h.SetOf (intKind P w) a S n
 | .ins C dx fs=>H dx=some (.own a)/\fs.length<=1000/\dx≠a/\h.get? a=some (PySem.W.instObj C dx)/\
   ∃mA,h.Ns1 dx mA/\(∀f,k7 (fs.lookup f) (mA f))/\PySem.Within mA (fs.map (·.1))
 | .own _=> ∃o,h.get? a=some o
 | .xd fs=> ∃mA,h.Ns1 a mA/\ ∀f,k7 (fs.lookup f) (mA f)
 | .T3 lo hi=> ∃t u v,h.get? a=some {cls:= .type "range",data:= .fields #[.int lo t,.int hi u,.int 1 v]}
 | .BR o u=>h.get? a=some o/\dJ H h a u
 | .nQ ps=>h.get? a=some {cls:= .none,data:= .fields ps}
 | .met f x=>h.get? a=some (PySem.W.methodObj (.ref f) (.ref x))
 | .ext φ=>φ h/\(∃o,h.get? a=some o)/\ ∀h1 h2:Heap,φ h1->(∀o,h1.get? a=some o->h2.get? a=some o)->φ h2
def oq (H:Hp)(h:Heap):Prop:= ∀a o,H a=some o->dJ P w H h a o
end
section
variable {P:Program}{w:World}{H H':Hp}{h h':Heap}{a:Addr}{o:HO}
theorem dJ.lt (x:dJ P w H h a o):a < h.objs.size:=by
 cases o with
 |lst xs=>obtain⟨_,_,_,_,e⟩:=x; exact aO e
 |tup xs=>obtain⟨_,_,_,p⟩:=x; exact p.lt
 |dK br=>obtain⟨_,_,_,_,o,_,_,e,_⟩:=x; exact aO e
 |dT br=>obtain⟨_,_,_,_,o,_,_,e,_⟩:=x; exact aO e
 |set S n=>obtain⟨o,_,_,_,e,_⟩:=x; exact aO e
 |ins C dx fs=>obtain⟨_,_,_,e,_⟩:=x; exact aO e
 |own y=>obtain⟨_,e⟩:=x; exact aO e
 |xd fs=>obtain⟨_,⟨_,_,_,e,_⟩,_⟩:=x; exact aO e
 |T3 lo hi=>obtain⟨_,_,_,e⟩:=x; exact aO e
 |BR ob u=>obtain⟨e,_⟩:=x; exact aO e
 |nQ ps=>exact aO (show h.get? a=some _ from x)
 |met f y=>exact aO (show h.get? a=some _ from x)
 |ext φ=>obtain⟨_,⟨_,e⟩,_⟩:=x; exact aO e
theorem Paired.ir {α β:Type}{F G:α->β->Prop}: ∀{l₁:List α} {l₂:List β},Paired F l₁ l₂->(∀a b,F a b->G a b)->Paired G l₁ l₂
 |_,_,.nil,_=> .nil
 |_,_,.cons r t,f=> .cons (f _ _ r) (Paired.ir t f)
theorem dJ.sY (x:dJ P w H h a o)(k: ∀b u,(b=a∨H b=some (.own a))->h.get? b=some u->h'.get? b=some u)
  (ho: ∀b,H b=some (.own a)->H' b=some (.own a)) (ht: ∀b xs,H b=some (.tup xs)->H' b=some (.tup xs)):dJ P w H' h' a o:=by
 induction o with
 |lst xs=>obtain⟨z,cy,n,r,e⟩:=x; exact⟨z,cy,n,r,k _ _ (.inl rfl) e⟩
 |tup xs=>obtain⟨z,cy,r,ob,e,c⟩:=x; exact⟨z,cy,r,ob,k _ _ (.inl rfl) e,c⟩
 |dK br=>obtain⟨z,y,vs,r,ob,es,ep,e,c⟩:=x; exact⟨z,y,vs,r,ob,es,ep,k _ _ (.inl rfl) e,c⟩
 |dT br=>
  obtain⟨z,y,xs,r,ob,es,ep,e,c⟩:=x
  exact⟨z,y,xs,Paired.ir r fun p q z=>⟨z.1,ht _ _ z.2.1,z.2.2⟩,ob,es,ep,k _ _ (.inl rfl) e,c⟩
 |set S n=>obtain⟨ob,es,ep,t,e,c⟩:=x; exact⟨ob,es,ep,t,k _ _ (.inl rfl) e,c⟩
 |ins C dx fs=>
  obtain⟨d,z,ne,e,mA,⟨od,es,ep,e2,c⟩,r⟩:=x
  exact⟨ho _ d,z,ne,k _ _ (.inl rfl) e,mA,⟨od,es,ep,k _ _ (.inr d) e2,c⟩,r⟩
 |own y=>obtain⟨ob,e⟩:=x; exact⟨ob,k _ _ (.inl rfl) e⟩
 |xd fs=>obtain⟨mA,⟨od,es,ep,e,c⟩,r⟩:=x; exact⟨mA,⟨od,es,ep,k _ _ (.inl rfl) e,c⟩,r⟩
 |T3 lo hi=>obtain⟨t,u,v,e⟩:=x; exact⟨t,u,v,k _ _ (.inl rfl) e⟩
 |BR ob u ih=>obtain⟨e,q⟩:=x; exact⟨k _ _ (.inl rfl) e,ih q⟩
 |nQ ps=>
  have e:h.get? a=some {cls:= .none,data:= .fields ps}:=x
  show h'.get? a=some {cls:= .none,data:= .fields ps}
  exact k a _ (.inl rfl) e
 |met f y=>
  have e:h.get? a=some (PySem.W.methodObj (.ref f) (.ref y)):=x
  show h'.get? a=some (PySem.W.methodObj (.ref f) (.ref y))
  exact k a _ (.inl rfl) e
 |ext φ=>obtain⟨p,⟨o,e⟩,st⟩:=x; exact⟨st _ _ p fun o q=>k _ _ (.inl rfl) q,⟨o,k _ _ (.inl rfl) e⟩,st⟩
theorem oq.lt (x:oq P w H h)(e:H a=some o):a < h.objs.size:=(x a o e).lt
theorem oq.fresh (x:oq P w H h)(e:h.objs.size<=a):H a=none:=by
 cases q:H a with
 |none=>rfl
 |some u=>exact absurd (bu (x.lt q) e) (iS _)
theorem oq.kept (x:oq P w H h)(k: ∀b u,h.get? b=some u->h'.get? b=some u):oq P w H h':=fun a o e=>
 (x a o e).sY (fun b u _ q=>k b u q) (fun _ q=>q) fun _ _ q=>q
theorem oq.laid (x:oq P w H h)(k: ∀b u,h.get? b=some u->h'.get? b=some u)(hp:h.objs.size<=a)(new:dJ P w (upd H a o) h' a o):oq P w (upd H a o) h':=fun b u e=>by
 have hn:=x.fresh hp
 by_cases hb:b=a
 ·subst hb; rw[ag] at e; cases e; exact new
 ·rw[aA hb] at e
  exact(x b u e).sY (fun c v _ q=>k c v q) (fun c q=>by rw[aA (aN q hn)]; exact q) fun c xs q=>by rw[aA (aN q hn)]; exact q
end
def Rd (H:Hp)(a:Addr)(u:HO):Prop:=H a=some u∨ ∃o,H a=some (.BR o u)
theorem Rd.ok {P:Program}{w:World}{H:Hp}{h:Heap}{a:Addr}{u:HO}(r:Rd H a u)(x:oq P w H h):dJ P w H h a u:=by
 rcases r with r|⟨o,r⟩
 ·exact x a u r
 ·obtain⟨_,q⟩:=x a _ r
  exact q
def PJ:Option HO->Prop
 |some (.lst _)=>True
 |some (.dK _)=>True
 |some (.dT _)=>True
 |some (.set _ _)=>True
 |some (.ins _ _ _)=>True
 |some (.ext _)=>True
 |_=>False
section
variable {P:Program}{w:World}{H:Hp}{h h':Heap}{x e:Addr}{o':HO}
theorem oq.write (ok:oq P w H h)(mu:PJ (H x))(he:e=x∨H e=some (.own x))(k: ∀b u,b≠e->h.get? b=some u->h'.get? b=some u)(OZ: ∃u,h'.get? e=some u)
  (new:dJ P w (upd H x o') h' x o'):oq P w (upd H x o') h':=fun b u q=>by
 have PL: ∀c y,H c=some (.own y)->c≠x:=fun c y r z=>by subst z; rw[r] at mu; exact mu
 have T4: ∀c xs,H c=some (.tup xs)->c≠x:=fun c xs r z=>by subst z; rw[r] at mu; exact mu
 by_cases hb:b=x
 ·subst hb; rw[ag] at q; cases q; exact new
 ·rw[aA hb] at q
  by_cases MN:b=e
  ·have q':H b=some (.own x):=by
    rcases he with z|z
    ·exact absurd (MN.trans z) hb
    ·rw[MN]; exact z
   rw[q] at q'; cases q'
   obtain⟨v,hv⟩:=OZ
   exact⟨v,by rw[MN]; exact hv⟩
  ·refine(ok b u q).sY (fun c v hc r=>k c v ?_ r) (fun c r=>by rw[aA (PL c b r)]; exact r) fun c xs r=>by rw[aA (T4 c xs r)]; exact r
   rcases hc with rfl|hc
   ·exact MN
   ·rintro rfl
    rcases he with z|z
    ·exact PL c b hc z
    ·rw[hc] at z; cases z; exact hb rfl
end
structure Un (fs ex:List Addr)(H H':Hp)(h h':Heap):Prop where
 keep: ∀b o,h.get? b=some o->H b=none->b∉fs->b∉ex->h'.get? b=some o
 slot: ∀b o,h.get? b=some o->H b=none->b∈fs->b∉ex-> ∃sl,h'.get? b=some {o with slots:=sl}
 free: ∀b o,h.get? b=some o->H b=none->b∉ex->H' b=none
 there: ∀b o,h.get? b=some o->b∉ex-> ∃o',h'.get? b=some o'
 qa: ∀b xs,H b=some (.tup xs)->H' b=some (.tup xs)
 o4: ∀b o u,H b=some (.BR o u)->H' b=some (.BR o u)
 o5: ∀b ps,H b=some (.nQ ps)-> ∃more,H' b=some (.nQ (ps ++ more))
section
variable {fs YY ex ex':List Addr}{H H1 H2:Hp}{h h1 h2 h':Heap}{a x e:Addr}{o:HO}
theorem Un.any (u:Un fs ex H H1 h h1){b:Addr}{ob:Obj}(q:h.get? b=some ob)(n:H b=none)(hx:b∉ex): ∃sl,h1.get? b=some {ob with slots:=sl}:=by
 by_cases hb:b∈fs
 ·exact u.slot b ob q n hb hx
 ·exact⟨ob.slots,u.keep b ob q n hb hx⟩
theorem Un.kept (k: ∀b u,h.get? b=some u->h'.get? b=some u):Un fs ex H H h h':=
 ⟨fun b ob q _ _ _=>k b ob q,fun b ob q _ _ _=>⟨ob.slots,k b ob q⟩,fun _ _ _ n _=>n,fun b ob q _=>⟨ob,k b ob q⟩,fun _ _ q=>q,fun _ _ _ q=>q,fun _ ps q=>⟨#[],by rw[q]; simp⟩⟩
theorem Un.refl:Un fs ex H H h h:=Un.kept fun _ _ q=>q
theorem Un.laid (k: ∀b u,h.get? b=some u->h'.get? b=some u)(hp:h.objs.size<=a)(hn:H a=none):Un fs ex H (upd H a o) h h' where
 keep:=fun b u q _ _ _=>k b u q
 slot:=fun b u q _ _ _=>⟨u.slots,k b u q⟩
 free:=fun b u q n _=>by rw[aA (bc (bu (aO q) hp))]; exact n
 there:=fun b u q _=>⟨u,k b u q⟩
 qa:=fun b xs q=>by rw[aA (aN q hn)]; exact q
 o4:=fun b u xs q=>by rw[aA (aN q hn)]; exact q
 o5:=fun b ps q=>⟨#[],by rw[aA (aN q hn),q]; simp⟩
theorem Un.write (mu:PJ (H x))(he:e=x∨H e=some (.own x))(k: ∀b u,b≠e->h.get? b=some u->h'.get? b=some u)(OZ: ∃u,h'.get? e=some u):Un fs ex H (upd H x o) h h':=by
 have hx: ∀b,H b=none->b≠x:=fun b n z=>by subst z; rw[n] at mu; exact mu
 have hb: ∀b,H b=none->b≠e:=fun b n z=>by
  subst z
  rcases he with r|r
  ·exact hx b n r
  ·rw[n] at r; cases r
 have hm: ∀b u,H b=some u-> ¬ PJ (some u)->b≠x:=fun b u q nm z=>by subst z; rw[q] at mu; exact nm mu
 refine⟨fun b u q n _ _=>k b u (hb b n) q,fun b u q n _ _=>⟨u.slots,k b u (hb b n) q⟩,fun b u q n _=>by rw[aA (hx b n)]; exact n,fun b u q _=>?_,
  fun b xs q=>by rw[aA (hm b _ q fun z=>z)]; exact q,fun b u xs q=>by rw[aA (hm b _ q fun z=>z)]; exact q,fun b ps q=>⟨#[],by rw[aA (hm b _ q fun z=>z),q]; simp⟩⟩
 by_cases MN:b=e
 ·subst MN; exact OZ
 ·exact⟨u,k b u MN q⟩
end
def SQ (h:Heap)(H:Hp):List Addr:=(List.range h.objs.size).filter fun a=>(H a).isSome
def vL (h:Heap)(H:Hp):Heap:=PySem.W.hideAll h (SQ h H)
theorem EY (h:Heap)(H:Hp):(vL h H).objs.size=h.objs.size:=PySem.W.hideAll_size _ _
theorem G6 {h:Heap}{H:Hp}{b:Addr}{o:Obj}(e:h.get? b=some o)(n:H b=none):(vL h H).get? b=some o:=
 PySem.W.hideAll_get _ e fun hm=>by
  have q:(H b).isSome=true:=(eX.mp hm).2
  rw[n] at q; simp at q
theorem JZ {h:Heap}{H:Hp}{b:Addr}{o:Obj}(e:(vL h H).get? b=some o):h.get? b=some o/\H b=none:=by
 have e':h.get? b=some o:=PySem.W.of_hideAll (SQ h H) e
 refine⟨e',?_⟩
 cases q:H b with
 |none=>rfl
 |some x=>
  have hm:b∈SQ h H:=List.mem_filter.mpr ⟨List.mem_range.mpr (Heap.lt_size e'),by simp[q]⟩
  have z:(vL h H).get? b=none:=PySem.W.hideAll_none (SQ h H) hm
  rw[z] at e; cases e
structure Mod (K:PySem.W.Frag)(mg:Str->Option Value)(base:Heap):Prop where
 J0:K.In base
 glob:base.Ns mainGlobals mg
 blt: ∃mb,base.Ns builtinsNs mb/\ ∀x:Str,x≠"__name__"->mb x=bootBuiltins x
 nolimit:base.NoLimit
structure Cx where
 prog:Program
 w:World
 K:PySem.W.Frag
 mg:Str->Option Value
 base:Heap
 A:Around
 N:List Str
 s₀:Shared
 H₀:Hp
 env:Env
 outer:List Env
 stack:List Env
 ex:List Addr
 fn:Str->Bool
 calm:Bool
 pn:List (Addr×Obj)
 xe:Value->Shared->Prop
def B6 (l:List Env):List Addr:=l.filterMap (·.frame)
abbrev Cx.fs (X:Cx):List Addr:=B6 X.outer
def PM (sc:Scope)(x:Str):Prop:=sc.names.lookup x=some .local∨sc.names.lookup x=some .cell∨sc.names.lookup x=some .free
def Loc (sc:Scope)(x:Str):Prop:=sc.names.lookup x=some .local∨sc.names.lookup x=some .cell
def Look (env:Env)(h:Heap)(m:Str->Option Value)(x:Str)(u:Value):Prop:=
 (env.kindOf x=some .local/\m x=some u)∨((env.kindOf x=some .cell∨env.kindOf x=some .free)/\ ∃c,env.cells.lookup x=some c/\h.IsCell c (some u))
structure Cx.Ok (X:Cx):Prop where
 mod:Mod X.K X.mg X.base
 kind:X.env.scope.kind= .function
 glob:X.env.globals=mainGlobals
 blt:X.env.builtins=builtinsNs
 above:X.s₀.heap.objs.size<=X.env.locals
 inj: ∀x y c,X.env.cells.lookup x=some c->X.env.cells.lookup y=some c->x=y
 has: ∀x,(X.env.kindOf x=some .cell∨X.env.kindOf x=some .free)-> ∃c,X.env.cells.lookup x=some c
 JG: ∀x c,X.fn x=true->X.env.cells.lookup x=some c->X.s₀.heap.objs.size<=c
 hd:X.calm=true->X.A.handled=none
 frames:X.A.frames=some X.stack
 GL:X.stack=X.outer∨(X.stack=X.env :: X.outer/\X.env.frame=some X.env.locals)
 J1: ∀b∈X.ex,b≠X.env.locals/\ ∀x c,X.env.cells.lookup x=some c->c≠b
 bs: ∀b o,X.base.get? b=some o->X.s₀.heap.get? b=some o/\X.H₀ b=none
 z7:X.base.objs.size<=X.s₀.heap.objs.size
 vM: ∀b o,X.base.get? b=some o->b∉X.ex
 vN: ∀b∈X.ex,b∉X.fs
 lM:X.s₀.heap.FunFrames X.base X.outer
 Dl: ∀b∈X.fs,X.H₀ b=none
structure Inv (X:Cx)(pins:List (Addr×Obj))(σ:List (Option V))(H:Hp)(s:Shared):Prop where
 ok:X.Ok
 os:s.os=X.s₀.os
 bare:AllBare s.gens
 base:Un X.fs X.ex X.H₀ H X.s₀.heap s.heap
 loc: ∃m,s.heap.Ns X.env.locals m/\ ∀(i:Nat) (x:Str) (v:V),X.N[i]? =some x->σ[i]? =some (some v)->PM X.env.scope x-> ∃u,RelV v u/\Look X.env s.heap m x u
 cell: ∀x c,X.env.cells.lookup x=some c-> ∃v,s.heap.IsCell c v
 free:H X.env.locals=none
 iP: ∀x c,X.env.cells.lookup x=some c->H c=none
 pin: ∀p∈X.pn ++ pins,s.heap.get? p.1=some p.2/\H p.1=none/\p.1≠X.env.locals/\p.1∉X.fs/\ ∀v,p.2.data≠ .cell v
 cK:oq X.prog X.w H s.heap
 len:σ.length=X.N.length
section
variable {X:Cx}{pins:List (Addr×Obj)}{σ:List (Option V)}{H H':Hp}{s:Shared}{h':Heap}
theorem Cx.Ok.T5 (ok:X.Ok){b:Addr}{o:Obj}(e:X.base.get? b=some o):b∉X.fs:=fun hb=>by
 have:=(ok.lM.mem hb).1
 rw[e] at this; cases this
theorem Inv.bs (I:Inv X pins σ H s): ∀b o,X.base.get? b=some o->s.heap.get? b=some o/\H b=none:=fun b o e=>
 ⟨I.base.keep b o (I.ok.bs b o e).1 (I.ok.bs b o e).2 (I.ok.T5 e) (I.ok.vM b o e),I.base.free b o (I.ok.bs b o e).1 (I.ok.bs b o e).2 (I.ok.vM b o e)⟩
theorem Inv.bk (I:Inv X pins σ H s): ∀b o,X.base.get? b=some o->s.heap.get? b=some o:=fun b o e=>(I.bs b o e).1
theorem Inv.mod (I:Inv X pins σ H s):Mod X.K X.mg X.base:=I.ok.mod
theorem Inv.gO (I:Inv X pins σ H s):X.K.In s.heap:=I.ok.mod.J0.keeps I.bk
theorem Inv.nolimit (I:Inv X pins σ H s):s.heap.NoLimit:=I.ok.mod.nolimit.keeps I.bk
theorem Inv.fr (I:Inv X pins σ H s): ∃m,Fr X.base X.env.locals s.heap m:=
 let⟨m,hn,_⟩:=I.loc
 ⟨m,hn,I.bk,a8 I.ok.z7 I.ok.above⟩
theorem Inv.lt (I:Inv X pins σ H s):X.env.locals < s.heap.objs.size:=let⟨_,hn,_⟩:=I.loc; hn.lt
theorem Inv.sz (I:Inv X pins σ H s):X.s₀.heap.objs.size<=s.heap.objs.size:=a8 I.ok.above (dU I.lt)
theorem Inv.EZ (I:Inv X pins σ H s){a:Addr}(h:s.heap.objs.size<=a):a∉X.fs:=fun hb=>by
 obtain⟨_,o,ho,_⟩:=I.ok.lM.mem hb
 exact absurd (bu (aO ho) (a8 I.sz h)) (iS _)
theorem Inv.LX (I:Inv X pins σ H s): ∀x c,X.env.cells.lookup x=some c->c≠X.env.locals:=fun x c e z=>by
 obtain⟨v,o,ho,hd⟩:=I.cell x c e
 obtain⟨m,⟨o',es,ep,J2,GN,_⟩,_⟩:=I.loc
 rw[z,J2] at ho; cases ho; rw[GN] at hd; cases hd
theorem Inv.lM (I:Inv X pins σ H s):s.heap.FunFrames X.base X.outer:=by
 have all: ∀(l:List Env),(∀b∈B6 l,b∈X.fs)->X.s₀.heap.FunFrames X.base l->s.heap.FunFrames X.base l:=by
  intro l
  induction l with
  |nil=>intro _ _; trivial
  |cons env r ih=>
   intro hs hl
   obtain⟨hk,⟨L,o,hf,hn,ho,hd⟩,hr⟩:=hl
   have hL:L∈X.fs:=hs L (by unfold B6; rw[List.filterMap_cons,hf]; exact List.mem_cons_self)
   obtain⟨sl,e⟩:=I.base.slot L o ho (I.ok.Dl L hL) hL fun z=>I.ok.vN L z hL
   exact⟨hk,⟨L,_,hf,hn,e,hd⟩,ih (fun b hb=>hs b (by unfold B6; rw[List.filterMap_cons,hf]; exact List.mem_cons_of_mem _ hb)) hr⟩
 exact all X.outer (fun _ hb=>hb) I.ok.lM
theorem Inv.stack (I:Inv X pins σ H s):s.heap.FunFrames X.base X.stack:=by
 rcases I.ok.GL with e|⟨e,hf⟩
 ·rw[e]; exact I.lM
 ·rw[e]
  obtain⟨m,hn,_⟩:=I.loc
  refine .cons (by rw[I.ok.kind]; decide) hf hn ?_ I.lM
  exact Heap.get?_none_of_le (a8 I.ok.z7 I.ok.above)
theorem Inv.ue (I:Inv X pins σ H s): ∀b∈B6 X.stack,b∈X.env.locals :: X.fs:=fun b hb=>by
 rcases I.ok.GL with e|⟨e,hf⟩
 ·rw[e] at hb; exact bz _ hb
 ·rw[e] at hb
  unfold B6 at hb
  rw[List.filterMap_cons,hf] at hb
  exact hb
theorem Inv.qd (I:Inv X pins σ H s): ∀b∈B6 X.stack,H b=none:=fun b hb=>by
 rcases aw.mp (I.ue b hb) with e|hb
 ·rw[e]; exact I.free
 ·obtain⟨_,o,ho,_⟩:=I.ok.lM.mem hb
  exact I.base.free b o ho (I.ok.Dl b hb) fun z=>I.ok.vN b z hb
theorem Inv.step {g':Array GenState}{t':Nat}{d':Drawn}{ch:List Addr}(I:Inv X pins σ H s)
  (z8: ∀b∈ch,(b∈X.ex∨X.s₀.heap.objs.size<=b)/\b≠X.env.locals/\(∀x c,X.env.cells.lookup x=some c->c≠b)/\ ∀p∈X.pn ++ pins,p.1≠b)
  (keep: ∀b o,b≠X.env.locals->b∉X.fs->b∉ch->s.heap.get? b=some o->H b=none->h'.get? b=some o)
  (slot: ∀b o,b≠X.env.locals->b∈X.fs->b∉ch->s.heap.get? b=some o->H b=none-> ∃sl,h'.get? b=some {o with slots:=sl}) (free: ∀b o,b∉ch->s.heap.get? b=some o->H b=none->H' b=none)
  (there: ∀b o,b∉ch->s.heap.get? b=some o-> ∃o',h'.get? b=some o')
  (qa: ∀b xs,H b=some (.tup xs)->H' b=some (.tup xs)) (o4: ∀b o u,H b=some (.BR o u)->H' b=some (.BR o u)) (o5: ∀b ps,H b=some (.nQ ps)-> ∃more,H' b=some (.nQ (ps ++ more)))
  (ns: ∀m,s.heap.Ns X.env.locals m->h'.Ns X.env.locals m) (cK:oq X.prog X.w H' h') (hg:AllBare g'):
  Inv X pins σ H' {s with heap:=h',gens:=g',drawn:=d',toks:=t'}:=by
 have Xa: ∀b o,X.s₀.heap.get? b=some o->b≠X.env.locals:=fun b o e=>bc (bu (aO e) I.ok.above)
 have SR: ∀b o,X.s₀.heap.get? b=some o->b∉X.ex->b∉ch:=fun b o e hx hb=>by
  rcases(z8 b hb).1 with z|z
  ·exact hx z
  ·exact absurd (bu (aO e) z) (iS _)
 have cellK: ∀x c,X.env.cells.lookup x=some c-> ∀v,s.heap.IsCell c v->h'.IsCell c v:=fun x c e v ⟨o,ho,hd⟩=>by
  have PN:c∉ch:=fun z=>(z8 c z).2.2.1 x c e rfl
  by_cases hc:c∈X.fs
  ·obtain⟨sl,q⟩:=slot c o (I.LX x c e) hc PN ho (I.iP x c e)
   exact⟨_,q,hd⟩
  ·exact⟨o,keep c o (I.LX x c e) hc PN ho (I.iP x c e),hd⟩
 refine⟨I.ok,I.os,hg,⟨fun b o e n hb hx=>?_,fun b o e n hb hx=>?_,fun b o e n hx=>?_,fun b o e hx=>?_,fun b xs e=>qa b xs (I.base.qa b xs e),fun b o xs e=>o4 b o xs (I.base.o4 b o xs e),fun b ps e=>?_⟩,?_,fun x c e=>?_,?_,fun x c e=>?_,fun p hp=>?_,cK,I.len⟩
 ·exact keep b o (Xa b o e) hb (SR b o e hx) (I.base.keep b o e n hb hx) (I.base.free b o e n hx)
 ·obtain⟨sl,e1⟩:=I.base.slot b o e n hb hx
  obtain⟨YZ,e2⟩:=slot b _ (Xa b o e) hb (SR b o e hx) e1 (I.base.free b o e n hx)
  exact⟨YZ,e2⟩
 ·obtain⟨o',e1⟩:=I.base.there b o e hx
  exact free b o' (SR b o e hx) e1 (I.base.free b o e n hx)
 ·obtain⟨o',e1⟩:=I.base.there b o e hx
  exact there b o' (SR b o e hx) e1
 ·obtain⟨m1,e1⟩:=I.base.o5 b ps e
  obtain⟨m2,e2⟩:=o5 b _ e1
  exact⟨m1 ++ m2,by rw[e2,Array.append_assoc]⟩
 ·obtain⟨m,hn,hl⟩:=I.loc
  refine⟨m,ns m hn,fun i x v e1 e2 e3=>?_⟩
  obtain⟨u,r,l⟩:=hl i x v e1 e2 e3
  refine⟨u,r,?_⟩
  rcases l with l|⟨k,c,e,z⟩
  ·exact .inl l
  ·exact .inr ⟨k,c,e,cellK x c e _ z⟩
 ·obtain⟨v,z⟩:=I.cell x c e
  exact⟨v,cellK x c e v z⟩
 ·obtain⟨m,⟨o,_,_,ho,_⟩,_⟩:=I.loc
  exact free _ o (fun z=>(z8 _ z).2.1 rfl) ho I.free
 ·obtain⟨v,o,ho,hd⟩:=I.cell x c e
  exact free c o (fun z=>(z8 c z).2.2.1 x c e rfl) ho (I.iP x c e)
 ·obtain⟨e,n,ne,nf,d⟩:=I.pin p hp
  have PN:p.1∉ch:=fun z=>(z8 p.1 z).2.2.2 p hp rfl
  exact⟨keep p.1 p.2 ne nf PN e n,free p.1 p.2 PN e n,ne,nf,d⟩
theorem Inv.un {t':Nat}(I:Inv X pins σ H s)(u:Un X.fs [] H H' s.heap h')(cK:oq X.prog X.w H' h'):Inv X pins σ H' {s with heap:=h',toks:=t'}:=by
 obtain⟨m,⟨o,es,ep,ho,r⟩,_⟩:=id I.loc
 obtain⟨sl,hL⟩:=u.any ho I.free (by simp)
 exact I.step (g':=s.gens) (d':=s.drawn) (ch:=[]) (fun _ z=>nomatch z) (fun b o _ hb _ e n=>u.keep b o e n hb (by simp)) (fun b o _ hb _ e n=>u.slot b o e n hb (by simp)) (fun b o _ e n=>u.free b o e n (by simp)) (fun b o _ e=>u.there b o e (by simp)) u.qa u.o4 u.o5 (fun m' hm=>by
  obtain⟨o',T6,T7,J2,r'⟩:=hm
  rw[ho] at J2; cases J2
  exact⟨_,T6,T7,hL,r'⟩) cK I.bare
theorem Inv.call {g':Array GenState}{t':Nat}{d':Drawn}{ch:List Addr}(I:Inv X pins σ H s)(u:Un (B6 X.stack) ch H H' s.heap h')(cK:oq X.prog X.w H' h')(hg:AllBare g')
  (z8: ∀b∈ch,(b∈X.ex∨X.s₀.heap.objs.size<=b)/\b≠X.env.locals/\(∀x c,X.env.cells.lookup x=some c->c≠b)/\ ∀p∈X.pn ++ pins,p.1≠b):
  Inv X pins σ H' {s with heap:=h',gens:=g',drawn:=d',toks:=t'}:=by
 obtain⟨m,⟨o,es,ep,ho,r⟩,_⟩:=id I.loc
 obtain⟨sl,hL⟩:=u.any ho I.free fun z=>(z8 _ z).2.1 rfl
 exact I.step (ch:=ch) z8 (fun b o hL hb hc e n=>u.keep b o e n (fun z=>(aw.mp (I.ue b z)).elim hL hb) hc) (fun b o _ _ hc e n=>u.any e n hc) (fun b o hc e n=>u.free b o e n hc) (fun b o hc e=>u.there b o e hc) u.qa u.o4 u.o5 (fun m' hm=>by
  obtain⟨o',T6,T7,J2,r'⟩:=hm
  rw[ho] at J2; cases J2
  exact⟨_,T6,T7,hL,r'⟩) cK hg
theorem Inv.turned {t':Nat}{it:Addr}(I:Inv X pins σ H s)(k: ∀b o,b≠it->s.heap.get? b=some o->h'.get? b=some o)(hn:H it=none)(hL:it≠X.env.locals)
  (h1:it∈X.ex∨X.s₀.heap.objs.size<=it) (h2: ∀x c,X.env.cells.lookup x=some c->c≠it) (h3: ∀p∈X.pn ++ pins,p.1≠it):Inv X pins σ H {s with heap:=h',toks:=t'}:=by
 have PQ: ∀b u,H b=some u->b≠it:=fun b u e z=>by rw[z,hn] at e; cases e
 refine I.step (g':=s.gens) (d':=s.drawn) (ch:=[it]) (fun b hb=>?_) (fun b o _ _ hc e _=>k b o (fun z=>hc (by simp[z])) e) (fun b o _ _ hc e _=>⟨o.slots,k b o (fun z=>hc (by simp[z])) e⟩) (fun _ _ _ _ n=>n)
  (fun b o hc e=>⟨o,k b o (fun z=>hc (by simp[z])) e⟩) (fun _ _ e=>e) (fun _ _ _ e=>e) (fun b ps e=>⟨#[],by rw[e]; simp⟩) (fun m hm=>?_) (fun b u e=>?_) I.bare
 ·have e:b=it:=by simpa using hb
  subst e
  exact⟨h1,hL,h2,h3⟩
 ·obtain⟨o,es,ep,ho,r⟩:=hm
  exact⟨o,es,ep,k _ o (vE hL) ho,r⟩
 ·refine(I.cK b u e).sY (fun c v hc q=>k c v ?_ q) (fun _ q=>q) fun _ _ q=>q
  rcases hc with z|z
  ·rw[z]; exact PQ b u e
  ·exact PQ c _ z
theorem Inv.tok (I:Inv X pins σ H s)(t:Nat):Inv X pins σ H {s with toks:=t}:=I.un (h':=s.heap) (t':=t) Un.refl I.cK
theorem Inv.kept {t':Nat}(I:Inv X pins σ H s)(k: ∀b u,s.heap.get? b=some u->h'.get? b=some u):Inv X pins σ H {s with heap:=h',toks:=t'}:=I.un (Un.kept k) (I.cK.kept k)
theorem Inv.laid {a:Addr}{o:HO}{t':Nat}(I:Inv X pins σ H s)(k: ∀b u,s.heap.get? b=some u->h'.get? b=some u)(hp:s.heap.objs.size<=a)(new:dJ X.prog X.w (upd H a o) h' a o):
  Inv X pins σ (upd H a o) {s with heap:=h',toks:=t'}:=I.un (Un.laid k hp (I.cK.fresh hp)) (I.cK.laid k hp new)
theorem Inv.write {x e:Addr}{o:HO}{t':Nat}(I:Inv X pins σ H s)(mu:PJ (H x))(he:e=x∨H e=some (.own x))(k: ∀b u,b≠e->s.heap.get? b=some u->h'.get? b=some u)(OZ: ∃u,h'.get? e=some u)
  (new:dJ X.prog X.w (upd H x o) h' x o):Inv X pins σ (upd H x o) {s with heap:=h',toks:=t'}:=I.un (Un.write mu he k OZ) (I.cK.write mu he k OZ new)
theorem Inv.tS {z9:List (Addr×Obj)}(I:Inv X pins σ H s)(h: ∀p∈z9,s.heap.get? p.1=some p.2/\H p.1=none/\p.1≠X.env.locals/\p.1∉X.fs/\ ∀v,p.2.data≠ .cell v):Inv X z9 σ H s:=
 ⟨I.ok,I.os,I.bare,I.base,I.loc,I.cell,I.free,I.iP,fun p hp=>(bL.mp hp).elim (fun z=>I.pin p (df _ z)) (h p),I.cK,I.len⟩
theorem Aa {N:List Str}(hN:N.Nodup){i j:Nat}{x:Str}(a:N[i]? =some x)(b:N[j]? =some x):i=j:=by
 obtain⟨h1,e1⟩:=av.mp a
 obtain⟨h2,e2⟩:=av.mp b
 exact(List.getElem_inj hN).mp (e1.trans e2.symm)
theorem wZ {M:Model}{A:Around}{E:Value->Shared->Prop}{i:Nat}{x:Str}{v:V}{u:Value}{Q:Unit->Shared->Prop}(I:Inv X pins σ H s)(hN:X.N.Nodup)(hi:X.N[i]? =some x)(hx:Loc X.env.scope x)(r:RelV v u)
  (h: ∀s',Inv X pins (σ.set i (some v)) H s'->(∃a,Heap.SameBut a s.heap s'.heap/\(a=X.env.locals∨X.env.cells.lookup x=some a))->Q () s') (hf:X.fn x=true∨X.env.scope.names.lookup x=some .local:=by first|exact .inl rfl|exact .inr rfl|assumption):wpAny M A (storeName X.env x u) Q E s:=by
 obtain⟨m,hn,hl⟩:=id I.loc
 have MO:(X.env.scope.kind == .class || (X.env.scope.kind == .module && X.env.locals != X.env.globals))=false:=by rw[I.ok.kind]; rfl
 have Xb:i < σ.length:=by rw[I.len]; exact(av.mp hi).1
 have LX:=I.LX
 have tracked: ∀{a:Addr} {h':Heap},(∃o,s.heap.get? a=some o/\H a=none)->Heap.SameBut a s.heap h'->oq X.prog X.w H h':=fun{a h'} ha hs b ob e=>by
  obtain⟨_,_,w6⟩:=ha
  refine(I.cK b ob e).sY (fun c w' hc q=>(hs.2 c ?_).trans q) (fun _ q=>q) fun _ _ q=>q
  rintro rfl
  rcases hc with rfl|hc
  ·rw[w6] at e; cases e
  ·rw[w6] at hc; cases hc
 rcases hx with hk|hk
 ·refine wpAny_storeName_local hk hn (fun h' T8 hs=>?_) MO
  obtain⟨oL,_,_,MP,_⟩:=id hn
  refine h _ ⟨I.ok,I.os,I.bare,⟨fun b o e n hb hx=>?_,fun b o e n hb hx=>?_,I.base.free,fun b o e hx=>?_,I.base.qa,I.base.o4,I.base.o5⟩,⟨_,T8,fun j y v' e1 e2 e3=>?_⟩,fun y c e=>?_,I.free,I.iP,fun p hp=>?_,tracked ⟨oL,MP,I.free⟩ hs,by simpa using I.len⟩ ⟨_,hs,.inl rfl⟩
  ·exact(hs.2 b (bc (bu (aO e) I.ok.above))).trans (I.base.keep b o e n hb hx)
  ·obtain⟨sl,e1⟩:=I.base.slot b o e n hb hx
   exact⟨sl,(hs.2 b (bc (bu (aO e) I.ok.above))).trans e1⟩
  ·obtain⟨o',e1⟩:=I.base.there b o e hx
   exact⟨o',(hs.2 b (bc (bu (aO e) I.ok.above))).trans e1⟩
  ·by_cases hj:j=i
   ·subst hj
    rw[hi] at e1; cases e1
    rw[k4 Xb] at e2
    cases e2
    exact⟨u,r,.inl ⟨hk,by simp⟩⟩
   ·rw[mC (vE hj)] at e2
    obtain⟨u',r',q⟩:=hl j y v' e1 e2 e3
    refine⟨u',r',?_⟩
    rcases q with⟨k,e⟩|⟨k,c,e,z⟩
    ·refine .inl ⟨k,?_⟩
     have:y≠x:=fun e=>hj (Aa hN e1 (e▸hi))
     simp[this,e]
    ·exact .inr ⟨k,c,e,z.sameBut hs (LX y c e)⟩
  ·obtain⟨w',z⟩:=I.cell y c e
   exact⟨w',z.sameBut hs (LX y c e)⟩
  ·obtain⟨e,n,ne,nf,d⟩:=I.pin p hp
   exact⟨(hs.2 p.1 ne).trans e,n,ne,nf,d⟩
 ·have Ka:X.fn x=true:=by
   rcases hf with z|z
   ·exact z
   ·rw[z] at hk; cases hk
  obtain⟨c,hc⟩:=I.ok.has x (.inl hk)
  obtain⟨w',z⟩:=I.cell x c hc
  refine wpAny_storeName_cell I.ok.kind hk hc z (fun h' PR hs=>?_)
  obtain⟨oc,O0,T9⟩:=id z
  refine h {s with heap:=h'} ⟨I.ok,I.os,I.bare,⟨fun b o e n hb hx=>?_,fun b o e n hb hx=>?_,I.base.free,fun b o e hx=>?_,I.base.qa,I.base.o4,I.base.o5⟩,⟨m,hn.sameBut hs (Ne.symm (LX x c hc)),fun j y v' e1 e2 e3=>?_⟩,fun y c' e=>?_,I.free,I.iP,fun p hp=>?_,tracked ⟨oc,O0,I.iP x c hc⟩ hs,by simpa using I.len⟩ ⟨c,hs,.inr hc⟩
  ·exact(hs.2 b (bc (bu (aO e) (I.ok.JG x c Ka hc)))).trans (I.base.keep b o e n hb hx)
  ·obtain⟨sl,e1⟩:=I.base.slot b o e n hb hx
   exact⟨sl,(hs.2 b (bc (bu (aO e) (I.ok.JG x c Ka hc)))).trans e1⟩
  ·obtain⟨o',e1⟩:=I.base.there b o e hx
   exact⟨o',(hs.2 b (bc (bu (aO e) (I.ok.JG x c Ka hc)))).trans e1⟩
  ·by_cases hj:j=i
   ·subst hj
    rw[hi] at e1; cases e1
    rw[k4 Xb] at e2
    cases e2
    exact⟨u,r,.inr ⟨.inl hk,c,hc,PR⟩⟩
   ·rw[mC (vE hj)] at e2
    obtain⟨u',r',q⟩:=hl j y v' e1 e2 e3
    refine⟨u',r',?_⟩
    rcases q with q|⟨k,c',e,z'⟩
    ·exact .inl q
    ·refine .inr ⟨k,c',e,z'.sameBut hs ?_⟩
     rintro rfl
     exact hj (Aa hN e1 (I.ok.inj _ _ _ e hc▸hi))
  ·by_cases SS:c'=c
   ·subst SS; exact⟨_,PR⟩
   ·obtain⟨w2,z2⟩:=I.cell y c' e
    exact⟨w2,z2.sameBut hs SS⟩
  ·obtain⟨e,n,ne,nf,d⟩:=I.pin p hp
   refine⟨(hs.2 p.1 ?_).trans e,n,ne,nf,d⟩
   intro q
   rw[q,O0] at e
   have q':oc=p.2:=aF e
   exact d w' (by rw[← q']; exact T9)
theorem uf {M:Model}{A:Around}{E:Value->Shared->Prop}{i:Nat}{x:Str}{v:V}{u:Value}{Q:Unit->Shared->Prop}(I:Inv X pins σ H s)(hN:X.N.Nodup)(hi:X.N[i]? =some x)(hx:Loc X.env.scope x)(r:RelV v u)
  (h: ∀s',Inv X pins (σ.set i (some v)) H s'->Q () s') (hf:X.fn x=true∨X.env.scope.names.lookup x=some .local:=by first|exact .inl rfl|exact .inr rfl|assumption):wpAny M A (storeName X.env x u) Q E s:=
 wZ I hN hi hx r (fun s' I' _=>h s' I') hf
theorem Inv.Dm {s':Shared}{ch:List Addr}(I:Inv X pins σ H s)(ho:s'.os=s.os)(u:Un (B6 X.stack) ch H H' s.heap s'.heap)(cK:oq X.prog X.w H' s'.heap)(hg:AllBare s'.gens)
  (z8: ∀b∈ch,(b∈X.ex∨X.s₀.heap.objs.size<=b)/\b≠X.env.locals/\(∀x c,X.env.cells.lookup x=some c->c≠b)/\ ∀p∈X.pn ++ pins,p.1≠b):Inv X pins σ H' s':=by
 obtain⟨h',g',d',t',o'⟩:=s'
 have e:o'=s.os:=ho
 subst e
 exact I.call (g':=g') (t':=t') (d':=d') u cK hg z8
end
abbrev XK:=Value->Option Addr->Hp->Prop
abbrev St:=List (Option V)
abbrev VK:=V->Hp->Prop
abbrev TE:=St->Hp->VK->Prop
abbrev TT:=St->Hp->(Bool->Hp->Prop)->Prop
abbrev TA:=St->Hp->(List V->Hp->Prop)->Prop
structure Ends where
 nx:St->Hp->Prop
 rt:VK
 bk:St->Hp->Prop:=fun _ _=>False
 ct:St->Hp->Prop:=fun _ _=>False
abbrev TS:=Ends->St->Hp->Prop
def EP (X:Cx)(pins:List (Addr×Obj))(σ:St)(Q:VK)(u:Value)(s':Shared):Prop:= ∃v H',Inv X pins σ H' s'/\RelV v u/\Q v H'
def TP (X:Cx)(pins:List (Addr×Obj))(σ:St)(Q:Bool->Hp->Prop)(b:Bool)(s':Shared):Prop:= ∃H',Inv X pins σ H' s'/\Q b H'
def AP (X:Cx)(pins:List (Addr×Obj))(σ:St)(Q:List V->Hp->Prop)(us:List Value)(s':Shared):Prop:= ∃vs H',Inv X pins σ H' s'/\Vals vs us/\Q vs H'
def SP (X:Cx)(pins:List (Addr×Obj))(D:Ends)(f:Flow)(s':Shared):Prop:=
 match f with
 | .next=> ∃σ' H',Inv X pins σ' H' s'/\D.nx σ' H'
 | .brk=> ∃σ' H',Inv X pins σ' H' s'/\D.bk σ' H'
 | .cont=> ∃σ' H',Inv X pins σ' H' s'/\D.ct σ' H'
 | .ret u=> ∃v σ' H',Inv X pins σ' H' s'/\RelV v u/\D.rt v H'
def PE (X:Cx)(e:Expr)(t:TE):Prop:=
 ∀(pins:List (Addr×Obj)) (s:Shared) (σ:St) (H:Hp) (Q:VK),Inv X pins σ H s->t σ H Q->wpAny (model X.prog X.w) X.A (eval e X.env) (EP X pins σ Q) X.xe s
def PT (X:Cx)(e:Expr)(t:TT):Prop:=
 ∀(pins:List (Addr×Obj)) (s:Shared) (σ:St) (H:Hp) (Q:Bool->Hp->Prop),Inv X pins σ H s->t σ H Q->wpAny (model X.prog X.w) X.A (isTrue e X.env (eval e X.env)) (TP X pins σ Q) X.xe s
def PW (X:Cx)(e:Expr)(t:TT):Prop:=
 ∀(whole:Sem Value) (pins:List (Addr×Obj)) (s:Shared) (σ:St) (H:Hp) (Q:Bool->Hp->Prop),Inv X pins σ H s->t σ H Q->wpAny (model X.prog X.w) X.A (isTrue e X.env whole) (TP X pins σ Q) X.xe s
theorem PW.pt {X:Cx}{e:Expr}{t:TT}(h:PW X e t):PT X e t:=h _
def PA (X:Cx)(es:List Expr)(t:TA):Prop:=
 ∀(pos:Pos) (pins:List (Addr×Obj)) (s:Shared) (σ:St) (H:Hp) (Q:List V->Hp->Prop),Inv X pins σ H s->t σ H Q->wpAny (model X.prog X.w) X.A (spliced (backTo pos (starEach es X.env))) (AP X pins σ Q) X.xe s
def PS (X:Cx)(st:Stmt)(t:TS):Prop:=
 ∀(pins:List (Addr×Obj)) (s:Shared) (σ:St) (H:Hp) (D:Ends),Inv X pins σ H s->t D σ H->wpAny (model X.prog X.w) X.A (exec st X.env) (SP X pins D) X.xe s
def pV (X:Cx)(st:List Stmt)(t:TS):Prop:=
 ∀(pins:List (Addr×Obj)) (s:Shared) (σ:St) (H:Hp) (D:Ends),Inv X pins σ H s->t D σ H->wpAny (model X.prog X.w) X.A (execs st X.env) (SP X pins D) X.xe s
theorem eh {α:Type}{t:Sem α}{Q Q':α->Shared->Prop}{M:Model}{A:Around}{E:Value->Shared->Prop}{s:Shared}(h:wpAny M A t Q E s)(hQ: ∀a s,Q a s->Q' a s):wpAny M A t Q' E s:=cD h hQ fun _ _ x=>x
section
variable {X:Cx}
def PU (i:Nat):TE:=fun σ H Q=> ∃v,σ[i]? =some (some v)/\Q v H
def tC (v:V):TE:=fun _ H Q=>Q v H
theorem B7 {i:Nat}{x:Str}{pos:Pos}(hN:X.N[i]? =some x)(hv:PM X.env.scope x)(hd:(x == ("__debug__":Str))=false:=by decide)(qZ:(x == ("__classdict__":Str))=false:=by decide):PE X (.Name x pos) (PU i):=by
 intro pins s σ H Q I h
 obtain⟨v,e,h⟩:=h
 obtain⟨m,hn,hl⟩:=I.loc
 obtain⟨u,r,l⟩:=hl i x v hN e hv
 have fin:EP X pins σ Q u s:=⟨v,H,I,r,h⟩
 rcases l with⟨hk,hm⟩|⟨hk,c,hc,mf⟩
 ·exact wpAny_Name (wpAny_loadName_local I.ok.kind hk hn hm fin) hd
 ·rcases hk with hk|hk
  ·exact wpAny_Name (wpAny_loadName_cell I.ok.kind hk hc mf fin) hd
  ·exact wpAny_Name (wpAny_loadName_free I.ok.kind hk hc mf fin qZ) hd
theorem ah {i j pos}:PE X (.Constant (.int i) j pos) (tC (.int i)):=fun _ _ _ H _ I h=>wpAny_Constant_int ⟨.int i,H,I.tok _,⟨_,rfl⟩,h⟩
theorem k8 {b j pos}:PE X (.Constant (.bool b) j pos) (tC (.bl b)):=fun _ _ _ H _ I h=>Constant_bool ⟨.bl b,H,I,rfl,h⟩
theorem B8 {j pos}:PE X (.Constant .none j pos) (tC .eI):=fun _ _ _ H _ I h=>Constant_none ⟨.eI,H,I,rfl,h⟩
theorem aW {x j pos}:PE X (.Constant (.str x) j pos) (tC (.str x)):=fun _ _ _ H _ I h=>Calls.Constant_str ⟨.str x,H,I.tok _,⟨_,rfl⟩,h⟩
def Gl (X:Cx)(x:Str):Prop:=X.env.kindOf x=some .globalImplicit
theorem jv {E:Value->Shared->Prop}{pins:List (Addr×Obj)}{s:Shared}{σ:St}{H:Hp}{x:Str}{u:Value}{pos:Pos}{Q:Value->Shared->Prop}(I:Inv X pins σ H s)(hg:Gl X x)(hm:X.mg x=some u)(h:Q u s)
  (hd:(x == ("__debug__":Str))=false:=by decide):wpAny (model X.prog X.w) X.A (eval (.Name x pos) X.env) Q E s:=
 Calls.Name_function_global I.ok.kind hg (Calls.loadGlobal_global (by rw[I.ok.glob]; exact I.mod.glob.keeps I.bk) hm h) hd
theorem o6 {E:Value->Shared->Prop}{pins:List (Addr×Obj)}{s:Shared}{σ:St}{H:Hp}{x:Str}{u:Value}{pos:Pos}{Q:Value->Shared->Prop}(I:Inv X pins σ H s)(hg:Gl X x)(hm:X.mg x=none)(hv:bootBuiltins x=some u)(h:Q u s)
  (hn:x≠"__name__":=by decide) (hd:(x == ("__debug__":Str))=false:=by decide):wpAny (model X.prog X.w) X.A (eval (.Name x pos) X.env) Q E s:=by
 obtain⟨mb,h1,h2⟩:=I.mod.blt
 exact Calls.Name_function_global I.ok.kind hg (Calls.loadGlobal_builtin (by rw[I.ok.glob]; exact I.mod.glob.keeps I.bk) hm (by rw[I.ok.blt]; exact h1.keeps I.bk) ((h2 x hn).trans hv) h) hd
theorem Dn {x:Str}{v:V}{u:Value}{pos:Pos}(hg:Gl X x)(hm:X.mg x=some u)(r:RelV v u)(hd:(x == ("__debug__":Str))=false:=by decide):PE X (.Name x pos) (tC v):=
 fun _ _ _ H _ I h=>jv I hg hm ⟨v,H,I,r,h⟩ hd
theorem gG {x:Str}{v:V}{u:Value}{pos:Pos}(hg:Gl X x)(hm:X.mg x=none)(hv:bootBuiltins x=some u)(r:RelV v u)(hn:x≠"__name__":=by decide)(hd:(x == ("__debug__":Str))=false:=by decide):PE X (.Name x pos) (tC v):=
 fun _ _ _ H _ I h=>o6 I hg hm hv ⟨v,H,I,r,h⟩ hn hd
variable {a b:Expr}{ta tb:TE}{pos:Pos}
def PC (X:Cx)(op:CmpOp)(a b:Expr)(t:TE):Prop:=
 ∀(pins:List (Addr×Obj)) (s:Shared) (σ:St) (H:Hp) (Q:VK),Inv X pins σ H s->t σ H Q->
  wpAny (model X.prog X.w) X.A (eval a X.env) (fun v s₁=>wpAny (model X.prog X.w) X.A (eval b X.env) (fun u s₂=>wpAny (model X.prog X.w) X.A (compareOp op v u) (EP X pins σ Q) X.xe s₂) X.xe s₁) X.xe s
theorem Ab (b:Expr){op:CmpOp}(h:op≠ .In)(h2:op≠ .NotIn):behindInMarks op b=false:=by
 have e1:(op == CmpOp.In)=false:=by cases op <;> first|rfl|exact absurd rfl h
 have e2:(op == CmpOp.NotIn)=false:=by cases op <;> first|rfl|exact absurd rfl h2
 cases b <;> simp[behindInMarks,e1,e2]
def Ua (ta:TE):TE:=fun σ H Q=>ta σ H fun x H1=>Q (.bl (decide (x= .eI))) H1
def PV (ta:TE):TE:=fun σ H Q=>ta σ H fun x H1=>Q (.bl (!decide (x= .eI))) H1
theorem RelV.Ac {x:V}{v:Value}(r:RelV x v):(v == Value.none)=decide (x= .eI):=by
 cases x with
 |eI=>cases r; rfl
 |bl _=>cases r; rfl
 |int _=>obtain⟨t,rfl⟩:=r; rfl
 |str _=>obtain⟨t,rfl⟩:=r; rfl
 |EW _=>obtain⟨t,rfl⟩:=r; rfl
 |JY _=>obtain⟨t,rfl⟩:=r; rfl
 |ref _=>cases r; rfl
 |ty _=>cases r; rfl
theorem G7 {j pos'}(ha:PE X a ta):PC X .Is a (.Constant .none j pos') (Ua ta):=by
 intro pins s σ H Q I h
 refine eh (ha pins s σ H _ I h) fun v s1 ⟨x,H1,I1,r1,q1⟩=>?_
 exact Constant_none (is_none_gen ⟨.bl _,H1,I1,by rw[r1.Ac]; rfl,q1⟩)
theorem Kb {j pos'}(ha:PE X a ta):PC X .IsNot a (.Constant .none j pos') (PV ta):=by
 intro pins s σ H Q I h
 refine eh (ha pins s σ H _ I h) fun v s1 ⟨x,H1,I1,r1,q1⟩=>?_
 exact Constant_none (isnot_none_gen ⟨.bl _,H1,I1,by rw[r1.Ac]; rfl,q1⟩)
def tB (t:TE):TT:=fun σ H Q=>t σ H fun x H1=> ∃c,x= .bl c/\Q c H1
theorem MQ {op:CmpOp}{t:TE}(h:PC X op a b t)(h1:behindInMarks op b=false:=by first|exact Ab _ (by decide) (by decide)|rfl):PE X (.Compare a [op] [b] pos) t:=fun pins s σ H Q I hw=>wpAny_Compare1 (h pins s σ H Q I hw) h1
theorem ye {op:CmpOp}{t:TE}(h:PC X op a b t)(h1:behindInMarks op b=false:=by first|exact Ab _ (by decide) (by decide)|rfl):PT X (.Compare a [op] [b] pos) (tB t):=by
 intro pins s σ H Q I hw
 refine wpAny_isTrue_Compare1 (eh (h pins s σ H _ I hw) fun v s1 h1=>eh h1 fun u s2 h2=>eh h2 fun c s3 ⟨x,H1,I1,r1,q1⟩=>?_) h1
 obtain⟨d,rfl,q⟩:=q1
 cases r1
 exact fW ⟨H1,I1,q⟩
theorem gg {e:Expr}{t:TE}(h:PE X e t)(he: ∀whole,isTrue e X.env whole=(do let v ← whole; standAt e.pos; holding [v] (truthy v)):=by intro _; rfl):PT X e (tB t):=by
 intro pins s σ H Q I hw
 refine isTrue_plain (eh (h pins s σ H _ I hw) fun v s1 ⟨x,H1,I1,r1,q1⟩=>?_) (he _)
 obtain⟨d,rfl,q⟩:=q1
 cases r1
 exact fW ⟨H1,I1,q⟩
variable {tA SU:TT}{rest:List Expr}
def Ub (t u:TT):TT:=fun σ H Q=>t σ H fun c H1=>if c=true then u σ H1 Q else Q false H1
def Y0 (t u:TT):TT:=fun σ H Q=>t σ H fun c H1=>if c=true then Q true H1 else u σ H1 Q
def Uc (t:TT):TT:=fun σ H Q=>t σ H fun c H1=>Q (!c) H1
theorem pw_and1 (ha:PT X a tA):PW X (.BoolOp .And [a] pos) tA:=by
 intro wh pins s σ H Q I h
 refine isTrue_and (eh (ha pins s σ H Q I h) fun c s1 e=>?_)
 cases c with
 |true=>exact isTrue_and_nil e
 |false=>exact e
theorem pw_or1 (ha:PT X a tA):PW X (.BoolOp .Or [a] pos) tA:=by
 intro wh pins s σ H Q I h
 refine isTrue_or (eh (ha pins s σ H Q I h) fun c s1 e=>?_)
 cases c with
 |false=>exact isTrue_or_nil e
 |true=>exact e
theorem pw_and (ha:PT X a tA)(hb:PW X (.BoolOp .And (b :: rest) pos) SU):PW X (.BoolOp .And (a :: b :: rest) pos) (Ub tA SU):=by
 intro wh pins s σ H Q I h
 refine isTrue_and (eh (ha pins s σ H _ I h) fun c s1 ⟨H1,I1,q1⟩=>?_)
 cases c with
 |true=>exact hb wh pins s1 σ H1 Q I1 q1
 |false=>exact⟨H1,I1,q1⟩
theorem pw_or (ha:PT X a tA)(hb:PW X (.BoolOp .Or (b :: rest) pos) SU):PW X (.BoolOp .Or (a :: b :: rest) pos) (Y0 tA SU):=by
 intro wh pins s σ H Q I h
 refine isTrue_or (eh (ha pins s σ H _ I h) fun c s1 ⟨H1,I1,q1⟩=>?_)
 cases c with
 |true=>exact⟨H1,I1,q1⟩
 |false=>exact hb wh pins s1 σ H1 Q I1 q1
theorem jL (ha:PT X a tA):PT X (.UnaryOp .Not a pos) (Uc tA):=by
 intro pins s σ H Q I h
 exact isTrue_not (ha pins s σ H (fun c H1=>Q (!c) H1) I h)
def PX (ta tb:TE):TE:=fun σ H Q=>ta σ H fun x H1=> ∃c,x= .bl c/\if c=true then tb σ H1 Q else Q (.bl false) H1
def Ud (ta tb:TE):TE:=fun σ H Q=>ta σ H fun x H1=> ∃c,x= .bl c/\if c=true then Q (.bl true) H1 else tb σ H1 Q
def PY (ta:TE):TE:=fun σ H Q=>ta σ H fun x H1=> ∃c,x= .bl c/\Q (.bl (!c)) H1
theorem o7 {op}{t:TE}(h:PE X a t):PE X (.BoolOp op [a] pos) t:=fun pins s σ H Q I hw=>BoolOp_one (h pins s σ H Q I hw)
theorem rC (ha:PE X a ta)(hb:PE X (.BoolOp .And (b :: rest) pos) tb):PE X (.BoolOp .And (a :: b :: rest) pos) (PX ta tb):=by
 intro pins s σ H Q I h
 refine BoolOp_and (eh (ha pins s σ H _ I h) fun v s1 ⟨x,H1,I1,r1,q1⟩=>?_)
 obtain⟨c,rfl,q1⟩:=q1
 cases r1
 refine fW ?_
 cases c with
 |true=>exact hb pins s1 σ H1 Q I1 q1
 |false=>exact⟨.bl false,H1,I1,rfl,q1⟩
theorem PZ (ha:PE X a ta)(hb:PE X (.BoolOp .Or (b :: rest) pos) tb):PE X (.BoolOp .Or (a :: b :: rest) pos) (Ud ta tb):=by
 intro pins s σ H Q I h
 refine BoolOp_or (eh (ha pins s σ H _ I h) fun v s1 ⟨x,H1,I1,r1,q1⟩=>?_)
 obtain⟨c,rfl,q1⟩:=q1
 cases r1
 refine fW ?_
 cases c with
 |false=>exact hb pins s1 σ H1 Q I1 q1
 |true=>exact⟨.bl true,H1,I1,rfl,q1⟩
theorem MR (ha:PE X a ta):PE X (.UnaryOp .Not a pos) (PY ta):=by
 intro pins s σ H Q I h
 refine UnaryOp_ (eh (ha pins s σ H _ I h) fun v s1 ⟨x,H1,I1,r1,q1⟩=>?_)
 obtain⟨c,rfl,q1⟩:=q1
 cases r1
 exact not_of (fW ⟨.bl (!c),H1,I1,rfl,q1⟩)
end
def bP (K:PySem.W.Frag)(H:Hp)(a:Addr)(xs:List V):Prop:=
 Rd H a (.lst xs)∨
  ∃(o:Obj) (cy:Array Value) (n:Nat),K.lookup a=some o/\o.cls= .type "list"/\o.dict=none/\o.data= .seq cy n/\cy.size<=sizeLine/\Vals xs cy.toList
def cG (K:PySem.W.Frag)(H:Hp)(a:Addr)(xs:List V):Prop:=
 Rd H a (.tup xs)∨
  ∃(o:Obj) (cy:Array Value) (n:Nat),K.lookup a=some o/\o.cls= .type "tuple"/\o.data= .seq cy n/\cy.size<=sizeLine/\Vals xs cy.toList
def Ue:Value->Option V
 | .none=>some .eI
 | .bool b=>some (.bl b)
 | .int i _=>some (.int i)
 | .str x _=>some (.str x)
 | .bytes b _=>some (.EW b)
 | .float b _=>some (.JY b)
 | .ref a=>some (.ref a)
 | .type n=>some (.ty n)
 |_=>none
theorem RelV.abs {x:V}{u:Value}(r:RelV x u):Ue u=some x:=by
 cases x with
 |eI=>cases r; rfl
 |bl _=>cases r; rfl
 |int _=>obtain⟨t,rfl⟩:=r; rfl
 |str _=>obtain⟨t,rfl⟩:=r; rfl
 |EW _=>obtain⟨t,rfl⟩:=r; rfl
 |JY _=>obtain⟨t,rfl⟩:=r; rfl
 |ref _=>cases r; rfl
 |ty _=>cases r; rfl
theorem RelV.inj {x y:V}{u:Value}(r:RelV x u)(q:RelV y u):x=y:=aF (r.abs.symm.trans q.abs)
theorem Vals.inj: ∀{xs ys:List V} {us:List Value},Vals xs us->Vals ys us->xs=ys
 |_,_,_,.nil,.nil=>rfl
 |_,_,_,.cons r t,.cons r' t'=>by rw[r.inj r',Vals.inj t t']
section
variable {X:Cx}{pins:List (Addr×Obj)}{σ:St}{H:Hp}{s:Shared}{a:Addr}{xs ys:List V}
theorem bP.of {K:PySem.W.Frag}(h:H a=some (.lst xs)):bP K H a xs:= .inl (.inl h)
theorem cG.of {K:PySem.W.Frag}(h:H a=some (.tup xs)):cG K H a xs:= .inl (.inl h)
theorem Inv.list (I:Inv X pins σ H s)(h:bP X.K H a xs): ∃cy:List Value,Vals xs cy/\PlainL s.heap a cy.toArray/\xs.length<=sizeLine:=by
 rcases h with h|⟨o,cy,n,hk,hc,hd,hs,hz,r⟩
 ·obtain⟨z,cy,n,r,e⟩:=h.ok I.cK
  exact⟨cy,r,⟨_,n,e,rfl,rfl,rfl⟩,z⟩
 ·refine⟨cy.toList,r,⟨o,n,I.gO a o hk,hc,hd,by simpa using hs⟩,?_⟩
  have e:=r.length
  simp only[Array.length_toList] at e
  omega
theorem Inv.tuple (I:Inv X pins σ H s)(h:cG X.K H a xs): ∃cy:List Value,Vals xs cy/\IsTup s.heap a cy.toArray/\xs.length<=sizeLine:=by
 rcases h with h|⟨o,cy,n,hk,hc,hs,hz,r⟩
 ·obtain⟨z,cy,r,p⟩:=h.ok I.cK
  exact⟨cy,r,p,z⟩
 ·refine⟨cy.toList,r,⟨o,I.gO a o hk,hc,n,by simpa using hs⟩,?_⟩
  have e:=r.length
  simp only[Array.length_toList] at e
  omega
theorem Inv.Ad (I:Inv X pins σ H s)(h:bP X.K H a xs)(h':bP X.K H a ys):xs=ys:=by
 obtain⟨cy,r,⟨o,n,e,_,_,d⟩,_⟩:=I.list h
 obtain⟨qe,r',⟨o',n',e',_,_,d'⟩,_⟩:=I.list h'
 rw[e] at e'; cases e'
 rw[d] at d'
 injection d' with d1 _
 have:cy=qe:=by simpa using congrArg Array.toList d1
 subst this
 exact r.inj r'
theorem Inv.E1 (I:Inv X pins σ H s)(h:cG X.K H a xs)(h':cG X.K H a ys):xs=ys:=by
 obtain⟨cy,r,⟨o,e,_,n,d⟩,_⟩:=I.tuple h
 obtain⟨qe,r',⟨o',e',_,n',d'⟩,_⟩:=I.tuple h'
 rw[e] at e'; cases e'
 rw[d] at d'
 injection d' with d1 _
 have:cy=qe:=by simpa using congrArg Array.toList d1
 subst this
 exact r.inj r'
end
abbrev Cx.ug (X:Cx)(E:Value->Shared->Prop):Cx:={X with xe:=E}
abbrev Cx.E2 (X:Cx):Cx:=X.ug fun _ _=>False
theorem Cx.Ok.ug {X:Cx}(ok:X.Ok)(E:Value->Shared->Prop):(X.ug E).Ok:=
 ⟨ok.mod,ok.kind,ok.glob,ok.blt,ok.above,ok.inj,ok.has,ok.JG,ok.hd,ok.frames,ok.GL,ok.J1,ok.bs,ok.z7,ok.vM,ok.vN,ok.lM,ok.Dl⟩
theorem Cx.Ok.mG {X:Cx}{E:Value->Shared->Prop}(ok:(X.ug E).Ok):X.Ok:=
 ⟨ok.mod,ok.kind,ok.glob,ok.blt,ok.above,ok.inj,ok.has,ok.JG,ok.hd,ok.frames,ok.GL,ok.J1,ok.bs,ok.z7,ok.vM,ok.vN,ok.lM,ok.Dl⟩
section
variable {X:Cx}{pins:List (Addr×Obj)}{σ:St}{H:Hp}{s:Shared}{E:Value->Shared->Prop}
theorem Inv.ug (I:Inv X pins σ H s)(E:Value->Shared->Prop):Inv (X.ug E) pins σ H s:=⟨I.ok.ug E,I.os,I.bare,I.base,I.loc,I.cell,I.free,I.iP,I.pin,I.cK,I.len⟩
theorem Inv.mG (I:Inv (X.ug E) pins σ H s):Inv X pins σ H s:=⟨I.ok.mG,I.os,I.bare,I.base,I.loc,I.cell,I.free,I.iP,I.pin,I.cK,I.len⟩
theorem SP.mG {D:Ends}{f:Flow}{s':Shared}(h:SP (X.ug E) pins D f s'):SP X pins D f s':=by
 cases f with
 |next=>obtain⟨σ',H',I,q⟩:=h; exact⟨σ',H',I.mG,q⟩
 |brk=>obtain⟨σ',H',I,q⟩:=h; exact⟨σ',H',I.mG,q⟩
 |cont=>obtain⟨σ',H',I,q⟩:=h; exact⟨σ',H',I.mG,q⟩
 |ret u=>obtain⟨v,σ',H',I,r,q⟩:=h; exact⟨v,σ',H',I.mG,r,q⟩
theorem pV.E2 {st:List Stmt}{t:TS}(h:pV X.E2 st t):pV X st t:=fun pins s σ H D I hw=>
 cD (h pins s σ H D (I.ug _) hw) (fun _ _ q=>q.mG) fun _ _ z=>False.elim z
end
section
variable {X:Cx}{st:Stmt}{rest:List Stmt}{t u:TS}{e:Expr}{te:TE}{pos:Pos}
def P0:TS:=fun D σ H=>D.nx σ H
def Ug (t u:TS):TS:=fun D σ H=>t {D with nx:=u D} σ H
theorem bw:pV X [] P0:=fun _ _ σ H _ I h=>jm ⟨σ,H,I,h⟩
theorem ai (h1:PS X st t)(h2:pV X rest u):pV X (st :: rest) (Ug t u):=by
 intro pins s σ H D I h
 refine wpAny_execs_cons (eh (h1 pins s σ H {D with nx:=u D} I h) fun f s1 q=>?_)
 cases f with
 |next=>
  obtain⟨σ',H',I',q⟩:=q
  exact h2 pins s1 σ' H' D I' q
 |ret v=>exact q
 |brk=>exact q
 |cont=>exact q
theorem au (h1:PS X st t):pV X [st] t:=by
 intro pins s σ H D I h
 refine wpAny_execs_cons (eh (h1 pins s σ H D I h) fun f s1 q=>?_)
 cases f with
 |next=>exact jm q
 |ret v=>exact q
 |brk=>exact q
 |cont=>exact q
theorem Inv.quiet {pins:List (Addr×Obj)}{σ:St}{H:Hp}{s:Shared}(I:Inv X pins σ H s):interactive X.env=false:=by simp[interactive,I.ok.kind]
def P1 (te:TE):TS:=fun D σ H=>te σ H fun _ H1=>D.nx σ H1
theorem bU (he:PE X e te)(hs:swapsWith e none pos.line X.env=pure false:=by rfl):PS X (.Expr e pos) (P1 te):=by
 intro pins s σ H D I h
 exact wpAny_Expr_any (eh (he pins s σ H _ I h) fun v s1 ⟨x,H1,I1,r1,q1⟩=>⟨σ,H1,I1,q1⟩) I.quiet hs
def Uh (te:TE):TS:=fun D σ H=>te σ H D.rt
theorem bf (he:PE X e te):PS X (.Return (some e) pos) (Uh te):=by
 intro pins s σ H D I h
 exact wpAny_Return_some (eh (he pins s σ H _ I h) fun v s1 ⟨x,H1,I1,r1,q1⟩=>⟨x,σ,H1,I1,r1,q1⟩)
def Ui (c:TT)(t u:TS):TS:=fun D σ H=>c σ H fun b H1=>if b=true then t D σ H1 else u D σ H1
theorem bX {c:Expr}{a b:List Stmt}{tc:TT}(hc:PT X c tc)(ha:pV X a t)(hb:pV X b u):PS X (.If c a b pos) (Ui tc t u):=by
 intro pins s σ H D I h
 refine wpAny_If (eh (hc pins s σ H _ I h) fun d s1 ⟨H1,I1,q1⟩=>?_)
 cases d with
 |true=>exact ha pins s1 σ H1 D I1 q1
 |false=>exact hb pins s1 σ H1 D I1 q1
end
abbrev TG:=V->St->Hp->(St->Hp->Prop)->Prop
abbrev LY:=List V->St->Hp->(St->Hp->Prop)->Prop
def PG (X:Cx)(target:Expr)(t:TG):Prop:=
 ∀(pins:List (Addr×Obj)) (s:Shared) (σ:St) (H:Hp) (v:V) (u:Value) (Q:St->Hp->Prop),Inv X pins σ H s->RelV v u->t v σ H Q->
  wpAny (model X.prog X.w) X.A (assign target X.env u) (fun _ s'=> ∃σ' H',Inv X pins σ' H' s'/\Q σ' H') X.xe s
def Kc (X:Cx)(ts:List Expr)(t:LY):Prop:=
 ∀(pins:List (Addr×Obj)) (s:Shared) (σ:St) (H:Hp) (vs:List V) (us:List Value) (Q:St->Hp->Prop),Inv X pins σ H s->Vals vs us->t vs σ H Q->
  wpAny (model X.prog X.w) X.A (assignInOrder ((assignEach ts X.env).map (·.2)) us) (fun _ s'=> ∃σ' H',Inv X pins σ' H' s'/\Q σ' H') X.xe s
abbrev MS:=V->V->V->Hp->(Hp->Prop)->Prop
def P2 (X:Cx)(t:MS):Prop:=
 ∀(pins:List (Addr×Obj)) (s:Shared) (σ:St) (H:Hp) (o i v:V) (ov iv u:Value) (Q:Hp->Prop),Inv X pins σ H s->RelV o ov->RelV i iv->RelV v u->t o i v H Q->
  wpAny (model X.prog X.w) X.A (setItem ov iv u) (fun _ s'=> ∃H',Inv X pins σ H' s'/\Q H') X.xe s
section
variable {X:Cx}{pos:Pos}
def G8 (i:Nat):TG:=fun v σ H Q=>Q (σ.set i (some v)) H
theorem bD {i:Nat}{x:Str}(hN:X.N.Nodup)(hi:X.N[i]? =some x)(hx:Loc X.env.scope x)(hf:X.fn x=true∨X.env.scope.names.lookup x=some .local:=by first|exact .inl rfl|exact .inr rfl|assumption):PG X (.Name x pos) (G8 i):=by
 intro pins s σ H v u Q I r h
 exact wpAny_assign_Name (uf I hN hi hx r (fun s' I'=>⟨_,H,I',h⟩) hf)
def Uj:LY:=fun vs σ H Q=>vs=[]/\Q σ H
def P4 (t:TG)(u:LY):LY:=fun vs σ H Q=> ∃v r,vs=v :: r/\t v σ H fun σ' H'=>u r σ' H' Q
theorem gH:Kc X [] Uj:=by
 intro pins s σ H vs us Q I r h
 obtain⟨e,h⟩:=h
 subst e
 cases r
 exact assignInOrder_nil ⟨σ,H,I,h⟩
theorem cw {e:Expr}{es:List Expr}{t:TG}{u:LY}(h1:PG X e t)(h2:Kc X es u)
  (hs:(assignEach (e :: es) X.env).map (·.2)=assign e X.env :: (assignEach es X.env).map (·.2):=by rfl):Kc X (e :: es) (P4 t u):=by
 intro pins s σ H vs us Q I r h
 obtain⟨v,vr,e1,h⟩:=h
 subst e1
 cases r with
 |cons r rr=>
  rw[hs]
  refine assignInOrder_cons (eh (h1 pins s σ H _ _ _ I r h) fun _ s1 ⟨σ1,H1,I1,q1⟩=>?_)
  exact h2 pins s1 σ1 H1 _ _ Q I1 rr q1
def P5 (K:PySem.W.Frag)(n:Nat)(t:LY):TG:=fun v σ H Q=> ∃a xs,v= .ref a/\cG K H a xs/\xs.length=n/\t xs σ H Q
theorem iW {es:List Expr}{k:Nat}{t:LY}{n:Nat}(hc:X.calm=true)(h:Kc X es t)
  (hn:(assignEach es X.env).length=n:=by rfl) (sf:(assignEach es X.env).findIdx? (·.1)=none:=by rfl):PG X (.Tuple es k pos) (P5 X.K n t):=by
 intro pins s σ H v u Q I r hw
 obtain⟨a,xs,e1,hq,hl,hw⟩:=hw
 subst e1
 cases r
 obtain⟨cy,rv,ht,hz⟩:=I.tuple hq
 refine assign_Tuple_tuple (I.ok.hd hc) ht (by simp[hn,← hl,rv.length]) sf fun h' hx=>?_
 have I1:Inv X pins σ H {s with heap:=h'}:=I.kept (t':=s.toks) fun b o e=>hx b o (bc (aO e)) e
 exact h pins _ σ H xs _ Q I1 (by simpa using rv) hw
def Uk (to ti:TE)(t:MS):TG:=fun v σ H Q=>to σ H fun o H1=>ti σ H1 fun i H2=>t o i v H2 fun H3=>Q σ H3
theorem o8 {o i:Expr}{to ti:TE}{t:MS}(ho:PE X o to)(hi:PE X i ti)(hs:P2 X t)
  (ha: ∀v,assign (.Subscript o i pos) X.env v=(do
   let ov ← holding [v] (eval o X.env)
   let iv ← holding [v,ov] (eval i X.env)
   standAt pos
   holding [v,ov,iv] (setItem ov iv v)
   release [v,ov,iv] []):=by intro _; rfl):PG X (.Subscript o i pos) (Uk to ti t):=by
 intro pins s σ H v u Q I r h
 rw[ha]
 refine ay (ix (eh (ho pins s σ H _ I h) fun ov s1 ⟨x,H1,I1,r1,q1⟩=>?_))
 refine ay (ix (eh (hi pins s1 σ H1 _ I1 q1) fun iv s2 ⟨y,H2,I2,r2,q2⟩=>?_))
 refine ay (iy (ay (ix (eh (hs pins s2 σ H2 x y v ov iv u _ I2 r1 r2 r q2) fun _ s3 ⟨H3,I3,q3⟩=>?_))))
 exact wpAny_release ⟨σ,H3,I3,q3⟩
def MT (te:TE)(g:TG):TS:=fun D σ H=>te σ H fun x H1=>g x σ H1 D.nx
theorem lN {tg e:Expr}{te:TE}{g:TG}(he:PE X e te)(hg:PG X tg g)(hs:swapsWithSole [tg] e pos.line X.env=pure false:=by rfl)(hw:swappedStores [tg] e X.env=pure none:=by rfl)
  (h1:(assignEach [tg] X.env).map (·.2)=[assign tg X.env]:=by rfl):PS X (.Assign [tg] e pos) (MT te g):=by
 intro pins s σ H D I h
 refine wpAny_Assign_stores (eh (he pins s σ H _ I h) fun v s1 ⟨x,H1,I1,r1,q1⟩=>?_) hs hw
 rw[h1]
 exact eh (hg pins s1 σ H1 x v _ I1 r1 q1) fun _ s2 q=>q
theorem a9 {i:Nat}{x:Str}{e:Expr}{te:TE}{pos':Pos}(hN:X.N.Nodup)(hi:X.N[i]? =some x)(hx:Loc X.env.scope x)(he:PE X e te)(hs:swapsWith e (some (.Name x pos')) pos.line X.env=pure false:=by rfl)(hf:X.fn x=true∨X.env.scope.names.lookup x=some .local:=by first|exact .inl rfl|exact .inr rfl|assumption):
  PS X (.Assign [.Name x pos'] e pos) (MT te (G8 i)):=by
 intro pins s σ H D I h
 refine wpAny_Assign_Name (eh (he pins s σ H _ I h) fun v s1 ⟨y,H1,I1,r1,q1⟩=>?_) hs
 exact uf I1 hN hi hx r1 (fun s2 I2=>⟨_,H1,I2,q1⟩) hf
def MU (c:TT)(tb:TS):TS:=fun D σ H=> ∃W:Nat->St->Hp->Prop,(∃m,W m σ H)/\ ∀m σ H,W m σ H->
 c σ H fun b H1=>if b=true then ∃N:St->Hp->Prop,(∀σ' H',N σ' H'-> ∃m',m' < m/\W m' σ' H')/\tb {D with nx:=N,ct:=N,bk:=D.nx} σ H1 else D.nx σ H1
theorem G9 {c:Expr}{body:List Stmt}{tc:TT}{tb:TS}(hp:PassesOwn (model X.prog X.w) X.A X.env X.xe)(hc:PT X c tc)(hb:pV X body tb):PS X (.While c body [] pos) (MU tc tb):=by
 intro pins s σ H D I h
 obtain⟨W,⟨m0,w0⟩,turn⟩:=h
 refine wpAny_While (codeAny_whileLoop (fun n s'=> ∃σ' H',Inv X pins σ' H' s'/\W n σ' H') ?_ m0 ⟨σ,H,I,w0⟩)
 rintro n s1 ⟨σ1,H1,I1,w1⟩
 refine dW hp (eh (hc pins s1 σ1 H1 _ I1 (turn n σ1 H1 w1)) fun b s2 ⟨H2,I2,q2⟩=>?_)
 cases b with
 |true=>
  obtain⟨N,hN,q2⟩:=q2
  rw[bg rfl]
  refine dW hp (eh (hb pins s2 σ1 H2 _ I2 q2) fun f s3 q3=>?_)
  cases f with
  |next=>
   obtain⟨σ3,H3,I3,n3⟩:=q3
   obtain⟨m',hm,w3⟩:=hN σ3 H3 n3
   exact⟨m',hm,σ3,H3,I3,w3⟩
  |cont=>
   obtain⟨σ3,H3,I3,n3⟩:=q3
   obtain⟨m',hm,w3⟩:=hN σ3 H3 n3
   exact⟨m',hm,σ3,H3,I3,w3⟩
  |brk=>exact q3
  |ret v=>exact q3
 |false=>
  rw[aV aY]
  exact jm ⟨σ1,H2,I2,q2⟩
end
structure It where
 go:Nat->Hp->Prop
 O1:Nat->Hp->V->Hp->Prop
 stop:Nat->Hp->Prop
def uh (X:Cx)(pins:List (Addr×Obj))(H:Hp)(b:Addr):Prop:=
 H b=none/\b≠X.env.locals/\b∉X.fs/\(b∈X.ex∨X.s₀.heap.objs.size<=b)/\(∀x c,X.env.cells.lookup x=some c->c≠b)/\ ∀p∈X.pn ++ pins,p.1≠b
theorem Inv.E3 {X:Cx}{pins:List (Addr×Obj)}{σ:St}{H H':Hp}{s:Shared}{b:Addr}(I:Inv X pins σ H s)(hb:s.heap.objs.size<=b)(hn:H' b=none):uh X pins H' b:=by
 refine⟨hn,pS (bu I.lt hb),I.EZ hb,.inr (a8 I.sz hb),fun x c e z=>?_,fun p hp z=>?_⟩
 ·obtain⟨v,q⟩:=I.cell x c e
  exact absurd (bu q.lt (by rw[z]; exact hb)) (iS _)
 ·exact absurd (bu (aO (I.pin p hp).1) (by rw[z]; exact hb)) (iS _)
structure Turn (P:Program)(w:World)(K:PySem.W.Frag)(tg:Expr)(J:It)(fp:List Addr)(it:Addr)(tn:Nat->Heap->Prop):Prop where
 mem:it∈fp
 obj: ∀i h,tn i h-> ∀b∈fp,∃o,h.get? b=some o/\ ∀v,o.data≠ .cell v
 keep: ∀i h h',tn i h->(∀b∈fp,∀o,h.get? b=some o->h'.get? b=some o)->tn i h'
 item: ∀(X:Cx),X.prog=P->X.w=w->X.K=K->X.calm=true-> ∀(i:Nat) (pins:List (Addr×Obj)) (s:Shared) (σ:St) (H:Hp) (E:Value->Shared->Prop),Inv X pins σ H s->(∀b∈fp,uh X pins H b)->tn i s.heap->J.go i H->
  wpAny (model P w) X.A (pyNext (.ref it)) (fun r s1=> ∃u,r=some u/\
   wpAny (model P w) X.A (letOwnedTupleGo tg (.ref it) u) (fun _ s2=> ∃x H',Inv X pins σ H' s2/\RelV x u/\J.O1 i H x H'/\tn (i + 1) s2.heap/\ ∀b∈fp,H' b=none) E s1) E s
 done: ∀(X:Cx),X.prog=P->X.w=w->X.K=K->X.calm=true-> ∀(i:Nat) (pins:List (Addr×Obj)) (s:Shared) (σ:St) (H:Hp) (E:Value->Shared->Prop),Inv X pins σ H s->(∀b∈fp,uh X pins H b)->tn i s.heap->J.stop i H->
  wpAny (model P w) X.A (pyNext (.ref it)) (fun r s1=>r=none/\Inv X pins σ H s1) E s
 self: ∀(A:Around) (i:Nat) (s:Shared) (Q:Value->Shared->Prop) (E:Value->Shared->Prop),tn i s.heap->Q (.ref it) s->wpAny (model P w) A (pyIter (.ref it)) Q E s
abbrev TI:=St->Hp->(It->Hp->Prop)->Prop
def Xc (X:Cx)(pins:List (Addr×Obj))(σ:St)(tg:Expr)(R:It->Hp->Prop)(SV:Value)(s2:Shared):Prop:=
 ∃(it:Addr) (fp:List Addr) (tn:Nat->Heap->Prop) (J:It) (H':Hp),SV= .ref it/\Inv X pins σ H' s2/\Turn X.prog X.w X.K tg J fp it tn/\tn 0 s2.heap/\(∀b∈fp,uh X pins H' b)/\R J H'
def PI (X:Cx)(tg iter:Expr)(wi:TI):Prop:=
 ∀(pins:List (Addr×Obj)) (s:Shared) (σ:St) (H:Hp) (R:It->Hp->Prop),Inv X pins σ H s->wi σ H R->
  wpAny (model X.prog X.w) X.A (eval iter X.env) (fun v s1=>wpAny (model X.prog X.w) X.A (pyIter v) (Xc X pins σ tg R) X.xe s1) X.xe s
theorem Dp {M:Model}{A:Around}{E:Value->Shared->Prop}{s:Shared}{tg:Expr}{it:Addr}{u:Value}{o:Obj}{n:String}{vs:Array Value}{Q:Unit->Shared->Prop}(ho:s.heap.get? it=some o)(hc:o.cls= .type n)(hd:o.data= .fields vs)
  (hn:["enumerate","zip","dict_itemiterator","dict_reverseitemiterator","odict_iterator","itertools.zip_longest","itertools.pairwise"].contains n=false) (hQ:Q () s):wpAny M A (letOwnedTupleGo tg (.ref it) u) Q E s:=by
 unfold letOwnedTupleGo
 cases tg <;> first
  |exact bM hQ
  |(cases u <;> first
    |exact bM hQ
    |(refine ay (wpAny_load ho ?_)
      rw[hc,hd]
      show wpAny M A (if(["enumerate","zip","dict_itemiterator","dict_reverseitemiterator","odict_iterator","itertools.zip_longest","itertools.pairwise"].contains n && vs[0]? == some (rawInt _))=true then _ else _) Q E s
      rw[aV (by intro h; rw[hn,pZ] at h; cases h)]
      exact bM hQ))
def O2 (K:PySem.W.Frag)(a:Addr):It:=
 ⟨fun i H=> ∃xs x,bP K H a xs/\xs[i]? =some x,fun i H x H'=>H'=H/\ ∀xs,bP K H a xs->xs[i]? =some x,fun i H=> ∃xs,bP K H a xs/\xs.length<=i⟩
def Ul (K:PySem.W.Frag)(a:Addr):It:=
 ⟨fun i H=> ∃xs x,cG K H a xs/\xs[i]? =some x,fun i H x H'=>H'=H/\ ∀xs,cG K H a xs->xs[i]? =some x,fun i H=> ∃xs,cG K H a xs/\xs.length<=i⟩
def LZ (lo:Int)(n:Nat):It:=⟨fun i _=>i < n,fun i H x H'=>H'=H/\x= .int (lo + i),fun i _=>n<=i⟩
theorem E4 {P:Program}{w:World}{K:PySem.W.Frag}{tg:Expr}(a it:Addr):Turn P w K tg (O2 K a) [it] it (fun i h=>h.IsListIter it a i) where
 mem:=by simp
 obj:=fun i h st b hb=>by
  have e:b=it:=by simpa using hb
  subst e
  obtain⟨o,e,c,d⟩:=st
  exact⟨o,e,fun v z=>by rw[d] at z; cases z⟩
 keep:=fun i h h' st k=>st.at fun o e=>k it (by simp) o e
 item:=by
  intro X hP hw hK hc i pins s σ H E I hf st hg
  subst hP hw hK
  obtain⟨xs,x,hq,hx⟩:=hg
  obtain⟨cy,rv,p,hz⟩:=I.list hq
  obtain⟨u,hu,ru⟩:=rv.get hx
  obtain⟨f0,f1,f2,f3,f4,f5⟩:=hf it (by simp)
  refine wpAny_pyNext_list_item st p.isList (x:=u) (by simpa using hu) fun h' zT sb=>?_
  have I1:Inv X pins σ H {s with heap:=h'}:=I.turned (t':=s.toks) (fun b o hb e=>(sb.2 b hb).trans e) f0 f1 f3 f4 f5
  obtain⟨o,e,c,d⟩:=id zT
  exact⟨u,rfl,Dp (s:={s with heap:=h'}) e c d (by decide) ⟨x,H,I1,ru,⟨rfl,fun ys hy=>by rw[I.Ad hy hq]; exact hx⟩,zT,fun b hb=>(hf b hb).1⟩⟩
 done:=by
  intro X hP hw hK hc i pins s σ H E I hf st hg
  subst hP hw hK
  obtain⟨xs,hq,hx⟩:=hg
  obtain⟨cy,rv,p,hz⟩:=I.list hq
  obtain⟨f0,f1,f2,f3,f4,f5⟩:=hf it (by simp)
  have hl:=rv.length
  exact wpAny_pyNext_list_end (I.ok.hd hc) st p.isList (by simp; omega) fun h' eb=>⟨rfl,I.turned (t':=s.toks) (fun b o hb e=>eb b o hb e) f0 f1 f3 f4 f5⟩
 self:=fun _ _ _ _ _ st h=>wpAny_pyIter_listiter st h
theorem Ca {P:Program}{w:World}{K:PySem.W.Frag}{tg:Expr}(a it:Addr):Turn P w K tg (Ul K a) [it] it (fun i h=>h.IsTupleIter it a i) where
 mem:=by simp
 obj:=fun i h st b hb=>by
  have e:b=it:=by simpa using hb
  subst e
  obtain⟨o,e,c,d⟩:=st
  exact⟨o,e,fun v z=>by rw[d] at z; cases z⟩
 keep:=fun i h h' st k=>st.at fun o e=>k it (by simp) o e
 item:=by
  intro X hP hw hK hc i pins s σ H E I hf st hg
  subst hP hw hK
  obtain⟨xs,x,hq,hx⟩:=hg
  obtain⟨cy,rv,p,hz⟩:=I.tuple hq
  obtain⟨u,hu,ru⟩:=rv.get hx
  obtain⟨f0,f1,f2,f3,f4,f5⟩:=hf it (by simp)
  refine wpAny_pyNext_tuple_item st (show s.heap.IsTuple a cy.toArray from p) (x:=u) (by simpa using hu) fun h' zT sb=>?_
  have I1:Inv X pins σ H {s with heap:=h'}:=I.turned (t':=s.toks) (fun b o hb e=>(sb.2 b hb).trans e) f0 f1 f3 f4 f5
  obtain⟨o,e,c,d⟩:=id zT
  exact⟨u,rfl,Dp (s:={s with heap:=h'}) e c d (by decide) ⟨x,H,I1,ru,⟨rfl,fun ys hy=>by rw[I.E1 hy hq]; exact hx⟩,zT,fun b hb=>(hf b hb).1⟩⟩
 done:=by
  intro X hP hw hK hc i pins s σ H E I hf st hg
  subst hP hw hK
  obtain⟨xs,hq,hx⟩:=hg
  obtain⟨cy,rv,p,hz⟩:=I.tuple hq
  obtain⟨f0,f1,f2,f3,f4,f5⟩:=hf it (by simp)
  have hl:=rv.length
  exact wpAny_pyNext_tuple_end (I.ok.hd hc) st (show s.heap.IsTuple a cy.toArray from p) (by simp; omega) fun h' eb=>⟨rfl,I.turned (t':=s.toks) (fun b o hb e=>eb b o hb e) f0 f1 f3 f4 f5⟩
 self:=fun _ _ _ _ _ st h=>wpAny_pyIter_tupleiter st h
theorem Cb {P:Program}{w:World}{K:PySem.W.Frag}{tg:Expr}(it:Addr)(lo:Int)(n:Nat):Turn P w K tg (LZ lo n) [it] it (fun i h=>IsRangeIter h it (lo + (i:Nat) * 1) ((n:Int) - (i:Nat)) 1) where
 mem:=by simp
 obj:=fun i h st b hb=>by
  have e:b=it:=by simpa using hb
  subst e
  exact⟨_,st,fun v z=>by
   have z':Data.fields _ =Data.cell v:=z
   cases z'⟩
 keep:=fun i h h' st k=>k it (by simp) _ st
 item:=by
  intro X hP hw hK hc i pins s σ H E I hf st hg
  subst hP hw hK
  obtain⟨f0,f1,f2,f3,f4,f5⟩:=hf it (by simp)
  have W:=Walks.range (prog:=X.prog) (w:=X.w) (I.ok.hd hc) it lo 1 n
  refine W.item i s _ _ hg st fun v h' tk hv zT kk=>?_
  obtain⟨t,rfl⟩:=hv
  have I1:Inv X pins σ H {s with heap:=h',toks:=tk}:=I.turned (fun b o hb e=>kk b o (by simpa using hb) e) f0 f1 f3 f4 f5
  refine⟨_,rfl,Dp (s:={s with heap:=h',toks:=tk}) (n:="range_iterator") zT rfl rfl (by decide) ⟨.int (lo + i),H,I1,⟨t,?_⟩,⟨rfl,rfl⟩,zT,fun b hb=>(hf b hb).1⟩⟩
  rw[Int.mul_one]
 done:=by
  intro X hP hw hK hc i pins s σ H E I hf st hg
  subst hP hw hK
  obtain⟨f0,f1,f2,f3,f4,f5⟩:=hf it (by simp)
  exact wpAny_pyNext_range_end (I.ok.hd hc) st (by have:n<=i:=hg; omega) fun h' eb=>⟨rfl,I.turned (t':=s.toks) (fun b o hb e=>eb b o hb e) f0 f1 f3 f4 f5⟩
 self:=fun _ _ _ _ _ st h=>wpAny_pyIter_rangeiter st h
section
variable {X:Cx}{tg:Expr}
def P6 (K:PySem.W.Frag)(tl:TE):TI:=fun σ H R=>tl σ H fun x H1=> ∃a,x= .ref a/\(∃xs,bP K H1 a xs)/\R (O2 K a) H1
def Um (K:PySem.W.Frag)(tl:TE):TI:=fun σ H R=>tl σ H fun x H1=> ∃a,x= .ref a/\(∃xs,cG K H1 a xs)/\R (Ul K a) H1
theorem dG {l:Expr}{tl:TE}(hl:PE X l tl):PI X tg l (P6 X.K tl):=by
 intro pins s σ H R I h
 refine eh (hl pins s σ H _ I h) fun v s1 ⟨x,H1,I1,r1,q1⟩=>?_
 obtain⟨a,e,⟨xs,hq⟩,q⟩:=q1
 subst e
 cases r1
 obtain⟨cy,rv,p,hz⟩:=I1.list hq
 refine wpAny_pyIter_list p.isList ?_
 refine⟨s1.heap.objs.size,[s1.heap.objs.size],_,_,H1,rfl,I1.kept (t':=s1.toks) fun b o e=>ax _ e,E4 a _,⟨_,bV _ rfl,rfl,rfl⟩,fun b hb=>?_,q⟩
 have e:b=s1.heap.objs.size:=by simpa using hb
 subst e
 exact I1.E3 (aC _) (I1.cK.fresh (aC _))
theorem Hb {l:Expr}{tl:TE}(hl:PE X l tl):PI X tg l (Um X.K tl):=by
 intro pins s σ H R I h
 refine eh (hl pins s σ H _ I h) fun v s1 ⟨x,H1,I1,r1,q1⟩=>?_
 obtain⟨a,e,⟨xs,hq⟩,q⟩:=q1
 subst e
 cases r1
 obtain⟨cy,rv,p,hz⟩:=I1.tuple hq
 refine wpAny_pyIter_tuple (show s1.heap.IsTuple a cy.toArray from p) ?_
 refine⟨s1.heap.objs.size,[s1.heap.objs.size],_,_,H1,rfl,I1.kept (t':=s1.toks) fun b o e=>ax _ e,Ca a _,⟨_,bV _ rfl,rfl,rfl⟩,fun b hb=>?_,q⟩
 have e:b=s1.heap.objs.size:=by simpa using hb
 subst e
 exact I1.E3 (aC _) (I1.cK.fresh (aC _))
theorem Hc {pins:List (Addr×Obj)}{σ:St}{H:Hp}{s:Shared}{R:It->Hp->Prop}{E:Value->Shared->Prop}{lo hi:Int}{t u v:Tok}{tk:Nat}(I:Inv X pins σ H s)(h1: -(2 ^ 62)<=lo)(h2:lo < 2 ^ 62)(h3: -(2 ^ 62)<=hi)(h4:hi < 2 ^ 62)
  (q:R (LZ lo (hi - lo).toNat) H):wpAny (model X.prog X.w) X.A (pyIter (.ref s.heap.objs.size)) (Xc X pins σ tg R) E {s with heap:=s.heap.push {cls:= .type "range",data:= .fields #[.int lo t,.int hi u,.int 1 v]},toks:=tk}:=by
 refine wpAny_pyIter_range (IsRange.new ..) (small_one h1 h2 h3 h4) ?_
 have I1:Inv X pins σ H {s with heap:=s.heap.push {cls:= .type "range",data:= .fields #[.int lo t,.int hi u,.int 1 v]},toks:=tk}:=I.kept fun b o e=>ax _ e
 refine⟨(s.heap.push {cls:= .type "range",data:= .fields #[.int lo t,.int hi u,.int 1 v]}).objs.size,[(s.heap.push {cls:= .type "range",data:= .fields #[.int lo t,.int hi u,.int 1 v]}).objs.size],_,_,H,rfl,
  I1.kept (t':=tk) fun b o e=>ax _ e,Cb _ lo (hi - lo).toNat,?_,fun b hb=>?_,q⟩
 ·have e1:lo + ((0:Nat):Int) * 1=lo:=by simp
  have e2:(((hi - lo).toNat:Nat):Int) - ((0:Nat):Int)=Builtin.Range.rangeSize lo hi 1:=by rw[rangeSize_one]; split <;> omega
  show IsRangeIter _ _ (lo + ((0:Nat):Int) * 1) ((((hi - lo).toNat:Nat):Int) - ((0:Nat):Int)) 1
  rw[e1,e2]
  exact bV _ rfl
 ·have e:b=(s.heap.push {cls:= .type "range",data:= .fields #[.int lo t,.int hi u,.int 1 v]}).objs.size:=by simpa using hb
  subst e
  exact I1.E3 (aC _) (I1.cK.fresh (aC _))
def P7 (ta:TA):TI:=fun σ H R=>ta σ H fun vs H1=> ∃j:Int,vs=[.int j]/\ -(2 ^ 62)<=j/\j < 2 ^ 62/\R (LZ 0 j.toNat) H1
theorem iX {a:Expr}{ta:TA}{p pos:Pos}(hg:Gl X "range")(hm:X.mg "range"=none)(ha:PA X [a] ta)(hs:starEach [a] X.env=[(false,eval a X.env)]:=by rfl):PI X tg (.Call (.Name "range" p) [a] [] pos) (P7 ta):=by
 intro pins s σ H R I h
 refine Call_ (o6 I hg hm boot_range (nZ (eh (ha pos pins s σ H _ I h) fun us s1 ⟨vs,H1,I1,r1,q1⟩=>?_) hs rfl))
 obtain⟨j,e,q1,q2,q⟩:=q1
 subst e
 cases r1 with
 |cons r rr=>
  cases rr
  obtain⟨t,rfl⟩:=r
  exact call_range_1 (Hc I1 (by omega) (by omega) q1 q2 (by simpa using q))
def Uo (wi:TI)(g:TG)(tb:TS):TS:=fun D σ H=>wi σ H fun J H1=> ∃W:Nat->Nat->St->Hp->Prop,(∃m,W 0 m σ H1)/\ ∀i m σ H,W i m σ H->
 (J.stop i H/\D.nx σ H)∨(J.go i H/\ ∃N:St->Hp->Prop,(∀σ' H',N σ' H'-> ∃m',m' < m/\W (i + 1) m' σ' H')/\ ∀x H',J.O1 i H x H'->g x σ H' fun σ2 H2=>tb {D with nx:=N,ct:=N,bk:=D.nx} σ2 H2)
def o9 (fp:List Addr)(h:Heap):List (Addr×Obj):=fp.filterMap fun b=>(h.get? b).map fun o=>(b,o)
theorem jM {fp:List Addr}{h:Heap}{b:Addr}{o:Obj}(hb:b∈fp)(e:h.get? b=some o):(b,o)∈o9 fp h:=List.mem_filterMap.mpr ⟨b,hb,by rw[e]; rfl⟩
theorem E5 {fp:List Addr}{h:Heap}{p:Addr×Obj}(hp:p∈o9 fp h):p.1∈fp/\h.get? p.1=some p.2:=by
 obtain⟨b,hb,e⟩:=List.mem_filterMap.mp hp
 cases q:h.get? b with
 |none=>rw[q] at e; cases e
 |some o=>
  rw[q] at e
  have e':(b,o)=p:=aF e
  subst e'
  exact⟨hb,q⟩
theorem Inv.pinned {pins:List (Addr×Obj)}{σ:St}{H:Hp}{s:Shared}{fp:List Addr}(I:Inv X pins σ H s)(hf: ∀b∈fp,uh X pins H b)(ho: ∀b∈fp,∃o,s.heap.get? b=some o/\ ∀v,o.data≠ .cell v):Inv X (pins ++ o9 fp s.heap) σ H s:=
 I.tS fun p hp=>(bL.mp hp).elim (fun z=>I.pin p (bE _ z)) fun z=>by
  obtain⟨hb,e⟩:=E5 z
  obtain⟨f0,f1,f2,_⟩:=hf p.1 hb
  obtain⟨o,e',d⟩:=ho p.1 hb
  rw[e] at e'; cases e'
  exact⟨e,f0,f1,f2,d⟩
theorem Inv.jd {pins pl:List (Addr×Obj)}{σ:St}{H:Hp}{s:Shared}(I:Inv X (pins ++ pl) σ H s):Inv X pins σ H s:=I.tS fun p hp=>I.pin p (bE _ (df _ hp))
theorem fe {iter:Expr}{body:List Stmt}{wi:TI}{g:TG}{tb:TS}{pos:Pos}(hp:PassesOwn (model X.prog X.w) X.A X.env X.xe)(hc:X.calm=true)(hi:PI X tg iter wi)(hg:PG X tg g)(hb:pV X body tb)
  (hs: ∀x,foldedSetIterable iter X.env x=pure x:=by intro _; rfl):PS X (.For tg iter body [] pos) (Uo wi g tb):=by
 intro pins s σ H D I h
 refine wpAny_For (eh (hi pins s σ H _ I h) fun v s1 h1=>eh h1 fun SV s2 h2=>?_) hs
 obtain⟨it,fp,tn,J,H2,e,I2,T,L0,f2,W,⟨m0,w0⟩,turn⟩:=h2
 subst e
 have rD: ∀{H':Hp},(∀b∈fp,H' b=none)-> ∀b∈fp,uh X pins H' b:=fun hn b hb=>⟨hn b hb,(f2 b hb).2⟩
 refine codeAny_forLoop_any (fun n s'=> ∃i σ' H',Inv X pins σ' H' s'/\tn i s'.heap/\(∀b∈fp,H' b=none)/\W i n σ' H') ?_ m0 ⟨0,σ,H2,I2,L0,fun b hb=>(f2 b hb).1,w0⟩
 rintro n s3 ⟨i,σ3,H3,I3,P8,Kd,w3⟩
 rcases turn i n σ3 H3 w3 with⟨stop,qn⟩|⟨go,N,hN,step⟩
 ·refine dW hp (eh (T.done X rfl rfl rfl hc i pins s3 σ3 H3 X.xe I3 (rD Kd) P8 stop) fun r s4 ⟨hr,I4⟩=>?_)
  subst hr
  exact jm ⟨σ3,H3,I4,qn⟩
 ·refine dW hp (eh (T.item X rfl rfl rfl hc i pins s3 σ3 H3 X.xe I3 (rD Kd) P8 go) fun r s4 ⟨u,hr,h4⟩=>?_)
  subst hr
  refine dW hp (eh h4 fun _ s5 ⟨x,H5,I5,r5,y5,MV,O3⟩=>?_)
  have Y1:=I5.pinned (rD O3) (T.obj _ _ MV)
  refine dW hp (eh (hg _ s5 σ3 H5 x u _ Y1 r5 (step x H5 y5)) fun _ s6 ⟨σ6,H6,I6,q6⟩=>?_)
  refine dW hp (eh (hb _ s6 σ6 H6 _ I6 q6) fun f s7 q7=>?_)
  have again: ∀{σ7:St} {H7:Hp},Inv X (pins ++ o9 fp s5.heap) σ7 H7 s7->N σ7 H7-> ∃m,m < n/\ ∃i σ' H',Inv X pins σ' H' s7/\tn i s7.heap/\(∀b∈fp,H' b=none)/\W i m σ' H':=fun{σ7 H7} I7 n7=>by
   obtain⟨m',hm,w7⟩:=hN σ7 H7 n7
   refine⟨m',hm,i + 1,σ7,H7,I7.jd,T.keep _ _ _ MV fun b hb o e=>(I7.pin (b,o) (bE _ (bE _ (jM hb e)))).1,fun b hb=>?_,w7⟩
   obtain⟨o,e,d⟩:=T.obj _ _ MV b hb
   exact(I7.pin (b,o) (bE _ (bE _ (jM hb e)))).2.1
  cases f with
  |next=>obtain⟨σ7,H7,I7,n7⟩:=q7; exact again I7 n7
  |cont=>obtain⟨σ7,H7,I7,n7⟩:=q7; exact again I7 n7
  |brk=>obtain⟨σ7,H7,I7,q7⟩:=q7; exact⟨σ7,H7,I7.jd,q7⟩
  |ret v=>obtain⟨x7,σ7,H7,I7,r7,q7⟩:=q7; exact⟨x7,σ7,H7,I7.jd,r7,q7⟩
end
theorem gj {K:PySem.W.Frag}{a:Addr}{xs:List V}{g:TG}{tb:TS}{D:Ends}{σ:St}{H:Hp}(Pv:Nat->St->Hp->Prop)(h0:Pv 0 σ H)(hl: ∀i σ H,i<=xs.length->Pv i σ H->bP K H a xs)
  (hs: ∀i x σ H,xs[i]? =some x->Pv i σ H->g x σ H fun σ2 H2=>tb {D with nx:=Pv (i + 1),ct:=Pv (i + 1),bk:=D.nx} σ2 H2) (hd: ∀σ H,Pv xs.length σ H->D.nx σ H):
  ∃W:Nat->Nat->St->Hp->Prop,(∃m,W 0 m σ H)/\ ∀i m σ H,W i m σ H->
   ((O2 K a).stop i H/\D.nx σ H)∨((O2 K a).go i H/\ ∃N:St->Hp->Prop,(∀σ' H',N σ' H'-> ∃m',m' < m/\W (i + 1) m' σ' H')/\ ∀x H',(O2 K a).O1 i H x H'->g x σ H' fun σ2 H2=>tb {D with nx:=N,ct:=N,bk:=D.nx} σ2 H2):=by
 refine⟨fun i m σ H=>m=xs.length - i/\i<=xs.length/\Pv i σ H,⟨xs.length,by simp,Nat.zero_le _,h0⟩,?_⟩
 rintro i m σ H ⟨rfl,hi,p⟩
 have q:=hl i σ H hi p
 by_cases iY:i < xs.length
 ·refine .inr ⟨⟨xs,xs[i],q,by simp[iY]⟩,Pv (i + 1),fun σ' H' p'=>⟨xs.length - (i + 1),by omega,rfl,iY,p'⟩,fun x H' y=>?_⟩
  obtain⟨e,y⟩:=y
  subst e
  exact hs i x σ _ (y xs q) p
 ·have e:i=xs.length:=by omega
  subst e
  exact .inl ⟨⟨xs,q,aC _⟩,hd σ H p⟩
theorem jB {lo:Int}{n:Nat}{g:TG}{tb:TS}{D:Ends}{σ:St}{H:Hp}(Pv:Nat->St->Hp->Prop)(h0:Pv 0 σ H)
  (hs: ∀i σ H,i < n->Pv i σ H->g (.int (lo + i)) σ H fun σ2 H2=>tb {D with nx:=Pv (i + 1),ct:=Pv (i + 1),bk:=D.nx} σ2 H2) (hd: ∀σ H,Pv n σ H->D.nx σ H):
  ∃W:Nat->Nat->St->Hp->Prop,(∃m,W 0 m σ H)/\ ∀i m σ H,W i m σ H->
   ((LZ lo n).stop i H/\D.nx σ H)∨((LZ lo n).go i H/\ ∃N:St->Hp->Prop,(∀σ' H',N σ' H'-> ∃m',m' < m/\W (i + 1) m' σ' H')/\ ∀x H',(LZ lo n).O1 i H x H'->g x σ H' fun σ2 H2=>tb {D with nx:=N,ct:=N,bk:=D.nx} σ2 H2):=by
 refine⟨fun i m σ H=>m=n - i/\i<=n/\Pv i σ H,⟨n,by simp,Nat.zero_le _,h0⟩,?_⟩
 rintro i m σ H ⟨rfl,hi,p⟩
 by_cases iY:i < n
 ·refine .inr ⟨iY,Pv (i + 1),fun σ' H' p'=>⟨n - (i + 1),by omega,rfl,iY,p'⟩,fun x H' y=>?_⟩
  obtain⟨e,y⟩:=y
  subst e y
  exact hs i σ _ iY p
 ·have e:i=n:=by omega
  subst e
  exact .inl ⟨aC _,hd σ H p⟩
abbrev R2:=V->V->Hp->VK->Prop
def oF (X:Cx)(f:Value->Value->Sem Value)(r:R2):Prop:=
 ∀(pins:List (Addr×Obj)) (s:Shared) (σ:St) (H:Hp) (x y:V) (v u:Value) (Q:VK),Inv X pins σ H s->RelV x v->RelV y u->r x y H Q->
  wpAny (model X.prog X.w) X.A (f v u) (EP X pins σ Q) X.xe s
def MW (X:Cx)(f:Value->Sem Value)(r:V->Hp->VK->Prop):Prop:=
 ∀(pins:List (Addr×Obj)) (s:Shared) (σ:St) (H:Hp) (x:V) (v:Value) (Q:VK),Inv X pins σ H s->RelV x v->r x H Q->
  wpAny (model X.prog X.w) X.A (f v) (EP X pins σ Q) X.xe s
def je (X:Cx)(f:Value)(r:List V->Hp->VK->Prop):Prop:=
 ∀(pins:List (Addr×Obj)) (s:Shared) (σ:St) (H:Hp) (xs:List V) (us:List Value) (Q:VK),Inv X pins σ H s->Vals xs us->r xs H Q->
  wpAny (model X.prog X.w) X.A (call f us) (EP X pins σ Q) X.xe s
def SW (r:R2)(ta tb:TE):TE:=fun σ H Q=>ta σ H fun x H1=>tb σ H1 fun y H2=>r x y H2 Q
def Y2 (r:V->Hp->VK->Prop)(ta:TE):TE:=fun σ H Q=>ta σ H fun x H1=>r x H1 Q
def rI (C:Int->Int->Prop)(g:Int->Int->V):R2:=fun x y H Q=> ∃i j,x= .int i/\y= .int j/\C i j/\Q (g i j) H
def JH (g:Int->Int->V):R2:=fun x y H Q=> ∃i j,x= .int i/\y= .int j/\Q (g i j) H
def rU (g:Int->V):V->Hp->VK->Prop:=fun x H Q=> ∃i,x= .int i/\Q (g i) H
section
variable {X:Cx}{a b c:Expr}{ta tb tc:TE}{pos:Pos}
theorem MX (ha:PE X a ta)(hb:PE X b tb){pins:List (Addr×Obj)}{s:Shared}{σ:St}{H:Hp}{R:V->V->Hp->Prop}(I:Inv X pins σ H s)
  (h:ta σ H fun x H1=>tb σ H1 fun y H2=>R x y H2) {Q:Value->Shared->Prop} {f:Value->Value->Sem Value}
  (hf: ∀v u s2 x y H2,Inv X pins σ H2 s2->RelV x v->RelV y u->R x y H2->wpAny (model X.prog X.w) X.A (f v u) Q X.xe s2):
  wpAny (model X.prog X.w) X.A (eval a X.env) (fun v s₁=>wpAny (model X.prog X.w) X.A (eval b X.env) (fun u s₂=>wpAny (model X.prog X.w) X.A (f v u) Q X.xe s₂) X.xe s₁) X.xe s:=by
 refine eh (ha pins s σ H _ I h) fun v s1 ⟨x,H1,I1,r1,q1⟩=>?_
 refine eh (hb pins s1 σ H1 _ I1 q1) fun u s2 ⟨y,H2,I2,r2,q2⟩=>?_
 exact hf v u s2 x y H2 I2 r1 r2 q2
theorem aX {op:Operator}{r:R2}(ho:oF X (binaryOp op) r)(ha:PE X a ta)(hb:PE X b tb):PE X (.BinOp a op b pos) (SW r ta tb):=by
 intro pins s σ H Q I h
 exact wpAny_BinOp (MX ha hb I h fun v u s2 x y H2 I2 rx ry q=>ho pins s2 σ H2 x y v u Q I2 rx ry q)
theorem oG {op:UnaryOp}{r:V->Hp->VK->Prop}(ho:MW X (unaryOp op) r)(ha:PE X a ta):PE X (.UnaryOp op a pos) (Y2 r ta):=by
 intro pins s σ H Q I h
 exact UnaryOp_ (eh (ha pins s σ H _ I h) fun v s1 ⟨x,H1,I1,r1,q1⟩=>ho pins s1 σ H1 x v Q I1 r1 q1)
theorem P9 {f:Value->Value->Sem Value}{C:Int->Int->Prop}{g:Int->Int->Int}
  (rule: ∀(i j:Int) (t u:Tok) (s:Shared) (Q:Value->Shared->Prop) (E:Value->Shared->Prop),C i j->Q (.int (g i j) s.toks) {s with toks:=s.toks + 1}->wpAny (model X.prog X.w) X.A (f (.int i t) (.int j u)) Q E s):
  oF X f (rI C fun i j=> .int (g i j)):=by
 intro pins s σ H x y v u Q I rx ry h
 obtain⟨i,j,rfl,rfl,hc,q⟩:=h
 obtain⟨t,rfl⟩:=rx
 obtain⟨t',rfl⟩:=ry
 exact rule i j t t' s _ _ hc ⟨.int (g i j),H,I.tok _,⟨_,rfl⟩,q⟩
theorem Qa {f:Value->Value->Sem Value}{g:Int->Int->Int}
  (rule: ∀(i j:Int) (t u:Tok) (s:Shared) (Q:Value->Shared->Prop) (E:Value->Shared->Prop),Q (.int (g i j) s.toks) {s with toks:=s.toks + 1}->wpAny (model X.prog X.w) X.A (f (.int i t) (.int j u)) Q E s):
  oF X f (JH fun i j=> .int (g i j)):=by
 intro pins s σ H x y v u Q I rx ry h
 obtain⟨i,j,rfl,rfl,q⟩:=h
 obtain⟨t,rfl⟩:=rx
 obtain⟨t',rfl⟩:=ry
 exact rule i j t t' s _ _ ⟨.int (g i j),H,I.tok _,⟨_,rfl⟩,q⟩
theorem Ke {f:Value->Value->Sem Value}{g:Int->Int->Bool}
  (rule: ∀(i j:Int) (t u:Tok) (s:Shared) (Q:Value->Shared->Prop) (E:Value->Shared->Prop),Q (.bool (g i j)) s->wpAny (model X.prog X.w) X.A (f (.int i t) (.int j u)) Q E s):
  oF X f (JH fun i j=> .bl (g i j)):=by
 intro pins s σ H x y v u Q I rx ry h
 obtain⟨i,j,rfl,rfl,q⟩:=h
 obtain⟨t,rfl⟩:=rx
 obtain⟨t',rfl⟩:=ry
 exact rule i j t t' s _ _ ⟨.bl (g i j),H,I,rfl,q⟩
def Up (i j:Int):Prop:=0 < j/\j < 1073741824
def Uq (i j:Int):Prop:=0<=j/\j<=1000000/\i.natAbs < 2 ^ 64
def MY (i j:Int):Prop:=(-(2 ^ 64) < i/\i < 2 ^ 64)∨(-(2 ^ 64) < j/\j < 2 ^ 64)
theorem MY.ok {i j:Int}(h:MY i j):IntMulOk i j:=by
 rcases h with⟨h1,h2⟩|⟨h1,h2⟩
 ·exact .of_left (intBits_le_64 h1 h2)
 ·exact .of_right (intBits_le_64 h1 h2)
theorem dk:oF X (binaryOp .Add) (JH fun i j=> .int (i + j)):=Qa fun _ _ _ _ _ _ _ q=>add_int q
theorem ff:oF X (binaryOp .Sub) (JH fun i j=> .int (i - j)):=Qa fun _ _ _ _ _ _ _ q=>sub_int q
theorem lO:oF X (binaryOp .Mult) (rI MY fun i j=> .int (i * j)):=P9 fun _ _ _ _ _ _ _ hc q=>mul_int q hc.ok
theorem jw:oF X (binaryOp .FloorDiv) (rI Up fun i j=> .int (i / j)):=P9 fun i j _ _ _ _ _ hc q=>by
 have h1:(0:Int) < j:=hc.1
 have h2:j < 1073741824:=hc.2
 exact floordiv_int (by omega) (by rw[Int.fdiv_eq_ediv_of_nonneg i (by omega)]; exact q) (.inl (PyProof.noPylong_small (by omega)))
theorem cE:oF X (binaryOp .Mod) (rI (fun _ j=>0 < j) fun i j=> .int (i % j)):=P9 fun i j _ _ _ _ _ hc q=>by
 have h1:(0:Int) < j:=hc
 exact mod_int' (by omega) (by rw[Int.fmod_eq_emod_of_nonneg i (by omega)]; exact q)
theorem jn:oF X (binaryOp .Pow) (rI Uq fun i j=> .int (i ^ j.toNat)):=P9 fun _ _ _ _ _ _ _ hc q=>pow_int_small hc.1 hc.2.1 hc.2.2 q
theorem Y3 {f:Value->Sem Value}{g:Int->Int}
  (rule: ∀(i:Int) (t:Tok) (s:Shared) (Q:Value->Shared->Prop) (E:Value->Shared->Prop),Q (.int (g i) s.toks) {s with toks:=s.toks + 1}->wpAny (model X.prog X.w) X.A (f (.int i t)) Q E s):
  MW X f (rU fun i=> .int (g i)):=by
 intro pins s σ H x v Q I rx h
 obtain⟨i,rfl,q⟩:=h
 obtain⟨t,rfl⟩:=rx
 exact rule i t s _ _ ⟨.int (g i),H,I.tok _,⟨_,rfl⟩,q⟩
theorem kM:MW X (unaryOp .USub) (rU fun i=> .int (-i)):=Y3 fun _ _ _ _ _ q=>neg_int q
end
def Qb:V->V->Bool
 | .eI,.eI=>true| .eI,.int _=>true| .int _,.eI=>true| .eI,.bl _=>true| .bl _,.eI=>true| .eI,.str _=>true| .str _,.eI=>true
 | .int _,.int _=>true| .bl _,.bl _=>true| .str _,.str _=>true| .EW _,.EW _=>true
 | .int _,.str _=>true| .str _,.int _=>true| .bl _,.str _=>true| .str _,.bl _=>true
 |_,_=>false
def Y4:R2:=fun x y H Q=>Qb x y=true/\Q (.bl (decide (x=y))) H
def Y5:R2:=fun x y H Q=>Qb x y=true/\Q (.bl (!decide (x=y))) H
theorem Dq {i j:Int}:decide (V.int i=V.int j)=(i == j):=by
 rw[oa]
 simp
theorem Hd {i j:Bool}:decide (V.bl i=V.bl j)=(i == j):=by
 rw[oa]
 simp
theorem Dr {i j:Str}:decide (V.str i=V.str j)=(i == j):=by
 rw[oa]
 simp
theorem Ds {i j:Array UInt8}:decide (V.EW i=V.EW j)=(i.toList == j.toList):=by
 rw[oa]
 cases i
 cases j
 simp
section
variable {X:Cx}{a b c:Expr}{ta tb tc:TE}{pos:Pos}
theorem dH {pins:List (Addr×Obj)}{σ:St}{H:Hp}{s:Shared}{Q:VK}{k k':Bool}(I:Inv X pins σ H s)(q:Q (.bl k) H)(e:k=k'):EP X pins σ Q (.bool k') s:=by
 subst e
 exact⟨.bl k,H,I,rfl,q⟩
theorem cX:oF X (compareOp .Eq) Y4:=by
 intro pins s σ H x y v u Q I rx ry h
 obtain⟨hs,q⟩:=h
 cases x with
 |eI=>
  cases rx
  cases y with
  |eI=>cases ry; exact PySem.EqNone.eq_none_none (dH I q (by simp))
  |bl j=>cases ry; exact PySem.EqNone.eq_none_bool (dH I q (by simp))
  |int j=>obtain⟨t',rfl⟩:=ry; exact PySem.EqNone.eq_none_int (dH I q (by simp))
  |str j=>obtain⟨t',rfl⟩:=ry; exact PySem.EqNone.eq_none_str (dH I q (by simp))
  |_=>exact absurd (show false=true from hs) aY
 |bl i=>
  cases rx
  cases y with
  |eI=>cases ry; exact PySem.EqNone.eq_bool_none (dH I q (by simp))
  |bl j=>cases ry; exact eq_bool (dH I q Hd)
  |str j=>obtain⟨t',rfl⟩:=ry; exact PySem.EqMixed.eq_bool_str (dH I q (by simp))
  |_=>exact absurd (show false=true from hs) aY
 |int i=>
  obtain⟨t,rfl⟩:=rx
  cases y with
  |eI=>cases ry; exact PySem.EqNone.eq_int_none (dH I q (by simp))
  |int j=>obtain⟨t',rfl⟩:=ry; exact eq_int (dH I q Dq)
  |str j=>obtain⟨t',rfl⟩:=ry; exact PySem.EqMixed.eq_int_str (dH I q (by simp))
  |_=>exact absurd (show false=true from hs) aY
 |str i=>
  obtain⟨t,rfl⟩:=rx
  cases y with
  |eI=>cases ry; exact PySem.EqNone.eq_str_none (dH I q (by simp))
  |bl j=>cases ry; exact PySem.EqMixed.eq_str_bool (dH I q (by simp))
  |int j=>obtain⟨t',rfl⟩:=ry; exact PySem.EqMixed.eq_str_int (dH I q (by simp))
  |str j=>obtain⟨t',rfl⟩:=ry; exact eq_str (dH I q Dr)
  |_=>exact absurd (show false=true from hs) aY
 |EW i=>
  obtain⟨t,rfl⟩:=rx
  cases y with
  |EW j=>obtain⟨t',rfl⟩:=ry; exact PySem.W.eq_bytes (dH I q Ds)
  |_=>exact absurd (show false=true from hs) aY
 |_=>cases y <;> exact absurd (show false=true from hs) aY
theorem qf:oF X (compareOp .NotEq) Y5:=by
 intro pins s σ H x y v u Q I rx ry h
 obtain⟨hs,q⟩:=h
 cases x with
 |eI=>
  cases rx
  cases y with
  |eI=>cases ry; exact PySem.EqNone.ne_none_none (dH I q (by simp))
  |bl j=>cases ry; exact PySem.EqNone.ne_none_bool (dH I q (by simp))
  |int j=>obtain⟨t',rfl⟩:=ry; exact PySem.EqNone.ne_none_int (dH I q (by simp))
  |str j=>obtain⟨t',rfl⟩:=ry; exact PySem.EqNone.ne_none_str (dH I q (by simp))
  |_=>exact absurd (show false=true from hs) aY
 |bl i=>
  cases rx
  cases y with
  |eI=>cases ry; exact PySem.EqNone.ne_bool_none (dH I q (by simp))
  |bl j=>cases ry; exact ne_bool (dH I q (c8 not Hd))
  |str j=>obtain⟨t',rfl⟩:=ry; exact PySem.EqMixed.ne_bool_str (dH I q (by simp))
  |_=>exact absurd (show false=true from hs) aY
 |int i=>
  obtain⟨t,rfl⟩:=rx
  cases y with
  |eI=>cases ry; exact PySem.EqNone.ne_int_none (dH I q (by simp))
  |int j=>obtain⟨t',rfl⟩:=ry; exact ne_int (dH I q (c8 not Dq))
  |str j=>obtain⟨t',rfl⟩:=ry; exact PySem.EqMixed.ne_int_str (dH I q (by simp))
  |_=>exact absurd (show false=true from hs) aY
 |str i=>
  obtain⟨t,rfl⟩:=rx
  cases y with
  |eI=>cases ry; exact PySem.EqNone.ne_str_none (dH I q (by simp))
  |bl j=>cases ry; exact PySem.EqMixed.ne_str_bool (dH I q (by simp))
  |int j=>obtain⟨t',rfl⟩:=ry; exact PySem.EqMixed.ne_str_int (dH I q (by simp))
  |str j=>obtain⟨t',rfl⟩:=ry; exact ne_str (dH I q (c8 not Dr))
  |_=>exact absurd (show false=true from hs) aY
 |EW i=>
  obtain⟨t,rfl⟩:=rx
  cases y with
  |EW j=>obtain⟨t',rfl⟩:=ry; exact PySem.W.ne_bytes (dH I q (c8 not Ds))
  |_=>exact absurd (show false=true from hs) aY
 |_=>cases y <;> exact absurd (show false=true from hs) aY
theorem jN:oF X (compareOp .Lt) (JH fun i j=> .bl (decide (i < j))):=Ke fun _ _ _ _ _ _ _ q=>lt_int q
theorem sh:oF X (compareOp .LtE) (JH fun i j=> .bl (decide (i<=j))):=Ke fun _ _ _ _ _ _ _ q=>le_int q
theorem iQ:oF X (compareOp .Gt) (JH fun i j=> .bl (decide (j < i))):=Ke fun _ _ _ _ _ _ _ q=>gt_int q
theorem He:oF X (compareOp .GtE) (JH fun i j=> .bl (decide (j<=i))):=Ke fun _ _ _ _ _ _ _ q=>ge_int q
theorem ba (b:Expr){op:CmpOp}(h:op≠ .In:=by decide)(h2:op≠ .NotIn:=by decide):behindInMarks op b=false:=by
 have e1:(op == CmpOp.In)=false:=by cases op <;> first|rfl|exact absurd rfl h
 have e2:(op == CmpOp.NotIn)=false:=by cases op <;> first|rfl|exact absurd rfl h2
 cases b <;> simp[behindInMarks,e1,e2]
theorem fv {op:CmpOp}{r:R2}(ho:oF X (compareOp op) r)(ha:PE X a ta)(hb:PE X b tb)(hm:behindInMarks op b=false):PE X (.Compare a [op] [b] pos) (SW r ta tb):=by
 intro pins s σ H Q I h
 exact wpAny_Compare1 (MX ha hb I h fun v u s2 x y H2 I2 rx ry q=>ho pins s2 σ H2 x y v u Q I2 rx ry q) hm
def Hf (t:TE):TT:=fun σ H Q=>t σ H fun x H'=> ∃k,x= .bl k/\Q k H'
theorem aZ {op:CmpOp}{r:R2}(ho:oF X (compareOp op) r)(ha:PE X a ta)(hb:PE X b tb)(hm:behindInMarks op b=false):PT X (.Compare a [op] [b] pos) (Hf (SW r ta tb)):=by
 intro pins s σ H Q I h
 refine wpAny_isTrue_Compare1 (eh (ha pins s σ H _ I h) fun v s1 ⟨x,H1,I1,r1,q1⟩=>eh (hb pins s1 σ H1 _ I1 q1) fun u s2 ⟨y,H2,I2,r2,q2⟩=>
  eh (ho pins s2 σ H2 x y v u _ I2 r1 r2 q2) fun c s3 ⟨z,H3,I3,r3,k,e,q3⟩=>?_) hm
 subst e
 cases r3
 exact fW ⟨H3,I3,q3⟩
def Hg (r r':R2)(ta tb tc:TE):TE:=fun σ H Q=>ta σ H fun x H1=>tb σ H1 fun y H2=>r x y H2 fun z H3=> ∃k,z= .bl k/\
 (if k=true then tc σ H3 fun w' H4=>r' y w' H4 Q else Q (.bl false) H3)
theorem Ae {op Ur:CmpOp}{r r':R2}(ho:oF X (compareOp op) r)(J2:oF X (compareOp Ur) r')(ha:PE X a ta)(hb:PE X b tb)(hc:PE X c tc)
  (hm:lastMarks [op,Ur] [b,c]=false:=by with_unfolding_all rfl):PT X (.Compare a [op,Ur] [b,c] pos) (Hf (Hg r r' ta tb tc)):=by
 intro pins s σ H Q I h
 refine isTrue_chain (eh (ha pins s σ H _ I h) fun v s1 ⟨x,H1,I1,r1,q1⟩=>test_link (eh (hb pins s1 σ H1 _ I1 q1) fun u s2 ⟨y,H2,I2,r2,q2⟩=>
  eh (ho pins s2 σ H2 x y v u _ I2 r1 r2 q2) fun d s3 ⟨z,H3,I3,r3,k,e,q3⟩=>?_)) hm
 subst e
 cases r3
 refine fW ?_
 cases k with
 |false=>
  obtain⟨k',e',q'⟩:=q3
  cases e'
  exact ite_ff ⟨H3,I3,q'⟩
 |true=>
  refine ite_tt (test_last (eh (hc pins s3 σ H3 _ I3 q3) fun w' s4 ⟨z',H4,I4,r4,q4⟩=>eh (J2 pins s4 σ H4 y z' u w' _ I4 r2 r4 q4) fun d' s5 ⟨z2,H5,I5,r5,k2,e2,q5⟩=>?_))
  subst e2
  cases r5
  exact fW ⟨H5,I5,q5⟩
theorem yf:(sizeLine:Nat) < 2 ^ 63:=by rw[eK]; decide
theorem ui:oF X (binaryOp .Add) (fun x y H Q=> ∃i j,x= .str i/\y= .str j/\i.length + j.length<=sizeLine/\Q (.str (i ++ j)) H):=by
 intro pins s σ H x y v u Q I rx ry h
 obtain⟨i,j,rfl,rfl,hz,q⟩:=h
 obtain⟨t,rfl⟩:=rx
 obtain⟨t',rfl⟩:=ry
 exact add_str (fun t' tk=>⟨.str (i ++ j),H,I.tok _,⟨_,rfl⟩,q⟩) hz
theorem vals1 {x:V}{us:List Value}(r:Vals [x] us): ∃u,us=[u]/\RelV x u:=by
 cases r with
 |cons r1 r2=>cases r2; exact⟨_,rfl,r1⟩
theorem vals2 {x y:V}{us:List Value}(r:Vals [x,y] us): ∃u w',us=[u,w']/\RelV x u/\RelV y w':=by
 cases r with
 |cons r1 r2=>
  cases r2 with
  |cons r3 r4=>cases r4; exact⟨_,_,rfl,r1,r3⟩
theorem w9 (hc:X.calm=true):je X (.builtin "max") (fun xs H Q=> ∃i j,xs=[.int i,.int j]/\Q (.int (if j > i then j else i)) H):=by
 intro pins s σ H xs us Q I r h
 obtain⟨i,j,rfl,q⟩:=h
 obtain⟨u,w',rfl,⟨t,rfl⟩,⟨t',rfl⟩⟩:=vals2 r
 refine max_two_ints (I.ok.hd hc) fun h' tk k=>⟨_,H,I.kept k,?_,q⟩
 by_cases hj:j > i
 ·rw[bg hj,bg hj]; exact⟨_,rfl⟩
 ·rw[aV hj,aV hj]; exact⟨_,rfl⟩
theorem rE (hc:X.calm=true):je X (.builtin "min") (fun xs H Q=> ∃i j,xs=[.int i,.int j]/\Q (.int (if j < i then j else i)) H):=by
 intro pins s σ H xs us Q I r h
 obtain⟨i,j,rfl,q⟩:=h
 obtain⟨u,w',rfl,⟨t,rfl⟩,⟨t',rfl⟩⟩:=vals2 r
 refine min_two_ints (I.ok.hd hc) fun h' tk k=>⟨_,H,I.kept k,?_,q⟩
 by_cases hj:j < i
 ·rw[bg hj,bg hj]; exact⟨_,rfl⟩
 ·rw[aV hj,aV hj]; exact⟨_,rfl⟩
theorem jC:je X (.type "int") (fun xs H Q=>(∃i,xs=[.int i]/\Q (.int i) H)∨ ∃k,xs=[.bl k]/\Q (.int (if k then 1 else 0)) H):=by
 intro pins s σ H xs us Q I r h
 rcases h with⟨i,rfl,q⟩|⟨k,rfl,q⟩
 ·obtain⟨u,rfl,t,rfl⟩:=vals1 r
  exact call_int_int ⟨.int i,H,I,⟨_,rfl⟩,q⟩
 ·obtain⟨u,rfl,r1⟩:=vals1 r
  cases r1
  exact call_int_bool ⟨.int (if k then 1 else 0),H,I.tok _,⟨_,rfl⟩,q⟩
end
structure Cc (h:Heap)(x dx C:Addr)(mA:Str->Option Value):Prop where
 obj:h.get? x=some (PySem.W.instObj C dx)
 ns:h.Ns1 dx mA
 ne:dx≠x
theorem E6 {h:Heap}{dx:Addr}{mA:Str->Option Value}(n:h.Ns1 dx mA): ∃od,h.get? dx=some od/\ ∀name,PySem.W.lookIn name od=some (mA name):=by
 obtain⟨o,es,ep,ho,hd,hk,_,hm⟩:=n
 refine⟨o,ho,fun name=>?_⟩
 have e:=hm name
 unfold nsFind findBy at e
 rw[← Array.find?_toList] at e
 unfold PySem.W.lookIn
 rw[hd]
 dsimp only
 split
 ·rename_i y q
  rw[q] at e
  exact c8 some e
 ·rename_i q
  rw[q] at e
  have a:es.toList.any (·.refKey)=false:=by
   rw[rh]
   intro y hy
   obtain⟨z,t,Hh⟩:=hk y (Array.mem_toList_iff.mp hy)
   simp[DictEntry.refKey,Hh]
  have a': ¬ es.toList.any (·.refKey)=true:=by rw[a]; exact aY
  rw[aV a']
  exact c8 some e
theorem Cc.look {h:Heap}{x dx C:Addr}{mA:Str->Option Value}(I:Cc h x dx C mA): ∃od,PySem.W.InstAt h x (PySem.W.instObj C dx) C (some od)/\ ∀name,PySem.W.lookIn name od=some (mA name):=
 let⟨od,ho,hl⟩:=E6 I.ns
 ⟨od,⟨I.obj,rfl,rfl,ho⟩,hl⟩
section
variable {prog:Program}{w:World}{A:Around}{E:Value->Shared->Prop}{s:Shared}{K:PySem.W.Frag}{x dx C f:Addr}{mA:Str->Option Value}{name:Str}{v:Value}
theorem get_map {expr:Bool}{Q:Value->Shared->Prop}(X:K.In s.heap)(I:Cc s.heap x dx C mA)(hg:PySem.W.plainGet K C name=true)(hh:PySem.W.hasDictIn K C=true)
  (ha:PySem.W.findIn K (.ref C) name=some none) (hv:mA name=some v) (Y6:PySem.W.handedIn v=true) (h:Q v {s with toks:=s.toks + 1}):
  wpAny (model prog w) A (getAttr (.ref x) name expr) Q E s:=by
 obtain⟨od,J,hl⟩:=I.look
 exact PySem.W.get_value X J (zW hg).1 (PySem.W.findObj_own hh ha rfl (by rw[hl,hv])) Y6 h
theorem Hj {pl:Sem Bool}{Q:Value×List Value->Shared->Prop}(X:K.In s.heap)(I:Cc s.heap x dx C mA)(hg:PySem.W.plainGet K C name=true)
  (hf:PySem.W.findIn K (.ref C) name=some (some (.ref f))) (ht:PySem.W.isFn K (.ref f)=true) (hv:mA name=none) (h:Q (.ref f,[.ref x]) s):
  wpAny (model prog w) A (getMethod (.ref x) name pl) Q E s:=by
 obtain⟨od,J,hl⟩:=I.look
 exact PySem.W.method_fn X J (zW hg).1 (zW hg).2 hf (EL.mp ht) (by show(PySem.W.lookIn name od).map (·.isSome)=some false; rw[hl,hv]; rfl) h
theorem Kf {ns:List Str}{Q:Unit->Shared->Prop}(X:K.In s.heap)(I:Cc s.heap x dx C mA)
  (hs:PySem.W.findIn K (.ref C) "__setattr__"=some (some (.builtin "object.__setattr__"))) (hp:PySem.W.plainOver K C=true) (ht:PySem.W.takerIn K C name=some none) (hh:PySem.W.hasDictIn K C=true)
  (hw:PySem.Within mA ns) (hsz:ns.length<=sizeLine)
  (h: ∀h',Cc h' x dx C (fun y=>if y=name then some v else mA y)->Heap.SameBut dx s.heap h'->Q () {s with heap:=h',toks:=s.toks + 2}):
  wpAny (model prog w) A (setAttr (.ref x) name v) Q E s:=by
 obtain⟨od,J,hl⟩:=I.look
 refine PySem.W.set_plain X J hs (PySem.W.osa_open (s:={s with toks:=s.toks + 1}) (r:=none) X J hp ht fun b=>?_)
 obtain⟨cd,hc,GN⟩:=PySem.W.any_some hh
 have hx:s.heap.get? x=some ⟨.ref C,some dx,.plain,#[]⟩:=I.obj
 refine ay (bM (ay (ay (wpAny_loadPart hx (ay (PySem.W.Looks.here (s:={s with toks:=s.toks + 1}) (PySem.W.looks_clsIn X hc) ?_))))))
 rw[GN]
 refine bM (a:=some dx) (ay (bM (ay ?_)))
 refine wpAny_nsSet1 (s:={s with toks:=s.toks + 1}) I.ns fun h' SX O4=>?_
 obtain⟨oD,Y7,Y8,Us,Ut,Uu⟩:=SX.count (PySem.Within.cons name v hw)
 refine ay (wpAny_lookBehind Us (by rw[Ut]; exact pastItsLine_dict (a8 Uu (by rw[cz]; omega))) ?_)
 exact bM (h _ ⟨(O4.2 _ (vE I.ne)).trans I.obj,SX,I.ne⟩ O4)
theorem Hl {R:Result->Shared->Prop}{vs:List Value}{kw:List (Str×Value)}(X:K.In s.heap)(hm:PySem.W.makesIn K C=true)
  (hi:PySem.W.findIn K (.ref C) "__init__"=some (some (.ref f))) (hf:PySem.W.typeIn K (.ref f)=some (.type "function"))
  (h:codeAny (model prog w) (A.under (.builtin "type.__call__" ⟨.ref C :: vs,kw⟩)) (.call (.ref f) ⟨.ref (s.heap.objs.size + 1) :: vs,kw⟩) (PySem.W.InitBack (s.heap.objs.size + 1) R)
   {s with heap:=(s.heap.push PySem.W.emptyDict).push (PySem.W.instObj C s.heap.objs.size)}):
  codeAny (model prog w) A (.call (.ref C) ⟨vs,kw⟩) R s:=by
 obtain⟨hh,g,d,t,os⟩:=s
 exact PySem.W.make_core (PySem.W.makes_of X hm) (PySem.W.looks_findIn X hi) (fun self=>PySem.W.bind_fn X self hf) (.inl rfl) h
end
def eJ (f:Str)(v:V):List (Str×V)->List (Str×V)
 |[]=>[(f,v)]
 |(g,x) :: r=>if g=f then(g,v) :: r else(g,x) :: eJ f v r
theorem sj (f g:Str)(v:V): ∀fs:List (Str×V),(eJ f v fs).lookup g=if g=f then some v else fs.lookup g
 |[]=>by
  show List.lookup g [(f,v)]=_
  by_cases h:g=f
  ·have hb:(g == f)=true:=EL.mpr h
   simp only[List.lookup,hb,if_pos h]
  ·have hb:(g == f)=false:=gR.mpr h
   simp only[List.lookup,hb,if_neg h]
 |(k,x) :: r=>by
  have ih:=sj f g v r
  rw[show eJ f v ((k,x) :: r)=(if k=f then(k,v) :: r else(k,x) :: eJ f v r) from rfl]
  by_cases hk:k=f
  ·rw[bg hk]
   by_cases h:g=k
   ·have hb:(g == k)=true:=EL.mpr h
    simp only[List.lookup,hb,if_pos (h.trans hk)]
   ·have hb:(g == k)=false:=gR.mpr h
    simp only[List.lookup,hb,if_neg (fun e:g=f=>h (e.trans hk.symm))]
  ·rw[aV hk]
   by_cases h:g=k
   ·have hb:(g == k)=true:=EL.mpr h
    simp only[List.lookup,hb,if_neg (fun e:g=f=>hk (h.symm.trans e))]
   ·have hb:(g == k)=false:=gR.mpr h
    simp only[List.lookup,hb]
    exact ih
theorem rF (f:Str)(v:V): ∀fs:List (Str×V),f∈(eJ f v fs).map (·.1)/\ ∀g,g∈fs.map (·.1)->g∈(eJ f v fs).map (·.1)
 |[]=>⟨by simp[eJ],fun g h=>by simp at h⟩
 |(k,x) :: r=>by
  obtain⟨i1,i2⟩:=rF f v r
  rw[show eJ f v ((k,x) :: r)=(if k=f then(k,v) :: r else(k,x) :: eJ f v r) from rfl]
  by_cases hk:k=f
  ·rw[bg hk]
   subst hk
   exact⟨by simp,fun g h=>by simpa using h⟩
  ·rw[aV hk]
   refine⟨?_,fun g h=>?_⟩
   ·rw[di]
    exact bz _ i1
   ·rw[di] at h ⊢
    rcases aw.mp h with e|e
    ·exact aw.mpr (.inl e)
    ·exact bz _ (i2 g e)
theorem mH (f:Str)(v:V): ∀fs:List (Str×V),(eJ f v fs).length<=fs.length + 1
 |[]=>by simp[eJ]
 |(k,x) :: r=>by
  have ih:=mH f v r
  rw[show eJ f v ((k,x) :: r)=(if k=f then(k,v) :: r else(k,x) :: eJ f v r) from rfl]
  by_cases hk:k=f
  ·rw[bg hk,cz,cz]; omega
  ·rw[aV hk,cz,cz]; omega
theorem k7.some_of {v:V}{o:Option Value}(r:k7 (some v) o): ∃u,o=some u/\RelV v u:=by
 cases o with
 |none=>exact(show False from r).elim
 |some u=>exact⟨u,rfl,r⟩
theorem k7.none_of {o:Option Value}(r:k7 none o):o=none:=by
 cases o with
 |none=>rfl
 |some u=>exact(show False from r).elim
theorem E7 {v:V}{u:Value}(r:RelV v u):PySem.W.handedIn u=true:=by
 cases v with
 |eI=>cases(show u=Value.none from r); rfl
 |bl b=>cases(show u=Value.bool b from r); rfl
 |int i=>obtain⟨t,e⟩:=(show ∃t,u=Value.int i t from r); cases e; rfl
 |str x=>obtain⟨t,e⟩:=(show ∃t,u=Value.str x t from r); cases e; rfl
 |EW b=>obtain⟨t,e⟩:=(show ∃t,u=Value.bytes b t from r); cases e; rfl
 |JY b=>obtain⟨t,e⟩:=(show ∃t,u=Value.float b t from r); cases e; rfl
 |ref a=>cases(show u=Value.ref a from r); rfl
 |ty n=>cases(show u=Value.type n from r); rfl
section
variable {P:Program}{w:World}{H H':Hp}{h h':Heap}{a C dx:Addr}{fs YY:List (Str×V)}
theorem qg (cK:oq P w H h)(e:H a=some (.ins C dx fs)): ∃mA,Cc h a dx C mA/\(∀f,k7 (fs.lookup f) (mA f))/\PySem.Within mA (fs.map (·.1))/\fs.length<=1000/\H dx=some (.own a):=by
 obtain⟨d,z,ne,ob,mA,n,r,q⟩:=(show dJ P w H h a (.ins C dx fs) from cK a _ e)
 exact⟨mA,⟨ob,n,ne⟩,r,q,z,d⟩
end
structure vO (K:PySem.W.Frag)(C:Addr):Prop where
 pg:PySem.W.plainGet K C Str.empty=true
 hd:PySem.W.hasDictIn K C=true
 po:PySem.W.plainOver K C=true
 sa:PySem.W.findIn K (.ref C) "__setattr__"=some (some (.builtin "object.__setattr__"))
theorem vO.get {K:PySem.W.Frag}{C:Addr}(c:vO K C)(f:Str):PySem.W.plainGet K C f=true:=c.pg
def cA (K:PySem.W.Frag)(C:Addr)(f:Str):Prop:=PySem.W.findIn K (.ref C) f=some none
theorem cA.Qc {K:PySem.W.Frag}{C:Addr}{f:Str}(n:cA K C f):PySem.W.takerIn K C f=some none:=by
 unfold PySem.W.takerIn
 rw[show PySem.W.findIn K (.ref C) f=some none from n]
 rfl
structure Con (K:PySem.W.Frag)(C:Addr)(f:Str)(v:V)(u:Value):Prop where
 at_:PySem.W.findIn K (.ref C) f=some (some u)
 rel:RelV v u
 get:PySem.W.specialIn K u "__get__"=some none
 cp:PySem.W.copiedNames.contains f=false
structure Meth (K:PySem.W.Frag)(C:Addr)(m:Str)(f:Addr):Prop where
 at_:PySem.W.findIn K (.ref C) m=some (some (.ref f))
 fn:PySem.W.isFn K (.ref f)=true
 kp:PySem.W.keepIn K (.ref f)=true
section
variable {X:Cx}{pins:List (Addr×Obj)}{σ:St}{H:Hp}{s:Shared}{a C dx:Addr}{fs:List (Str×V)}{f:Str}{v:V}{A:Around}{E:Value->Shared->Prop}
theorem Cd {b:Bool}{Q:Value->Shared->Prop}(I:Inv X pins σ H s)(e:H a=some (.ins C dx fs))(c:vO X.K C)(n:cA X.K C f)(l:fs.lookup f=some v)
  (h: ∀u s',Inv X pins σ H s'->RelV v u->Q u s'):wpAny (model X.prog X.w) A (getAttr (.ref a) f b) Q E s:=by
 obtain⟨mA,O,r,_,_,_⟩:=qg I.cK e
 obtain⟨u,hu,ru⟩:=k7.some_of (v:=v) (o:=mA f) (by rw[← l]; exact r f)
 exact get_map I.gO O (c.get f) c.hd n hu (E7 ru) (h u _ (I.tok _) ru)
theorem Ce {m:Str}{g:Addr}{pl:Sem Bool}{Q:Value×List Value->Shared->Prop}(I:Inv X pins σ H s)(e:H a=some (.ins C dx fs))(c:vO X.K C)(k:Meth X.K C m g)(l:fs.lookup m=none)
  (h:Q (.ref g,[.ref a]) s):wpAny (model X.prog X.w) A (getMethod (.ref a) m pl) Q E s:=by
 obtain⟨mA,O,r,_,_,_⟩:=qg I.cK e
 have hn:mA m=none:=k7.none_of (by rw[← l]; exact r m)
 exact Hj I.gO O (c.get m) k.at_ k.fn hn h
theorem Cf {y:V}{u:Value}{Q:Unit->Shared->Prop}(I:Inv X pins σ H s)(e:H a=some (.ins C dx fs))(c:vO X.K C)(n:cA X.K C f)(hl:fs.length < 1000)(ry:RelV y u)
  (h: ∀s',Inv X pins σ (upd H a (.ins C dx (eJ f y fs))) s'->Q () s'):wpAny (model X.prog X.w) A (setAttr (.ref a) f u) Q E s:=by
 obtain⟨mA,O,r,wi,_,ho⟩:=qg I.cK e
 have hz:(fs.map (·.1)).length<=sizeLine:=by rw[ae,eK]; omega
 refine Kf I.gO O c.sa c.po n.Qc c.hd wi hz fun h' O' sb=>h _ ?_
 have hd: ∃o,h'.get? dx=some o:=let⟨o,_,_,e',_⟩:=O'.ns; ⟨o,e'⟩
 refine I.write (x:=a) (e:=dx) (by rw[e]; exact True.intro) (.inr ho) (fun b q hb z=>(sb.2 b hb).trans z) hd ?_
 refine⟨by rw[aA O.ne]; exact ho,?_,O.ne,O'.obj,_,O'.ns,fun g=>?_,fun g hg=>?_⟩
 ·have:=mH f y fs; omega
 ·show k7 ((eJ f y fs).lookup g) (if g=f then some u else mA g)
  rw[sj]
  by_cases q:g=f
  ·rw[bg q,bg q]; exact ry
  ·rw[aV q,aV q]; exact r g
 ·by_cases q:g=f
  ·rw[q]; exact(rF f y fs).1
  ·refine(rF f y fs).2 g (wi g fun z=>hg ?_)
   show(if g=f then some u else mA g)=none
   rw[aV q]; exact z
theorem Inv.made (I:Inv X pins σ H s):Inv X pins σ (upd (upd H s.heap.objs.size (.own (s.heap.objs.size + 1))) (s.heap.objs.size + 1) (.ins C s.heap.objs.size []))
  {s with heap:=(s.heap.push PySem.W.emptyDict).push (PySem.W.instObj C s.heap.objs.size)}:=by
 have e1:(s.heap.push PySem.W.emptyDict).get? s.heap.objs.size=some PySem.W.emptyDict:=bV s.heap rfl
 have e2:((s.heap.push PySem.W.emptyDict).push (PySem.W.instObj C s.heap.objs.size)).get? (s.heap.objs.size + 1)=some (PySem.W.instObj C s.heap.objs.size):=by
  have:=bV (s.heap.push PySem.W.emptyDict) (o:=PySem.W.instObj C s.heap.objs.size) rfl
  rwa [nP] at this
 have e3:(s.heap.push PySem.W.emptyDict).Ns s.heap.objs.size (fun _=>none):=⟨PySem.W.emptyDict,#[],_,e1,rfl,(fun e he=>absurd he (by simp)),fun _=>rfl⟩
 have I1:=I.laid (a:=s.heap.objs.size) (o:= .own (s.heap.objs.size + 1)) (h':=s.heap.push PySem.W.emptyDict) (t':=s.toks) (fun b u q=>ax _ q) (aC _) ⟨_,e1⟩
 refine I1.laid (a:=s.heap.objs.size + 1) (o:= .ins C s.heap.objs.size []) (t':=s.toks) (fun b u q=>ax _ q) (iJ (nP _ _)) ?_
 have ne:s.heap.objs.size≠s.heap.objs.size + 1:=bc (fZ _)
 refine⟨by rw[aA ne,ag],bF _,ne,e2,fun _=>none,(Heap.Ns1.of_empty e3).at fun o q=>ax _ q,fun _=>True.intro,fun y hy=>absurd rfl hy⟩
theorem Du {prog:Program}{w:World}{env:Env}{e:Expr}{f:Str}{pos:Pos}{s:Shared}{Q:Value->Shared->Prop}(hb:attributeBase e f env (eval e env)=eval e env)
  (h:wpAny (model prog w) A (eval e env) (fun o s₁=>wpAny (model prog w) A (getAttr o f true) Q E s₁) E s):wpAny (model prog w) A (eval (.Attribute e f pos) env) Q E s:=
 Attribute_any_ h (by rw[arm_eval_Attribute,hb])
end
def Qd (K:PySem.W.Frag)(ta:TE)(f:Str):TE:=fun σ H Q=>ta σ H fun x H1=> ∃a C dx fs v,x= .ref a/\H1 a=some (.ins C dx fs)/\vO K C/\cA K C f/\fs.lookup f=some v/\Q v H1
def Uv (K:PySem.W.Frag)(ta tv:TE)(f:Str):TS:=fun D σ H=>tv σ H fun y H1=>ta σ H1 fun x H2=> ∃a C dx fs,x= .ref a/\H2 a=some (.ins C dx fs)/\vO K C/\cA K C f/\fs.length < 1000/\
 D.nx σ (upd H2 a (.ins C dx (eJ f y fs)))
section
variable {X:Cx}{o e value:Expr}{f:Str}{pos pos' MZ:Pos}{ta tv:TE}
theorem cu (he:PE X e ta)(hb:attributeBase e f X.env (eval e X.env)=eval e X.env):PE X (.Attribute e f pos) (Qd X.K ta f):=by
 intro pins s σ H Q I h
 refine Du hb (eh (he pins s σ H _ I h) fun u s1 ⟨x,H1,I1,rx,a,C,dx,fs,v,ex,ea,c,n,l,q⟩=>?_)
 subst ex
 obtain rfl:u=Value.ref a:=rx
 exact Cd I1 ea c n l fun u' s2 I2 ru=>⟨v,H1,I2,ru,q⟩
theorem fS (ha:PE X o ta)(hv:PE X value tv)(hs:swapsWith value (some (.Attribute o f pos')) pos.line X.env=pure false):PS X (.Assign [.Attribute o f pos'] value pos) (Uv X.K ta tv f):=by
 intro pins s σ H D I h
 refine MD (eh (hv pins s σ H _ I h) fun u s1 ⟨y,H1,I1,ry,q⟩=>eh (ha pins s1 σ H1 _ I1 q) fun ov s2 ⟨x,H2,I2,rx,a,C,dx,fs,ex,ea,c,n,l,q2⟩=>?_) hs
 subst ex
 obtain rfl:ov=Value.ref a:=rx
 exact Cf I2 ea c n l ry fun s3 I3=>⟨σ,_,I3,q2⟩
end
section
variable {X:Cx}{pins:List (Addr×Obj)}{σ:St}{H:Hp}{s:Shared}{A:Around}{E:Value->Shared->Prop}{Q:Value->Shared->Prop}{c:Value}{b:Bool}
inductive mI (K:PySem.W.Frag) (H:Hp):V->Value->Prop where
 |eI:mI K H .eI (.type "NoneType")
 |bl (x:Bool):mI K H (.bl x) (.type "bool")
 |int (i:Int):mI K H (.int i) (.type "int")
 |str (x:Str):mI K H (.str x) (.type "str")
 |JY (x:UInt64):mI K H (.JY x) (.type "float")
 |lst {a:Addr} {xs:List V} (e:H a=some (.lst xs)):mI K H (.ref a) (.type "list")
 |BR {a:Addr} {o:Obj} {xs:List V} (e:H a=some (.BR o (.lst xs))):mI K H (.ref a) (.type "list")
 |tup {a:Addr} {xs:List V} (e:H a=some (.tup xs)):mI K H (.ref a) (.type "tuple")
 |dK {a:Addr} {br:List (Key×V)} (e:H a=some (.dK br)):mI K H (.ref a) (.type "dict")
 |dT {a:Addr} {br:List (List Key×V)} (e:H a=some (.dT br)):mI K H (.ref a) (.type "dict")
 |ins {a C dx:Addr} {fs:List (Str×V)} (e:H a=some (.ins C dx fs)) (cl:vO K C) (ha:PySem.W.findIn K (.ref C) "__class__"=some (some (.builtin "object.__class__")))
   (hn:PySem.W.specialIn K (.builtin "object.__class__") "__get__"=some (some (.builtin "getset_descriptor.__get__"))) (nR:PySem.W.takesIn K (.builtin "object.__class__")=some true)
   (hm:PySem.W.mroIn K C (.type "object")=some true):mI K H (.ref a) (.ref C)
theorem E8 {x:V}{u t:Value}(I:Inv X pins σ H s)(rx:RelV x u)(ty:mI X.K H x t)(e:PySem.W.kitOne X.K t c=some b)(h: ∀tk,Q (.bool b) {s with toks:=tk}):
  wpAny (model X.prog X.w) A (call (.builtin "isinstance") [u,c]) Q E s:=by
 cases ty with
 |eI=>cases(show u=Value.none from rx); exact ez PySem.W.kitx_none I.gO True.intro e (fun z=>nomatch z) h
 |bl y=>cases(show u=Value.bool y from rx); exact ez PySem.W.kitx_bool I.gO True.intro e (fun z=>nomatch z) h
 |int i=>obtain⟨t,q⟩:=(show ∃t,u=Value.int i t from rx); cases q; exact ez PySem.W.kitx_int I.gO True.intro e (fun z=>nomatch z) h
 |str y=>obtain⟨t,q⟩:=(show ∃t,u=Value.str y t from rx); cases q; exact ez PySem.W.kitx_str I.gO True.intro e (fun z=>nomatch z) h
 |JY y=>obtain⟨t,q⟩:=(show ∃t,u=Value.float y t from rx); cases q; exact ez PySem.W.kitx_float I.gO True.intro e (fun z=>nomatch z) h
 | @lst a xs ea=>
  cases(show u=Value.ref a from rx)
  obtain⟨_,_,n,_,h1⟩:=(show dJ X.prog X.w H s.heap a (.lst xs) from I.cK a _ ea)
  exact ez rj I.gO ⟨_,h1,rfl⟩ e (fun z=>nomatch z) h
 | @BR a ob xs ea=>
  cases(show u=Value.ref a from rx)
  obtain⟨_,_,_,n,_,h1⟩:=(show dJ X.prog X.w H s.heap a (.BR ob (.lst xs)) from I.cK a _ ea)
  exact ez rj I.gO ⟨_,h1,rfl⟩ e (fun z=>nomatch z) h
 | @tup a xs ea=>
  cases(show u=Value.ref a from rx)
  obtain⟨_,_,_,p⟩:=(show dJ X.prog X.w H s.heap a (.tup xs) from I.cK a _ ea)
  obtain⟨o,h1,h2,_⟩:=p
  exact ez PySem.W.kitx_tuple I.gO ⟨o,h1,h2⟩ e (fun z=>nomatch z) h
 | @dK a br ea=>
  cases(show u=Value.ref a from rx)
  obtain⟨_,_,vs,_,p⟩:=(show dJ X.prog X.w H s.heap a (.dK br) from I.cK a _ ea)
  obtain⟨o,es,ep,h1,h2,_⟩:=p
  exact ez rm I.gO ⟨o,h1,h2.1⟩ e (fun z=>nomatch z) h
 | @dT a br ea=>
  cases(show u=Value.ref a from rx)
  obtain⟨_,_,xs,_,o,es,ep,h1,h2,_⟩:=(show dJ X.prog X.w H s.heap a (.dT br) from I.cK a _ ea)
  exact ez rm I.gO ⟨o,h1,h2.1⟩ e (fun z=>nomatch z) h
 | @ins a C dx fs ea cl ha hn nR hm=>
  cases(show u=Value.ref a from rx)
  obtain⟨mA,O,_⟩:=qg I.cK ea
  obtain⟨od,J,_⟩:=O.look
  exact ez (PySem.W.kitx_own (cl.get _) cl.hd ha hn nR hm) I.gO J e (fun z=>nomatch z) h
end
structure fE (k:Nat)(A:Around):Prop where
 hd:A.handled=none
 dp:A.depth + 3 * k + 5 < recursionLimit
 un:A.units + 16 * k + 200 < cLine
theorem fE.mono {j k:Nat}{A:Around}(r:fE k A)(h:j<=k):fE j A:=⟨r.hd,by have:=r.dp; omega,by have:=r.un; omega⟩
theorem fE.deeper {k:Nat}{A:Around}(r:fE (k + 1) A)(env:Env):fE k (A.deeper env):=
 ⟨r.hd,by have:=r.dp; show A.depth + 1 + 3 * k + 5 < _; omega,by have:=r.un; show A.units + 3 + 16 * k + 200 < _; omega⟩
theorem uj {A:Around}{C:Addr}{us:List Value}{kw:List (Str×Value)}:(A.under (.builtin "type.__call__" ⟨.ref C :: us,kw⟩)).depth=A.depth + 1:=by
 first|rfl|simp[Around.under,Code.weight,Code.isCreation,Code.isGuard,Code.isCaller,Code.frames,Code.isFrame,guardIds]
theorem uk {A:Around}{C:Addr}{us:List Value}{kw:List (Str×Value)}:(A.under (.builtin "type.__call__" ⟨.ref C :: us,kw⟩)).units=A.units + 1:=by
 first|rfl|simp[Around.under,Code.cUnits,Code.frames,Code.isFrame]
theorem fE.make {k:Nat}{A:Around}(r:fE (k + 1) A)(C:Addr)(us:List Value)(kw:List (Str×Value)):fE k (A.under (.builtin "type.__call__" ⟨.ref C :: us,kw⟩)):=
 ⟨r.hd,by have:=r.dp; rw[uj]; omega,by have:=r.un; rw[uk]; omega⟩
theorem fE.depth {k:Nat}{A:Around}(r:fE k A):A.depth < recursionLimit:=by have:=r.dp; omega
theorem fE.units {k:Nat}{A:Around}(r:fE k A):A.units + 64 < cLine:=by have:=r.un; omega
def Hm:TA:=fun _ H Q=>Q [] H
def Qe (ta:TE)(tr:TA):TA:=fun σ H Q=>ta σ H fun x H1=>tr σ H1 fun xs H2=>Q (x :: xs) H2
section
variable {X:Cx}{e:Expr}{es:List Expr}{te:TE}{t:TA}{pos:Pos}
theorem aj:PA X [] Hm:=fun _ _ _ _ H Q I h=>Calls.spliced_nil ⟨[],H,I,.nil,h⟩
theorem aa (ha:PE X e te)(hr:PA X es t)(hs:starEach (e :: es) X.env=(false,eval e X.env) :: starEach es X.env:=by rfl):PA X (e :: es) (Qe te t):=by
 intro pos pins s σ H Q I h
 rw[hs]
 show wpAny _ _ (spliced ((false,eval e X.env) :: backTo pos (starEach es X.env))) _ _ s
 refine Calls.spliced_cons (eh (ha pins s σ H _ I h) fun u s1 ⟨x,H1,I1,r1,q1⟩=>?_)
 exact eh (hr pos pins s1 σ H1 _ I1 q1) fun us s2 ⟨xs,H2,I2,r2,q2⟩=>⟨x :: xs,H2,I2,.cons r1 r2,q2⟩
def Uw (t:TA):TE:=fun σ H Q=>t σ H fun xs H1=>xs.length<=sizeLine/\ ∀p,H1 p=none->Q (.ref p) (upd H1 p (.tup xs))
def Ux (t:TA):TE:=fun σ H Q=>t σ H fun xs H1=>xs.length<=sizeLine/\ ∀p,H1 p=none->Q (.ref p) (upd H1 p (.lst xs))
theorem dD {x1}(h:PA X es t):PE X (.Tuple es x1 pos) (Uw t):=by
 intro pins s σ H Q I hq
 refine wpAny_Tuple_spliced (eh (h pos pins s σ H _ I hq) fun us s1 ⟨xs,H1,I1,r,z,q⟩=>⟨by rw[← r.length]; exact z,?_⟩)
 have hf:H1 s1.heap.objs.size=none:=I1.cK.fresh (aC _)
 refine⟨.ref s1.heap.objs.size,upd H1 s1.heap.objs.size (.tup xs),I1.laid (t':=s1.toks) (fun b u e=>ax _ e) (aC _) ?_,rfl,q _ hf⟩
 exact⟨z,us,r,⟨_,bV _ rfl,rfl,_,rfl⟩⟩
theorem cf (h:PA X es t):PE X (.List es pos) (Ux t):=by
 intro pins s σ H Q I hq
 refine wpAny_List_spliced (eh (h pos pins s σ H _ I hq) fun us s1 ⟨xs,H1,I1,r,z,q⟩=>⟨by rw[← r.length]; exact z,?_⟩)
 have hf:H1 s1.heap.objs.size=none:=I1.cK.fresh (aC _)
 refine⟨.ref s1.heap.objs.size,upd H1 s1.heap.objs.size (.lst xs),I1.laid (t':=s1.toks) (fun b u e=>ax _ e) (aC _) ?_,rfl,q _ hf⟩
 exact⟨z,us,0,r,bV _ rfl⟩
end
abbrev Sp:=List V->Hp->VK->XK->Prop
abbrev E9:=List Env->Hp->Shared->XK->Value->Shared->Prop
structure qh (P:Program)(w:World)(K:PySem.W.Frag)(mg:Str->Option Value)(base:Heap)(A:Around)(outer:List Env)(s:Shared)(H:Hp):Prop where
 frames:A.frames=some outer
 mod:Mod K mg base
 bs: ∀b o,base.get? b=some o->s.heap.get? b=some o/\H b=none
 z7:base.objs.size<=s.heap.objs.size
 lM:s.heap.FunFrames base outer
 Dl: ∀b∈B6 outer,H b=none
 cK:oq P w H s.heap
 bare:AllBare s.gens
def CE (outer:List Env)(P:Program)(w:World)(H:Hp)(s:Shared)(Q:VK)(u:Value)(s':Shared):Prop:=
 ∃v H',s'.os=s.os/\AllBare s'.gens/\Un (B6 outer) [] H H' s.heap s'.heap/\oq P w H' s'.heap/\RelV v u/\Q v H'
def CR (CX:E9)(outer:List Env)(P:Program)(w:World)(H:Hp)(s:Shared)(Q:VK)(E:XK)(r:Result)(s':Shared):Prop:=
 match r with
 | .ok (.ret u)=>CE outer P w H s Q u s'
 | .ok _=>False
 | .error e=>CX outer H s E e s'
structure lP (P:Program)(w:World)(K:PySem.W.Frag)(mg:Str->Option Value)(base:Heap)(CX:E9)(k:Nat)(f:Addr)(fd:FuncData)(ps:List Str)(sp:Sp):Prop where
 len: ∀vs H Q E,sp vs H Q E->vs.length=ps.length
 run: ∀(A:Around) (outer:List Env) (s:Shared) (H:Hp) (args:Args) (us:List Value) (vs:List V) (Q:VK) (E:XK),fE k A->qh P w K mg base A outer s H->BindsTo s fd args (ps.zip us)->Vals vs us->sp vs H Q E->
  codeAny (model P w) A (.call (.ref f) args) (CR CX outer P w H s Q E) s
theorem qh.make {P:Program}{w:World}{K:PySem.W.Frag}{mg:Str->Option Value}{base:Heap}{A:Around}{outer:List Env}{s:Shared}{H:Hp}(e:qh P w K mg base A outer s H)(C:Addr)(us:List Value)(kw:List (Str×Value)):
  qh P w K mg base (A.under (.builtin "type.__call__" ⟨.ref C :: us,kw⟩)) outer s H:=⟨by first|exact e.frames|(simpa[Around.under,Code.envs,Code.isFrame,pushEnvs] using e.frames),e.mod,e.bs,e.z7,e.lM,e.Dl,e.cK,e.bare⟩
theorem qh.in1 {P:Program}{w:World}{K:PySem.W.Frag}{mg:Str->Option Value}{base:Heap}{A:Around}{outer:List Env}{s:Shared}{H:Hp}(e:qh P w K mg base A outer s H):
  qh P w K mg base A.in1 outer s H:=⟨e.frames,e.mod,e.bs,e.z7,e.lM,e.Dl,e.cK,e.bare⟩
section
variable {X:Cx}{pins:List (Addr×Obj)}{σ:St}{H:Hp}{s s':Shared}
theorem Inv.Hn (I:Inv X pins σ H s):qh X.prog X.w X.K X.mg X.base X.A X.stack s H:=
 ⟨I.ok.frames,I.ok.mod,I.bs,a8 I.ok.z7 I.sz,I.stack,I.qd,I.cK,I.bare⟩
theorem Inv.after {Q:VK}{u:Value}(I:Inv X pins σ H s)(h:CE X.stack X.prog X.w H s Q u s'):EP X pins σ Q u s':=by
 obtain⟨v,H',os,bare,un,cK,r,q⟩:=h
 obtain⟨hh,g,d,t,Y9⟩:=s'
 obtain rfl:Y9=s.os:=os
 exact⟨v,H',I.call (h':=hh) (g':=g) (d':=d) (t':=t) (ch:=[]) un cK bare (fun b z=>absurd z (by simp)),r,q⟩
end
def xa (sp:Sp)(um:List V)(E:XK)(t:TA):TE:=fun σ H Q=>t σ H fun vs H1=>sp (vs ++ um) H1 Q E
def L1 (C:Addr)(m:Str)(sp:Sp)(um:List V)(E:XK)(ta:TE)(t:TA):TE:=fun σ H Q=>ta σ H fun x H1=> ∃a dx fs,x= .ref a/\H1 a=some (.ins C dx fs)/\fs.lookup m=none/\
 t σ H1 fun vs H2=>sp (x :: (vs ++ um)) H2 Q E
def Dv (C:Addr)(sp:Sp)(um:List V)(E:XK)(t:TA):TE:=fun σ H Q=>t σ H fun vs H1=> ∀x dx,H1 x=none->H1 dx=none->dx≠x->
 sp (.ref x :: (vs ++ um)) (upd (upd H1 dx (.own x)) x (.ins C dx [])) (fun v H2=>v= .eI/\Q (.ref x) H2) E
def Binds (K:PySem.W.Frag)(fd:FuncData)(ps:List Str)(ds:List Value):Prop:=
 ∀(s:Shared) (us:List Value),K.In s.heap->(us ++ ds).length=ps.length->BindsTo s fd ⟨us,[]⟩ (ps.zip (us ++ ds))
theorem Binds.all {K:PySem.W.Frag}{fd:FuncData}{ps:List Str}(h: ∀us:List Value,us.length=ps.length->bindArgs fd ⟨us,[]⟩=pure (ps.zip us)):Binds K fd ps []:=fun s us _ hl=>by
 rw[b9] at hl ⊢
 exact .of_eq (h us hl)
def Passes (CX:E9)(X:Cx)(E:XK):Prop:= ∀(pins:List (Addr×Obj)) (σ:St) (H:Hp) (s:Shared) (e:Value) (s':Shared),Inv X pins σ H s->CX X.stack H s E e s'->X.xe e s'
section
variable {X:Cx}{CX:E9}{k:Nat}{f C:Addr}{fd:FuncData}{ps:List Str}{sp:Sp}{um:List V}{ds:List Value}{E:XK}{x m:Str}{p pos apos:Pos}{e o:Expr}{es:List Expr}{ta:TE}{t:TA}
theorem yg {pins:List (Addr×Obj)}{σ:St}{H:Hp}{s:Shared}{Q:VK}{us:List Value}{vs:List V}(F:lP X.prog X.w X.K X.mg X.base CX k f fd ps sp)(hr:fE k X.A)(hb:Binds X.K fd ps ds)(hd:Vals um ds)(hx:Passes CX X E)
  (I:Inv X pins σ H s) (r:Vals vs us) (h:sp (vs ++ um) H Q E):wpAny (model X.prog X.w) X.A (call (.ref f) us) (EP X pins σ Q) X.xe s:=by
 have r2:Vals (vs ++ um) (us ++ ds):=r.append hd
 have hl:(us ++ ds).length=ps.length:=by rw[← r2.length]; exact F.len _ _ _ _ h
 refine Dk (BZ (F.run X.A X.stack s H ⟨us,[]⟩ (us ++ ds) (vs ++ um) Q E hr I.Hn (hb s us I.gO hl) r2 h) fun r s' hq=>?_)
 cases r with
 |error e=>exact hx pins σ H s e s' I hq
 |ok fl=>
  cases fl with
  |ret u=>exact I.after hq
  |next=>exact False.elim hq
  |brk=>exact False.elim hq
  |cont=>exact False.elim hq
theorem Dw (F:lP X.prog X.w X.K X.mg X.base CX k f fd ps sp)(hr:fE k X.A)(hg:Gl X x)(hm:X.mg x=some (.ref f))(hk:PySem.W.keepIn X.K (.ref f)=true)(hb:Binds X.K fd ps ds)(hd:Vals um ds)(hx:Passes CX X E)
  (ha:PA X (e :: es) t) (rG:(x == ("__debug__":Str))=false:=by decide) (he:starEach (e :: es) X.env=(false,eval e X.env) :: starEach es X.env:=by rfl) (iL:(backTo pos (starEach es X.env)).any (·.1)=false:=by rfl):
  PE X (.Call (.Name x p) (e :: es) [] pos) (xa sp um E t):=by
 intro pins s σ H Q I h
 refine eL (jv I hg hm ?_ rG)
 refine km (h₀:=X.base) I.ok.mod.J0 hk (eh (ha pos pins s σ H _ I h) fun us s1 ⟨vs,H1,I1,r,q⟩=>⟨I1.gO,?_⟩) he iL
 exact yg F hr hb hd hx I1 r q
theorem Ho (F:lP X.prog X.w X.K X.mg X.base CX k f fd ps sp)(hr:fE k X.A)(hg:Gl X x)(hm:X.mg x=some (.ref f))(hk:PySem.W.keepIn X.K (.ref f)=true)(hb:Binds X.K fd ps ds)(hd:Vals um ds)(hx:Passes CX X E)
  (rG:(x == ("__debug__":Str))=false:=by decide):PE X (.Call (.Name x p) [] [] pos) (xa sp um E Hm):=by
 intro pins s σ H Q I h
 refine eL (jv I hg hm ?_ rG)
 exact zX I.gO hk (yg (us:=[]) F hr hb hd hx I .nil h)
theorem Kg {pl:Sem Bool}(he:PE X o ta)(c:vO X.K C)(hm:Meth X.K C m f)(F:lP X.prog X.w X.K X.mg X.base CX k f fd ps sp)(hr:fE k X.A)(hb:Binds X.K fd ps ds)(hd:Vals um ds)(hx:Passes CX X E)(ha:PA X (e :: es) t)
  (sf:starEach (e :: es) X.env=(false,eval e X.env) :: starEach es X.env:=by rfl) (iL:(backTo pos (starEach es X.env)).any (·.1)=false:=by rfl)
  (ht:eval (.Call (.Attribute o m apos) (e :: es) [] pos) X.env=(do
   let ov ← eval o X.env
   standAt apos.atName
   let(f,first) ← holding [ov] (getMethod ov m pl)
   callWith pos f first (backTo pos (starEach (e :: es) X.env)) (backToKw pos (keywordEach [] X.env))):=by rfl):
  PE X (.Call (.Attribute o m apos) (e :: es) [] pos) (L1 C m sp um E ta t):=by
 intro pins s σ H Q I h
 refine vF (pl:=pl) (eh (he pins s σ H _ I h) fun u s1 ⟨x,H1,I1,rx,a,dx,fs,ex,ea,l,q⟩=>?_) ht
 subst ex
 obtain rfl:u=Value.ref a:=rx
 refine Ce I1 ea c hm l ?_
 refine km (first:=[.ref a]) (h₀:=X.base) I.ok.mod.J0 hm.kp (eh (ha pos pins s1 σ H1 _ I1 q) fun us s2 ⟨vs,H2,I2,r,q2⟩=>⟨I2.gO,?_⟩) sf iL
 exact yg (us:= .ref a :: us) (vs:= .ref a :: vs) F hr hb hd hx I2 (.cons rfl r) q2
structure Mk (K:PySem.W.Frag)(C f:Addr):Prop where
 makes:PySem.W.makesIn K C=true
 init:PySem.W.findIn K (.ref C) "__init__"=some (some (.ref f))
 fn:PySem.W.isFn K (.ref f)=true
 kp:PySem.W.keepIn K (.ref C)=true
theorem Af {pins:List (Addr×Obj)}{σ:St}{H:Hp}{s:Shared}{Q:VK}{us:List Value}{vs:List V}(M:Mk X.K C f)(F:lP X.prog X.w X.K X.mg X.base CX k f fd ps sp)(hr:fE (k + 1) X.A)(hb:Binds X.K fd ps ds)(hd:Vals um ds)
  (hx:Passes CX X E) (I:Inv X pins σ H s) (r:Vals vs us)
  (h: ∀x dx,H x=none->H dx=none->dx≠x->sp (.ref x :: (vs ++ um)) (upd (upd H dx (.own x)) x (.ins C dx [])) (fun v H2=>v= .eI/\Q (.ref x) H2) E):
  wpAny (model X.prog X.w) X.A (call (.ref C) us) (EP X pins σ Q) X.xe s:=by
 have hq:=h (s.heap.objs.size + 1) s.heap.objs.size (I.cK.fresh (dS _)) (I.cK.fresh (aC _)) (bc (fZ _))
 have I2:=Inv.made (C:=C) I
 have r2:Vals (V.ref (s.heap.objs.size + 1) :: (vs ++ um)) (Value.ref (s.heap.objs.size + 1) :: (us ++ ds)):= .cons rfl (r.append hd)
 have hl:(Value.ref (s.heap.objs.size + 1) :: us ++ ds).length=ps.length:=by
  have e:=r2.length
  rw[F.len _ _ _ _ hq] at e
  exact e.symm
 refine Dk (Hl (f:=f) I.gO M.makes M.init (EL.mp M.fn) (BZ (F.run _ X.stack _ _ ⟨Value.ref (s.heap.objs.size + 1) :: us,[]⟩ (Value.ref (s.heap.objs.size + 1) :: (us ++ ds)) _ _ E (hr.make C us [])
  (I2.Hn.make C us []) (hb _ (Value.ref (s.heap.objs.size + 1) :: us) I2.gO hl) r2 hq) fun r s' sk=>?_))
 cases r with
 |error e=>exact hx pins σ _ _ e s' I2 sk
 |ok fl=>
  cases fl with
  |ret u=>
   obtain⟨v,H',I3,rv,ev,q3⟩:=I2.after sk
   subst ev
   exact⟨rv,⟨V.ref (s.heap.objs.size + 1),H',I3,rfl,q3⟩⟩
  |next=>exact False.elim sk
  |brk=>exact False.elim sk
  |cont=>exact False.elim sk
theorem Kh (M:Mk X.K C f)(F:lP X.prog X.w X.K X.mg X.base CX k f fd ps sp)(hr:fE (k + 1) X.A)(hg:Gl X x)(hm:X.mg x=some (.ref C))(hb:Binds X.K fd ps ds)(hd:Vals um ds)(hx:Passes CX X E)
  (ha:PA X (e :: es) t) (rG:(x == ("__debug__":Str))=false:=by decide) (he:starEach (e :: es) X.env=(false,eval e X.env) :: starEach es X.env:=by rfl) (iL:(backTo pos (starEach es X.env)).any (·.1)=false:=by rfl):
  PE X (.Call (.Name x p) (e :: es) [] pos) (Dv C sp um E t):=by
 intro pins s σ H Q I h
 refine eL (jv I hg hm ?_ rG)
 refine km (h₀:=X.base) I.ok.mod.J0 M.kp (eh (ha pos pins s σ H _ I h) fun us s1 ⟨vs,H1,I1,r,q⟩=>⟨I1.gO,?_⟩) he iL
 exact Af M F hr hb hd hx I1 r q
theorem Hq (M:Mk X.K C f)(F:lP X.prog X.w X.K X.mg X.base CX k f fd ps sp)(hr:fE (k + 1) X.A)(hg:Gl X x)(hm:X.mg x=some (.ref C))(hb:Binds X.K fd ps ds)(hd:Vals um ds)(hx:Passes CX X E)
  (rG:(x == ("__debug__":Str))=false:=by decide):PE X (.Call (.Name x p) [] [] pos) (Dv C sp um E Hm):=by
 intro pins s σ H Q I h
 refine eL (jv I hg hm ?_ rG)
 exact zX I.gO M.kp (Af (us:=[]) M F hr hb hd hx I .nil h)
end
section
variable {X:Cx}{CX:E9}{k:Nat}{f C:Addr}{fd:FuncData}{ps ks:List Str}{sp:Sp}{E:XK}{x m:Str}{p pos apos Qf:Pos}{e o:Expr}{es:List Expr}{kws:List Keyword}{te ta:TE}{t tk:TA}{nm:Option Str}
structure Uy (K:PySem.W.Frag)(fd:FuncData)(ps ks:List Str)(g:List Value->List Value->List Value)(gV:List V->List V->List V):Prop where
 to: ∀(s:Shared) (us ws:List Value),K.In s.heap->(g us ws).length=ps.length->BindsTo s fd ⟨us,ks.zip ws⟩ (ps.zip (g us ws))
 rel: ∀{vs:List V} {us:List Value} {zs:List V} {ws:List Value},Vals vs us->Vals zs ws->Vals (gV vs zs) (g us ws)
variable {g:List Value->List Value->List Value}{gV:List V->List V->List V}
end
structure a0 (N P:List Str)(sc:Scope):Prop where
 kind:sc.kind= .function
 co:sc.isCoroutine=false
 gen:sc.isGenerator=false
 nd:N.Nodup
 pre:N.take P.length=P
 par: ∀x∈P,sc.names.lookup x=some .local∨sc.names.lookup x=some .cell
 M0: ∀y∈sc.names,y.2≠ .free
theorem xc {kindOf:Str->Option NameKind}{x:Str}: ∀{binds:List (Str×Value)} {m:Str->Option Value},(∀v,(x,v)∉binds)->bindL kindOf binds m x=m x
 |[],_,_=>rfl
 |(n,v) :: r,m,h=>by
  unfold bindL
  rw[xc fun w hw=>h w (bz _ hw)]
  split
  ·have:x≠n:=by rintro rfl; exact h v bT
   simp[this]
  ·rfl
theorem xg {kindOf:Str->Option NameKind}{x:Str}: ∀{binds:List (Str×Value)} {m:Str->Option Value},(∀v,(x,v)∉binds)->bindC kindOf binds m x=m x
 |[],_,_=>rfl
 |(n,v) :: r,m,h=>by
  unfold bindC
  rw[xg fun w hw=>h w (bz _ hw)]
  split
  ·rfl
  ·have:x≠n:=by rintro rfl; exact h v bT
   simp[this]
theorem xh {kindOf:Str->Option NameKind}{x:Str}{v:Value}: ∀{P:List Str} {vs:List Value} {i:Nat} {m:Str->Option Value},P.Nodup->P[i]? =some x->vs[i]? =some v->kindOf x=some .local->
  bindL kindOf (P.zip vs) m x=some v
 |[],_,_,_,_,h,_,_=>by simp at h
 |_ :: _,[],_,_,_,_,h,_=>by simp at h
 |p :: P,w :: vs,0,m,nd,h1,h2,hk=>by
  simp at h1 h2; subst h1; subst h2
  show bindL kindOf ((p,w) :: P.zip vs) m p=_
  unfold bindL
  rw[xc fun v hv=>(fP.mp nd).1 (og hv).1,bg hk]
  simp
 |p :: P,w :: vs,i + 1,m,nd,h1,h2,hk=>by
  show bindL kindOf ((p,w) :: P.zip vs) m x=_
  unfold bindL
  exact xh (i:=i) (List.nodup_cons.mp nd).2 (by simpa using h1) (by simpa using h2) hk
theorem xi {kindOf:Str->Option NameKind}{x:Str}{v:Value}: ∀{P:List Str} {vs:List Value} {i:Nat} {m:Str->Option Value},P.Nodup->P[i]? =some x->vs[i]? =some v->kindOf x≠some .local->
  bindC kindOf (P.zip vs) m x=some v
 |[],_,_,_,_,h,_,_=>by simp at h
 |_ :: _,[],_,_,_,_,h,_=>by simp at h
 |p :: P,w :: vs,0,m,nd,h1,h2,hk=>by
  simp at h1 h2; subst h1; subst h2
  show bindC kindOf ((p,w) :: P.zip vs) m p=_
  unfold bindC
  rw[xg fun v hv=>(fP.mp nd).1 (og hv).1,aV hk]
  simp
 |p :: P,w :: vs,i + 1,m,nd,h1,h2,hk=>by
  show bindC kindOf ((p,w) :: P.zip vs) m x=_
  unfold bindC
  exact xi (i:=i) (List.nodup_cons.mp nd).2 (by simpa using h1) (by simpa using h2) hk
def start (N:List Str)(vs:List V):St:=vs.map some ++ List.replicate (N.length - vs.length) none
def lQ (CX:E9)(P:Program)(w:World)(K:PySem.W.Frag)(mg:Str->Option Value)(base:Heap)(N:List Str)(qual:Str)(scope:Scope)(f:Addr)(cd:Value)(A:Around)(outer:List Env)(s:Shared)(H:Hp)(E:XK):Cx where
 prog:=P
 w:=w
 K:=K
 mg:=mg
 base:=base
 A:=A.deeper (envOfC qual scope s.heap.objs.size f cd)
 N:=N
 s₀:=s
 H₀:=H
 env:=envOfC qual scope s.heap.objs.size f cd
 outer:=outer
 stack:=envOfC qual scope s.heap.objs.size f cd :: outer
 ex:=[]
 calm:=true
 fn:=fun _=>true
 pn:=[]
 xe:=fun e s'=>wpAny (model P w) (A.deeper (envOfC qual scope s.heap.objs.size f cd)) (leaving (envOfC qual scope s.heap.objs.size f cd) e) (fun _ Dx=>CX outer H s E e Dx) (fun e' Dx=>CX outer H s E e' Dx) s'
theorem Ag {sc:Scope}{n:Nat}{x:Str}(h:sc.names.lookup x=some .cell): ∃c,(cellsFrom n sc.names []).lookup x=some c:=by
 have q:=k6 sc.names n [] (.inl h)
 exact OX.mp q
theorem xj {CX:E9}{P:Program}{w:World}{K:PySem.W.Frag}{mg:Str->Option Value}{base:Heap}{N ps:List Str}{qual:Str}{scope:Scope}{f:Addr}{cd:Value}{A:Around}{outer:List Env}{s s1:Shared}{H:Hp}{E:XK}{us:List Value}{vs:List V}
  (S:a0 N ps scope) (hd:A.handled=none) (e0:qh P w K mg base A outer s H) (hl:vs.length=ps.length) (r:Vals vs us)
  (x:InCallC s s.heap.objs.size (bindL (envOfC qual scope s.heap.objs.size f cd).kindOf (ps.zip us) fun _=>none) (cellsFrom (s.heap.objs.size + 1) scope.names []) (bindC (envOfC qual scope s.heap.objs.size f cd).kindOf (ps.zip us) fun _=>none) s1):
  Inv (lQ CX P w K mg base N qual scope f cd A outer s H E) [] (start N vs) H s1:=by
 have iL:ps.length<=N.length:=by have:=c8 List.length S.pre; rw[bC] at this; omega
 obtain⟨h1,tk,rfl,hk⟩:=x.done
 have Uz: ∀b:Addr,b∉(lQ CX P w K mg base N qual scope f cd A outer s H E).ex:=fun b z=>absurd (show b∈([]:List Addr) from z) (by simp)
 refine⟨⟨e0.mod,S.kind,rfl,rfl,aC _,fun y z c h1 h2=>?_,fun y hy=>?_,fun y c _ h=>?_,fun _=>hd,Around.frames_deeper e0.frames,.inr ⟨rfl,rfl⟩,fun b z=>absurd z (Uz b),e0.bs,e0.z7,fun b _ _=>Uz b,fun b z=>absurd z (Uz b),e0.lM,e0.Dl⟩,
  rfl,e0.bare,Un.kept hk,⟨_,x.toInCall.ns,fun i y v h1 h2 h3=>?_⟩,fun y c h=>⟨_,x.cell y c h⟩,e0.cK.fresh (Nat.le_refl _),fun y c h=>?_,fun p hp=>absurd (show p∈([]:List (Addr×Obj)) from hp) (by simp),e0.cK.kept hk,?_⟩
 ·exact name_of_addr x.apart (cB h1) (cB h2)
 ·have hy:scope.names.lookup y=some .cell∨scope.names.lookup y=some .free:=hy
  rcases hy with hy|hy
  ·exact Ag hy
  ·exact absurd rfl (S.M0 _ (cB hy))
 ·exact dU (x.above y c (cB h))
 ·have hi:i < vs.length:=by
   unfold start at h2
   by_cases hi:i < vs.length
   ·exact hi
   ·rw[List.getElem?_append_right (by simpa using hi)] at h2
    rw[List.getElem?_replicate] at h2
    split at h2 <;> cases h2
  have ha:vs[i]? =some v:=by
   unfold start at h2
   rw[List.getElem?_append_left (by simpa using hi),List.getElem?_map] at h2
   cases e:vs[i]? with
   |none=>rw[e] at h2; cases h2
   |some a=>rw[e] at h2; cases h2; rfl
  obtain⟨u,hu,rv⟩:=r.get ha
  have hp:ps[i]? =some y:=by
   rw[← S.pre,List.getElem?_take_of_lt (by omega)]; exact h1
  have Xd:ps.Nodup:=by rw[← S.pre]; exact S.nd.sublist (List.take_sublist _ _)
  refine⟨u,rv,?_⟩
  rcases S.par y (gE hp) with k|k
  ·exact .inl ⟨k,xh Xd hp hu k⟩
  ·obtain⟨c,e⟩:=Ag (n:=s.heap.objs.size + 1) k
   refine .inr ⟨.inl k,c,e,?_⟩
   have q:=x.cell y c e
   rw[xi Xd hp hu (by show scope.names.lookup y≠_; rw[k]; decide)] at q
   exact q
 ·exact e0.cK.fresh (dU (x.above y c (cB h)))
 ·unfold start
  show _ =N.length
  rw[aK,ae,eY]
  omega
theorem Hr {CX:E9}{P:Program}{w:World}{K:PySem.W.Frag}{mg:Str->Option Value}{base:Heap}{k:Nat}{f:Addr}{name qual:Str}{params:Arguments}{body:List Stmt}{scope:Scope}{dV kV doc pm dh ct oc:Value}{an od:Option Addr}
  {Fb:Array (Option Value)} {N ps:List Str} {sp:Sp} (lk:K.lookup f=some ⟨oc,od,.func (PySem.W.fnOf name qual params body scope dV kV doc pm an dh ct),Fb⟩) (qZ:PySem.W.codeIn K dh qual=true) (S:a0 N ps scope)
  (len: ∀vs H Q E,sp vs H Q E->vs.length=ps.length)
  (gp: ∀(A:Around) (outer:List Env) (s:Shared) (H:Hp) (vs:List V) (Q:VK) (E:XK),fE k (A.deeper (envOfC qual scope s.heap.objs.size f dh))->sp vs H Q E->
   ∃t,pV (lQ CX P w K mg base N qual scope f dh A outer s H E) body t/\t {nx:=fun _ H'=>Q .eI H',rt:=Q} (start N vs) H):
  lP P w K mg base CX (k + 1) f (PySem.W.fnOf name qual params body scope dV kV doc pm an dh ct) ps sp:=by
 refine⟨len,fun A outer s H args us vs Q E hr e0 hb r yh=>?_⟩
 have hl:=len _ _ _ _ yh
 have KX:K.In s.heap:=e0.mod.J0.keeps fun b o e=>(e0.bs b o e).1
 have lim:s.heap.NoLimit:=e0.mod.nolimit.keeps fun b o e=>(e0.bs b o e).1
 have mJ: ∀y∈ps.zip us,scope.names.lookup y.1=some .local∨(scope.names.lookup y.1=some .cell/\((cellsFrom (s.heap.objs.size + 1) scope.names []).lookup y.1).isSome=true):=fun⟨n,v⟩ hy=>by
  rcases S.par n (og hy).1 with q|q
  ·exact .inl q
  ·exact .inr ⟨q,k6 _ _ _ (.inl q)⟩
 refine codeAny_call_function hr.depth (KX _ _ lk) rfl S.co S.gen rfl (PySem.W.codeRec_of KX qZ) (hb _ _ _ _ ?_)
 refine sW S.kind mJ fun env he s1 x=>?_
 subst he
 refine⟨lim.keeps x.toInCall.keep,codeAny_func ?_⟩
 obtain⟨t,ht,hq⟩:=gp A outer s H vs Q E (hr.deeper _) yh
 have I:Inv (lQ CX P w K mg base N qual scope f dh A outer s H E) [] (start N vs) H s1:=xj S hr.hd e0 hl r x
 refine cD (ht [] s1 (start N vs) H _ I hq) (fun fl s' hs=>?_) fun e s' hs=>hs
 have fin: ∀{σ':St} {H':Hp} {v:V} {u:Value},Inv (lQ CX P w K mg base N qual scope f dh A outer s H E) [] σ' H' s'->RelV v u->Q v H'->CE outer P w H s Q u s':=
  fun{σ' H' v u} J rv q=>⟨v,H',J.os,J.bare,J.base,J.cK,rv,q⟩
 cases fl with
 |ret u=>
  obtain⟨v,σ',H',J,rv,q⟩:=hs
  exact fin J rv q
 |next=>
  obtain⟨σ',H',J,q⟩:=hs
  exact fin (v:=V.eI) (u:=Value.none) J rfl q
 |brk=>
  obtain⟨_,_,_,q⟩:=hs
  exact False.elim q
 |cont=>
  obtain⟨_,_,_,q⟩:=hs
  exact False.elim q
section
variable {X:Cx}{x:Str}{p pos:Pos}{e:Expr}{es:List Expr}{t:TA}{id T:String}{r:List V->Hp->VK->Prop}
def Xe (r:List V->Hp->VK->Prop)(t:TA):TE:=fun σ H Q=>t σ H fun vs H1=>r vs H1 Q
theorem bq (hc:je X (.builtin id) r)(hg:Gl X x)(hm:X.mg x=none)(hv:bootBuiltins x=some (.builtin id))(ha:PA X (e :: es) t)(hn:x≠"__name__":=by decide)(rG:(x == ("__debug__":Str))=false:=by decide)
  (he:starEach (e :: es) X.env=(false,eval e X.env) :: starEach es X.env:=by rfl) (iL:(backTo pos (starEach es X.env)).any (·.1)=false:=by rfl):PE X (.Call (.Name x p) (e :: es) [] pos) (Xe r t):=by
 intro pins s σ H Q I h
 refine eL (o6 I hg hm hv ?_ hn rG)
 exact PyProof.Rows.callWith_builtin1 (eh (ha pos pins s σ H _ I h) fun us s1 ⟨vs,H1,I1,r1,q1⟩=>hc pins s1 σ H1 vs us Q I1 r1 q1) he iL
theorem f7 (hc:je X (.type T) r)(hg:Gl X x)(hm:X.mg x=none)(hv:bootBuiltins x=some (.type T))(ha:PA X (e :: es) t)(hn:x≠"__name__":=by decide)(rG:(x == ("__debug__":Str))=false:=by decide)
  (he:starEach (e :: es) X.env=(false,eval e X.env) :: starEach es X.env:=by rfl) (iL:(backTo pos (starEach es X.env)).any (·.1)=false:=by rfl):PE X (.Call (.Name x p) (e :: es) [] pos) (Xe r t):=by
 intro pins s σ H Q I h
 refine eL (o6 I hg hm hv ?_ hn rG)
 exact nZ (eh (ha pos pins s σ H _ I h) fun us s1 ⟨vs,H1,I1,r1,q1⟩=>hc pins s1 σ H1 vs us Q I1 r1 q1) he iL
end
end L2
namespace HT
open PySem PyProof.Rows
def lexLt:List Int->List Int->Bool
 |[],[]=>false
 |[],_ :: _=>true
 |_ :: _,[]=>false
 |x :: xs,y :: ys=>if x=y then lexLt xs ys else decide (x < y)
theorem lR (x y:Int)(xs ys:List Int):lexLt (x :: xs) (y :: ys)=if x=y then lexLt xs ys else decide (x < y):=rfl
section
open PySem.SeqAt
open PySem.AutoSeq1 (wpAny_loadPart')
open PySem.MeetsSeq PySem.MeetsSeq2 PySem.MeetsSeq3
end
section
variable {prog:Program}{w:World}{A:Around}{E:Value->Shared->Prop}{s:Shared}
def Ah (n d:Nat):Option Int->Nat
 |none=>d
 |some v=>if v < 0 then(v + (n:Int)).toNat else min v.toNat n
theorem Hs (n d:Nat):Ah n d none=d:=rfl
theorem yi (n d k:Nat):Ah n d (some (k:Int))=min k n:=by
 show(if(k:Int) < 0 then((k:Int) + (n:Int)).toNat else min (k:Int).toNat n)=min k n
 rw[aV (by omega),dX]
end
end HT
namespace L2
open PySem PySem.Spec PyProof.Rows
abbrev TO:=St->Hp->(Option Int->Hp->Prop)->Prop
def PO (X:Cx)(e:Option Expr)(t:TO):Prop:=
 ∀(pins:List (Addr×Obj)) (s:Shared) (σ:St) (H:Hp) (Q:Option Int->Hp->Prop),Inv X pins σ H s->t σ H Q->
  wpAny (model X.prog X.w) X.A (evalPart e X.env) (fun u s'=> ∃o H',Inv X pins σ H' s'/\IsPart u o/\Q o H') X.xe s
def Ki:TO:=fun _ H Q=>Q none H
def Qg (t:TE):TO:=fun σ H Q=>t σ H fun x H1=> ∃i,x= .int i/\Q (some i) H1
theorem intsAre_of {ns:List Int}: ∀{us:List Value},Vals (ns.map V.int) us->IntsAre us ns:=by
 induction ns with
 |nil=>intro us r; rw[vG] at r; cases r; exact .nil
 |cons n ns ih=>
  intro us r
  rw[di] at r
  cases r with
  |cons r1 r2=>
   obtain⟨t,e⟩:=r1
   subst e
   exact .cons n t (ih r2)
section
variable {X:Cx}{e:Expr}{te:TE}{lo hi:Option Expr}{tl th:TO}{pos p2:Pos}
theorem yj:PO X none Ki:=by
 intro pins s σ H Q I h
 rw[evalPart_none]
 exact bM ⟨none,H,I,.none,h⟩
theorem qj (h:PE X e te):PO X (some e) (Qg te):=by
 intro pins s σ H Q I hw
 rw[evalPart_some]
 refine eh (h pins s σ H _ I hw) fun u s1 ⟨x,H1,I1,r1,q1⟩=>?_
 obtain⟨i,rfl,q⟩:=q1
 obtain⟨t,rfl⟩:=r1
 exact⟨some i,H1,I1,.int i t,q⟩
def O5 (X:Cx)(r:V->Option Int->Option Int->Hp->VK->Prop):Prop:=
 ∀(pins:List (Addr×Obj)) (s:Shared) (σ:St) (H:Hp) (x:V) (v vl vu:Value) (lo hi:Option Int) (sl:Addr) (Q:VK),Inv X pins σ H s->RelV x v->s.heap.IsSliceOf sl vl vu .none->IsPart vl lo->IsPart vu hi->r x lo hi H Q->
  ∃T id,typeLookup (.type T) "__getitem__"=pure (some (.builtin id))/\s.TypeIs v T/\wpAny (model X.prog X.w) X.A (getItem v (.ref sl)) (EP X pins σ Q) X.xe s
def Za (r:V->Option Int->Option Int->Hp->VK->Prop)(te:TE)(tl th:TO):TE:=fun σ H Q=>te σ H fun x H1=>tl σ H1 fun l H2=>th σ H2 fun u H3=>r x l u H3 Q
theorem qk {r:V->Option Int->Option Int->Hp->VK->Prop}(hr:O5 X r)(he:PE X e te)(hl:PO X lo tl)(hu:PO X hi th):PE X (.Subscript e (.Slice lo hi none p2) pos) (Za r te tl th):=by
 intro pins s σ H Q I h
 refine Subscript_ (eh (he pins s σ H _ I h) fun v s1 ⟨x,H1,I1,r1,q1⟩=>?_)
 refine wpAny_Slice (eh (hl pins s1 σ H1 _ I1 q1) fun vl s2 ⟨l,H2,I2,pl,q2⟩=>eh (hu pins s2 σ H2 _ I2 q2) fun vu s3 ⟨u,H3,I3,pu,q3⟩=>?_)
 rw[evalPart_none]
 refine bM ?_
 have I4:Inv X pins σ H3 {s3 with heap:=s3.heap.push {cls:= .type "slice",data:= .fields #[vl,vu,.none]}}:=I3.kept (t':=s3.toks) fun b ob q=>ax _ q
 obtain⟨T,id,hT,ht,hg⟩:=hr pins {s3 with heap:=s3.heap.push {cls:= .type "slice",data:= .fields #[vl,vu,.none]}} σ H3 x v vl vu l u s3.heap.objs.size Q I4 r1 (Heap.IsSliceOf.new ..) pl pu q3
 show wpAny (model X.prog X.w) X.A (subscriptTail e (.Slice lo hi none p2) v (.ref s3.heap.objs.size)) (EP X pins σ Q) X.xe {s3 with heap:=s3.heap.push {cls:= .type "slice",data:= .fields #[vl,vu,.none]}}
 exact tail_any (ops:=[.ref s3.heap.objs.size,v]) ht hT hg (by with_unfolding_all rfl)
def ql (xs:List V)(lo hi:Option Int):List V:=(xs.drop (HT.Ah xs.length 0 lo)).take (HT.Ah xs.length xs.length hi - HT.Ah xs.length 0 lo)
theorem Ai (xs:List V)(lo hi:Option Int):(ql xs lo hi).length<=xs.length:=by
 unfold ql
 rw[bC,mr]
 omega
end
def Kj (n:Nat)(i:Int):Option Nat:=if 0<=i then(if i < n then some i.toNat else none) else if -(n:Int)<=i then some (i + n).toNat else none
def q0 {α:Type}(xs:List α)(i:Int):Option α:=(Kj xs.length i).bind fun j=>xs[j]?
theorem Dy {n:Nat}{i:Int}{j:Nat}(h:Kj n i=some j):seqIndex? i n=some j/\j < n/\ -(n:Int)<=i/\i < n:=by
 unfold Kj at h
 by_cases h0:0<=i
 ·rw[bg h0] at h
  by_cases h1:i < n
  ·rw[bg h1] at h
   have e:i.toNat=j:=aF h
   exact⟨by rw[seqIndex_of h0 h1,e],by omega,by omega,h1⟩
  ·rw[aV h1] at h; cases h
 ·rw[aV h0] at h
  by_cases h1: -(n:Int)<=i
  ·rw[bg h1] at h
   have e:(i + n).toNat=j:=aF h
   exact⟨by rw[seqIndex_neg (by omega) h1,e],by omega,h1,by omega⟩
  ·rw[aV h1] at h; cases h
theorem Dz {α:Type}{xs:List α}{i:Int}{v:α}(h:q0 xs i=some v): ∃j,seqIndex? i xs.length=some j/\xs[j]? =some v/\j < xs.length/\ -(xs.length:Int)<=i/\i < xs.length:=by
 unfold q0 at h
 cases e:Kj xs.length i with
 |none=>rw[e] at h; cases h
 |some j=>
  rw[e] at h
  obtain⟨h1,h2,h3,h4⟩:=Dy e
  exact⟨j,h1,h,h2,h3,h4⟩
theorem cO {α:Type}{xs:List α}{j:Nat}{v:α}(h:xs[j]? =some v):q0 xs (j:Int)=some v:=by
 have hj:j < xs.length:=(av.mp h).1
 have e:Kj xs.length (j:Int)=some j:=by
  unfold Kj
  rw[if_pos (by omega),if_pos (by omega)]; simp
 unfold q0; rw[e]; exact h
def Kk (b:Expr):Prop:= ∀o i,subscripted b false o i=operate [o,i] (getItem o i)
def JI (X:Cx)(r:R2):Prop:=
 ∀(value slice:Expr) (pins:List (Addr×Obj)) (s:Shared) (σ:St) (H:Hp) (x y:V) (v u:Value) (Q:VK),Inv X pins σ H s->RelV x v->RelV y u->r x y H Q->
  subscripted slice false v u=operate [v,u] (getItem v u)->wpAny (model X.prog X.w) X.A (subscriptTail value slice v u) (EP X pins σ Q) X.xe s
def Xf (X:Cx)(id:String)(r:V->List V->Hp->VK->Prop):Prop:=
 ∀(pins:List (Addr×Obj)) (s:Shared) (σ:St) (H:Hp) (x:V) (xs:List V) (v:Value) (us:List Value) (Q:VK),Inv X pins σ H s->RelV x v->Vals xs us->r x xs H Q->
  wpAny (model X.prog X.w) X.A (call (.builtin id) (v :: us)) (EP X pins σ Q) X.xe s
section
variable {X:Cx}{a b:Expr}{ta tb:TE}{pos:Pos}
theorem aJ {r:R2}(hr:JI X r)(ha:PE X a ta)(hb:PE X b tb)(hs:Kk b):PE X (.Subscript a b pos) (SW r ta tb):=by
 intro pins s σ H Q I h
 exact Subscript_ (MX ha hb I h fun v u s2 x y H2 I2 rx ry q=>hr a b pins s2 σ H2 x y v u Q I2 rx ry q (hs _ _))
def Qh (K:PySem.W.Frag):R2:=fun x y H Q=> ∃p xs i v,x= .ref p/\y= .int i/\bP K H p xs/\q0 xs i=some v/\Q v H
def Qi (K:PySem.W.Frag):R2:=fun x y H Q=> ∃p xs i v,x= .ref p/\y= .int i/\cG K H p xs/\q0 xs i=some v/\Q v H
theorem a6:JI X (Qh X.K):=by
 intro value slice pins s σ H x y v u Q I rx ry h hs
 obtain⟨p,xs,i,z,rfl,rfl,hq,he,q⟩:=h
 cases rx
 obtain⟨t,rfl⟩:=ry
 obtain⟨cy,r,pl,hz⟩:=I.list hq
 obtain⟨j,h1,h2,h3,h4,h5⟩:=Dz he
 obtain⟨w,ew,Fc⟩:=r.get h2
 have hl:=r.length
 have hn:=yf
 have fin:EP X pins σ Q w s:=⟨z,H,I,Fc,q⟩
 by_cases h0:0<=i
 ·have hj:i.toNat=j:=by
   rw[seqIndex_of h0 h5] at h1
   exact aF h1
  exact item_listR pl.isList h0 (by omega) (by rw[hj]; simpa using ew) fin hs
 ·have hj:(i + (cy.toArray.size:Int)).toNat=j:=by
   rw[seqIndex_neg (by omega) h4] at h1
   rw[bJ,← hl]
   exact aF h1
  exact subscriptTail_builtinR (x:=w) pl.isList.typeIs slot_list_getitem.lookup
   (wpAny_getItem_list_neg (Q:=fun r s'=>r=w/\EP X pins σ Q r s') pl.isList (by omega) (by rw[List.size_toArray] <;> omega) (by omega) (by rw[hj]; simpa using ew) ⟨rfl,fin⟩) hs
theorem bb:JI X (Qi X.K):=by
 intro value slice pins s σ H x y v u Q I rx ry h hs
 obtain⟨p,xs,i,z,rfl,rfl,hq,he,q⟩:=h
 cases rx
 obtain⟨t,rfl⟩:=ry
 obtain⟨cy,r,pl,hz⟩:=I.tuple hq
 obtain⟨j,h1,h2,h3,h4,h5⟩:=Dz he
 obtain⟨w,ew,Fc⟩:=r.get h2
 have hl:=r.length
 have hn:=yf
 have fin:EP X pins σ Q w s:=⟨z,H,I,Fc,q⟩
 exact subscriptTail_builtinR (x:=w) pl.typeIs slot_tuple_getitem.lookup
  (getItem_tuple (j:=j) (Q:=fun r s'=>r=w/\EP X pins σ Q r s') pl (by omega) (by omega) (by rw[List.size_toArray,← hl]; exact h1) (by simpa using ew) ⟨rfl,fin⟩) hs
theorem Cg (cy:List Value)(n j:Nat)(u:Value):Obj.mapSeq (·.setIfInBounds j u) {cls:= .type "list",data:= .seq cy.toArray n}={cls:= .type "list",data:= .seq (cy.set j u).toArray n}:=by
 simp[Obj.mapSeq]
theorem Inv.lst {pins:List (Addr×Obj)}{σ:St}{H:Hp}{s:Shared}{p:Addr}{xs:List V}(I:Inv X pins σ H s)(h:H p=some (.lst xs)):
  ∃(cy:List Value) (n:Nat),Vals xs cy/\s.heap.get? p=some {cls:= .type "list",data:= .seq cy.toArray n}/\xs.length<=sizeLine:=by
 obtain⟨z,cy,n,r,e⟩:=I.cK p _ h
 exact⟨cy,n,r,e,z⟩
theorem Inv.M3 {pins:List (Addr×Obj)}{σ:St}{H:Hp}{s:Shared}{p:Addr}{xs ys:List V}{cy qe:List Value}{n n':Nat}{f:Obj->Obj}(I:Inv X pins σ H s)(h:H p=some (.lst xs))
  (ho:s.heap.get? p=some {cls:= .type "list",data:= .seq cy.toArray n}) (hf:f {cls:= .type "list",data:= .seq cy.toArray n}={cls:= .type "list",data:= .seq qe.toArray n'}) (r:Vals ys qe) (hz:ys.length<=sizeLine) (t:Nat):
  Inv X pins σ (upd H p (.lst ys)) {s with heap:=s.heap.update p f,toks:=t}:=by
 have e:(s.heap.update p f).get? p=some {cls:= .type "list",data:= .seq qe.toArray n'}:=by
  rw[B0 f ho (by rw[hf] <;> rfl),hf]
 refine I.write (x:=p) (e:=p) (by rw[h]; trivial) (.inl rfl) (fun b u hb q=>(mD _ _ (vE hb)).trans q) ⟨_,e⟩ ?_
 exact⟨hz,qe,n',r,e⟩
def Qj:V->V->V->Hp->(Hp->Prop)->Prop:=fun o i v H Q=> ∃p xs k j,o= .ref p/\i= .int k/\H p=some (.lst xs)/\Kj xs.length k=some j/\Q (upd H p (.lst (xs.set j v)))
theorem set_list:P2 X Qj:=by
 intro pins s σ H o i v ov iv u Q I ro ri rv h
 obtain⟨p,xs,k,j,rfl,rfl,hp,hj,q⟩:=h
 cases ro
 obtain⟨t,rfl⟩:=ri
 obtain⟨cy,n,r,ho,hz⟩:=I.lst hp
 obtain⟨h1,h2,h3,h4⟩:=Dy hj
 have hl:=r.length
 have hn:=yf
 have I':Inv X pins σ (upd H p (.lst (xs.set j v))) {s with heap:=s.heap.update p (Obj.mapSeq (·.setIfInBounds j u))}:=
  I.M3 hp ho (Cg cy n j u) (r.set rv j) (by rw[eA]; exact hz) s.toks
 by_cases h0:0<=k
 ·have hk:k.toNat=j:=by
   rw[seqIndex_of h0 h4] at h1
   exact aF h1
  exact PySem.W.ki_setAt ho h0 (by omega) (by rw[bJ,← hl]; exact h4) (by rw[hk]; exact⟨_,I',q⟩)
 ·have hk:(k + (cy.toArray.size:Int)).toNat=j:=by
   rw[seqIndex_neg (by omega) h3] at h1
   rw[bJ,← hl]
   exact aF h1
  exact PySem.W.ki_setBack ho (by omega) (by rw[bJ,← hl]; exact h3) (by omega) (by rw[hk]; exact⟨_,I',q⟩)
theorem yk (lo hi:Option Int)(n:Nat):(sliceBounds lo hi none n).1=((HT.Ah n 0 lo:Nat):Int)/\(sliceBounds lo hi none n).2.1=((HT.Ah n n hi:Nat):Int)/\(sliceBounds lo hi none n).2.2=1:=by
 refine⟨?_,?_,rfl⟩
 ·cases lo with
  |none=>simp[sliceBounds,HT.Ah]
  |some i=>
   simp only[sliceBounds,HT.Ah,Option.getD_none,show(1:Int) > 0 by decide,if_true]
   by_cases h:i < 0
   ·simp only[h,if_true] <;> omega
   ·simp only[h,if_false] <;> omega
 ·cases hi with
  |none=>simp[sliceBounds,HT.Ah]
  |some i=>
   simp only[sliceBounds,HT.Ah,Option.getD_none,show(1:Int) > 0 by decide,if_true]
   by_cases h:i < 0
   ·simp only[h,if_true] <;> omega
   ·simp only[h,if_false] <;> omega
theorem vP (cy:List Value)(lo hi:Option Int):slicePick cy.toArray lo hi none=((cy.drop (HT.Ah cy.length 0 lo)).take (HT.Ah cy.length cy.length hi - HT.Ah cy.length 0 lo)).toArray:=by
 obtain⟨h1,h2,h3⟩:=yk lo hi cy.toArray.size
 unfold slicePick
 rw[h1,h2,h3]
 simp only[sliceRange_one,pick_run,List.size_toArray] <;> rfl
def UA (K:PySem.W.Frag):V->Option Int->Option Int->Hp->VK->Prop:=fun x lo hi H Q=> ∃a xs,x= .ref a/\bP K H a xs/\ ∀p,H p=none->Q (.ref p) (upd H p (.lst (ql xs lo hi)))
theorem tT:O5 X (UA X.K):=by
 intro pins s σ H x v vl vu lo hi sl Q I rx hs pl pu h
 obtain⟨a,xs,rfl,hx,q⟩:=h
 cases rx
 obtain⟨cy,r,ht,hz⟩:=I.list hx
 have hlen:=r.length
 refine⟨"list",_,slot_list_getitem.lookup,ht.isList.typeIs,?_⟩
 refine wpAny_getItem_list_slice ht.isList hs pl pu .none (by simp) ?_ (by rw[List.size_toArray] <;> omega)
 rw[vP,← hlen]
 refine⟨.ref s.heap.objs.size,_,I.laid (t':=s.toks) (o:= .lst (ql xs lo hi)) (fun b ob q=>ax _ q) (aC _) ?_,rfl,q _ (I.cK.fresh (aC _))⟩
 exact⟨a8 (Ai xs lo hi) hz,_,0,(r.drop (HT.Ah xs.length 0 lo)).take (HT.Ah xs.length xs.length hi - HT.Ah xs.length 0 lo),bV _ rfl⟩
def sm:V->Bool
 | .eI=>true
 | .bl _=>true
 | .int _=>true
 | .str _=>true
 |_=>false
def Kl:V->V->Bool
 | .eI,.eI=>true
 | .bl a,.bl b=>a == b
 | .bl a,.int b=>(if a then 1 else 0) == b
 | .int a,.bl b=>a == (if b then 1 else 0)
 | .int a,.int b=>a == b
 | .str a,.str b=>a == b
 |_,_=>false
theorem M4 {A:Around}{s:Shared}{y x:V}{u v:Value}(ry:RelV y u)(rx:RelV x v)(fy:sm y=true)(fx:sm x=true):SeqAt.EqAt A s u v (Kl y x):=by
 cases y with
 |eI=>
  cases ry
  cases x with
  |eI=>cases rx; exact SeqAt.EqAt.same _
  |bl b=>cases rx; exact SeqAt.EqAt.none_bool b
  |int b=>obtain⟨t,rfl⟩:=rx; exact SeqAt.EqAt.none_int b t
  |str b=>obtain⟨t,rfl⟩:=rx; exact SeqAt.EqAt.none_str b t
  |_=>exact absurd (show false=true from fx) aY
 |bl a=>
  cases ry
  cases x with
  |eI=>cases rx; exact SeqAt.EqAt.bool_none a
  |bl b=>cases rx; exact SeqAt.EqAt.bool_bool a b
  |int b=>obtain⟨t,rfl⟩:=rx; exact SeqAt.EqAt.bool_int a b t
  |str b=>obtain⟨t,rfl⟩:=rx; exact SeqAt.EqAt.bool_str a b t
  |_=>exact absurd (show false=true from fx) aY
 |int a=>
  obtain⟨t',rfl⟩:=ry
  cases x with
  |eI=>cases rx; exact SeqAt.EqAt.int_none a t'
  |bl b=>cases rx; exact SeqAt.EqAt.int_bool a t' b
  |int b=>obtain⟨t,rfl⟩:=rx; exact SeqAt.EqAt.int_int a t' b t
  |str b=>obtain⟨t,rfl⟩:=rx; exact SeqAt.EqAt.int_str a t' b t
  |_=>exact absurd (show false=true from fx) aY
 |str a=>
  obtain⟨t',rfl⟩:=ry
  cases x with
  |eI=>cases rx; exact SeqAt.EqAt.str_none a t'
  |bl b=>cases rx; exact SeqAt.EqAt.str_bool a t' b
  |int b=>obtain⟨t,rfl⟩:=rx; exact SeqAt.EqAt.str_int a t' b t
  |str b=>obtain⟨t,rfl⟩:=rx; exact SeqAt.EqAt.str_str a t' b t
  |_=>exact absurd (show false=true from fx) aY
 |_=>exact absurd (show false=true from fy) aY
def Ci (x:V)(u:Value):Bool:=match u with
 | .none=>Kl .eI x
 | .bool b=>Kl (.bl b) x
 | .int i _=>Kl (.int i) x
 | .str z _=>Kl (.str z) x
 |_=>false
theorem Ht {x y:V}{u:Value}(r:RelV y u)(f:sm y=true):Ci x u=Kl y x:=by
 cases y with
 |eI=>cases r; rfl
 |bl b=>cases r; rfl
 |int i=>obtain⟨t,rfl⟩:=r; rfl
 |str z=>obtain⟨t,rfl⟩:=r; rfl
 |_=>exact absurd (show false=true from f) aY
theorem qm {x:V}: ∀{xs:List V} {us:List Value},Vals xs us->xs.all sm=true->us.any (Ci x)=xs.any fun y=>Kl y x
 |_,_,.nil,_=>rfl
 |y :: xs,u :: us,.cons r t,f=>by
  rw[List.all_cons,G3] at f
  rw[sX,sX,Ht r f.1,qm t f.2]
theorem mK {A:Around}{s:Shared}{x:V}{v:Value}(rx:RelV x v)(fx:sm x=true): ∀{xs:List V} {us:List Value},Vals xs us->xs.all sm=true-> ∀u∈us,SeqAt.EqAt A s u v (Ci x u)
 |_,_,.nil,_=>fun u hu=>by cases hu
 |y :: xs,u :: us,.cons r t,f=>fun u' hu=>by
  rw[List.all_cons,G3] at f
  rcases aw.mp hu with rfl|hu
  ·rw[Ht r f.1]; exact M4 r rx f.1 fx
  ·exact mK rx fx t f.2 u' hu
def vQ (x:V)(xs:List V):Bool:=xs.any fun y=>Kl y x
def Xg (K:PySem.W.Frag)(neg:Bool):R2:=fun x y H Q=> ∃p xs,y= .ref p/\(bP K H p xs∨cG K H p xs)/\sm x=true/\xs.all sm=true/\Q (.bl (if neg then !vQ x xs else vQ x xs)) H
theorem nS:oF X (compareOp .In) (Xg X.K false):=by
 intro pins s σ H x y v u Q I rx ry h
 obtain⟨p,xs,rfl,hq,fx,fs,q⟩:=h
 cases ry
 rcases hq with hq|hq
 ·obtain⟨cy,r,pl,hz⟩:=I.list hq
  refine SeqAt.in_listAt (Ci x) pl.isList (fun w hw=>mK rx fx r fs w (by simpa using hw)) ⟨.bl _,H,I,rfl,?_⟩
  rw[show cy.toArray.any (Ci x)=cy.any (Ci x) by simp,qm r fs]
  exact q
 ·obtain⟨cy,r,pl,hz⟩:=I.tuple hq
  refine SeqAt.in_tupleAt (Ci x) pl (fun w hw=>mK rx fx r fs w (by simpa using hw)) ⟨.bl _,H,I,rfl,?_⟩
  rw[show cy.toArray.any (Ci x)=cy.any (Ci x) by simp,qm r fs]
  exact q
theorem yl:oF X (compareOp .NotIn) (Xg X.K true):=by
 intro pins s σ H x y v u Q I rx ry h
 obtain⟨p,xs,rfl,hq,fx,fs,q⟩:=h
 cases ry
 rcases hq with hq|hq
 ·obtain⟨cy,r,pl,hz⟩:=I.list hq
  refine SeqAt.notIn_listAt (Ci x) pl.isList (fun w hw=>mK rx fx r fs w (by simpa using hw)) ⟨.bl _,H,I,rfl,?_⟩
  rw[show cy.toArray.any (Ci x)=cy.any (Ci x) by simp,qm r fs]
  exact q
 ·obtain⟨cy,r,pl,hz⟩:=I.tuple hq
  refine SeqAt.notIn_tupleAt (Ci x) pl (fun w hw=>mK rx fx r fs w (by simpa using hw)) ⟨.bl _,H,I,rfl,?_⟩
  rw[show cy.toArray.any (Ci x)=cy.any (Ci x) by simp,qm r fs]
  exact q
theorem bp:je X (.builtin "len") (fun xs H Q=> ∃p ys,xs=[.ref p]/\(bP X.K H p ys∨cG X.K H p ys)/\Q (.int ys.length) H):=by
 intro pins s σ H xs us Q I r h
 obtain⟨p,ys,rfl,hq,q⟩:=h
 obtain⟨u,rfl,rx⟩:=vals1 r
 cases rx
 have hn:=yf
 rcases hq with hq|hq
 ·obtain⟨cy,r',pl,hz⟩:=I.list hq
  have hlen:=r'.length
  exact Calls.call_len_list pl.isList (by simp only[List.size_toArray] <;> omega) ⟨.int ys.length,H,I.tok _,⟨s.toks + 1,by rw[List.size_toArray,hlen]⟩,q⟩
 ·obtain⟨cy,r',pl,hz⟩:=I.tuple hq
  have hlen:=r'.length
  exact len_tuple pl (by simp only[List.size_toArray] <;> omega) ⟨.int ys.length,H,I.tok _,⟨s.toks + 1,by rw[List.size_toArray,hlen]⟩,q⟩
theorem qo:je X (.type "list") (fun xs H Q=> ∃p ys,xs=[.ref p]/\(bP X.K H p ys∨cG X.K H p ys)/\ ∀l,H l=none->Q (.ref l) (upd H l (.lst ys))):=by
 intro pins s σ H xs us Q I r h
 obtain⟨p,ys,rfl,hq,q⟩:=h
 obtain⟨u,rfl,rx⟩:=vals1 r
 cases rx
 have fin: ∀(cy:List Value),Vals ys cy->ys.length<=sizeLine-> ∀(h':Heap) (c':Nat),(∀b o',s.heap.get? b=some o'->h'.get? b=some o')->
   h'.get? s.heap.objs.size=some {cls:= .type "list",dict:=none,data:= .seq cy.toArray c',slots:= #[]}->EP X pins σ Q (.ref s.heap.objs.size) {s with heap:=h'}:=fun cy r' hz h' c' kp e=>
  ⟨.ref s.heap.objs.size,_,I.laid (t':=s.toks) kp (aC _) (show dJ X.prog X.w _ h' _ (.lst ys) from⟨hz,cy,c',r',e⟩),rfl,q _ (I.cK.fresh (aC _))⟩
 rcases hq with hq|hq
 ·obtain⟨cy,r',pl,hz⟩:=I.list hq
  have hlen:=r'.length
  obtain⟨o,ho,hc,n,hd⟩:=pl.isList
  exact call_list_seq p (.inl rfl) ho hc hd (fun h' c' kp e=>fin cy r' hz h' c' kp e) (by simp only[List.size_toArray] <;> omega)
 ·obtain⟨cy,r',pl,hz⟩:=I.tuple hq
  have hlen:=r'.length
  obtain⟨o,ho,hc,n,hd⟩:=pl
  exact call_list_seq p (.inr rfl) ho hc hd (fun h' c' kp e=>fin cy r' hz h' c' kp e) (by simp only[List.size_toArray] <;> omega)
theorem vR:je X (.type "tuple") (fun xs H Q=> ∃p ys,xs=[.ref p]/\((bP X.K H p ys/\ ∀l,H l=none->Q (.ref l) (upd H l (.tup ys)))∨(cG X.K H p ys/\Q (.ref p) H))):=by
 intro pins s σ H xs us Q I r h
 obtain⟨p,ys,rfl,h⟩:=h
 obtain⟨u,rfl,rx⟩:=vals1 r
 cases rx
 rcases h with⟨hq,q⟩|⟨hq,q⟩
 ·obtain⟨cy,r',pl,hz⟩:=I.list hq
  have hlen:=r'.length
  refine call_tuple_list pl.isList (fun h' kp=>?_) (by simp only[List.size_toArray] <;> omega)
  have I1:Inv X pins σ H {s with heap:=h'}:=I.kept (t':=s.toks) kp
  have I2:Inv X pins σ (upd H h'.objs.size (.tup ys)) {s with heap:=h'.push {cls:= .type "tuple",data:= .seq cy.toArray}}:=
   I1.laid (t':=s.toks) (fun b o e=>ax _ e) (aC _) (show dJ X.prog X.w _ _ _ (.tup ys) from⟨hz,cy,r',IsTup.new _ _⟩)
  exact⟨.ref h'.objs.size,_,I2,rfl,q _ (I1.cK.fresh (aC _))⟩
 ·obtain⟨cy,r',pl,hz⟩:=I.tuple hq
  exact call_tuple_same pl ⟨.ref p,H,I,rfl,q⟩
def UB (K:PySem.W.Frag)(T:String)(x:V)(H:Hp):Prop:=match x with
 | .str _=>T="str"
 | .int _=>T="int"
 | .ref p=>(T="list"/\ ∃xs,bP K H p xs)∨(T="tuple"/\ ∃o,K.lookup p=some o/\o.cls= .type "tuple"/\o.dict=none)∨
   (T="dict"/\((∃br,H p=some (.dK br))∨ ∃br,H p=some (.dT br)))∨(T="set"/\ ∃S n,H p=some (.set S n))
 |_=>False
theorem Hu {pins:List (Addr×Obj)}{σ:St}{H:Hp}{s:Shared}{T:String}{x:V}{v:Value}(I:Inv X pins σ H s)(r:RelV x v)(ty:UB X.K T x H):
  s.TypeIs v T/\ ∀a,v= .ref a-> ∃ob,s.heap.get? a=some ob/\ob.dict=none:=by
 cases x with
 |str z=>
  obtain⟨t,rfl⟩:=r
  cases(show T="str" from ty)
  exact⟨typeIs_str s z t,fun _ e=>nomatch e⟩
 |int i=>
  obtain⟨t,rfl⟩:=r
  cases(show T="int" from ty)
  exact⟨typeIs_int s i t,fun _ e=>nomatch e⟩
 |ref p=>
  cases r
  rcases ty with⟨rfl,xs,hq⟩|⟨rfl,o,hk,hc,hd⟩|⟨rfl,hk⟩|⟨rfl,S,n,hk⟩
  ·obtain⟨cy,_,pl,_⟩:=I.list hq
   refine⟨pl.isList.typeIs,fun a e=>?_⟩
   cases e
   obtain⟨o,n,e,c,hd,_⟩:=pl
   exact⟨o,e,hd⟩
  ·refine⟨⟨o,I.gO p o hk,hc⟩,fun a e=>?_⟩
   cases e
   exact⟨o,I.gO _ o hk,hd⟩
  ·have z: ∃o,s.heap.get? p=some o/\o.ExactDict:=by
    rcases hk with⟨br,hk⟩|⟨br,hk⟩
    ·obtain⟨_,_,_,_,o,_,_,e,ex,_⟩:=I.cK p _ hk
     exact⟨o,e,ex⟩
    ·obtain⟨_,_,_,_,o,_,_,e,ex,_⟩:=I.cK p _ hk
     exact⟨o,e,ex⟩
   obtain⟨o,e,ex⟩:=z
   refine⟨⟨o,e,ex.1⟩,fun a e2=>?_⟩
   cases e2
   exact⟨o,e,ex.2.1⟩
  ·obtain⟨o,_,_,_,e,ex,_⟩:=I.cK p _ hk
   refine⟨⟨o,e,ex.1⟩,fun a e2=>?_⟩
   cases e2
   exact⟨o,e,ex.2.1⟩
 |_=>exact False.elim ty
def UC (K:PySem.W.Frag)(T:String)(r:V->List V->Hp->VK->Prop)(to:TE):TE:=fun σ H Q=>to σ H fun x H1=>UB K T x H1/\r x [] H1 Q
def Zb (K:PySem.W.Frag)(T:String)(r:V->List V->Hp->VK->Prop)(to:TE)(t:TA):TE:=fun σ H Q=>to σ H fun x H1=>UB K T x H1/\t σ H1 fun xs H2=>r x xs H2 Q
variable {o e:Expr}{es:List Expr}{to:TE}{t:TA}{name:Str}{apos gP:Pos}{T id:String}{r:V->List V->Hp->VK->Prop}
theorem M5 (pa:PlainAttrs T)(slot:Slot T name id)(SY:typeOf (.builtin id)=pure (.type "method_descriptor"))(hm:Xf X id r)(ho:PE X o to)
  (uo:attributeBase o name X.env (eval o X.env)=eval o X.env:=by rfl) (Aj:(apos.endLine == gP.line)=true:=by rfl):PE X (.Call (.Attribute o name apos) [] [] gP) (UC X.K T r to):=by
 intro pins s σ H Q I h
 refine wpAny_Call_method0_late uo Aj (eh (ho pins s σ H _ I h) fun v s1 ⟨x,H1,I1,r1,ty,q1⟩=>?_)
 obtain⟨h1,h2⟩:=Hu I1 r1 ty
 exact⟨T,id,pa,slot,SY,h1,h2,iT rfl (PySem.evalArgs_none (hm pins s1 σ H1 x [] v [] Q I1 r1 .nil q1))⟩
theorem fz (pa:PlainAttrs T)(slot:Slot T name id)(SY:typeOf (.builtin id)=pure (.type "method_descriptor"))(hm:Xf X id r)(ho:PE X o to)(ha:PA X (e :: es) t)
  (uo:attributeBase o name X.env (eval o X.env)=eval o X.env:=by rfl)
  (UD:((backTo gP (starEach (e :: es) X.env)).all (fun x=> !x.1) && (backToKw gP (keywordEach [] X.env)).all (fun x=>x.1.isSome)
   && decide ((e :: es).length + ([]:List Keyword).length + (if([]:List Keyword).isEmpty then 0 else 1) < 30))=true:=by rfl)
  (Aj:(apos.endLine == gP.line)=true:=by rfl) (hs:starEach (e :: es) X.env=(false,eval e X.env) :: starEach es X.env:=by rfl) (Cj:(backTo gP (starEach es X.env)).any (·.1)=false:=by rfl):
  PE X (.Call (.Attribute o name apos) (e :: es) [] gP) (Zb X.K T r to t):=by
 intro pins s σ H Q I h
 refine wpAny_Call_method_late uo UD Aj rfl (eh (ho pins s σ H _ I h) fun v s1 ⟨x,H1,I1,r1,ty,q1⟩=>?_)
 obtain⟨h1,h2⟩:=Hu I1 r1 ty
 refine⟨T,id,pa,slot,SY,h1,h2,?_⟩
 have hA:=ha gP pins s1 σ H1 _ I1 q1
 rw[hs] at hA ⊢
 refine iT (by show(false || (backTo gP (starEach es X.env)).any (·.1))=false; rw[Cj] <;> rfl) (EM ?_)
 exact eh hA fun us s2 ⟨vs,H2,I2,r2,q2⟩=>hm pins s2 σ H2 x vs v us Q I2 r1 r2 q2
end
def Xh (X:Cx)(id:String)(r:V->List V->Hp->VK->Prop):Prop:=
 ∀(pins:List (Addr×Obj)) (s:Shared) (σ:St) (H:Hp) (x:V) (xs:List V) (v:Value) (us:List Value) (Q:VK),Inv X pins σ H s->RelV x v->Vals xs us->r x xs H Q->
  wpAny (model X.prog X.w) X.A (call (.builtin id) (v :: us)) (EP X pins σ Q) X.xe s
theorem Vals.one: ∀{x:V} {us:List Value},Vals [x] us-> ∃u,us=[u]/\RelV x u
 |_,_,.cons r .nil=>⟨_,rfl,r⟩
theorem Vals.zero: ∀{us:List Value},Vals [] us->us=[]
 |_,.nil=>rfl
theorem Vals.dropLast {xs:List V}{us:List Value}(h:Vals xs us):Vals xs.dropLast us.dropLast:=by
 induction h with
 |nil=>exact .nil
 |cons r t ih=>
  cases t with
  |nil=>exact .nil
  |cons q t'=>exact .cons r ih
theorem Vals.rep {xs:List V}{us:List Value}(h:Vals xs us): ∀k:Nat,Vals (List.replicate k xs).flatten (List.replicate k us).flatten
 |0=> .nil
 |k + 1=>by
  rw[dz,dz,iU,iU]
  exact Vals.append h (Vals.rep h k)
theorem Ck {α:Type}(l:List α):l.eraseIdx (l.length - 1)=l.dropLast:=by
 induction l with
 |nil=>rfl
 |cons a r ih=>
  cases r with
  |nil=>rfl
  |cons b r=>
   have e:(a :: b :: r).length - 1=((b :: r).length - 1) + 1:=by
    have h1:(a :: b :: r).length=r.length + 2:=rfl
    have h2:(b :: r).length=r.length + 1:=rfl
    omega
   rw[e,List.eraseIdx_cons_succ,ih]
   all_goals rfl
theorem foldl_rep (cy:List Value): ∀(k:Nat) (acc:List Value),
  List.foldl (fun x1 x2=>x1 ++ x2) acc.toArray (List.replicate k cy.toArray)=(acc ++ (List.replicate k cy).flatten).toArray
 |0,acc=>by simp
 |k + 1,acc=>by
  have e:acc.toArray ++ cy.toArray=(acc ++ cy).toArray:=by simp
  have e2:(acc ++ cy) ++ (List.replicate k cy).flatten=acc ++ (List.replicate (k + 1) cy).flatten:=by
   rw[dz,iU,gF]
  rw[← e2,← foldl_rep cy k (acc ++ cy),← e,dz,fQ]
section
variable {X:Cx}{pins:List (Addr×Obj)}{σ:St}{H:Hp}{s:Shared}{l b:Addr}{xs ys zs:List V}
theorem Inv.Qk {cy qe:List Value}{n:Nat}{f:Array Value->Array Value}{t':Nat}(I:Inv X pins σ H s)(hH:H l=some (.lst xs))
  (e:s.heap.get? l=some {cls:= .type "list",data:= .seq cy.toArray n}) (hf:f cy.toArray=qe.toArray) (hv:Vals ys qe) (hz:ys.length<=sizeLine):
  Inv X pins σ (upd H l (.lst ys)) {s with heap:=s.heap.update l (Obj.mapSeq f),toks:=t'}:=by
 have q:=PySem.IsL.update e f
 rw[hf] at q
 refine I.write (x:=l) (e:=l) (by rw[hH]; exact trivial) (.inl rfl) (fun b' u hb hu=>(mD s.heap (Obj.mapSeq f) (vE hb)).trans hu) ⟨_,q⟩ ?_
 exact⟨hz,qe,_,hv,q⟩
theorem Inv.M6 {cy:List Value}{t':Nat}(I:Inv X pins σ H s)(hv:Vals ys cy)(hz:ys.length<=sizeLine):
  Inv X pins σ (upd H s.heap.objs.size (.lst ys)) {s with heap:=s.heap.push {cls:= .type "list",data:= .seq cy.toArray},toks:=t'}:=
 I.laid (fun _ _ q=>ax _ q) (aC _) ⟨hz,cy,0,hv,bV _ rfl⟩
theorem Inv.fresh (I:Inv X pins σ H s):H s.heap.objs.size=none:=I.cK.fresh (aC _)
theorem Inv.Hv (I:Inv X pins σ H s)(hH:H l=some (.lst xs)):xs.length<=sizeLine/\ ∃(cy:List Value) (n:Nat),Vals xs cy/\xs.length=cy.length/\s.heap.get? l=some {cls:= .type "list",data:= .seq cy.toArray n}:=by
 obtain⟨z,cy,n,r,e⟩:=I.cK l _ hH
 exact⟨z,cy,n,r,r.length,e⟩
theorem Hw {n:Nat}(h:n<=sizeLine):Builtin.List.listTooLong n=false:=by
 unfold Builtin.List.listTooLong
 exact bA (by omega)
end
section
variable {X:Cx}
def Km:V->List V->Hp->VK->Prop:=fun x vs H Q=> ∃l xs y,x= .ref l/\vs=[y]/\H l=some (.lst xs)/\xs.length < sizeLine/\Q .eI (upd H l (.lst (xs ++ [y])))
theorem b0:Xh X "list.append" Km:=by
 intro pins s σ H x vs v us Q I rx rv h
 obtain⟨l,xs,y,rfl,rfl,hH,hz,q⟩:=h
 cases rx
 obtain⟨u,rfl,ru⟩:=rv.one
 obtain⟨z,cy,n,r,hl,e⟩:=I.Hv hH
 refine call_meets aG ⟨_,e,rfl⟩ F.entry_list_append (F.args_list_append_2 _ _) (PySem.list_append l cy.toArray n u (by rw[bJ]; omega)) ⟨e,?_⟩
 refine⟨.eI,_,I.Qk (qe:=cy ++ [u]) hH e (by simp) (r.append (.cons ru .nil)) ?_,rfl,q⟩
 rw[aK,List.length_singleton]
 omega
def UE:V->List V->Hp->VK->Prop:=fun x vs H Q=> ∃l xs y,x= .ref l/\vs=[]/\H l=some (.lst xs)/\xs[xs.length - 1]? =some y/\Q y (upd H l (.lst xs.dropLast))
theorem M7:Xh X "list.pop" UE:=by
 intro pins s σ H x vs v us Q I rx rv h
 obtain⟨l,xs,y,rfl,rfl,hH,hy,q⟩:=h
 cases rx
 have Ql:=rv.zero
 subst Ql
 obtain⟨z,cy,n,r,hl,e⟩:=I.Hv hH
 obtain⟨u,hu,ru⟩:=r.get hy
 have Zc:cy.toArray[cy.toArray.size - 1]? =some u:=by
  show cy.toArray[cy.length - 1]? =some u
  rw[← Array.getElem?_toList,← hl]
  exact hu
 refine call_meets F.slot_list_pop ⟨_,e,rfl⟩ F.entry_list_pop (F.args_list_pop_1 _) (MeetsSeq.list_pop_last l cy.toArray n u Zc (by rw[bJ]; omega)) ⟨e,?_⟩
 refine⟨y,_,I.Qk (qe:=cy.dropLast) hH e ?_ r.dropLast ?_,ru,q⟩
 ·show cy.toArray.eraseIdxIfInBounds (cy.toArray.size - 1)=cy.dropLast.toArray
  rw[bJ,List.eraseIdxIfInBounds_toArray,Ck]
 ·rw[List.length_dropLast]
  omega
def Qm:R2:=fun x y H Q=> ∃l b xs zs,x= .ref l/\y= .ref b/\H l=some (.lst xs)/\H b=some (.lst zs)/\xs.length + zs.length<=sizeLine/\ ∀p,H p=none->Q (.ref p) (upd H p (.lst (xs ++ zs)))
theorem pj:oF X (binaryOp .Add) Qm:=by
 intro pins s σ H x y v u Q I rx ry h
 obtain⟨l,b,xs,zs,rfl,rfl,hH,hB,hz,q⟩:=h
 cases rx
 cases ry
 obtain⟨z,cy,n,r,hl,e⟩:=I.Hv hH
 obtain⟨z2,Fd,n2,r2,hl2,e2⟩:=I.Hv hB
 refine PySem.P.add_list e e2 ?_ (by rw[bJ,bJ]; omega)
 have ea:cy.toArray ++ Fd.toArray=(cy ++ Fd).toArray:=by simp
 rw[ea]
 exact⟨.ref _,_,I.M6 (t':=s.toks) (r.append r2) (by rw[aK]; omega),rfl,q _ I.fresh⟩
def Qn:R2:=fun x y H Q=> ∃l k xs,x= .ref l/\y= .int k/\H l=some (.lst xs)/\ -(2 ^ 63)<=k/\k < 2 ^ 63/\xs.length * k.toNat<=sizeLine/\
 ∀p,H p=none->Q (.ref p) (upd H p (.lst (List.replicate k.toNat xs).flatten))
theorem len_rep {α:Type}(xs:List α)(k:Nat):(List.replicate k xs).flatten.length=k * xs.length:=by
 induction k with
 |zero=>simp
 |succ k ih=>rw[dz,iU,aK,ih,vH,Nat.add_comm]
theorem ym:oF X (binaryOp .Mult) Qn:=by
 intro pins s σ H x y v u Q I rx ry h
 obtain⟨l,k,xs,rfl,rfl,hH,h1,h2,hz,q⟩:=h
 cases rx
 obtain⟨t,rfl⟩:=ry
 obtain⟨z,cy,n,r,hl,e⟩:=I.Hv hH
 have hlen:cy.toArray.size * k.toNat<=sizeLine:=by rw[bJ,← hl]; exact hz
 have UG: ¬ cy.toArray.size * k.toNat > (2 ^ 63 - 1) / 8:=by
  have:(sizeLine:Nat)<=(2 ^ 63 - 1) / 8:=by decide
  omega
 have UH: ¬ (!Builtin.List.listFitsIndex k)=true:=by
  rw[fitsIndex_both h1 h2]
  exact aY
 have Qo: ¬ Builtin.List.listTooLong (cy.toArray.size * k.toNat)=true:=by
  rw[Hw hlen]
  exact aY
 have UI:List.foldl (fun x1 x2=>x1 ++ x2) #[] (List.replicate (if cy.toArray.isEmpty=true then 0 else k.toNat) cy.toArray)=(List.replicate k.toNat cy).flatten.toArray:=by
  have f0: ∀m:Nat,List.foldl (fun x1 x2=>x1 ++ x2) #[] (List.replicate m cy.toArray)=(List.replicate m cy).flatten.toArray:=fun m=>by
   have:=foldl_rep cy m []
   rw[List.nil_append] at this
   exact this
  rw[f0]
  cases cy with
  |nil=>simp
  |cons a r'=>rw[if_neg (by simp)]
 refine wpAny_binaryOp_repeat_ref (T:="list") (U:="int") (by decide) ⟨_,e,rfl⟩ (fun s'=>typeIs_int s' k t) noFill_list_mul F.fills_int_mul F.slot_int_rmul repeat_list F.slot_int_index.lookup
  (call_meets F.slot_int_rmul (typeIs_int s k t) F.entry_int_rmul (F.args_int_rmul_2 _ _) (int___rmul___int_list k t l cy.toArray n)
   ⟨e,rfl,⟨_,e,rfl⟩,call_meets F.slot_list_mul ⟨_,e,rfl⟩ F.entry_list_mul (F.args_list_mul_2 _ _) (AutoListH.list___mul___list_int_3 l cy.toArray n k t UH UG Qo) ⟨e,?_⟩⟩)
 rw[UI]
 exact⟨.ref _,_,I.M6 (t':=s.toks) (r.rep k.toNat) (by rw[len_rep,Nat.mul_comm]; exact hz),rfl,q _ I.fresh⟩
end
section
variable {prog:Program}{w:World}{A:Around}{E:Value->Shared->Prop}{s:Shared}
end
section
variable {X:Cx}
end
section
variable {κ:Type}[DecidableEq κ]
def gi (br:List (κ×V))(k:κ):Option V:=(br.find? fun kv=>decide (kv.1=k)).map (·.2)
def putK (br:List (κ×V))(k:κ)(v:V):List (κ×V):=
 if(br.any fun kv=>decide (kv.1=k))=true then br.map (fun kv=>if kv.1=k then(kv.1,v) else kv) else br ++ [(k,v)]
def k9 (br:List (κ×V))(k:κ):List (κ×V):=br.filter fun kv=>decide (kv.1≠k)
theorem fL {p:κ×V}{r:List (κ×V)}{k:κ}(e:p.1=k):gi (p :: r) k=some p.2:=by simp[gi,List.find?_cons,e]
theorem fA {p:κ×V}{r:List (κ×V)}{k:κ}(e: ¬ p.1=k):gi (p :: r) k=gi r k:=by simp[gi,List.find?_cons,e]
theorem mL (k:κ): ∀br:List (κ×V),(br.any fun kv=>decide (kv.1=k))=(gi br k).isSome
 |[]=>rfl
 |p :: r=>by
  rw[sX]
  by_cases e:p.1=k
  ·simp only[fL e,decide_eq_true e,Bool.true_or,Option.isSome_some]
  ·rw[fA e,bA e,Bool.false_or]; exact mL k r
theorem Ak (k j:κ)(y:V): ∀br:List (κ×V),gi (br.map fun kv=>if kv.1=k then(kv.1,y) else kv) j=(gi br j).map fun x=>if j=k then y else x
 |[]=>rfl
 |p :: r=>by
  have ih:=Ak k j y r
  rw[di]
  by_cases h:p.1=k
  ·rw[bg h]
   by_cases e:p.1=j
   ·rw[fL (p:=(p.1,y)) e,fL e,oh,bg (e.symm.trans h)]
   ·rw[fA (p:=(p.1,y)) e,fA e,ih]
  ·rw[aV h]
   by_cases e:p.1=j
   ·rw[fL (p:=p) e,fL e,oh,aV (fun z=>h (e.trans z))]
   ·rw[fA (p:=p) e,fA e,ih]
theorem xk (k j:κ)(y:V): ∀br:List (κ×V),gi br k=none->gi (br ++ [(k,y)]) j=if j=k then some y else gi br j
 |[],_=>by
  by_cases e:k=j
  ·rw[bg e.symm]; exact fL (p:=(k,y)) e
  ·rw[aV (fun z=>e z.symm)]; exact fA (p:=(k,y)) e
 |p :: r,hn=>by
  rw[List.cons_append]
  have hk: ¬ p.1=k:=fun z=>by rw[fL z] at hn; cases hn
  rw[fA hk] at hn
  have ih:=xk k j y r hn
  by_cases e:p.1=j
  ·rw[fL e,fL e,aV (fun z=>hk (e.trans z))]
  ·rw[fA e,fA e,ih]
theorem Hx (br:List (κ×V))(k j:κ)(y:V):gi (putK br k y) j=if j=k then some y else gi br j:=by
 unfold putK
 by_cases a:(br.any fun kv=>decide (kv.1=k))=true
 ·rw[bg a,Ak]
  rw[mL] at a
  by_cases e:j=k
  ·obtain⟨x,hx⟩:=OX.mp a
   rw[bg e,e,hx,oh,bg rfl]
  ·rw[aV e]
   cases gi br j with
   |none=>rfl
   |some x=>rw[oh,aV e]
 ·rw[aV a]
  refine xk k j y br ?_
  rw[mL] at a
  cases q:gi br k with
  |none=>rfl
  |some x=>rw[q] at a; exact(a rfl).elim
theorem kA (br:List (κ×V))(k:κ)(v:V):(putK br k v).length<=br.length + 1:=by
 unfold putK
 split
 ·rw[ae]; omega
 ·rw[aK,cz,vI]; omega
theorem Hy {br:List (κ×V)}{k:κ}(v:V)(h:gi br k=none):putK br k v=br ++ [(k,v)]:=by
 unfold putK
 rw[mL,h]
 exact aV (by decide)
theorem k7.lg {o:Option V}{u:Option Value}(r:k7 o u):o.isSome=u.isSome:=by
 cases o with
 |none=>cases u with
  |none=>rfl
  |some _=>exact(show False from r).elim
 |some _=>cases u with
  |none=>exact(show False from r).elim
  |some _=>rfl
theorem KV.val {br:List (κ×V)}{vs:List (κ×Value)}(r:KV br vs)(k:κ):k7 (gi br k) (valueAt vs k):=by
 unfold KV at r
 induction r with
 |nil=>exact True.intro
 | @cons p q ps qs h t ih=>
  obtain⟨h1,h2⟩:=h
  by_cases e:p.1=k
  ·have e':q.1=k:=h1.symm.trans e
   have b:valueAt (q :: qs) k=some q.2:=by simp[valueAt,List.find?_cons,e']
   rw[fL e,b]; exact h2
  ·have e': ¬ q.1=k:=fun z=>e (h1.trans z)
   have b:valueAt (q :: qs) k=valueAt qs k:=by simp[valueAt,List.find?_cons,e']
   rw[fA e,b]; exact ih
theorem KV.any {br:List (κ×V)}{vs:List (κ×Value)}(r:KV br vs)(k:κ):(br.any fun kv=>decide (kv.1=k))=vs.any fun kv=>decide (kv.1=k):=by
 unfold KV at r
 induction r with
 |nil=>rfl
 |cons h t ih=>rw[sX,sX,ih,h.1]
theorem KV.M8 {br:List (κ×V)}{vs:List (κ×Value)}(r:KV br vs)(k:κ){y:V}{u:Value}(ry:RelV y u):
  KV (br.map fun kv=>if kv.1=k then(kv.1,y) else kv) (vs.map fun kv=>if kv.1=k then(kv.1,u) else kv):=by
 unfold KV at r ⊢
 induction r with
 |nil=>exact .nil
 | @cons p q ps qs h t ih=>
  rw[di,di]
  refine .cons ?_ ih
  obtain⟨h1,h2⟩:=h
  by_cases e:p.1=k
  ·rw[bg e,bg (h1.symm.trans e)]; exact⟨h1,ry⟩
  ·rw[aV e,aV (fun z=>e (h1.trans z))]; exact⟨h1,h2⟩
theorem KV.put {br:List (κ×V)}{vs:List (κ×Value)}(r:KV br vs)(k:κ){y:V}{u:Value}(ry:RelV y u):KV (putK br k y) (stored vs k u):=by
 unfold putK stored
 rw[r.any k]
 by_cases e:(vs.any fun kv=>decide (kv.1=k))=true
 ·rw[bg e,bg e]; exact r.M8 k ry
 ·rw[aV e,aV e]; exact cQ r ⟨rfl,ry⟩
theorem KV.drop {br:List (κ×V)}{vs:List (κ×Value)}(r:KV br vs)(k:κ):KV (k9 br k) (without vs k):=by
 unfold KV at r ⊢
 unfold k9 without
 induction r with
 |nil=>exact .nil
 | @cons p q ps qs h t ih=>
  obtain⟨h1,h2⟩:=h
  rw[List.filter_cons,List.filter_cons]
  by_cases e:p.1=k
  ·have a: ¬ decide (p.1≠k)=true:=by simp[e]
   have b: ¬ decide (q.1≠k)=true:=by simp[h1.symm.trans e]
   rw[aV a,aV b]; exact ih
  ·have e': ¬ q.1=k:=fun z=>e (h1.trans z)
   have a:decide (p.1≠k)=true:=by simp[e]
   have b:decide (q.1≠k)=true:=by simp[e']
   rw[bg a,bg b]; exact .cons ⟨h1,h2⟩ ih
theorem KV.length {br:List (κ×V)}{vs:List (κ×Value)}(r:KV br vs):br.length=vs.length:=aQ r
theorem HA (br:List (κ×V))(k:κ):(k9 br k).length<=br.length:=a7 _ _
end
theorem uq {P:Program}{w:World}{k:Key}{u:Value}(r:RelV (kV k) u):(dZ P w).is k u=true:=by
 cases k with
 |inl i=>obtain⟨t,e⟩:=(show ∃t,u=Value.int i t from r); subst e; exact z5 P w i t
 |inr x=>obtain⟨t,e⟩:=(show ∃t,u=Value.str x t from r); subst e; exact z6 P w x t
theorem xl {P:Program}{w:World}: ∀{ks:List Key} {us:List Value},Vals (ks.map kV) us->ItemsAre (dZ P w) ks us
 |[],_,r=>by rw[vG] at r; cases r; exact .nil
 |k :: ks,_,r=>by
  rw[di] at r
  cases r with
  |cons h t=>exact .cons (uq h) (xl t)
abbrev KT (H:Hp):List (List Key×V)->List (List Key×Addr×Value)->Prop:=Paired fun p q=>p.1=q.1/\H q.2.1=some (.tup (p.1.map kV))/\RelV p.2 q.2.2
theorem KT.val {H:Hp}{br:List (List Key×V)}{xs:List (List Key×Addr×Value)}(r:KT H br xs)(k:List Key):k7 (gi br k) ((atKey xs k).map (·.2)):=by
 induction r with
 |nil=>exact True.intro
 | @cons p q ps qs h t ih=>
  obtain⟨h1,_,h2⟩:=h
  by_cases e:p.1=k
  ·have e':q.1=k:=h1.symm.trans e
   have b:atKey (q :: qs) k=some q.2:=by simp[atKey,List.find?_cons,e']
   rw[fL e,b]; exact h2
  ·have e': ¬ q.1=k:=fun z=>e (h1.trans z)
   have b:atKey (q :: qs) k=atKey qs k:=by simp[atKey,List.find?_cons,e']
   rw[fA e,b]; exact ih
theorem KT.M8 {H:Hp}{br:List (List Key×V)}{xs:List (List Key×Addr×Value)}(r:KT H br xs)(k:List Key){y:V}{u:Value}(ry:RelV y u):
  KT H (br.map fun kv=>if kv.1=k then(kv.1,y) else kv) (xs.map (putAt k u)):=by
 induction r with
 |nil=>exact .nil
 | @cons p q ps qs h t ih=>
  rw[di,di]
  refine .cons ?_ ih
  obtain⟨h1,h2,h3⟩:=h
  unfold putAt
  by_cases e:p.1=k
  ·rw[bg e,bg (h1.symm.trans e)]; exact⟨h1,h2,ry⟩
  ·rw[aV e,aV (fun z=>e (h1.trans z))]; exact⟨h1,h2,h3⟩
theorem KT.put {H:Hp}{br:List (List Key×V)}{xs:List (List Key×Addr×Value)}(r:KT H br xs)(k:List Key){b:Addr}{y:V}{u:Value}(hb:H b=some (.tup (k.map kV)))(ry:RelV y u):
  KT H (putK br k y) (storedH xs k b u):=by
 have e:(br.any fun kv=>decide (kv.1=k))=(atKey xs k).isSome:=by
  rw[mL,(r.val k).lg,EN]
 unfold putK storedH
 rw[e]
 by_cases q:(atKey xs k).isSome=true
 ·rw[bg q,bg q]; exact r.M8 k ry
 ·rw[aV q,aV q]; exact cQ r ⟨rfl,hb,ry⟩
theorem KT.keeps {H H':Hp}{br:List (List Key×V)}{xs:List (List Key×Addr×Value)}(r:KT H br xs)(ht: ∀b ys,H b=some (.tup ys)->H' b=some (.tup ys)):KT H' br xs:=
 Paired.ir r fun _ _ z=>⟨z.1,ht _ _ z.2.1,z.2.2⟩
section
variable {P:Program}{w:World}{H:Hp}{h:Heap}{a:Addr}
theorem L3 {u:HO}(ok:oq P w H h)(e:Rd H a u):dJ P w H h a u:=e.ok ok
theorem ur {br:List (Key×V)}(ok:oq P w H h)(e:Rd H a (.dK br)):br.length<=sizeLine/\(a == sysModules)=false/\ ∃vs,KV br vs/\h.DictOf (dZ P w) a vs:=
 show dJ P w H h a (.dK br) from L3 ok e
theorem DA {br:List (Key×V)}(ok:oq P w H h)(e:H a=some (.dK br)):br.length<=sizeLine/\(a == sysModules)=false/\ ∃vs,KV br vs/\h.DictOf (dZ P w) a vs:=ur ok (.inl e)
theorem uu {ks:List Key}(ok:oq P w H h)(e:H a=some (.tup (ks.map kV))):(tupleKind (dZ P w)).is h ks a:=by
 obtain⟨_,cy,r,o,h1,h2,n,h3⟩:=(show dJ P w H h a (.tup (ks.map kV)) from ok a _ e)
 exact⟨o,cy.toArray,n,h1,h2,h3,by simpa using xl r⟩
theorem xm {br:List (List Key×V)}(ok:oq P w H h)(e:Rd H a (.dT br)):br.length<=sizeLine/\(a == sysModules)=false/\
  ∃xs,KT H br xs/\h.DictOfH (tupleKind (dZ P w)) a xs:=by
 obtain⟨z,y,xs,r,o,es,ep,h1,h2,h3,h4,h5⟩:=(show dJ P w H h a (.dT br) from L3 ok e)
 refine⟨z,y,xs,r,o,es,ep,h1,h2,h3,h4,fun x hx=>?_,h5⟩
 have all: ∀{l:List (List Key×V)} {m:List (List Key×Addr×Value)},KT H l m-> ∀x∈m,(tupleKind (dZ P w)).is h x.1 x.2.1:=by
  intro l m q
  induction q with
  |nil=>intro x hx; exact nomatch hx
  | @cons p q ps qs hq t ih=>
   intro x hx
   rcases aw.mp hx with e|hx
   ·subst e
    exact uu ok (by rw[← hq.1]; exact hq.2.1)
   ·exact ih x hx
 exact all r x hx
theorem Qp {br:List (List Key×V)}(ok:oq P w H h)(e:H a=some (.dT br)):br.length<=sizeLine/\(a == sysModules)=false/\
  ∃xs,KT H br xs/\h.DictOfH (tupleKind (dZ P w)) a xs:=xm ok (.inl e)
end
def mx (H:Hp)(a:Addr)(y:V)(r:Option V):Prop:=
 (∃br k,Rd H a (.dK br)/\y=kV k/\r=gi br k)∨ ∃br k b,Rd H a (.dT br)/\y= .ref b/\H b=some (.tup (k.map kV))/\r=gi br k
def Fe (H:Hp)(a:Addr)(y v:V)(H':Hp):Prop:=
 (∃br k,H a=some (.dK br)/\y=kV k/\br.length < sizeLine/\H'=upd H a (.dK (putK br k v)))∨
 ∃br k b,H a=some (.dT br)/\y= .ref b/\H b=some (.tup (k.map kV))/\br.length < sizeLine/\H'=upd H a (.dT (putK br k v))
theorem mx.k {H:Hp}{a:Addr}{br:List (Key×V)}{k:Key}(e:H a=some (.dK br)):mx H a (kV k) (gi br k):= .inl ⟨br,k,.inl e,rfl,rfl⟩
theorem Fe.k {H:Hp}{a:Addr}{br:List (Key×V)}{k:Key}{v:V}(e:H a=some (.dK br))(hl:br.length < sizeLine):Fe H a (kV k) v (upd H a (.dK (putK br k v))):= .inl ⟨br,k,e,rfl,hl,rfl⟩
section
variable {X:Cx}{pins:List (Addr×Obj)}{σ:St}{H:Hp}{s:Shared}{a:Addr}{y v:V}{u r:Value}{o:Option V}{A:Around}{E:Value->Shared->Prop}
theorem Inv.big (I:Inv X pins σ H s):sysModules < s.heap.objs.size:=by
 have h:mainGlobals < s.heap.objs.size:=(I.mod.glob.keeps I.bk).lt
 exact Nat.lt_trans (by decide) h
theorem Ff {Q:Value->Shared->Prop}(hu:A.units + 1 < cLine)(I:Inv X pins σ H s)(g:mx H a y (some v))(ry:RelV y u)(h: ∀w' s',Inv X pins σ H s'->RelV v w'->Q w' s'):
  wpAny (model X.prog X.w) A (getItem (.ref a) u) Q E s:=by
 rcases g with⟨br,k,e,ey,l⟩|⟨br,k,b,e,ey,eb,l⟩
 ·subst ey
  obtain⟨z,hd,vs,rel,dd⟩:=ur I.cK e
  obtain⟨w',hw,Fc⟩:=k7.some_of (v:=v) (o:=valueAt vs k) (by rw[l]; exact rel.val k)
  exact wpAny_getItem_of (uq ry) dd.mapOf hw (h w' _ (I.tok _) Fc)
 ·subst ey
  cases(show u=Value.ref b from ry)
  obtain⟨z,hd,xs,rel,dd⟩:=xm I.cK e
  obtain⟨w',hw,Fc⟩:=k7.some_of (v:=v) (o:=(atKey xs k).map (·.2)) (by rw[l]; exact rel.val k)
  obtain⟨p,hp,sZ⟩:=bG.mp hw
  refine wpAny_getItem_heap (tR hu) (uu I.cK eb) dd hp ?_
  rw[sZ]
  exact h w' _ (I.tok _) Fc
theorem UJ {Q:Value->Shared->Prop}(hu:A.units + 1 < cLine)(I:Inv X pins σ H s)(g:mx H a y o)(ry:RelV y u)(h: ∀s',Inv X pins σ H s'->Q (.bool o.isSome) s'):
  wpAny (model X.prog X.w) A (compareOp .In u (.ref a)) Q E s:=by
 rcases g with⟨br,k,e,ey,l⟩|⟨br,k,b,e,ey,eb,l⟩
 ·subst ey
  obtain⟨z,hd,vs,rel,dd⟩:=ur I.cK e
  refine wpAny_in_of (uq ry) hd dd.mapOf ?_
  rw[← (rel.val k).lg,← l]
  exact h _ (I.tok _)
 ·subst ey
  cases(show u=Value.ref b from ry)
  obtain⟨z,hd,xs,rel,dd⟩:=xm I.cK e
  refine wpAny_in_heap (tR hu) (uu I.cK eb) hd dd ?_
  have q:=(rel.val k).lg
  rw[EN] at q
  rw[← q,← l]
  exact h _ (I.tok _)
theorem Kn {Q:Value->Shared->Prop}(hu:A.units + 1 < cLine)(I:Inv X pins σ H s)(g:mx H a y o)(ry:RelV y u)(h: ∀s',Inv X pins σ H s'->Q (.bool (!o.isSome)) s'):
  wpAny (model X.prog X.w) A (compareOp .NotIn u (.ref a)) Q E s:=by
 rcases g with⟨br,k,e,ey,l⟩|⟨br,k,b,e,ey,eb,l⟩
 ·subst ey
  obtain⟨z,hd,vs,rel,dd⟩:=ur I.cK e
  refine wpAny_notIn_of (uq ry) hd dd.mapOf ?_
  rw[← (rel.val k).lg,← l]
  exact h _ (I.tok _)
 ·subst ey
  cases(show u=Value.ref b from ry)
  obtain⟨z,hd,xs,rel,dd⟩:=xm I.cK e
  refine wpAny_notIn_heap (tR hu) (uu I.cK eb) hd dd ?_
  have q:=(rel.val k).lg
  rw[EN] at q
  rw[← q,← l]
  exact h _ (I.tok _)
theorem tU {h':Heap}{t':Nat}{ob:HO}(I:Inv X pins σ H s)(mu:PJ (H a))(hs:Heap.SameBut a s.heap h')(he: ∃q,h'.get? a=some q)(new:dJ X.prog X.w (upd H a ob) h' a ob):
  Inv X pins σ (upd H a ob) {s with heap:=h',toks:=t'}:=
 I.write (x:=a) (e:=a) mu (.inl rfl) (fun b q hb z=>(hs.2 b hb).trans z) he new
theorem yn {P:Program}{w:World}{H':Hp}{h':Heap}{br:List (Key×V)}{vs:List (Key×Value)}(z:br.length<=sizeLine)(hd:(a == sysModules)=false)(rel:KV br vs)(dd:h'.DictOf (dZ P w) a vs):
  dJ P w H' h' a (.dK br):=⟨z,hd,vs,rel,dd⟩
theorem Fg {H':Hp}{Q:Unit->Shared->Prop}(hu:A.units + 1 < cLine)(I:Inv X pins σ H s)(g:Fe H a y v H')(ry:RelV y u)(rv:RelV v r)(h: ∀s',Inv X pins σ H' s'->Q () s'):
  wpAny (model X.prog X.w) A (setItem (.ref a) u r) Q E s:=by
 rcases g with⟨br,k,e,ey,l,eH⟩|⟨br,k,b,e,ey,eb,l,eH⟩
 ·subst ey eH
  obtain⟨z,hd,vs,rel,dd⟩:=DA I.cK e
  have hz:vs.length<=sizeLine:=by rw[← rel.length]; exact z
  have hl:(putK br k v).length<=sizeLine:=by have:=kA br k v; omega
  refine wpAny_setItem_pairs (hsz:=hz) (uq ry) dd fun h' DD hs=>h _ ?_
  have he: ∃q,h'.get? a=some q:=let⟨q,_,_,hq,_⟩:=DD; ⟨q,hq⟩
  exact tU I (by rw[e]; exact True.intro) hs he (yn hl hd (rel.put k rv) DD)
 ·subst ey eH
  cases(show u=Value.ref b from ry)
  obtain⟨z,hd,xs,rel,dd⟩:=Qp I.cK e
  have hz:xs.length<=sizeLine:=by rw[← aQ rel]; exact z
  have hl:(putK br k v).length<=sizeLine:=by have:=kA br k v; omega
  refine wpAny_setItem_heap (hsz:=hz) (tR hu) (uu I.cK eb) dd fun h' DD hs=>h _ ?_
  obtain⟨q,es,ep,hq,h2,h3,h4,_,h5⟩:=DD
  refine tU I (by rw[e]; exact True.intro) hs ⟨q,hq⟩ ⟨hl,hd,_,(rel.put k eb rv).keeps fun c ys ec=>?_,q,es,ep,hq,h2,h3,h4,h5⟩
  rw[aA (mF ec e (fun z=>nomatch z))]
  exact ec
end
section
variable {X:Cx}{pins:List (Addr×Obj)}{σ:St}{H:Hp}{s:Shared}{a:Addr}{br:List (Key×V)}{k:Key}{u:Value}{A:Around}{E:Value->Shared->Prop}
theorem Qq {v:V}{more:List Value}{Q:Value->Shared->Prop}(I:Inv X pins σ H s)(e:H a=some (.dK br))(ry:RelV (kV k) u)(l:gi br k=some v)(hm:more=[]∨ ∃x,more=[x])
  (h: ∀w' s',Inv X pins σ (upd H a (.dK (k9 br k))) s'->RelV v w'->Q w' s'):wpAny (model X.prog X.w) A (call (.builtin "dict.pop") (.ref a :: u :: more)) Q E s:=by
 obtain⟨z,hd,vs,rel,dd⟩:=DA I.cK e
 obtain⟨w',hw,Fc⟩:=k7.some_of (v:=v) (o:=valueAt vs k) (by rw[← l]; exact rel.val k)
 have hp:(keyPart u).isSome=true:=by
  cases k with
  |inl i=>obtain⟨t,q⟩:=(show ∃t,u=Value.int i t from ry); subst q; rfl
  |inr x=>obtain⟨t,q⟩:=(show ∃t,u=Value.str x t from ry); subst q; rfl
 have ha:argsOk "dict.pop" ⟨.ref a :: u :: more,[]⟩:=by
  rcases hm with q|⟨x,q⟩
  ·subst q; exact PySem.F.args_dict_pop_2 _ _
  ·subst q; exact PySem.F.args_dict_pop_3 _ _ _
 refine call_meetsIn PySem.F.slot_dict_pop dd.typeIs PySem.F.entry_dict_pop ha (meets_dict_pop_there (dZ X.prog X.w) a (uq ry) more hm hp)
  ⟨vs,w',dd,by rw[← rel.length]; exact z,hw,fun h' DD hs=>h w' _ ?_ Fc⟩
 have he: ∃q,h'.get? a=some q:=let⟨q,_,_,hq,_⟩:=DD; ⟨q,hq⟩
 exact tU I (by rw[e]; exact True.intro) hs he (yn (a8 (HA br k) z) hd (rel.drop k) DD)
end
def Qr (i:Expr):Prop:= ∀ov iv,subscripted i false ov iv=operate [ov,iv] (getItem ov iv)
theorem Ko {prog:Program}{w:World}{A:Around}{E:Value->Shared->Prop}{s:Shared}{env:Env}{value slice:Expr}{pos:Pos}{T id:String}{Q:Value->Shared->Prop}
  (hl:typeLookup (.type T) "__getitem__"=pure (some (.builtin id))) (hs:Qr slice)
  (h:wpAny (model prog w) A (eval value env) (fun o s₁=>wpAny (model prog w) A (eval slice env) (fun i s₂=>s₂.TypeIs o T/\wpAny (model prog w) A (getItem o i) Q E s₂) E s₁) E s):
  wpAny (model prog w) A (eval (.Subscript value slice pos) env) Q E s:=by
 refine Subscript_ (cD h (fun o s₁ h₁=>cD h₁ (fun i s₂ h₂=>?_) fun _ _ x=>x) fun _ _ x=>x)
 obtain⟨hT,h₂⟩:=h₂
 unfold subscriptTail
 refine ay ?_
 rw[getitemInPython_of_ne hT.not_modules]
 refine ay (wpAny_specialOf hT hl ?_)
 have fin:wpAny (model prog w) A (subscripted slice false o i) (fun r s₃=>wpAny (model prog w) A (letTemporaryGo value o r >>=fun _=>pure r) Q E s₃) E s₂:=by
  rw[hs o i]
  exact wpAny_operating (cD h₂ (fun r s₃ h₃=>ay (wpAny_letTemporaryGo (bM h₃))) fun _ _ x=>x)
 first
  |exact bM (ay fin)
  |exact ay (bM (ay fin))
  |exact ay fin
theorem Al {X:Cx}{pins:List (Addr×Obj)}{σ:St}{H:Hp}{s:Shared}{a:Addr}{y:V}{o:Option V}(I:Inv X pins σ H s)(g:mx H a y o):s.TypeIs (.ref a) "dict":=by
 rcases g with⟨br,k,e,_,_⟩|⟨br,k,b,e,_,_,_⟩
 ·obtain⟨_,_,vs,_,dd⟩:=ur I.cK e
  exact dd.typeIs
 ·obtain⟨_,_,xs,_,dd⟩:=xm I.cK e
  exact dd.typeIs
def Qs (td ty:TE):TE:=fun σ H Q=>td σ H fun x H1=>ty σ H1 fun y H2=> ∃a v,x= .ref a/\mx H2 a y (some v)/\Q v H2
def UK (ty td:TE):TE:=fun σ H Q=>ty σ H fun y H1=>td σ H1 fun x H2=> ∃a o,x= .ref a/\mx H2 a y o/\Q (.bl o.isSome) H2
def Kp (ty td:TE):TE:=fun σ H Q=>ty σ H fun y H1=>td σ H1 fun x H2=> ∃a o,x= .ref a/\mx H2 a y o/\Q (.bl (!o.isSome)) H2
def Qt (td ty tv:TE):TS:=fun D σ H=>tv σ H fun v H1=>td σ H1 fun x H2=>ty σ H2 fun y H3=> ∃a H4,x= .ref a/\Fe H3 a y v H4/\D.nx σ H4
section
variable {X:Cx}{o i e value:Expr}{pos pos' MZ:Pos}{td ty tv:TE}
theorem cS (hu:X.A.units + 1 < cLine)(ho:PE X o td)(hi:PE X i ty)(hs:Qr i):PE X (.Subscript o i pos) (Qs td ty):=by
 intro pins s σ H Q I h
 refine Ko PySem.F.slot_dict_getitem.lookup hs (eh (ho pins s σ H _ I h) fun u s1 ⟨x,H1,I1,rx,q1⟩=>eh (hi pins s1 σ H1 _ I1 q1) fun iv s2 ⟨y,H2,I2,ry,a,v,ex,g,q2⟩=>?_)
 subst ex
 obtain rfl:u=Value.ref a:=rx
 exact⟨Al I2 g,Ff hu I2 g ry fun w' s3 I3 Fc=>⟨v,H2,I3,Fc,q2⟩⟩
theorem M9 (hu:X.A.units + 1 < cLine)(hi:PE X i ty)(ho:PE X o td):PC X .In i o (UK ty td):=by
 intro pins s σ H Q I h
 refine eh (hi pins s σ H _ I h) fun iv s1 ⟨y,H1,I1,ry,q1⟩=>eh (ho pins s1 σ H1 _ I1 q1) fun u s2 ⟨x,H2,I2,rx,a,ov,ex,g,q2⟩=>?_
 subst ex
 obtain rfl:u=Value.ref a:=rx
 exact UJ hu I2 g ry fun s3 I3=>⟨.bl ov.isSome,H2,I3,rfl,q2⟩
theorem Fh (hu:X.A.units + 1 < cLine)(hi:PE X i ty)(ho:PE X o td):PC X .NotIn i o (Kp ty td):=by
 intro pins s σ H Q I h
 refine eh (hi pins s σ H _ I h) fun iv s1 ⟨y,H1,I1,ry,q1⟩=>eh (ho pins s1 σ H1 _ I1 q1) fun u s2 ⟨x,H2,I2,rx,a,ov,ex,g,q2⟩=>?_
 subst ex
 obtain rfl:u=Value.ref a:=rx
 exact Kn hu I2 g ry fun s3 I3=>⟨.bl (!ov.isSome),H2,I3,rfl,q2⟩
theorem DE (hu:X.A.units + 1 < cLine)(ho:PE X o td)(hi:PE X i ty)(hv:PE X value tv)(hs:swapsWith value (some (.Subscript o i pos')) pos.line X.env=pure false):
  PS X (.Assign [.Subscript o i pos'] value pos) (Qt td ty tv):=by
 intro pins s σ H D I h
 refine wpAny_Assign_Subscript (eh (hv pins s σ H _ I h) fun r s1 ⟨v,H1,I1,rv,q1⟩=>eh (ho pins s1 σ H1 _ I1 q1) fun u s2 ⟨x,H2,I2,rx,q2⟩=>eh (hi pins s2 σ H2 _ I2 q2) fun iv s3 ⟨y,H3,I3,ry,a,H4,ex,g,q3⟩=>?_) hs
 subst ex
 obtain rfl:u=Value.ref a:=rx
 exact Fg hu I3 g ry rv fun s4 I4=>⟨σ,H4,I4,q3⟩
end
theorem Am {P:Program}{w:World}{H:Hp}(h:Heap)(hb:sysModules < h.objs.size):dJ P w H (h.push {cls:= .type "dict",data:= .dict #[]}) h.objs.size (.dK []):=
 ⟨bF _,gR.mpr (vE (bc hb)),[],.nil,Heap.DictOf.new h⟩
def Na:TE:=fun _ H Q=> ∀p,H p=none->Q (.ref p) (upd H p (.dK []))
section
variable {X:Cx}{pos:Pos}
theorem An:PE X (.Dict [] [] pos) Na:=fun pins s σ H Q I h=>
 wpAny_Dict_empty ⟨.ref s.heap.objs.size,_,I.laid (a:=s.heap.objs.size) (o:= .dK []) (t':=s.toks) (fun _ _ q=>ax _ q) (aC _) (Am s.heap I.big),rfl,h _ (I.cK.fresh (aC _))⟩
end
def Cm:List (TE×TE)->St->Hp->(List (V×V)->Hp->Prop)->Prop
 |[],_,H,Q=>Q [] H
 |(tk,tv) :: r,σ,H,Q=>tk σ H fun x H1=>tv σ H1 fun y H2=>Cm r σ H2 fun ps H3=>Q ((x,y) :: ps) H3
abbrev VV:List (V×V)->List (Value×Value)->Prop:=Paired fun p q=>RelV p.1 q.1/\RelV p.2 q.2
def L4 (X:Cx)(pos:Pos)(keys:List (Option Expr))(values:List Expr)(Kq:List (TE×TE)):Prop:=
 ∀(pins:List (Addr×Obj)) (s:Shared) (σ:St) (H:Hp) (Q:List (V×V)->Hp->Prop),Inv X pins σ H s->Cm Kq σ H Q->
  wpAny (model X.prog X.w) X.A (evalPairs (pairTrees keys values X.env pos)) (fun vs s'=> ∃ps H',Inv X pins σ H' s'/\VV ps vs/\Q ps H') X.xe s
theorem Kr {X:Cx}{pos:Pos}:L4 X pos [] [] []:=fun pins s σ H Q I h=>pairTrees_nil_walk ⟨[],H,I,.nil,h⟩
theorem uv {X:Cx}{pos:Pos}{k v:Expr}{ks:List (Option Expr)}{vs:List Expr}{tk tv:TE}{Kq:List (TE×TE)}(hk:PE X k tk)(hv:PE X v tv)(hr:L4 X pos ks vs Kq):
  L4 X pos (some k :: ks) (v :: vs) ((tk,tv) :: Kq):=fun pins s σ H Q I h=>
 pairTrees_cons_walk (eh (hk pins s σ H _ I h) fun u s1 ⟨x,H1,I1,rx,q1⟩=>eh (hv pins s1 σ H1 _ I1 q1) fun w2 s2 ⟨y,H2,I2,ry,q2⟩=>
  eh (hr pins s2 σ H2 _ I2 q2) fun ws s3 ⟨ps,H3,I3,rel,q3⟩=>⟨(x,y) :: ps,H3,I3,.cons ⟨rx,ry⟩ rel,q3⟩)
def pq (br more:List (Key×V)):List (Key×V):=more.foldl (fun acc kv=>putK acc kv.1 kv.2) br
theorem KV.merge: ∀{more:List (Key×V)} {rs:List (Key×Value)} {br:List (Key×V)} {vs:List (Key×Value)},KV more rs->KV br vs->KV (pq br more) (merged vs rs):=by
 intro more rs br vs r
 unfold KV at r
 induction r generalizing br vs with
 |nil=>intro q; exact q
 | @cons p q ps qs h t ih=>
  intro r0
  have e:KV (putK br p.1 p.2) (stored vs q.1 q.2):=by
   have:=r0.put p.1 h.2
   rw[← h.1]; exact this
  exact ih e
theorem oH: ∀(more br:List (Key×V)),(pq br more).length<=br.length + more.length
 |[],br=>by show br.length<=br.length + 0; omega
 |p :: r,br=>by
  have h1:=oH r (putK br p.1 p.2)
  have h2:=kA br p.1 p.2
  show(pq (putK br p.1 p.2) r).length<=_
  rw[cz]; omega
theorem uw {P:Program}{w:World}: ∀{br:List (Key×V)} {ws:List (Value×Value)},VV (br.map fun kv=>(kV kv.1,kv.2)) ws-> ∃rs,Carries (dZ P w) ws rs/\KV br rs
 |[],_,r=>by rw[vG] at r; cases r; exact⟨[],True.intro,.nil⟩
 |p :: br,_,r=>by
  rw[di] at r
  cases r with
  | @cons a b as bs h t=>
   obtain⟨rs,c,q⟩:=uw (P:=P) (w:=w) t
   obtain⟨b1,b2⟩:=b
   exact⟨(p.1,b2) :: rs,⟨uq h.1,rfl,c⟩,.cons ⟨rfl,h.2⟩ q⟩
def Qu (Kq:List (TE×TE)):TE:=fun σ H Q=> ∀p,H p=none->Cm Kq σ (upd H p (.dK [])) fun ps H2=>H2 p=some (.dK [])/\ ∃br:List (Key×V),ps=br.map (fun kv=>(kV kv.1,kv.2))/\br.length<=15/\Q (.ref p) (upd H2 p (.dK (pq [] br)))
theorem Ks {X:Cx}{pos:Pos}{keys:List (Option Expr)}{values:List Expr}{Kq:List (TE×TE)}(h:L4 X pos keys values Kq)(Nb:keys.all (·.isSome)=true)(hl:keys.length=values.length)(h0:keys≠[])
  (UL:keys.length<=15):PE X (.Dict keys values pos) (Qu Kq):=by
 intro pins s σ H Q I q
 have hn:=I.cK.fresh (aC s.heap.objs.size)
 have I1:=I.laid (a:=s.heap.objs.size) (o:= .dK []) (h':=s.heap.push {cls:= .type "dict",data:= .dict #[]}) (t':=s.toks) (fun _ _ q=>ax _ q) (aC _) (Am s.heap I.big)
 refine wpAny_Dict_walk (knd:=dZ X.prog X.w) Nb hl h0 UL (eh (h pins _ σ _ _ I1 (q _ hn)) fun ws s2 ⟨ps,H2,I2,rel,e,br,ep,lk,q2⟩=>?_)
 subst ep
 obtain⟨rs,c,rk⟩:=uw (P:=X.prog) (w:=X.w) rel
 obtain⟨z,hd,Qv,r0,dd⟩:=DA I2.cK e
 cases r0
 refine⟨rs,c,dd,fun h' DD hs=>⟨.ref s.heap.objs.size,_,?_,rfl,q2⟩⟩
 have hz:(pq [] br).length<=sizeLine:=by
  have h1:=oH br []
  rw[vI] at h1
  rw[eK]; omega
 have he: ∃q,h'.get? s.heap.objs.size=some q:=let⟨q,_,_,hq,_⟩:=DD; ⟨q,hq⟩
 exact tU I2 (by rw[e]; exact True.intro) hs he (yn hz hd (rk.merge .nil) DD)
structure M1 (X:Cx)(o:Expr)(m:Str)(apos:Pos)(e:Expr)(gP:Pos):Prop where
 base:attributeBase o m X.env (eval o X.env)=eval o X.env
 Xi:((backTo gP (starEach [e] X.env)).all (fun x=> !x.1) && (backToKw gP (keywordEach [] X.env)).all (fun x=>x.1.isSome)
  && decide (([e]:List Expr).length + ([]:List Keyword).length + (if([]:List Keyword).isEmpty then 0 else 1) < 30))=true
 line:(apos.endLine == gP.line)=true
 trees:backTo gP (starEach [e] X.env)=[(false,eval e X.env)]
structure M2 (X:Cx)(o:Expr)(m:Str)(apos:Pos)(e f:Expr)(gP:Pos):Prop where
 base:attributeBase o m X.env (eval o X.env)=eval o X.env
 Xi:((backTo gP (starEach [e,f] X.env)).all (fun x=> !x.1) && (backToKw gP (keywordEach [] X.env)).all (fun x=>x.1.isSome)
  && decide (([e,f]:List Expr).length + ([]:List Keyword).length + (if([]:List Keyword).isEmpty then 0 else 1) < 30))=true
 line:(apos.endLine == gP.line)=true
 trees:backTo gP (starEach [e,f] X.env)=[(false,eval e X.env),(false,eval f X.env)]
def Xj (H:Hp)(a:Addr):Prop:=(∃br,Rd H a (.dK br))∨ ∃br,Rd H a (.dT br)
theorem Nc {X:Cx}{pins:List (Addr×Obj)}{σ:St}{H:Hp}{s:Shared}{a:Addr}(I:Inv X pins σ H s)(d:Xj H a):
  s.TypeIs (.ref a) "dict"/\(∀b,Value.ref a= .ref b-> ∃ob,s.heap.get? b=some ob/\ob.dict=none)/\(a == sysModules)=false:=by
 rcases d with⟨br,e⟩|⟨br,e⟩
 ·obtain⟨_,hd,vs,_,dd⟩:=ur I.cK e
  refine⟨dd.typeIs,fun b q=>?_,hd⟩
  cases q
  obtain⟨ob,_,_,h1,h2,_⟩:=dd
  exact⟨ob,h1,h2.2.1⟩
 ·obtain⟨_,hd,xs,_,dd⟩:=xm I.cK e
  refine⟨dd.typeIs,fun b q=>?_,hd⟩
  cases q
  obtain⟨ob,_,_,h1,h2,_⟩:=dd
  exact⟨ob,h1,h2.2.1⟩
section
variable {X:Cx}{pins:List (Addr×Obj)}{σ:St}{H:Hp}{s:Shared}{a:Addr}{y d:V}{u r:Value}{o:Option V}{A:Around}{E:Value->Shared->Prop}
end
def Nd (td ty:TE):TE:=fun σ H Q=>td σ H fun x H1=> ∃a,x= .ref a/\Xj H1 a/\ty σ H1 fun y H2=> ∃br k v,H2 a=some (.dK br)/\y=kV k/\gi br k=some v/\Q v (upd H2 a (.dK (k9 br k)))
section
variable {X:Cx}{o e f:Expr}{apos gP:Pos}{td ty tx:TE}
theorem HB (ho:PE X o td)(he:PE X e ty)(m:M1 X o "pop" apos e gP):PE X (.Call (.Attribute o "pop" apos) [e] [] gP) (Nd td ty):=by
 intro pins s σ H Q I h
 refine wpAny_Call_method m.base m.Xi m.line PySem.F.plainAttrs_dict PySem.F.slot_dict_pop PySem.F.type_dict_pop (eh (ho pins s σ H _ I h) fun u s1 ⟨x,H1,I1,rx,a,ex,d,q1⟩=>?_)
 subst ex
 obtain rfl:u=Value.ref a:=rx
 obtain⟨t1,t2,_⟩:=Nc I1 d
 refine⟨t1,t2,?_⟩
 rw[m.trees]
 refine iT rfl (EM (Calls.spliced_cons (eh (he pins s1 σ H1 _ I1 q1) fun iv s2 ⟨y,H2,I2,ry,br,k,v,ea,ey,l,q2⟩=>Calls.spliced_nil ?_)))
 subst ey
 exact Qq I2 ea ry l (.inl rfl) fun w' s3 I3 Fc=>⟨v,_,I3,Fc,q2⟩
end
section
variable {X:Cx}{pins:List (Addr×Obj)}{σ:St}{H:Hp}{s:Shared}{a:Addr}{br:List (Key×V)}{A:Around}{E:Value->Shared->Prop}
theorem HC {Q:Value->Shared->Prop}(I:Inv X pins σ H s)(e:Rd H a (.dK br))(h: ∀p s',H p=none->Inv X pins σ (upd H p (.dK br)) s'->Q (.ref p) s'):wpAny (model X.prog X.w) A (call (.type "dict") [.ref a]) Q E s:=by
 obtain⟨z,hd,vs,rel,dd⟩:=ur I.cK e
 refine kt_call_dict hd dd (by rw[← rel.length]; exact z) fun h' DD hs=>?_
 refine h _ _ (I.cK.fresh (aC _)) (I.laid (a:=s.heap.objs.size) (o:= .dK br) (t':=s.toks) (fun b q hq=>?_) (aC _) (yn z (gR.mpr (vE (bc I.big))) rel DD))
 exact(hs.2 b (bc (aO hq))).trans (ax _ hq)
end
section
variable {X:Cx}{pins:List (Addr×Obj)}{σ:St}{H:Hp}{s:Shared}{a:Addr}{y:V}{u:Value}{A:Around}{E:Value->Shared->Prop}
end
end L2
namespace Xk
open PySem PySem.W PySem.Calls PyProof.Rows
theorem tf {P:Params}{h:Heap}: ∀(ns:List Int) (vs:List Value),WellAll P h vs (ns.map WData.int)->IntsAre vs ns:=by
 intro ns
 induction ns with
 |nil=>
  intro vs w
  rw[vG] at w
  cases w
  exact .nil
 |cons n ns ih=>
  intro vs w
  rw[di] at w
  cases w with
  |cons a b=>
   cases a
   exact .cons _ _ (ih _ b)
theorem Fj {l:OpenLaw}{n:Nat}(hn:l.most=some n){P:Params}{h:Heap}{args:List WData}{vals:List Value}
  (Kt:l.row.toRowW.claim.pre args=true) (GO:WellAll P h vals args):
  ∃a vs ns,vals=[Value.ref a]/\args=[WData.list (ns.map WData.int)]/\h.get? a=some {cls:= .type "list",data:= .seq vs.toArray}/\IntsAre vs ns/\ns.length<=n:=by
 have Zd:WShape.hasAll [] args [.list .int]=true:=(pre_splitW Kt).1
 have hc:l.pre.holds [] {args:=args}=true:=(pre_splitW Kt).2
 obtain⟨d,r,rfl,h1,h2⟩:=hasAllW_cons Zd
 obtain rfl:=hasAllW_nil h2
 obtain⟨xs,rfl,h3⟩:=hasW_list h1
 obtain⟨ns,rfl⟩:=items_int h3
 have hlen:ns.length<=n:=by
  unfold OpenLaw.pre at hc
  have h4:(WTm.not (.lt (.lit (.int (n:Int))) (.len (.arg 0)))).holds [] {args:=[.list (ns.map .int)]}=true:=by
   have h4:=(holds_andW hc).1
   rw[hn] at h4
   exact h4
  have h5:=condW_of h4 (w_not (w_lt w_lit (w_len_list (w_arg rfl))))
  rw[ae] at h5
  refine Nat.le_of_not_lt fun q=>?_
  have q':(n:Int) < ((ns.length:Nat):Int):=by omega
  first
   |(rw[aE q'] at h5; exact absurd h5 (by decide))
   |(simp at h5; omega)
 cases GO with
 |cons w1 w2=>
  cases w2
  cases w1 with
  |list ho Nb=>exact⟨_,_,ns,rfl,rfl,ho,tf ns _ Nb,hlen⟩
theorem Fl (l:OpenLaw)(args:List WData):l.row.toRowW.claim.post args (.bool true) args=true:=
 postW_of (r:=l.row.toRowW) (X:=(true == true))
  (show WShape.has [] (.bool true) .bool=true by first|rfl|decide|simp[WShape.has,WShape.arms,WShape.armsAll])
  (show(WTm.eq .res (.lit (.bool true))).value [] {args:=args,res:=some (.bool true),after:=args}=some (.bool (true == true)) from w_eq_bool (w_res rfl) w_lit) rfl
theorem Ao {l:OpenLaw}{n:Nat}{q:Program}{loose:List Str}{XP:(Str->Option Value)->Heap->Prop}{YP:World->Heap->Prop}{d:DefRec}
  (hn:l.most=some n) (UM:d.params.defaults=[])
  (call: ∀(w:World) (s₀ s₁:Shared) (mg mb:Str->Option Value) (fa:Addr) (o:Obj) (pm cd doc:Value) (a:Addr) (vs:List Value) (ns:List Int),
   Ground q loose [] XP w s₀ mg mb s₁.heap->YP w s₁.heap->
   s₁.heap.get? fa=some o->o.data= .func (docDef d.name d.params d.body d.scope pm cd doc)->s₁.heap.CodeRec cd d.name->mg d.name=some (.ref fa)->
   s₁.heap.get? a=some {cls:= .type "list",data:= .seq vs.toArray}->IntsAre vs ns->ns.length<=n->s₁.gens= #[]->
   codeAny (model l.prog w) callerA (.call (.ref fa) ⟨[.ref a],[]⟩) (fun r s'=>r= .ok (.ret (.bool true))/\OldK s₁.heap s'.heap/\s'.os=s₁.os/\AllBare s'.gens) s₁):
  WalkO q loose XP YP l.row.toRowW d [] (fun f vs=>PySem.call f vs):=by
 intro w s₀ s₁ mg mb G Y fa o pm cd doc dV kV ho hd qZ hD Qw hg args vals as Kt Ze Xl GO hlo
 obtain rfl:dV= .none:=Dflts.none hD UM
 obtain rfl:kV= .none:=Dflts.noKw hD
 obtain⟨a,vs,ns,rfl,rfl,Nf,hints,hlen⟩:=Fj hn Kt GO
 refine enter_call (BZ (call w s₀ s₁ mg mb fa o pm cd doc a vs ns G Y ho (fd_plain hd) qZ Qw Nf hints hlen hg) fun r s' hq=>?_)
 obtain⟨rfl,h2,h3,h4⟩:=hq
 exact⟨.inl ⟨.bool true,.bool true,[],rfl,fun _=>rfl,.bool true,Fl l _,fun _=>⟨List.Pairwise.nil,fun _ hm=>(nomatch hm)⟩⟩,h2,h3,h4⟩
section
variable {prog:Program}{w:World}{A:Around}{E:Value->Shared->Prop}{s:Shared}{K:Frag}
end
end Xk
namespace L2
open PySem PySem.Spec PyProof.Rows
theorem xn: ∀{vs:List Value} {ns:List Int},IntsAre vs ns->Vals (ns.map V.int) vs
 |_,_,.nil=> .nil
 |_,_,.cons n t h=> .cons ⟨t,rfl⟩ (xn h)
def g6 (s:Stmt):Arguments:=match s with
 | .FunctionDef _ a _ _ _ _ _ _ _ _=>a
 |_=>{posonlyargs:=[],args:=[],vararg:=none,kwonlyargs:=[],kw_defaults:=[],kwarg:=none,defaults:=[]}
def d8 (s:Stmt):List Stmt:=match s with
 | .FunctionDef _ _ b _ _ _ _ _ _ _=>b
 |_=>[]
def az (s:Stmt):Scope:=match s with
 | .FunctionDef _ _ _ _ _ _ sc _ _ _=>sc
 |_=>{kind:= .function,names:=[],isGenerator:=false,isCoroutine:=false}
abbrev sq:E9:=fun _ _ _ _ _ _=>False
abbrev E0:XK:=fun _ _ _=>False
theorem mM {X:Cx}:Passes sq X E0:=fun _ _ _ _ _ _ _ h=>h.elim
structure gq (K:PySem.W.Frag)(x qual:Str)(st:Stmt)(f:Addr)(fd:FuncData):Prop where
 ex: ∃(oc:Value) (od:Option Addr) (kV doc pm:Value) (an:Option Addr) (dh ct:Value) (Fb:Array (Option Value)),
  fd=PySem.W.fnOf x qual (g6 st) (d8 st) (az st) .none kV doc pm an dh ct/\K.lookup f=some ⟨oc,od,.func fd,Fb⟩/\PySem.W.codeIn K dh qual=true
 kp:PySem.W.keepIn K (.ref f)=true
section
variable {P:Program}{w:World}{K:PySem.W.Frag}{mg:Str->Option Value}{base:Heap}
theorem gq.ok {x qual:Str}{st:Stmt}{f:Addr}{fd:FuncData}{N ps:List Str}{k:Nat}{sp:Sp}(F:gq K x qual st f fd)(S:a0 N ps (az st))(len: ∀vs H Q E,sp vs H Q E->vs.length=ps.length)
  (gp: ∀(dh:Value) (A:Around) (outer:List Env) (s:Shared) (H:Hp) (vs:List V) (Q:VK) (E:XK),fE k (A.deeper (envOfC qual (az st) s.heap.objs.size f dh))->sp vs H Q E->
   ∃t,pV (lQ sq P w K mg base N qual (az st) f dh A outer s H E).E2 (d8 st) t/\t {nx:=fun _ H'=>Q .eI H',rt:=Q} (start N vs) H):lP P w K mg base sq (k + 1) f fd ps sp:=by
 obtain⟨oc,od,kV,doc,pm,an,dh,ct,Fb,rfl,lk,qZ⟩:=F.ex
 refine Hr lk qZ S len fun A outer s H vs Q E hr yh=>?_
 obtain⟨t,h,q⟩:=gp dh A outer s H vs Q E hr yh
 exact⟨t,h.E2,q⟩
theorem gq.binds {x qual:Str}{st:Stmt}{f:Addr}{fd:FuncData}{ps:List Str}(F:gq K x qual st f fd)
  (h: ∀(kV doc pm:Value) (an:Option Addr) (dh ct:Value) (us:List Value),us.length=ps.length->bindArgs (PySem.W.fnOf x qual (g6 st) (d8 st) (az st) .none kV doc pm an dh ct) ⟨us,[]⟩=pure (ps.zip us)):Binds K fd ps []:=by
 obtain⟨oc,od,kV,doc,pm,an,dh,ct,Fb,rfl,lk,qZ⟩:=F.ex
 exact .all (h kV doc pm an dh ct)
theorem px {x qual:Str}{st:Stmt}{f:Addr}{oc:Value}{od an:Option Addr}{Fb:Array (Option Value)}{kV doc pm dh ct:Value}(l:K.lookup f=some ⟨oc,od,.func (PySem.W.fnOf x qual (g6 st) (d8 st) (az st) .none kV doc pm an dh ct),Fb⟩)
  (c:PySem.W.codeIn K dh qual=true) (k:PySem.W.keepIn K (.ref f)=true):gq K x qual st f (PySem.W.fnOf x qual (g6 st) (d8 st) (az st) .none kV doc pm an dh ct):=⟨⟨oc,od,kV,doc,pm,an,dh,ct,Fb,rfl,l,c⟩,k⟩
end
theorem jO {A:Around}{k:Nat}(hr:fE k A):A.units + 1 < cLine:=pT (Nat.add_le_add_left (by decide:1<=64) _) hr.units
theorem bB {n:Nat}(h:n<=1000):n < sizeLine:=pT h (by decide)
section
variable {X:Cx}
theorem pv (i:Nat){x:Str}{pos:Pos}(hN:X.N[i]? =some x:=by rfl)(hv:PM X.env.scope x:=by first|exact Or.inl rfl|exact Or.inr (Or.inl rfl)|exact Or.inr (Or.inr rfl))(hd:(x == ("__debug__":Str))=false:=by decide)
  (qZ:(x == ("__classdict__":Str))=false:=by decide):PE X (.Name x pos) (PU i):=B7 hN hv hd qZ
end
theorem cg {A B:Prop}(h:B):if false=true then A else B:=by
 rw[aV aY]
 exact h
theorem fJ {A B:Prop}(h:A):if true=true then A else B:=by
 rw[bg rfl]
 exact h
theorem cL {c A B:Prop}[Decidable c](h1:c->A)(h2: ¬ c->B):if c then A else B:=by
 by_cases h:c
 ·rw[bg h]
  exact h1 h
 ·rw[aV h]
  exact h2 h
theorem Ap {c A B:Prop}[Decidable c](hc:c)(h:B):if(!decide c)=true then A else B:=by
 rw[aE hc]
 exact cg h
def aD (H H':Hp):Prop:= ∀b o,H b=some o->H' b=some o
theorem aD.refl (H:Hp):aD H H:=fun _ _ h=>h
theorem aD.trans {H H1 H2:Hp}(a:aD H H1)(b:aD H1 H2):aD H H2:=fun c o h=>b c o (a c o h)
theorem aD.free {H H':Hp}(e:aD H H'){l:Addr}(h:H' l=Option.none):H l=Option.none:=by
 cases q:H l with
 |none=>rfl
 |some o=>
  rw[e l o q] at h
  cases h
theorem aD.seq {K:PySem.W.Frag}{H H':Hp}{a:Addr}{xs:List V}(e:aD H H')(h:bP K H a xs):bP K H' a xs:=by
 rcases h with(h|⟨o,h⟩)|h
 ·exact .inl (.inl (e _ _ h))
 ·exact .inl (.inr ⟨o,e _ _ h⟩)
 ·exact .inr h
section
variable {X:Cx}
end
section
variable {κ:Type}[DecidableEq κ]
end
theorem Fm {prog:Program}{w:World}{A:Around}{R:Result->Shared->Prop}{s:Shared}{elt target iter:Expr}{ifs:List Expr}{scope:Scope}{pos:Pos}{it acc:Value}{env:Env}(I:Nat->Shared->Prop)
  (turn: ∀n s,I n s->wpAny (model prog w) A (pyNext it) (fun r s₁=>match r with
   |none=>R (.ok .next) s₁
   |some v=>wpAny (model prog w) A (letOwnedTupleGo target it v) (fun _ Xm=>wpAny (model prog w) A (assign target env v) (fun _ s₂=>
     wpAny (model prog w) A (forIn ifs true fun c r=>if r=true then do let ok ← isTrue c env (eval c env); pure (ForInStep.yield ok) else pure (ForInStep.yield r)) (fun ok s₃=>
      if ok=true then wpAny (model prog w) A (eval elt env) (fun x s₄=>
       wpAny (model prog w) A (call (.builtin "list.append") [acc,x]) (fun _ s₅=> ∃m,m < n/\I m s₅) (fun _ _=>False) s₄) (fun _ _=>False) s₃
      else ∃m,m < n/\I m s₃) (fun _ _=>False) s₂) (fun _ _=>False) Xm) (fun _ _=>False) s₁) (fun _ _=>False) s)
  (n:Nat) (h:I n s):
  codeAny (model prog w) A (.compLoop (.ListComp elt [⟨target,iter,ifs,0⟩] scope pos) 0 it acc env) R s:=by
 refine codeAny_loop rfl I (fun n s hI=>?_) n h
 show wpAny _ A ((compTurn (.ListComp elt [⟨target,iter,ifs,0⟩] scope pos) 0 it acc env).onRaise (fun x=>do noteFrame x env; theTreesLotGoes x)) _ _ s
 refine wpAny_noted ?_
 rw[compTurn_list]
 refine ay (iy (ay (cD (turn n s hI) (fun r s₁ h₁=>?_) fun _ _ h'=>h'.elim)))
 cases r with
 |none=>exact bM h₁
 |some v=>
  refine ay (cD h₁ (fun _ Xm Zf=>?_) fun _ _ h'=>h'.elim)
  refine ay (cD Zf (fun _ s₂ h₂=>ay (cD h₂ (fun ok s₃ h₃=>?_) fun _ _ h'=>h'.elim)) fun _ _ h'=>h'.elim)
  cases ok with
  |false=>exact bM ⟨rfl,h₃⟩
  |true=>
   exact ay (ay (cD h₃ (fun x s₄ h₄=>ay (cD h₄ (fun _ s₅ h₅=>bM (bM ⟨rfl,h₅⟩)) fun _ _ h'=>h'.elim)) fun _ _ h'=>h'.elim))
def Aq (X:Cx)(N:List Str)(scope:Scope)(cl:List (Str×Addr))(C:Addr)(s3:Shared)(H3:Hp)(fp:List Addr):Cx:=
 {X with N:=N,s₀:=s3,H₀:=H3,env:=compEnvC scope cl C X.env,outer:=X.stack,stack:=X.stack,ex:=fp,fn:=fun _=>false,pn:=[],xe:=fun _ _=>False}
def Ku (X:Cx)(ifs:List Expr)(t:TT):Prop:=
 ∀(pins:List (Addr×Obj)) (s:Shared) (σ:St) (H:Hp) (Q:Bool->Hp->Prop),Inv X pins σ H s->t σ H Q->
  wpAny (model X.prog X.w) X.A (forIn ifs true fun c r=>if r=true then do let ok ← isTrue c X.env (eval c X.env); pure (ForInStep.yield ok) else pure (ForInStep.yield r)) (TP X pins σ Q) X.xe s
def UN:TT:=fun _ H Q=>Q true H
theorem mN {X:Cx}:Ku X [] UN:=fun pins s σ H Q I h=>wpAny_tests_nil ⟨H,I,h⟩
theorem mO {X:Cx}{c:Expr}{t:TT}(h:PT X c t):Ku X [c] t:=fun pins s σ H Q I hw=>wpAny_tests_one (h pins s σ H Q I hw)
def xp (J:It)(g:TG)(tc:TT)(te:TE)(σ0:St)(H2:Hp)(Q:VK):Prop:=
 ∀D,H2 D=none-> ∃W:Nat->Nat->St->Hp->Prop,(∃m,W 0 m σ0 (upd H2 D (.lst [])))/\ ∀i m σ' H',W i m σ' H'->
  (J.stop i H'/\Q (.ref D) H')∨(J.go i H'/\ ∃N:St->Hp->Prop,(∀Kv GQ,N Kv GQ-> ∃m',m' < m/\W (i + 1) m' Kv GQ)/\
   ∀x GQ,J.O1 i H' x GQ->g x σ' GQ fun σ2 H2=>tc σ2 H2 fun ok H3=>if ok=true then te σ2 H3 fun y H4=> ∃ys,H4 D=some (.lst ys)/\ys.length < sizeLine/\N σ2 (upd H4 D (.lst (ys ++ [y]))) else N σ2 H3)
structure rH (X:Cx)(scope:Scope)(cl:List (Str×Addr))(cn:List Str)(cj:List Nat):Prop where
 Fn:closureFor scope X.env=pure cl
 cell: ∀y∈scope.names,y.2≠ .cell
 kind:scope.kind= .function
 names: ∀x∈scope.names,x.2= .local->scope.names.lookup x.1=some .local
 sub: ∀x c,cl.lookup x=some c->X.env.cells.lookup x=some c
 all: ∀x,((relabel scope X.env).names.lookup x=some .cell∨(relabel scope X.env).names.lookup x=some .free)-> ∃c,cl.lookup x=some c
 Xn:Paired (fun x j=>X.N[j]? =some x/\(X.env.kindOf x=some .cell∨X.env.kindOf x=some .free)/\((relabel scope X.env).names.lookup x=some .cell∨(relabel scope X.env).names.lookup x=some .free)) cn cj
theorem bR {α β:Type}{F:α->β->Prop}: ∀{l₁:List α} {l₂:List β} {i:Nat} {a:α},Paired F l₁ l₂->l₁[i]? =some a-> ∃b,l₂[i]? =some b/\F a b
 |_,_,_,_,.nil,e=>by simp at e
 |_,_,0,_,.cons r _,e=>by simp at e; subst e; exact⟨_,rfl,r⟩
 |_,_,i + 1,a,.cons _ t,e=>by
  obtain⟨b,h1,h2⟩:=bR (i:=i) (a:=a) t (by simpa using e)
  exact⟨b,by simpa using h1,h2⟩
def ux (tn:List Str)(cj:List Nat)(σ:St):St:=tn.map (fun _=>none) ++ cj.map fun j=>(σ[j]?).join
theorem uy {X:Cx}{pins:List (Addr×Obj)}{σ:St}{H2:Hp}{s2:Shared}{elt tg iter:Expr}{ifs:List Expr}{scope:Scope}{pos:Pos}{cl:List (Str×Addr)}{tn cn:List Str}{cj:List Nat}{g:TG}{tc:TT}{te:TE}
  {it:Addr} {fp:List Addr} {Ng:Nat->Heap->Prop} {J:It} {RR:Value->Addr->Result->Shared->Prop} {E:Value->Shared->Prop} {Q:VK}
  (xq:X.calm=true) (S:rH X scope cl cn cj)
  (hg: ∀C s3 H3 fp,PG (Aq X (tn ++ cn) scope cl C s3 H3 fp) tg g) (hc: ∀C s3 H3 fp,Ku (Aq X (tn ++ cn) scope cl C s3 H3 fp) ifs tc) (he: ∀C s3 H3 fp,PE (Aq X (tn ++ cn) scope cl C s3 H3 fp) elt te)
  (I2:Inv X pins σ H2 s2) (T:Turn X.prog X.w X.K tg J fp it Ng) (L0:Ng 0 s2.heap) (f2: ∀b∈fp,uh X pins H2 b)
  (hw:xp J g tc te (ux tn cj σ) H2 Q)
  (Zg: ∀D C (s':Shared) H' m',Inv X pins σ H' s'->uh X pins H' C->s'.heap.Ns C m'->Q (.ref D) H'->RR (.ref D) C (.ok .next) s'):
  wpAny (model X.prog X.w) X.A (newList []) (fun acc s₃=>wpAny (model X.prog X.w) X.A (newFunctionEnv scope X.env.globals cl [] X.env.qual none .none (some X.env)) (fun Qx s₄=>
   codeAny (model X.prog X.w) X.A (.compStart (.ListComp elt [⟨tg,iter,ifs,0⟩] scope pos) 0 (.ref it) acc {Qx with scope:=relabel scope X.env}) (RR acc Qx.locals) s₄) E s₃) E s2:=by
 have Zh:H2 s2.heap.objs.size=none:=I2.cK.fresh (aC _)
 obtain⟨W,⟨m0,w0⟩,turn⟩:=hw _ Zh
 refine wpAny_newObj_type (wpAny_newFunctionEnv S.cell (by intro y hy; simp at hy) (fun h₁ Nh Ni=>?_) S.kind)
 dsimp only at Nh Ni ⊢
 have I3:Inv X pins σ (upd H2 s2.heap.objs.size (.lst [])) {s2 with heap:=s2.heap.push {cls:= .type "list",dict:=none,data:= .seq ([]:List Value).toArray}}:=I2.M6 (t':=s2.toks) (ys:=[]) (cy:=[]) .nil (bF _)
 generalize S4:s2.heap.push {cls:= .type "list",dict:=none,data:= .seq ([]:List Value).toArray}=HH at Nh Ni I3 ⊢
 have hC:HH.objs.size=s2.heap.objs.size + 1:=by rw[← S4,nP]
 have old: ∀b o,HH.get? b=some o->h₁.get? b=some o:=fun b o e=>Ni.extBut b o (bc (aO e)) (ax _ e)
 have UO: ∀b o,s2.heap.get? b=some o->HH.get? b=some o:=fun b o e=>S4▸ax _ e
 have Qy: ∀b∈fp,b < s2.heap.objs.size:=fun b hb=>by
  obtain⟨o,e,_⟩:=T.obj 0 _ L0 b hb
  exact aO e
 have S5:(Aq X (tn ++ cn) scope cl HH.objs.size {s2 with heap:=HH} (upd H2 s2.heap.objs.size (.lst [])) fp).Ok:=by
  refine⟨I3.ok.mod,S.kind,I3.ok.glob,I3.ok.blt,aC _,fun x y c h1 h2=>I3.ok.inj x y c (S.sub x c h1) (S.sub y c h2),fun x hx=>S.all x hx,fun x c z=>absurd z aY,I3.ok.hd,I3.ok.frames,.inl rfl,fun b hb=>⟨?_,fun x c e z=>?_⟩,I3.bs,?_,fun b o e hb=>?_,fun b hb z=>?_,I3.stack,I3.qd⟩
  ·show b≠HH.objs.size
   rw[hC]
   exact bc (iV (Qy b hb))
  ·exact(f2 b hb).2.2.2.2.1 x c (S.sub x c e) z
  ·exact a8 I3.ok.z7 I3.sz
  ·rcases(f2 b hb).2.2.2.1 with z|z
   ·exact I3.ok.vM b o e z
   ·have h1:b < X.base.objs.size:=aO e
    exact absurd (bu h1 (a8 I3.ok.z7 z)) (iS _)
  ·rcases aw.mp (I3.ue b z) with z|z
   ·exact(f2 b hb).2.1 z
   ·exact(f2 b hb).2.2.1 z
 have IY:Inv (Aq X (tn ++ cn) scope cl HH.objs.size {s2 with heap:=HH} (upd H2 s2.heap.objs.size (.lst [])) fp) [] (ux tn cj σ) (upd H2 s2.heap.objs.size (.lst [])) {s2 with heap:=h₁,toks:=s2.toks + ([]:List (Str×Value)).length}:=by
  refine⟨S5,rfl,I3.bare,Un.kept old,⟨_,Nh,fun i x v e1 e2 e3=>?_⟩,fun x c e=>?_,?_,fun x c e=>I3.iP x c (S.sub x c e),fun p hp=>absurd hp (by intro z; exact nomatch z),I3.cK.kept old,?_⟩
  ·have Xo:(tn ++ cn)[i]? =some x:=e1
   by_cases hi:i < tn.length
   ·unfold ux at e2
    rw[List.getElem?_append_left (by simpa using hi),List.getElem?_map] at e2
    cases h:tn[i]? with
    |none=>rw[h] at e2; cases e2
    |some _=>rw[h] at e2; cases e2
   ·rw[oY (by omega)] at Xo
    obtain⟨j,hj,hN,hk,L5⟩:=bR S.Xn Xo
    unfold ux at e2
    rw[List.getElem?_append_right (by simpa using hi),List.getElem?_map] at e2
    simp only[List.length_map,hj,Option.map_some] at e2
    have Qz:σ[j]? =some (some v):=by
     cases h:σ[j]? with
     |none=>rw[h] at e2; cases e2
     |some q=>
      rw[h] at e2
      have Qz:q=some v:=aF e2
      rw[Qz]
    obtain⟨m,hn,hl⟩:=I3.loc
    have hv:PM X.env.scope x:=by
     rcases hk with hk|hk
     ·exact .inr (.inl hk)
     ·exact .inr (.inr hk)
    obtain⟨u,r,l⟩:=hl j x v hN Qz hv
    refine⟨u,r,?_⟩
    rcases l with⟨k,_⟩|⟨_,c,hc,mf⟩
    ·rcases hk with hk|hk <;> (rw[k] at hk; cases hk)
    ·obtain⟨c',PR⟩:=S.all x L5
     have:=S.sub x c' PR
     rw[hc] at this
     cases this
     obtain⟨o,ho,hd⟩:=mf
     exact .inr ⟨L5,c,PR,⟨o,old _ _ ho,hd⟩⟩
  ·obtain⟨v,o,ho,hd⟩:=I3.cell x c (S.sub x c e)
   exact⟨v,o,old _ _ ho,hd⟩
  ·exact I3.cK.fresh (aC _)
  ·show(ux tn cj σ).length=(tn ++ cn).length
   unfold ux
   rw[aK,aK,ae,ae,S.Xn.length]
 have Xp:Ng 0 h₁:=T.keep 0 _ _ L0 fun b _ o e=>old b o (UO b o e)
 have rD: ∀{H':Hp},(∀b∈fp,H' b=none)-> ∀b∈fp,uh (Aq X (tn ++ cn) scope cl HH.objs.size {s2 with heap:=HH} (upd H2 s2.heap.objs.size (.lst [])) fp) [] H' b:=fun hn b hb=>
  ⟨hn b hb,(S5.J1 b hb).1,S5.vN b hb,.inl hb,(S5.J1 b hb).2,fun p hp=>absurd hp (by intro z; exact nomatch z)⟩
 have Zi: ∀b∈fp,upd H2 s2.heap.objs.size (.lst []) b=none:=fun b hb=>by
  rw[aA (bc (Qy b hb))]
  exact(f2 b hb).1
 have loop:codeAny (model X.prog X.w) X.A (.compLoop (.ListComp elt [⟨tg,iter,ifs,0⟩] scope pos) 0 (.ref it) (.ref s2.heap.objs.size) (compEnvC scope cl HH.objs.size X.env))
    (RR (.ref s2.heap.objs.size) HH.objs.size) {s2 with heap:=h₁,toks:=s2.toks + ([]:List (Str×Value)).length}:=by
  refine Fm (fun n s'=> ∃i σ' H',Inv (Aq X (tn ++ cn) scope cl HH.objs.size {s2 with heap:=HH} (upd H2 s2.heap.objs.size (.lst [])) fp) [] σ' H' s'/\Ng i s'.heap/\(∀b∈fp,H' b=none)/\W i n σ' H') ?_ m0 ⟨0,_,_,IY,Xp,Zi,w0⟩
  rintro n s3 ⟨i,σ3,H3,J3,P8,Kd,w3⟩
  rcases turn i n σ3 H3 w3 with⟨stop,qn⟩|⟨go,N,hN,step⟩
  ·refine eh (T.done (Aq X (tn ++ cn) scope cl HH.objs.size {s2 with heap:=HH} (upd H2 s2.heap.objs.size (.lst [])) fp) rfl rfl rfl xq i [] s3 σ3 H3 _ J3 (rD Kd) P8 stop) fun r s4 ⟨hr,J4⟩=>?_
   subst hr
   obtain⟨m',T8,_⟩:=J4.loc
   exact Zg _ _ s4 H3 m' (I3.Dm (ch:=fp) J4.os J4.base J4.cK J4.bare fun b hb=>⟨(f2 b hb).2.2.2.1,(f2 b hb).2.1,(f2 b hb).2.2.2.2.1,(f2 b hb).2.2.2.2.2⟩) (I3.E3 (aC _) J4.free) T8 qn
  ·refine eh (T.item (Aq X (tn ++ cn) scope cl HH.objs.size {s2 with heap:=HH} (upd H2 s2.heap.objs.size (.lst [])) fp) rfl rfl rfl xq i [] s3 σ3 H3 _ J3 (rD Kd) P8 go) fun r s4 ⟨u,hr,h4⟩=>?_
   subst hr
   refine eh h4 fun _ s5 ⟨x,H5,J5,r5,y5,MV,O3⟩=>?_
   have Zj:=J5.pinned (rD O3) (T.obj _ _ MV)
   refine eh (hg _ _ _ _ _ s5 σ3 H5 x u _ Zj r5 (step x H5 y5)) fun _ s6 ⟨σ6,H6,J6,q6⟩=>?_
   have again: ∀{s7:Shared} {σ7:St} {H7:Hp},Inv (Aq X (tn ++ cn) scope cl HH.objs.size {s2 with heap:=HH} (upd H2 s2.heap.objs.size (.lst [])) fp) ([] ++ o9 fp s5.heap) σ7 H7 s7->N σ7 H7->
     ∃m,m < n/\ ∃i σ' H',Inv (Aq X (tn ++ cn) scope cl HH.objs.size {s2 with heap:=HH} (upd H2 s2.heap.objs.size (.lst [])) fp) [] σ' H' s7/\Ng i s7.heap/\(∀b∈fp,H' b=none)/\W i m σ' H':=fun{s7 σ7 H7} I7 n7=>by
    obtain⟨m',hm,w7⟩:=hN σ7 H7 n7
    refine⟨m',hm,i + 1,σ7,H7,I7.jd,T.keep _ _ _ MV fun b hb o e=>(I7.pin (b,o) (bE _ (bE _ (jM hb e)))).1,fun b hb=>?_,w7⟩
    obtain⟨o,e,d⟩:=T.obj _ _ MV b hb
    exact(I7.pin (b,o) (bE _ (bE _ (jM hb e)))).2.1
   refine eh (hc _ _ _ _ _ s6 σ6 H6 _ J6 q6) fun ok s7 ⟨H7,J7,q7⟩=>?_
   cases ok with
   |false=>exact again J7 q7
   |true=>
    refine eh (he _ _ _ _ _ s7 σ6 H7 _ J7 q7) fun y s8 ⟨yv,H8,J8,r8,ys,hD,hz,q8⟩=>?_
    refine eh (b0 _ s8 σ6 H8 (.ref s2.heap.objs.size) [yv] (.ref s2.heap.objs.size) [y] (fun _ H'=>N σ6 H') J8 rfl (.cons r8 .nil) ⟨_,ys,yv,rfl,rfl,hD,hz,q8⟩) fun _ s9 ⟨_,H9,J9,_,q9⟩=>?_
    exact again J9 q9
 exact codeAny_compStart_list loop (T.self _ 0 _ _ _ Xp loop)
def L6 (wi:TI)(tn:List Str)(cj:List Nat)(g:TG)(tc:TT)(te:TE):TE:=fun σ H Q=>wi σ H fun J H2=>xp J g tc te (ux tn cj σ) H2 Q
theorem gU {X:Cx}{elt tg iter:Expr}{ifs:List Expr}{scope:Scope}{pos:Pos}{cl:List (Str×Addr)}{tn cn:List Str}{cj:List Nat}{wi:TI}{g:TG}{tc:TT}{te:TE}
  (xq:X.calm=true) (S:rH X scope cl cn cj) (hi:PI X tg iter wi)
  (hg: ∀C s3 H3 fp,PG (Aq X (tn ++ cn) scope cl C s3 H3 fp) tg g) (hc: ∀C s3 H3 fp,Ku (Aq X (tn ++ cn) scope cl C s3 H3 fp) ifs tc) (he: ∀C s3 H3 fp,PE (Aq X (tn ++ cn) scope cl C s3 H3 fp) elt te)
  (hs: ∀x,foldedSetIterable iter X.env x=pure x:=by intro _; rfl):
  PE X (.ListComp elt [⟨tg,iter,ifs,0⟩] scope pos) (L6 wi tn cj g tc te):=by
 intro pins s σ H Q I h
 rw[eval_ListComp]
 refine wpAny_comprehension_free (use:=none) rfl hs S.Fn S.kind S.names (eh (hi pins s σ H _ I h) fun v s1 h1=>eh h1 fun SV s2 h2=>?_)
 obtain⟨it,fp,Ng,J,H2,e,I2,T,L0,f2,hw⟩:=h2
 subst e
 refine uy (RR:=fun acc C=>compPost (model X.prog X.w) X.A X.xe none (EP X pins σ Q) acc C) xq S hg hc he I2 T L0 f2 hw ?_
 intro D C s' H' m' I' Fo hn q
 exact⟨m',hn,fun h' Kw=>⟨.ref D,H',I'.turned (t':=s'.toks) (fun b o hb e=>(Kw.2 b hb).trans e) Fo.1 Fo.2.1 Fo.2.2.2.1 Fo.2.2.2.2.1 Fo.2.2.2.2.2,rfl,q⟩⟩
theorem lh {X:Cx}{i:Nat}{y:Str}{py QA:Pos}{elt tg iter:Expr}{ifs:List Expr}{scope:Scope}{pos:Pos}{cl:List (Str×Addr)}{tn cn:List Str}{cj:List Nat}{wi:TI}{g:TG}{tc:TT}{te:TE}
  (hN:X.N.Nodup) (hy:X.N[i]? =some y) (hx:Loc X.env.scope y)
  (xq:X.calm=true) (S:rH X scope cl cn cj) (hi:PI X tg iter wi)
  (hg: ∀C s3 H3 fp,PG (Aq X (tn ++ cn) scope cl C s3 H3 fp) tg g) (hc: ∀C s3 H3 fp,Ku (Aq X (tn ++ cn) scope cl C s3 H3 fp) ifs tc) (he: ∀C s3 H3 fp,PE (Aq X (tn ++ cn) scope cl C s3 H3 fp) elt te)
  (UP:swapsWith (.ListComp elt [⟨tg,iter,ifs,0⟩] scope pos) (some (.Name y py)) QA.line X.env=pure true:=by rfl)
  (hs: ∀x,foldedSetIterable iter X.env x=pure x:=by intro _; rfl)
  (hf:X.fn y=true∨X.env.scope.names.lookup y=some .local:=by first|exact .inl rfl|exact .inr rfl|assumption):
  PS X (.Assign [.Name y py] (.ListComp elt [⟨tg,iter,ifs,0⟩] scope pos) QA) (MT (L6 wi tn cj g tc te) (G8 i)):=by
 intro pins s σ H D I h
 rw[exec_Assign_Name_used _ _ _ _ UP]
 refine ay (iy (ay ?_))
 show wpAny _ X.A (do let _ ← comprehension (.ListComp elt [⟨tg,iter,ifs,0⟩] scope pos) scope X.env _ (newList []) false (eval iter X.env) (some (assign (.Name y py) X.env))) _ _ s
 refine ay (cD (wpAny_comprehension_free (use:=some (assign (.Name y py) X.env)) (Q:=fun _ s'=>SP X pins D .next s') rfl hs S.Fn S.kind S.names
  (eh (hi pins s σ H _ I h) fun v s1 h1=>eh h1 fun SV s2 h2=>?_)) (fun _ s' hq=>bM (bM hq)) fun _ _ e=>e)
 obtain⟨it,fp,Ng,J,H2,e,I2,T,L0,f2,hw⟩:=h2
 subst e
 refine uy (RR:=fun acc C=>compPost (model X.prog X.w) X.A X.xe (some (assign (.Name y py) X.env)) (fun _ s'=>SP X pins D .next s') acc C) xq S hg hc he I2 T L0 f2 hw ?_
 intro D' C s' H' m' I' Fo hn q
 show wpAny _ X.A (assign (.Name y py) X.env (.ref D')) _ _ _
 refine wpAny_assign_Name (wZ I' hN hy hx (v:= .ref D') rfl (fun Dx Zk ⟨a,sb,ha⟩=>?_) hf)
 have Zl:C≠a:=by
  rcases ha with rfl|ha
  ·exact Fo.2.1
  ·exact fun z=>Fo.2.2.2.2.1 y a ha z.symm
 refine⟨m',hn.sameBut sb Zl,fun h3 HE=>⟨_,H',Zk.turned (t':=Dx.toks) (fun b o hb e=>(HE.2 b hb).trans e) Fo.1 Fo.2.1 Fo.2.2.2.1 Fo.2.2.2.2.1 Fo.2.2.2.2.2,q⟩⟩
theorem eN {K:PySem.W.Frag}{a:Addr}{xs:List V}{g:TG}{tc:TT}{te:TE}{σ0:St}{H2:Hp}{Q:VK}(Pv:Addr->Nat->St->Hp->Prop)(h0: ∀D,H2 D=none->Pv D 0 σ0 (upd H2 D (.lst [])))
  (hl: ∀D i σ H,i<=xs.length->Pv D i σ H->bP K H a xs)
  (hs: ∀D i x σ H,xs[i]? =some x->Pv D i σ H->g x σ H fun σ2 H2=>tc σ2 H2 fun ok H3=>if ok=true then te σ2 H3 fun y H4=> ∃ys,H4 D=some (.lst ys)/\ys.length < sizeLine/\Pv D (i + 1) σ2 (upd H4 D (.lst (ys ++ [y]))) else Pv D (i + 1) σ2 H3)
  (hd: ∀D σ H,H2 D=none->Pv D xs.length σ H->Q (.ref D) H):xp (O2 K a) g tc te σ0 H2 Q:=by
 intro D hD
 refine⟨fun i m σ H=>m=xs.length - i/\i<=xs.length/\Pv D i σ H,⟨xs.length,by simp,Nat.zero_le _,h0 D hD⟩,?_⟩
 rintro i m σ H ⟨rfl,hi,p⟩
 have q:=hl D i σ H hi p
 by_cases iY:i < xs.length
 ·refine .inr ⟨⟨xs,xs[i],q,by simp[iY]⟩,Pv D (i + 1),fun σ' H' p'=>⟨xs.length - (i + 1),by omega,rfl,iY,p'⟩,fun x H' y=>?_⟩
  obtain⟨e,y⟩:=y
  subst e
  exact hs D i x σ _ (y xs q) p
 ·have e:i=xs.length:=by omega
  subst e
  exact .inl ⟨⟨xs,q,aC _⟩,hd D σ H hD p⟩
theorem Ar {K:PySem.W.Frag}{a:Addr}{xs:List V}{g:TG}{tc:TT}{te:TE}{σ0:St}{H2:Hp}{Q:VK}(Pv:Addr->Nat->St->Hp->Prop)(h0: ∀D,H2 D=none->Pv D 0 σ0 (upd H2 D (.lst [])))
  (hl: ∀D i σ H,i<=xs.length->Pv D i σ H->cG K H a xs)
  (hs: ∀D i x σ H,xs[i]? =some x->Pv D i σ H->g x σ H fun σ2 H2=>tc σ2 H2 fun ok H3=>if ok=true then te σ2 H3 fun y H4=> ∃ys,H4 D=some (.lst ys)/\ys.length < sizeLine/\Pv D (i + 1) σ2 (upd H4 D (.lst (ys ++ [y]))) else Pv D (i + 1) σ2 H3)
  (hd: ∀D σ H,H2 D=none->Pv D xs.length σ H->Q (.ref D) H):xp (Ul K a) g tc te σ0 H2 Q:=by
 intro D hD
 refine⟨fun i m σ H=>m=xs.length - i/\i<=xs.length/\Pv D i σ H,⟨xs.length,by simp,Nat.zero_le _,h0 D hD⟩,?_⟩
 rintro i m σ H ⟨rfl,hi,p⟩
 have q:=hl D i σ H hi p
 by_cases iY:i < xs.length
 ·refine .inr ⟨⟨xs,xs[i],q,by simp[iY]⟩,Pv D (i + 1),fun σ' H' p'=>⟨xs.length - (i + 1),by omega,rfl,iY,p'⟩,fun x H' y=>?_⟩
  obtain⟨e,y⟩:=y
  subst e
  exact hs D i x σ _ (y xs q) p
 ·have e:i=xs.length:=by omega
  subst e
  exact .inl ⟨⟨xs,q,aC _⟩,hd D σ H hD p⟩
theorem Cn {lo:Int}{n:Nat}{g:TG}{tc:TT}{te:TE}{σ0:St}{H2:Hp}{Q:VK}(Pv:Addr->Nat->St->Hp->Prop)(h0: ∀D,H2 D=none->Pv D 0 σ0 (upd H2 D (.lst [])))
  (hs: ∀D i σ H,i < n->Pv D i σ H->g (.int (lo + i)) σ H fun σ2 H2=>tc σ2 H2 fun ok H3=>if ok=true then te σ2 H3 fun y H4=> ∃ys,H4 D=some (.lst ys)/\ys.length < sizeLine/\Pv D (i + 1) σ2 (upd H4 D (.lst (ys ++ [y]))) else Pv D (i + 1) σ2 H3)
  (hd: ∀D σ H,H2 D=none->Pv D n σ H->Q (.ref D) H):xp (LZ lo n) g tc te σ0 H2 Q:=by
 intro D hD
 refine⟨fun i m σ H=>m=n - i/\i<=n/\Pv D i σ H,⟨n,by simp,Nat.zero_le _,h0 D hD⟩,?_⟩
 rintro i m σ H ⟨rfl,hi,p⟩
 by_cases iY:i < n
 ·refine .inr ⟨iY,Pv D (i + 1),fun σ' H' p'=>⟨n - (i + 1),by omega,rfl,iY,p'⟩,fun x H' y=>?_⟩
  obtain⟨e,y⟩:=y
  subst e y
  exact hs D i σ _ iY p
 ·have e:i=n:=by omega
  subst e
  exact .inl ⟨aC _,hd D σ H hD p⟩
theorem Inv.Co {X:Cx}{pins:List (Addr×Obj)}{σ:St}{H:Hp}{s:Shared}{h':Heap}{a:Addr}{o:HO}{t':Nat}{ch:List Addr}(I:Inv X pins σ H s)(k: ∀b ob,b∉ch->s.heap.get? b=some ob->h'.get? b=some ob)
  (z8: ∀b∈ch,uh X pins H b) (hp:s.heap.objs.size<=a) (new:dJ X.prog X.w (upd H a o) h' a o):Inv X pins σ (upd H a o) {s with heap:=h',toks:=t'}:=by
 have hn:H a=none:=I.cK.fresh hp
 have PQ: ∀b u,H b=some u->b∉ch:=fun b u e z=>by rw[(z8 b z).1] at e; cases e
 refine I.step (g':=s.gens) (d':=s.drawn) (ch:=ch) (fun b hb=>⟨(z8 b hb).2.2.2.1,(z8 b hb).2.1,(z8 b hb).2.2.2.2.1,(z8 b hb).2.2.2.2.2⟩) (fun b ob _ _ hc e _=>k b ob hc e) (fun b ob _ _ hc e _=>⟨ob.slots,k b ob hc e⟩)
  (fun b ob _ e n=>by rw[aA (bc (bu (aO e) hp))]; exact n)
  (fun b ob hc e=>⟨ob,k b ob hc e⟩) (fun b xs e=>by rw[aA (aN e hn)]; exact e) (fun b ob u e=>by rw[aA (aN e hn)]; exact e) (fun b ps e=>⟨#[],by rw[aA (aN e hn),e]; simp⟩) (fun m hm=>?_) (fun b u e=>?_) I.bare
 ·obtain⟨ob,es,ep,ho,r⟩:=hm
  exact⟨ob,es,ep,k _ ob (fun z=>(z8 _ z).2.1 rfl) ho,r⟩
 ·by_cases hb:b=a
  ·subst hb
   rw[ag] at e
   cases e
   exact new
  ·rw[aA hb] at e
   refine(I.cK b u e).sY (fun c v hc q=>k c v ?_ q) (fun c q=>by rw[aA (aN q hn)]; exact q) fun c xs q=>by rw[aA (aN q hn)]; exact q
   rcases hc with z|z
   ·rw[z]; exact PQ b u e
   ·exact PQ c _ z
def QB (K:PySem.W.Frag)(a:Addr):It:=
 ⟨fun i H=> ∃xs x,bP K H a xs/\xs[i]? =some x,fun i H x H'=> ∃p y,H p=none/\x= .ref p/\H'=upd H p (.tup [.int i,y])/\ ∀xs,bP K H a xs->xs[i]? =some y,fun i H=> ∃xs,bP K H a xs/\xs.length<=i⟩
theorem Fp {P:Program}{w:World}{K:PySem.W.Frag}{elts:List Expr}{k1}{pos:Pos}(a e it:Addr)(jf:e≠it):Turn P w K (.Tuple elts k1 pos) (QB K a) [e,it] e (fun i h=>(∃old,IsEnum h e it i old)/\h.IsListIter it a i) where
 mem:=by simp
 obj:=fun i h st b hb=>by
  obtain⟨⟨old,he⟩,hit⟩:=st
  have e1:b=e∨b=it:=by simpa using hb
  rcases e1 with rfl|rfl
  ·exact⟨_,he,fun v z=>by have z':Data.fields _ =Data.cell v:=z; cases z'⟩
  ·obtain⟨o,e,c,d⟩:=hit
   exact⟨o,e,fun v z=>by rw[d] at z; cases z⟩
 keep:=fun i h h' st k=>by
  obtain⟨⟨old,he⟩,hit⟩:=st
  exact⟨⟨old,k e (by simp) _ he⟩,hit.at fun o e=>k it (by simp) o e⟩
 item:=by
  intro X hP hw hK hc i pins s σ H E I hf st hg
  subst hP hw hK
  obtain⟨⟨old,he⟩,hit⟩:=st
  obtain⟨xs,x,hq,hx⟩:=hg
  obtain⟨cy,rv,p,hz⟩:=I.list hq
  obtain⟨u,hu,ru⟩:=rv.get hx
  refine wpAny_pyNext_enum_item he hit p.isList (x:=u) (by simpa using hu) jf fun h' ho UQ hT hsz hk=>⟨_,rfl,?_⟩
  refine wpAny_letOwnedTupleGo_enum ho fun h2 Zm O4=>?_
  have iY:e < s.heap.objs.size:=aO he
  have Fq:h2.get? s.heap.objs.size=some {cls:= .type "tuple",data:= .seq #[.int i s.toks,u]}:=(O4.2 _ (pS iY)).trans hT
  have hn:H s.heap.objs.size=none:=I.cK.fresh (aC _)
  have I2:Inv X pins σ (upd H s.heap.objs.size (.tup [.int i,x])) {s with heap:=h2,toks:=s.toks + 1}:=by
   refine I.Co (ch:=[e,it]) (fun b ob hb q=>?_) hf (aC _) ⟨by show 2<=sizeLine; decide,[.int i s.toks,u],.cons ⟨_,rfl⟩ (.cons ru .nil),⟨_,Fq,rfl,_,rfl⟩⟩
   have DF:b≠e/\b≠it:=⟨fun z=>hb (by simp[z]),fun z=>hb (by simp[z])⟩
   exact(O4.2 b DF.1).trans (hk b ob DF.1 DF.2 q)
  refine⟨.ref s.heap.objs.size,_,I2,rfl,⟨_,x,hn,rfl,rfl,fun ys hy=>by rw[I.Ad hy hq]; exact hx⟩,⟨⟨u,by simpa using Zm⟩,UQ.at fun o q=>(O4.2 it jf.symm).trans q⟩,fun b hb=>?_⟩
  have S6:=hf b hb
  rw[aA]
  ·exact S6.1
  ·have e1:b=e∨b=it:=by simpa using hb
   rcases e1 with rfl|rfl
   ·exact bc iY
   ·obtain⟨o,q,_⟩:=hit
    exact bc (aO q)
 done:=by
  intro X hP hw hK hc i pins s σ H E I hf st hg
  subst hP hw hK
  obtain⟨⟨old,he⟩,hit⟩:=st
  obtain⟨xs,hq,hx⟩:=hg
  obtain⟨cy,rv,p,hz⟩:=I.list hq
  obtain⟨f0,f1,f2,f3,f4,f5⟩:=hf it (by simp)
  have hl:=rv.length
  exact wpAny_pyNext_enum_end (I.ok.hd hc) he hit p.isList (by simp; omega) fun h' eb=>⟨rfl,I.turned (t':=s.toks) (fun b o hb e=>eb b o hb e) f0 f1 f3 f4 f5⟩
 self:=fun _ _ _ _ _ st h=>by
  obtain⟨⟨old,he⟩,hit⟩:=st
  exact wpAny_pyIter_enum he h
def QC (K:PySem.W.Frag)(ta:TA):TI:=fun σ H R=>ta σ H fun vs H1=> ∃a,vs=[.ref a]/\(∃xs,bP K H1 a xs)/\R (QB K a) H1
theorem qp {X:Cx}{elts:List Expr}{k1}{MZ:Pos}{l:Expr}{ta:TA}{p pos:Pos}(hg:Gl X "enumerate")(hm:X.mg "enumerate"=none)(ha:PA X [l] ta)(hs:starEach [l] X.env=[(false,eval l X.env)]:=by rfl):
  PI X (.Tuple elts k1 MZ) (.Call (.Name "enumerate" p) [l] [] pos) (QC X.K ta):=by
 intro pins s σ H R I h
 refine Call_ (o6 I hg hm boot_enumerate (nZ (eh (ha pos pins s σ H _ I h) fun us s1 ⟨vs,H1,I1,r1,q1⟩=>?_) hs rfl))
 obtain⟨a,e,⟨xs,hq⟩,q⟩:=q1
 subst e
 obtain⟨u,rfl,ru⟩:=vals1 r1
 cases ru
 obtain⟨cy,rv,pl,hz⟩:=I1.list hq
 refine call_enumerate_list pl.isList fun h' he hit hsz kp=>?_
 have I2:Inv X pins σ H1 {s1 with heap:=h'}:=I1.kept (t':=s1.toks) kp
 refine wpAny_pyIter_enum he ⟨s1.heap.objs.size + 1,[s1.heap.objs.size + 1,s1.heap.objs.size],_,_,H1,rfl,I2,Fp a _ _ (Nat.succ_ne_self _),⟨⟨_,he⟩,hit⟩,fun b hb=>?_,q⟩
 have e1:b=s1.heap.objs.size + 1∨b=s1.heap.objs.size:=by simpa using hb
 have DF:s1.heap.objs.size<=b:=by
  rcases e1 with rfl|rfl
  ·exact dS _
  ·exact aC _
 exact I1.E3 DF (I1.cK.fresh DF)
theorem mP {K:PySem.W.Frag}{a:Addr}{xs:List V}{g:TG}{tb:TS}{D:Ends}{σ:St}{H:Hp}(Pv:Nat->St->Hp->Prop)(h0:Pv 0 σ H)(hl: ∀i σ H,i<=xs.length->Pv i σ H->bP K H a xs)
  (hs: ∀i x p σ H,xs[i]? =some x->H p=none->Pv i σ H->g (.ref p) σ (upd H p (.tup [.int i,x])) fun σ2 H2=>tb {D with nx:=Pv (i + 1),ct:=Pv (i + 1),bk:=D.nx} σ2 H2) (hd: ∀σ H,Pv xs.length σ H->D.nx σ H):
  ∃W:Nat->Nat->St->Hp->Prop,(∃m,W 0 m σ H)/\ ∀i m σ H,W i m σ H->
   ((QB K a).stop i H/\D.nx σ H)∨((QB K a).go i H/\ ∃N:St->Hp->Prop,(∀σ' H',N σ' H'-> ∃m',m' < m/\W (i + 1) m' σ' H')/\ ∀x H',(QB K a).O1 i H x H'->g x σ H' fun σ2 H2=>tb {D with nx:=N,ct:=N,bk:=D.nx} σ2 H2):=by
 refine⟨fun i m σ H=>m=xs.length - i/\i<=xs.length/\Pv i σ H,⟨xs.length,by simp,Nat.zero_le _,h0⟩,?_⟩
 rintro i m σ H ⟨rfl,hi,p⟩
 have q:=hl i σ H hi p
 by_cases iY:i < xs.length
 ·refine .inr ⟨⟨xs,xs[i],q,by simp[iY]⟩,Pv (i + 1),fun σ' H' p'=>⟨xs.length - (i + 1),by omega,rfl,iY,p'⟩,fun x H' y=>?_⟩
  obtain⟨pp,y,h1,e1,e2,h2⟩:=y
  subst e1 e2
  exact hs i y pp σ _ (h2 xs q) h1 p
 ·have e:i=xs.length:=by omega
  subst e
  exact .inl ⟨⟨xs,q,aC _⟩,hd σ H p⟩
structure fb (P:Program)(w:World)(K:PySem.W.Frag)(mg:Str->Option Value)(base:Heap)(x:Str)(k:Nat)(ps:List Str)(sp:Sp):Prop where
 ex: ∃(f:Addr) (fd:FuncData),lP P w K mg base sq k f fd ps sp/\mg x=some (.ref f)/\PySem.W.keepIn K (.ref f)=true/\Binds K fd ps []
section
variable {X:Cx}{x:Str}{k:Nat}{ps:List Str}{sp:Sp}{e:Expr}{es:List Expr}{t:TA}{p pos:Pos}
theorem cM (C:fb X.prog X.w X.K X.mg X.base x k ps sp)(hr:fE k X.A)(hg:Gl X x)(ha:PA X (e :: es) t)(rG:(x == ("__debug__":Str))=false:=by decide)
  (he:starEach (e :: es) X.env=(false,eval e X.env) :: starEach es X.env:=by rfl) (iL:(backTo pos (starEach es X.env)).any (·.1)=false:=by rfl):PE X (.Call (.Name x p) (e :: es) [] pos) (xa sp [] E0 t):=by
 obtain⟨f,fd,F,hm,hk,hb⟩:=C.ex
 exact Dw F hr hg hm hk hb .nil mM ha rG he iL
theorem HF (C:fb X.prog X.w X.K X.mg X.base x k ps sp)(hr:fE k X.A)(hg:Gl X x)(rG:(x == ("__debug__":Str))=false:=by decide):PE X (.Call (.Name x p) [] [] pos) (xa sp [] E0 Hm):=by
 obtain⟨f,fd,F,hm,hk,hb⟩:=C.ex
 exact Ho F hr hg hm hk hb .nil mM rG
end
structure Df (K:PySem.W.Frag)(mg:Str->Option Value)(x:Str)(st:Stmt):Prop where
 ex: ∃(f:Addr) (fd:FuncData),gq K x x st f fd/\mg x=some (.ref f)
theorem Df.kN {P:Program}{w:World}{K:PySem.W.Frag}{mg:Str->Option Value}{base:Heap}{x:Str}{st:Stmt}{N ps:List Str}{k:Nat}{sp:Sp}(D:Df K mg x st)(S:a0 N ps (az st))
  (hb: ∀(kV doc pm:Value) (an:Option Addr) (dh ct:Value) (us:List Value),us.length=ps.length->bindArgs (PySem.W.fnOf x x (g6 st) (d8 st) (az st) .none kV doc pm an dh ct) ⟨us,[]⟩=pure (ps.zip us))
  (len: ∀vs H Q E,sp vs H Q E->vs.length=ps.length)
  (gp: ∀(f:Addr) (dh:Value) (A:Around) (outer:List Env) (s:Shared) (H:Hp) (vs:List V) (Q:VK) (E:XK),fE k (A.deeper (envOfC x (az st) s.heap.objs.size f dh))->sp vs H Q E->
   ∃t,pV (lQ sq P w K mg base N x (az st) f dh A outer s H E).E2 (d8 st) t/\t {nx:=fun _ H'=>Q .eI H',rt:=Q} (start N vs) H):fb P w K mg base x (k + 1) ps sp:=by
 obtain⟨f,fd,F,hm⟩:=D.ex
 exact⟨f,fd,F.ok S len (gp f),hm,F.kp,F.binds hb⟩
theorem DG {X:Cx}{scope:Scope}(w6: ∀y∈scope.names,y.2≠ .free)(mf: ∀y∈scope.names,y.2≠ .cell)(mJ:scope.kind= .function)(uz: ∀x∈scope.names,x.2= .local->scope.names.lookup x.1=some .local):rH X scope [] [] []:=by
 have e:(relabel scope X.env).names=scope.names:=map_eq_self (l:=scope.names) (fun x hx=>by
  obtain⟨n,k⟩:=x
  have:(k == NameKind.free)=false:=by simpa using w6 _ hx
  simp[this])
 refine⟨closureFor_none w6,mf,mJ,uz,fun x c h=>by simp at h,fun x h=>?_,.nil⟩
 rw[e] at h
 rcases h with h|h
 ·exact absurd rfl (mf _ (cB h))
 ·exact absurd rfl (w6 _ (cB h))
theorem iz {X:Cx}{scope:Scope}{x:Str}{c:Addr}{j:Nat}(Fn:closureFor scope X.env=pure [(x,c)])(mf: ∀y∈scope.names,y.2≠ .cell)(mJ:scope.kind= .function)(uz: ∀x∈scope.names,x.2= .local->scope.names.lookup x.1=some .local)
  (hx:X.env.cells.lookup x=some c) (QD:List (Str×NameKind)) (QE:(relabel scope X.env).names=QD) (As: ∀y∈QD,(y.2= .cell∨y.2= .free)->y.1=x) (hN:X.N[j]? =some x) (hk:X.env.kindOf x=some .cell∨X.env.kindOf x=some .free)
  (L5:(relabel scope X.env).names.lookup x=some .cell∨(relabel scope X.env).names.lookup x=some .free):rH X scope [(x,c)] [x] [j]:=by
 refine⟨Fn,mf,mJ,uz,fun y c' h=>?_,fun y h=>?_,.cons ⟨hN,hk,L5⟩ .nil⟩
 ·have h':=cB h
  have e:(y,c')=(x,c):=by simpa using h'
  cases e
  exact hx
 ·have e:y=x:=by
   rcases h with h|h
   ·rw[QE] at h
    exact As _ (cB h) (.inl rfl)
   ·rw[QE] at h
    exact As _ (cB h) (.inr rfl)
  subst e
  exact⟨c,by simp[List.lookup_cons]⟩
section
variable {X:Cx}
def QF (i j:Int):Prop:=Builtin.Int.intBits i<=2 ^ 20/\Builtin.Int.intBits j<=2 ^ 20
theorem Kx:oF X (binaryOp .Mult) (rI QF fun i j=> .int (i * j)):=P9 fun _ _ _ _ _ _ _ hc q=>mul_int q (.of_bits hc.1 hc.2)
end
section
variable {prog:Program}{w:World}{A:Around}{E:Value->Shared->Prop}{s:Shared}
end
section
variable {X:Cx}
theorem eR:je X (.builtin "isinstance") (fun xs H Q=> ∃x c t b,xs=[x,.ty c]/\mI X.K H x t/\PySem.W.kitOne X.K t (.type c)=some b/\Q (.bl b) H):=by
 intro pins s σ H xs us Q I r h
 obtain⟨x,c,t,b,rfl,ty,e,q⟩:=h
 obtain⟨u,u2,rfl,r1,r2⟩:=vals2 r
 obtain rfl:u2=Value.type c:=r2
 exact E8 I r1 ty e fun tk=>⟨.bl b,H,I.tok _,rfl,q⟩
theorem DH: ∀{cs:List String} {us:List Value},Vals (cs.map V.ty) us->us=cs.map Value.type
 |[],_,r=>by rw[vG] at r; cases r; rfl
 |c :: cs,_,r=>by
  rw[di] at r
  cases r with
  |cons r1 r2=>
   have e1:_ =Value.type c:=r1
   rw[e1,DH r2,di]
theorem Cp {pins:List (Addr×Obj)}{σ:St}{H:Hp}{s:Shared}{A:Around}{E:Value->Shared->Prop}{Q:Value->Shared->Prop}{x:V}{u t:Value}{tp:Addr}{cs:List String}{b:Bool}(I:Inv X pins σ H s)(rx:RelV x u)(ty:mI X.K H x t)
  (hp:H tp=some (.tup (cs.map V.ty))) (e:PySem.W.kitAny X.K t (cs.map Value.type)=some b) (h: ∀tk,Q (.bool b) {s with toks:=tk}):
  wpAny (model X.prog X.w) A (call (.builtin "isinstance") [u,.ref tp]) Q E s:=by
 obtain⟨_,cy,rv,⟨cl,dd,dt,sl⟩,hg,hc,n,hd⟩:=(show dJ X.prog X.w H s.heap tp (.tup (cs.map V.ty)) from I.cK tp _ hp)
 have ei:=DH rv
 subst ei
 simp only at hc hd
 subst hc hd
 cases ty with
 |eI=>cases(show u=Value.none from rx); exact eB PySem.W.kitx_none I.gO True.intro hg e (fun z=>nomatch z) h
 |bl y=>cases(show u=Value.bool y from rx); exact eB PySem.W.kitx_bool I.gO True.intro hg e (fun z=>nomatch z) h
 |int i=>obtain⟨t,q⟩:=(show ∃t,u=Value.int i t from rx); cases q; exact eB PySem.W.kitx_int I.gO True.intro hg e (fun z=>nomatch z) h
 |str y=>obtain⟨t,q⟩:=(show ∃t,u=Value.str y t from rx); cases q; exact eB PySem.W.kitx_str I.gO True.intro hg e (fun z=>nomatch z) h
 |JY y=>obtain⟨t,q⟩:=(show ∃t,u=Value.float y t from rx); cases q; exact eB PySem.W.kitx_float I.gO True.intro hg e (fun z=>nomatch z) h
 | @lst a xs ea=>
  cases(show u=Value.ref a from rx)
  obtain⟨_,_,n,_,h1⟩:=(show dJ X.prog X.w H s.heap a (.lst xs) from I.cK a _ ea)
  exact eB rj I.gO ⟨_,h1,rfl⟩ hg e (fun z=>nomatch z) h
 | @BR a ob xs ea=>
  cases(show u=Value.ref a from rx)
  obtain⟨_,_,_,n,_,h1⟩:=(show dJ X.prog X.w H s.heap a (.BR ob (.lst xs)) from I.cK a _ ea)
  exact eB rj I.gO ⟨_,h1,rfl⟩ hg e (fun z=>nomatch z) h
 | @tup a xs ea=>
  cases(show u=Value.ref a from rx)
  obtain⟨_,_,_,p⟩:=(show dJ X.prog X.w H s.heap a (.tup xs) from I.cK a _ ea)
  obtain⟨o,h1,h2,_⟩:=p
  exact eB PySem.W.kitx_tuple I.gO ⟨o,h1,h2⟩ hg e (fun z=>nomatch z) h
 | @dK a br ea=>
  cases(show u=Value.ref a from rx)
  obtain⟨_,_,vs,_,p⟩:=(show dJ X.prog X.w H s.heap a (.dK br) from I.cK a _ ea)
  obtain⟨o,es,ep,h1,h2,_⟩:=p
  exact eB rm I.gO ⟨o,h1,h2.1⟩ hg e (fun z=>nomatch z) h
 | @dT a br ea=>
  cases(show u=Value.ref a from rx)
  obtain⟨_,_,xs,_,o,es,ep,h1,h2,_⟩:=(show dJ X.prog X.w H s.heap a (.dT br) from I.cK a _ ea)
  exact eB rm I.gO ⟨o,h1,h2.1⟩ hg e (fun z=>nomatch z) h
 | @ins a C dx fs ea cl ha hn nR hm=>
  cases(show u=Value.ref a from rx)
  obtain⟨mA,O,_⟩:=qg I.cK ea
  obtain⟨od,J,_⟩:=O.look
  exact eB (PySem.W.kitx_own (cl.get _) cl.hd ha hn nR hm) I.gO J hg e (fun z=>nomatch z) h
theorem Cq:je X (.builtin "isinstance") (fun xs H Q=> ∃(x:V) (tp:Addr) (cs:List String) (t:Value) (b:Bool),xs=[x,.ref tp]/\H tp=some (.tup (cs.map V.ty))/\mI X.K H x t/\PySem.W.kitAny X.K t (cs.map Value.type)=some b/\Q (.bl b) H):=by
 intro pins s σ H xs us Q I r h
 obtain⟨x,tp,cs,t,b,rfl,hp,ty,e,q⟩:=h
 obtain⟨u,u2,rfl,r1,r2⟩:=vals2 r
 obtain rfl:u2=Value.ref tp:=r2
 exact Cp I r1 ty hp e fun tk=>⟨.bl b,H,I.tok _,rfl,q⟩
def Nj (K:PySem.W.Frag):R2:=fun x y H Q=> ∃a b xs,x= .ref a/\y= .ref b/\bP K H a xs/\bP K H b []/\Q (.bl (!xs.isEmpty)) H
theorem HG {n:Nat}(hu:X.A.units + n < cLine):oF X (compareOp .NotEq) (Nj X.K):=by
 intro pins s σ H x y v u Q I rx ry h
 obtain⟨a,b,xs,rfl,rfl,ha,hb,q⟩:=h
 cases rx
 cases ry
 obtain⟨cy,r1,p1,_⟩:=I.list ha
 obtain⟨Fd,r2,p2,_⟩:=I.list hb
 have e2:Fd=[]:=r2.zero
 subst e2
 cases xs with
 |nil=>
  have e1:cy=[]:=r1.zero
  subst e1
  exact SeqAt.RcNeAt.lists (e:=fun _=>true) p1.isList p2.isList rfl (by omega) (fun j h1 _=>absurd h1 (by simp)) X.prog X.w X.xe _ ⟨.bl false,H,I,rfl,q⟩
 |cons z zs=>
  have l1:=r1.length
  exact SeqAt.RcNeAt.lists_lengths p1.isList p2.isList (by simp only[List.size_toArray,← l1]; simp) (by omega) X.prog X.w X.xe _ ⟨.bl true,H,I,rfl,q⟩
def UR (K:PySem.W.Frag):R2:=fun x y H Q=> ∃p xs i v,x= .ref p/\y= .int i/\(bP K H p xs∨cG K H p xs)/\q0 xs i=some v/\Q v H
theorem L8:JI X (UR X.K):=by
 intro value slice pins s σ H x y v u Q I rx ry h hs
 obtain⟨p,xs,i,z,e1,e2,hq|hq,he,q⟩:=h
 ·exact a6 value slice pins s σ H x y v u Q I rx ry ⟨p,xs,i,z,e1,e2,hq,he,q⟩ hs
 ·exact bb value slice pins s σ H x y v u Q I rx ry ⟨p,xs,i,z,e1,e2,hq,he,q⟩ hs
end
theorem aD.new {H:Hp}{p:Addr}{o:HO}(h:H p=none):aD H (upd H p o):=fun b u e=>by rw[aA (aN e h)]; exact e
def US (t u:TS):TS:=fun D σ H=> ∃M:St->Hp->Prop,t {D with nx:=M} σ H/\ ∀σ' H',M σ' H'->u D σ' H'
theorem iA {X:Cx}{st:Stmt}{rest:List Stmt}{t u:TS}(h1:PS X st t)(h2:pV X rest u):pV X (st :: rest) (US t u):=by
 intro pins s σ H D I ⟨M,h,hM⟩
 refine wpAny_execs_cons (eh (h1 pins s σ H {D with nx:=M} I h) fun f s1 q=>?_)
 cases f with
 |next=>
  obtain⟨σ',H',I',q⟩:=q
  exact h2 pins s1 σ' H' D I' (hM _ _ q)
 |ret v=>exact q
 |brk=>exact q
 |cont=>exact q
section
variable {X:Cx}{K:PySem.W.Frag}
theorem lj (h:X.K=K):JI X (Qh K):=by subst h; exact a6
theorem nU (h:X.K=K):JI X (Qi K):=by subst h; exact bb
end
inductive Dt where
 |eI|bl (b:Bool)|int (i:Int)|str (x:Str)|tup (ds:List Dt)|lst (ds:List Dt)
mutual
def Rp (H:Hp):Dt->V->Prop
 | .eI,v=>v= .eI
 | .bl b,v=>v= .bl b
 | .int i,v=>v= .int i
 | .str x,v=>v= .str x
 | .tup ds,v=> ∃a xs,v= .ref a/\H a=some (.tup xs)/\g8 H ds xs
 | .lst ds,v=> ∃a xs,v= .ref a/\H a=some (.lst xs)/\g8 H ds xs
def g8 (H:Hp):List Dt->List V->Prop
 |[],vs=>vs=[]
 |d :: ds,vs=> ∃v r,vs=v :: r/\Rp H d v/\g8 H ds r
end
mutual
def Dt.size:Dt->Nat
 | .tup ds=>1 + Dt.fc ds
 | .lst ds=>1 + Dt.fc ds
 | .eI=>1
 | .bl _=>1
 | .int _=>1
 | .str _=>1
def Dt.fc:List Dt->Nat
 |[]=>0
 |d :: ds=>d.size + Dt.fc ds
end
theorem Dt.size_pos (d:Dt):1<=d.size:=by cases d <;> simp[Dt.size]
theorem Dt.iB (a b:List Dt):Dt.fc (a ++ b)=Dt.fc a + Dt.fc b:=by
 induction a with
 |nil=>simp[Dt.fc]
 |cons d ds ih=>simp[Dt.fc,ih]; omega
theorem Dt.qq (a:List Dt):a.length<=Dt.fc a:=by
 induction a with
 |nil=>simp[Dt.fc]
 |cons d ds ih=>
  have:=d.size_pos
  simp[Dt.fc]; omega
theorem uA {H:Hp}{v:V}:Rp H .eI v↔v= .eI:=by unfold Rp; exact Iff.rfl
theorem qr {H:Hp}{v:V}{b:Bool}:Rp H (.bl b) v↔v= .bl b:=by unfold Rp; exact Iff.rfl
theorem dM {H:Hp}{v:V}{i:Int}:Rp H (.int i) v↔v= .int i:=by unfold Rp; exact Iff.rfl
theorem gQ {H:Hp}{v:V}{x:Str}:Rp H (.str x) v↔v= .str x:=by unfold Rp; exact Iff.rfl
theorem jP {H:Hp}{v:V}{ds:List Dt}:Rp H (.tup ds) v↔ ∃a xs,v= .ref a/\H a=some (.tup xs)/\g8 H ds xs:=by unfold Rp; exact Iff.rfl
theorem iZ {H:Hp}{v:V}{ds:List Dt}:Rp H (.lst ds) v↔ ∃a xs,v= .ref a/\H a=some (.lst xs)/\g8 H ds xs:=by unfold Rp; exact Iff.rfl
theorem dA {H:Hp}{vs:List V}:g8 H [] vs↔vs=[]:=by unfold g8; exact Iff.rfl
theorem bW {H:Hp}{d:Dt}{ds:List Dt}{vs:List V}:g8 H (d :: ds) vs↔ ∃v r,vs=v :: r/\Rp H d v/\g8 H ds r:=by
 conv=>lhs; unfold g8
mutual
theorem Rp.mono {H H':Hp}(s:aD H H'): ∀(d:Dt) {v:V},Rp H d v->Rp H' d v
 | .eI,_,h=>uA.mpr (uA.mp h)
 | .bl _,_,h=>qr.mpr (qr.mp h)
 | .int _,_,h=>dM.mpr (dM.mp h)
 | .str _,_,h=>gQ.mpr (gQ.mp h)
 | .tup ds,_,h=>by
  obtain⟨a,xs,e,h1,h2⟩:=jP.mp h
  exact jP.mpr ⟨a,xs,e,s _ _ h1,g8.mono s ds h2⟩
 | .lst ds,_,h=>by
  obtain⟨a,xs,e,h1,h2⟩:=iZ.mp h
  exact iZ.mpr ⟨a,xs,e,s _ _ h1,g8.mono s ds h2⟩
theorem g8.mono {H H':Hp}(s:aD H H'): ∀(ds:List Dt) {vs:List V},g8 H ds vs->g8 H' ds vs
 |[],_,h=>dA.mpr (dA.mp h)
 |d :: ds,_,h=>by
  obtain⟨v,r,e,h1,h2⟩:=bW.mp h
  exact bW.mpr ⟨v,r,e,Rp.mono s d h1,g8.mono s ds h2⟩
end
theorem g8.length {H:Hp}: ∀{ds:List Dt} {vs:List V},g8 H ds vs->ds.length=vs.length
 |[],_,h=>by rw[dA.mp h]; rfl
 |d :: ds,_,h=>by
  obtain⟨v,r,e,_,h2⟩:=bW.mp h
  rw[e,cz,cz,g8.length h2]
theorem g8.get {H:Hp}: ∀{ds:List Dt} {vs:List V} {i:Nat} {d:Dt},g8 H ds vs->ds[i]? =some d-> ∃v,vs[i]? =some v/\Rp H d v
 |[],_,_,_,_,e=>by simp at e
 |d :: ds,_,0,_,h,e=>by
  obtain⟨v,r,rfl,h1,_⟩:=bW.mp h
  simp at e; subst e
  exact⟨v,rfl,h1⟩
 |d :: ds,_,i + 1,_,h,e=>by
  obtain⟨v,r,rfl,_,h2⟩:=bW.mp h
  obtain⟨u,h3,h4⟩:=g8.get (i:=i) h2 (by simpa using e)
  exact⟨u,by simpa using h3,h4⟩
theorem g8.append {H:Hp}: ∀{ds es:List Dt} {vs us:List V},g8 H ds vs->g8 H es us->g8 H (ds ++ es) (vs ++ us)
 |[],_,_,_,h,h'=>by rw[dA.mp h]; exact h'
 |d :: ds,_,_,_,h,h'=>by
  obtain⟨v,r,rfl,h1,h2⟩:=bW.mp h
  exact bW.mpr ⟨v,r ++ _,rfl,h1,g8.append h2 h'⟩
theorem g8.one {H:Hp}{d:Dt}{v:V}(h:Rp H d v):g8 H [d] [v]:=bW.mpr ⟨v,[],rfl,h,dA.mpr rfl⟩
theorem g8.ints {H:Hp}: ∀(ns:List Int),g8 H (ns.map Dt.int) (ns.map V.int)
 |[]=>dA.mpr rfl
 |n :: ns=>bW.mpr ⟨_,_,rfl,dM.mpr rfl,g8.ints ns⟩
theorem jx {H:Hp}{a:Addr}{xs:List V}{ds:List Dt}(h:H a=some (.lst xs))(r:g8 H ds xs):Rp H (.lst ds) (.ref a):=iZ.mpr ⟨a,xs,rfl,h,r⟩
theorem fM {H:Hp}{a:Addr}{xs:List V}{ds:List Dt}(h:H a=some (.tup xs))(r:g8 H ds xs):Rp H (.tup ds) (.ref a):=jP.mpr ⟨a,xs,rfl,h,r⟩
def Nk:Dt->String
 | .eI=>"NoneType"| .bl _=>"bool"| .int _=>"int"| .str _=>"str"| .tup _=>"tuple"| .lst _=>"list"
theorem Rp.ty {K:PySem.W.Frag}{H:Hp}{d:Dt}{v:V}(h:Rp H d v):mI K H v (.type (Nk d)):=by
 cases d with
 |eI=>rw[uA.mp h]; exact .eI
 |bl b=>rw[qr.mp h]; exact .bl b
 |int i=>rw[dM.mp h]; exact .int i
 |str x=>rw[gQ.mp h]; exact .str x
 |tup ds=>obtain⟨a,xs,e,h1,_⟩:=jP.mp h; rw[e]; exact .tup h1
 |lst ds=>obtain⟨a,xs,e,h1,_⟩:=iZ.mp h; rw[e]; exact .lst h1
def UT:Dt->Bool| .lst _=>true|_=>false
def UU:Dt->Bool| .tup _=>true|_=>false
def isLT:Dt->Bool| .lst _=>true| .tup _=>true|_=>false
def S7:Dt->Bool| .str _=>true|_=>false
def Zn:Dt->Bool| .bl _=>true|_=>false
def Xq:Dt->Bool| .int _=>true| .bl _=>true|_=>false
def Zo:Dt->Bool| .int _=>true|_=>false
theorem DI {K:PySem.W.Frag}(d:Dt):PySem.W.kitOne K (.type (Nk d)) (.type "list")=some (UT d):=by cases d <;> (first|rfl|decide +kernel)
theorem HI {K:PySem.W.Frag}(d:Dt):PySem.W.kitOne K (.type (Nk d)) (.type "tuple")=some (UU d):=by cases d <;> (first|rfl|decide +kernel)
theorem xr {K:PySem.W.Frag}(d:Dt):PySem.W.kitOne K (.type (Nk d)) (.type "str")=some (S7 d):=by cases d <;> (first|rfl|decide +kernel)
theorem L9 {K:PySem.W.Frag}(d:Dt):PySem.W.kitOne K (.type (Nk d)) (.type "bool")=some (Zn d):=by cases d <;> (first|rfl|decide +kernel)
theorem QG {K:PySem.W.Frag}(d:Dt):PySem.W.kitOne K (.type (Nk d)) (.type "int")=some (Xq d):=by cases d <;> (first|rfl|decide +kernel)
theorem Nl {K:PySem.W.Frag}(d:Dt):PySem.W.kitAny K (.type (Nk d)) [.type "list",.type "tuple"]=some (isLT d):=by
 unfold PySem.W.kitAny
 rw[DI]
 cases d <;> (first|rfl|(show PySem.W.kitAny K _ [.type "tuple"]=_; unfold PySem.W.kitAny; rw[HI]; rfl))
theorem su {α β:Type}{F:α->β->Prop}: ∀{l₁:List α} {l₂:List β} {y:β},Paired F l₁ l₂->l₂[l₂.length - 1]? =some y-> ∃l d,l₁=l ++ [d]/\F d y/\Paired F l l₂.dropLast
 |_,_,_,.nil,e=>by simp at e
 |a :: l₁,b :: l₂,y,.cons r t,e=>by
  cases t with
  |nil=>
   simp at e; subst e
   exact⟨[],a,rfl,r,.nil⟩
  |cons r' t'=>
   rename_i a' b' m₁ m₂
   have e':(b' :: m₂)[(b' :: m₂).length - 1]? =some y:=by
    have h1:(b :: b' :: m₂).length - 1=((b' :: m₂).length - 1) + 1:=by simp
    rw[h1] at e
    simpa using e
   obtain⟨l,d,e1,h1,h2⟩:=su (.cons r' t') e'
   refine⟨a :: l,d,by rw[e1]; rfl,h1,?_⟩
   rw[List.dropLast_cons_of_ne_nil (by simp)]
   exact .cons r h2
def lS (H H':Hp)(d:Dt)(v:V):Prop:= ∃t u1 u2,v= .ref t/\H' t=some (.tup [u1,u2])/\Rp H d u1/\Rp H d u2
theorem lS.mono {H H' H2:Hp}{d:Dt}{v:V}(h:lS H H' d v)(k: ∀b xs,H' b=some (.tup xs)->H2 b=some (.tup xs)):lS H H2 d v:=by
 obtain⟨t,u1,u2,e,h1,h2⟩:=h
 exact⟨t,u1,u2,e,k _ _ h1,h2⟩
theorem HJ {H:Hp}{p:Addr}{o:HO}(h:H p=none): ∀b xs,H b=some (.tup xs)->upd H p o b=some (.tup xs):=fun b xs e=>aD.new h b _ e
theorem dN {H:Hp}{p:Addr}{o:HO}{ys:List V}(h:H p=some (.lst ys)): ∀b xs,H b=some (.tup xs)->upd H p o b=some (.tup xs):=fun b xs e=>by
 rw[aA (mF e h (by intro z; cases z))]; exact e
theorem aD.dm {H0 H:Hp}{p:Addr}{o:HO}(s:aD H0 H)(h:H0 p=none):aD H0 (upd H p o):=fun b u e=>by
 rw[aA (aN e h)]; exact s b u e
def kids:Dt->List Dt
 | .tup ds=>ds
 | .lst ds=>ds
 |_=>[]
theorem DJ {H:Hp}{d:Dt}{v:V}(h:Rp H d v)(hd:isLT d=true): ∃a xs,v= .ref a/\(∀(K:PySem.W.Frag) (H':Hp),aD H H'->bP K H' a xs∨cG K H' a xs)/\g8 H (kids d) xs:=by
 cases d with
 |tup ds=>
  obtain⟨a,xs,e,h1,h2⟩:=jP.mp h
  exact⟨a,xs,e,fun K H' s=> .inr (cG.of (s _ _ h1)),h2⟩
 |lst ds=>
  obtain⟨a,xs,e,h1,h2⟩:=iZ.mp h
  exact⟨a,xs,e,fun K H' s=> .inl (bP.of (s _ _ h1)),h2⟩
 |_=>cases hd
theorem Fs {d:Dt}(hd:isLT d=true):d.size=1 + Dt.fc (kids d):=by
 cases d with
 |tup ds=>simp[Dt.size,kids]
 |lst ds=>simp[Dt.size,kids]
 |_=>cases hd
mutual
def Dt.plain:Dt->Bool
 | .int _=>true
 | .str _=>true
 | .tup ds=>Dt.lT ds
 | .lst ds=>Dt.lT ds
 | .eI=>false
 | .bl _=>false
def Dt.lT:List Dt->Bool
 |[]=>true
 |d :: ds=>d.plain && Dt.lT ds
end
theorem Dt.pz {ds:List Dt}:Dt.lT ds=true↔ ∀d∈ds,d.plain=true:=by
 induction ds with
 |nil=>simp[Dt.lT]
 |cons d ds ih=>simp[Dt.lT,ih]
theorem Cr {d:Dt}(h:d.plain=true): ∀c∈kids d,c.plain=true:=by
 cases d with
 |tup ds=>exact Dt.pz.mp (by simpa[Dt.plain,kids] using h)
 |lst ds=>exact Dt.pz.mp (by simpa[Dt.plain,kids] using h)
 |_=>intro c hc; cases hc
theorem tj {ds:List Dt}{i:Nat}{d:Dt}(h:ds[i]? =some d):ds.take (i + 1)=ds.take i ++ [d]:=by rw[EO,h]; rfl
theorem vS (ds:List Dt)(i:Nat):Dt.fc (ds.take i)<=Dt.fc ds:=by
 have:=Dt.iB (ds.take i) (ds.drop i)
 rw[List.take_append_drop] at this
 omega
theorem ja {n:Nat}(h:n<=1000000):n < sizeLine:=pT h (by rw[eK]; decide)
open PySem.W
def jQ {α:Type}(key:Nat->Int)(n:Nat)(Po:α->Prop):KasT α->Prop
 | .ret a=>Po a
 | .ask i j k=>i < n/\j < n/\jQ key n Po (k (decide (key i < key j)))
theorem g9 {α:Type}{key:Nat->Int}{n:Nat}{Po Xr:α->Prop}(h: ∀a,Po a->Xr a): ∀(t:KasT α),jQ key n Po t->jQ key n Xr t
 | .ret a,q=>h a q
 | .ask i j k,q=>⟨q.1,q.2.1,g9 h _ q.2.2⟩
theorem i0 {α β:Type}{key:Nat->Int}{n:Nat}{Po:β->Prop}{f:α->KasT β}: ∀(t:KasT α),jQ key n (fun a=>jQ key n Po (f a)) t->jQ key n Po (t.bind f)
 | .ret a,q=>q
 | .ask i j k,q=>⟨q.1,q.2.1,i0 _ q.2.2⟩
theorem uB {α:Type}{key:Nat->Int}{n:Nat}{Po:α->Prop}{cmp:Nat->Nat->(Bool->Shared->Prop)->Shared->Prop}{s:Shared}{Q:α->Shared->Prop}
  (hc: ∀i j (C:Bool->Shared->Prop),i < n->j < n->C (decide (key i < key j)) s->cmp i j C s) (hq: ∀a,Po a->Q a s): ∀(t:KasT α),jQ key n Po t->t.kasWp cmp Q s
 | .ret a,q=>hq a q
 | .ask i j k,q=>hc i j _ q.1 q.2.1 (uB hc hq _ q.2.2)
def kf (key:Nat->Int)(p:Array Nat)(i:Nat):Int:=key (p.getD i 0)
def qt (n:Nat)(p:Array Nat):Prop:=p.Perm (List.toArray (List.range n))
theorem qt.size {n:Nat}{p:Array Nat}(h:qt n p):p.size=n:=by
 have:=Array.Perm.size_eq h
 simpa using this
theorem qt.lt {n:Nat}{p:Array Nat}(h:qt n p)(h0:0 < n)(i:Nat):p.getD i 0 < n:=by
 by_cases hi:i < p.size
 ·have e:p.getD i 0=p[i]:=by simp[Array.getD,hi]
  rw[e]
  have hm:p[i]∈p:=Array.getElem_mem hi
  have:=(Array.Perm.mem_iff h).mp hm
  simpa using this
 ·have e:p.getD i 0=0:=by simp[Array.getD,hi]
  rw[e]; exact h0
theorem qu {p q:Array Nat}{i j:Nat}(h:p[i]? =q[j]?):p.getD i 0=q.getD j 0:=by
 rw[JU,JU,h]
theorem pA {key:Nat->Int}{p:Array Nat}{i j:Nat}(hj:j<=p.size)(a:Nat):kf key (kas_rev p i j) a=if i<=a/\a < j then kf key p (i + j - 1 - a) else kf key p a:=by
 have:=getElem?_mirror_all (xs:=p) (i:=i) hj a
 by_cases h:i<=a/\a < j
 ·rw[bg h] at this ⊢
  exact c8 key (qu this)
 ·rw[aV h] at this ⊢
  exact c8 key (qu this)
theorem qt.rev {n:Nat}{p:Array Nat}(h:qt n p)(i j:Nat):qt n (kas_rev p i j):=(mirror_perm p i j _).trans h
theorem HL {key:Nat->Int}{p:Array Nat}{src d:Nat}(hs:src < p.size)(hd:d<=src)(k:Nat):kf key (bubble p src d) k=if k=src - d then kf key p src else if src - d < k/\k<=src then kf key p (k - 1) else kf key p k:=by
 have:=getElem?_bubble (xs:=p) hs d hd k
 by_cases h:k=src - d
 ·rw[bg h] at this ⊢
  exact c8 key (qu this)
 ·rw[aV h] at this ⊢
  by_cases h2:src - d < k/\k<=src
  ·rw[bg h2] at this ⊢
   exact c8 key (qu this)
  ·rw[aV h2] at this ⊢
   exact c8 key (qu this)
def lp (key:Nat->Int)(p:Array Nat)(m:Nat):Prop:= ∀a b,a<=b->b < m->kf key p a<=kf key p b
def HM (key:Nat->Int)(p:Array Nat)(m:Nat):Prop:= ∀a b,a<=b->b < m->kf key p b<=kf key p a
section
variable {key:Nat->Int}{n:Nat}
theorem HN {p:Array Nat}(hp:qt n p)(h0:0 < n): ∀(f m:Nat),1<=m->lp key p m->jQ key n (fun r=>m<=r/\r<=m + f/\lp key p r/\(r=m + f∨kf key p r < kf key p (r - 1))) (kas_asc p f m)
 |0,m,h1,hs=>⟨aC _,aC _,hs,.inl rfl⟩
 |f + 1,m,h1,hs=>by
  unfold kas_asc
  refine⟨hp.lt h0 _,hp.lt h0 _,?_⟩
  by_cases c:key (p.getD m 0) < key (p.getD (m - 1) 0)
  ·rw[decide_eq_true c]; dsimp only; rw[if_pos rfl]
   exact⟨aC _,by omega,hs,.inr c⟩
  ·rw[decide_eq_false c]; dsimp only; rw[if_neg Bool.false_ne_true]
   have Kw:lp key p (m + 1):=by
    intro a b GR hb
    by_cases Ky:b < m
    ·exact hs a b GR Ky
    ·have e:b=m:=by omega
     subst e
     by_cases Nm:a=b
     ·rw[Nm]; exact fR _
     ·have h2:=hs a (b - 1) (by omega) (by omega)
      have h3:kf key p (b - 1)<=kf key p b:=by unfold kf; omega
      omega
   refine g9 (fun r ⟨q1,q2,q3,q4⟩=>⟨by omega,by omega,q3,?_⟩) _ (HN hp h0 f (m + 1) (by omega) Kw)
   rcases q4 with q4|q4
   ·exact .inl (by omega)
   ·exact .inr q4
theorem yo (h0:0 < n): ∀(f:Nat) (p:Array Nat) (m q:Nat),qt n p->m + f<=n->q + 1<=m->HM key p m->(∀a,m - (q + 1)<=a->a < m->kf key p a=kf key p (m - 1))->
  jQ key n (fun r=>qt n r.1/\1<=r.2.1/\r.2.1<=n/\r.2.2 + 1<=r.2.1/\HM key r.1 r.2.1/\ ∀a,r.2.1 - (r.2.2 + 1)<=a->a < r.2.1->kf key r.1 a=kf key r.1 (r.2.1 - 1)) (kas_desc f p m q)
 |0,p,m,q,hp,hm,hq,hs,he=>⟨hp,(by show 1<=m; omega),(by show m<=n; omega),hq,hs,he⟩
 |f + 1,p,m,q,hp,hm,hq,hs,he=>by
  unfold kas_desc
  have dn: ∀{r:Array Nat},(∀a,a < m->kf key r a=kf key p a)->kf key r m=kf key p m->kf key p m<=kf key p (m - 1)->HM key r (m + 1):=by
   intro r hr QH c a b GR hb
   by_cases Ky:b < m
   ·rw[hr a (by omega),hr b Ky]; exact hs a b GR Ky
   ·have e:b=m:=by omega
    subst e
    by_cases Nm:a=b
    ·rw[Nm]; exact fR _
    ·rw[QH,hr a (by omega)]
     have h2:=hs a (b - 1) (by omega) (by omega)
     omega
  refine⟨hp.lt h0 _,hp.lt h0 _,?_⟩
  by_cases c:key (p.getD m 0) < key (p.getD (m - 1) 0)
  ·rw[decide_eq_true c]; dsimp only; rw[if_pos rfl]
   have c':kf key p m<=kf key p (m - 1):=by unfold kf; omega
   have last: ∀{r:Array Nat} (a:Nat),m + 1 - (0 + 1)<=a->a < m + 1->kf key r a=kf key r (m + 1 - 1):=fun{r} a h1 h2=>by
    have e:a=m + 1 - 1:=by omega
    rw[e]
   by_cases Xs:q > 0
   ·rw[bg Xs]
    have hz:m<=p.size:=by rw[hp.size]; omega
    have hr: ∀a,a < m->kf key (kas_rev p (m - (q + 1)) m) a=kf key p a:=fun a ha=>by
     rw[pA hz]
     split
     ·rename_i h
      rw[he a h.1 h.2,he _ (by omega) (by omega)]
     ·rfl
    have QH:kf key (kas_rev p (m - (q + 1)) m) m=kf key p m:=by rw[pA hz,aV (by omega)]
    exact yo h0 f _ (m + 1) 0 (hp.rev _ _) (by omega) (by omega) (dn hr QH c') last
   ·rw[aV Xs]
    exact yo h0 f p (m + 1) 0 hp (by omega) (by omega) (dn (fun _ _=>rfl) rfl c') last
  ·rw[decide_eq_false c]; dsimp only; rw[if_neg Bool.false_ne_true]
   refine⟨hp.lt h0 _,hp.lt h0 _,?_⟩
   by_cases d:key (p.getD (m - 1) 0) < key (p.getD m 0)
   ·rw[decide_eq_true d]; dsimp only; rw[if_pos rfl]
    exact⟨hp,(by show 1<=m; omega),(by show m<=n; omega),hq,hs,he⟩
   ·rw[decide_eq_false d]; dsimp only; rw[if_neg Bool.false_ne_true]
    have e0:kf key p m=kf key p (m - 1):=by unfold kf; omega
    refine yo h0 f p (m + 1) (q + 1) hp (by omega) (by omega) (dn (fun _ _=>rfl) rfl (by omega)) (fun a h1 h2=>?_)
    have e1:m + 1 - 1=m:=by omega
    rw[e1]
    by_cases Nm:a=m
    ·rw[Nm]
    ·rw[e0]; exact he a (by omega) (by omega)
theorem DK (h0:0 < n){p:Array Nat}{m:Nat}(hp:qt n p)(h1:1<=m)(hm:m<=n)(hs:HM key p m):jQ key n (fun r=>qt n r.2/\1<=r.1/\r.1<=n/\lp key r.2 r.1) (kas_tail3 m n p):=by
 unfold kas_tail3
 have hz:m<=p.size:=by rw[hp.size]; omega
 have hu:lp key (kas_rev p 0 m) m:=by
  intro a b GR hb
  rw[pA hz,pA hz,bg ⟨bF _,by omega⟩,bg ⟨bF _,hb⟩]
  exact hs _ _ (by omega) (by omega)
 refine i0 _ (g9 (fun r ⟨q1,q2,q3,_⟩=>?_) _ (HN (hp.rev 0 m) h0 (n - m) m h1 hu))
 exact⟨hp.rev 0 m,by omega,by omega,q3⟩
theorem uC (h0:0 < n){p:Array Nat}{m:Nat}(hp:qt n p)(hm:m + 1<=n)(hs:HM key p (m + 1)):jQ key n (fun r=>qt n r.2/\1<=r.1/\r.1<=n/\lp key r.2 r.1) (kas_descPart m n p):=by
 unfold kas_descPart
 refine i0 _ (g9 (fun r ⟨q1,q2,q3,q4,q5,q6⟩=>?_) _ (yo h0 (n - (m + 1)) p (m + 1) 0 hp (by omega) (by omega) hs fun a h1 h2=>by
  have e:a=m + 1 - 1:=by omega
  rw[e]))
 by_cases hq:r.2.2 > 0
 ·rw[bg hq]
  have hz:r.2.1<=r.1.size:=by rw[q1.size]; omega
  refine DK h0 (q1.rev _ _) q2 q3 fun a b GR hb=>?_
  have hr: ∀a,a < r.2.1->kf key (kas_rev r.1 (r.2.1 - (r.2.2 + 1)) r.2.1) a=kf key r.1 a:=fun a ha=>by
   rw[pA hz]
   split
   ·rename_i h
    rw[q6 a h.1 h.2,q6 _ (by omega) (by omega)]
   ·rfl
  rw[hr a (by omega),hr b hb]
  exact q5 a b GR hb
 ·rw[aV hq]
  exact DK h0 q1 q2 q3 q5
theorem Kz (h0:0 < n){p:Array Nat}(hp:qt n p):jQ key n (fun r=>qt n r.2/\1<=r.1/\r.1<=n/\lp key r.2 r.1) (kas_count n p):=by
 unfold kas_count
 have Zp:lp key p 1:=fun a b GR hb=>by
  have e:a=b:=by omega
  rw[e]; exact fR _
 refine i0 _ (g9 (fun m ⟨q1,q2,q3,q4⟩=>?_) _ (HN hp h0 (n - 1) 1 (aC _) Zp))
 by_cases QI:(m == n)=true
 ·rw[bg QI]
  exact⟨hp,q1,by omega,q3⟩
 ·rw[aV QI]
  have jf:m≠n:=fun z=>QI (by simp[z])
  have iY:kf key p m < kf key p (m - 1):=by
   rcases q4 with q4|q4
   ·exact absurd q4 (by omega)
   ·exact q4
  by_cases Xt:m > 1
  ·rw[bg Xt]
   refine⟨hp.lt h0 _,hp.lt h0 _,?_⟩
   by_cases c:key (p.getD 0 0) < key (p.getD (m - 1) 0)
   ·rw[decide_eq_true c]; dsimp only; rw[if_pos rfl]
    exact⟨hp,q1,by omega,q3⟩
   ·rw[decide_eq_false c]; dsimp only; rw[if_neg Bool.false_ne_true]
    have hz:m<=p.size:=by rw[hp.size]; omega
    have heq: ∀a,a < m->kf key p a=kf key p (m - 1):=fun a ha=>by
     have h1:=q3 0 a (bF _) ha
     have h2:=q3 a (m - 1) (by omega) (by omega)
     have h3:kf key p (m - 1)<=kf key p 0:=by unfold kf; omega
     omega
    have hr: ∀a,a < m->kf key (kas_rev p 0 m) a=kf key p (m - 1):=fun a ha=>by
     rw[pA hz,bg ⟨bF _,ha⟩]
     exact heq _ (by omega)
    refine uC h0 (hp.rev _ _) (by omega) fun a b GR hb=>?_
    by_cases Ky:b < m
    ·rw[hr a (by omega),hr b Ky]; exact fR _
    ·have e:b=m:=by omega
     subst e
     by_cases Nm:a=b
     ·rw[Nm]; exact fR _
     ·rw[hr a (by omega),pA hz,aV (by omega)]
      omega
  ·rw[aV Xt]
   have e:m=1:=by omega
   subst e
   refine uC h0 hp (by omega) fun a b GR hb=>?_
   by_cases UW:a=b
   ·rw[UW]; exact fR _
   ·have e1:a=0:=by omega
    have e2:b=1:=by omega
    subst e1 e2
    have e3:(1:Nat) - 1=0:=rfl
    rw[e3] at iY
    omega
theorem yp (h0:0 < n){p:Array Nat}{k:Nat}(hp:qt n p)(hs:lp key p k): ∀(f l r:Nat),l<=r->r<=k->r - l<=f->(∀i,i < l->kf key p i<=kf key p k)->(∀i,r<=i->i < k->kf key p k < kf key p i)->
  jQ key n (fun m=>m<=k/\(∀i,i < m->kf key p i<=kf key p k)/\ ∀i,m<=i->i < k->kf key p k < kf key p i) (kas_place p k f l r)
 |0,l,r,Zq,S8,hf,h1,h2=>by
  have e:l=r:=by omega
  subst e
  exact⟨S8,h1,h2⟩
 |f + 1,l,r,Zq,S8,hf,h1,h2=>by
  unfold kas_place
  by_cases Nn:l≥r
  ·rw[bg Nn]
   have e:l=r:=by omega
   subst e
   exact⟨S8,h1,h2⟩
  ·rw[aV Nn]
   refine⟨hp.lt h0 _,hp.lt h0 _,?_⟩
   by_cases c:key (p.getD k 0) < key (p.getD ((l + r) / 2) 0)
   ·rw[decide_eq_true c]; dsimp only; rw[if_pos rfl]
    refine yp h0 hp hs f l ((l + r) / 2) (by omega) (by omega) (by omega) h1 fun i hi UX=>?_
    have:=hs ((l + r) / 2) i hi UX
    have c':kf key p k < kf key p ((l + r) / 2):=c
    omega
   ·rw[decide_eq_false c]; dsimp only; rw[if_neg Bool.false_ne_true]
    refine yp h0 hp hs f ((l + r) / 2 + 1) r (by omega) S8 (by omega) (fun i hi=>?_) h2
    have:=hs i ((l + r) / 2) (by omega) (by omega)
    have c': ¬ kf key p k < kf key p ((l + r) / 2):=c
    omega
theorem Ma (h0:0 < n): ∀(f:Nat) (p:Array Nat) (k:Nat),qt n p->k + f=n->lp key p k->jQ key n (fun r=>qt n r/\lp key r n) (kas_bin f p k)
 |0,p,k,hp,hk,hs=>⟨hp,by rw[← hk]; exact hs⟩
 |f + 1,p,k,hp,hk,hs=>by
  unfold kas_bin
  refine i0 _ (g9 (fun l ⟨q1,q2,q3⟩=>?_) _ (yp h0 hp hs k 0 k (bF _) (aC _) (by omega) (fun i hi=>absurd hi (iK _)) fun i h1 h2=>by omega))
  have hz:k < p.size:=by rw[hp.size]; omega
  refine Ma h0 f _ (k + 1) ((bubble_perm p k _).trans hp) (by omega) fun a b GR hb=>?_
  rw[HL hz (by omega),HL hz (by omega)]
  have el:k - (k - l)=l:=by omega
  rw[el]
  by_cases ha:a=l
  ·rw[bg ha]
   by_cases DF:b=l
   ·rw[bg DF]; exact fR _
   ·rw[aV DF,bg ⟨by omega,by omega⟩]
    have:=q3 (b - 1) (by omega) (by omega)
    omega
  ·rw[aV ha]
   by_cases Xu:l < a/\a<=k
   ·rw[bg Xu,aV (by omega),bg ⟨by omega,by omega⟩]
    exact hs _ _ (by omega) (by omega)
   ·rw[aV Xu]
    have UY:a < l:=by omega
    by_cases DF:b=l
    ·rw[bg DF]; exact q2 a UY
    ·rw[aV DF]
     by_cases S6:l < b/\b<=k
     ·rw[bg S6]
      exact hs _ _ (by omega) (by omega)
     ·rw[aV S6]
      exact hs _ _ GR (by omega)
theorem HP (h0:0 < n):jQ key n (fun r=>qt n r/\lp key r n) (kas_sort n):=by
 unfold kas_sort
 refine i0 _ (g9 (fun r ⟨q1,q2,q3,q4⟩=>?_) _ (Kz h0 (JV _)))
 by_cases h:r.1 < n
 ·rw[bg h]
  have e:max r.1 1=r.1:=by omega
  rw[e]
  exact Ma h0 _ _ _ q1 (by omega) q4
 ·rw[aV h]
  have e:r.1=n:=by omega
  rw[e] at q4
  exact⟨q1,q4⟩
end
section
variable {prog:Program}{w:World}{A:Around}{E:Value->Shared->Prop}{s:Shared}
theorem yq {a:Addr}{vs:List Value}{n:Nat}{P:PySem.Fin->Shared->Prop}{key:Nat->Int}{κ:SortKind}(ho:s.heap.get? a=some (seqObj "list" vs.toArray n))(BS:vs.length < 64)
  (hk:2<=vs.length-> ∀(s':Shared) (Q:SortKind->Shared->Prop),(∀b o,b≠a->s.heap.get? b=some o->s'.heap.get? b=some o)->Q κ s'->wpAny (model prog w) A (keyKind' vs.toArray) Q (fun _ _=>False) s')
  (hc: ∀(s':Shared) (i j:Nat) (C:Bool->Shared->Prop),(∀b o,b≠a->s.heap.get? b=some o->s'.heap.get? b=some o)->i < vs.length->j < vs.length->C (decide (key i < key j)) s'->
   wpAny (model prog w) A (keyLt' κ (vs.getD i Value.none) (vs.getD j Value.none)) C (fun _ _=>False) s')
  (h: ∀p:Array Nat,qt vs.length p->lp key p vs.length->P (.done (.ret .none)) {s with heap:=sortedHeap s.heap a vs (p.toList.map fun i=>vs.getD i Value.none).toArray}):
  wpAny (model prog w) A (Builtin.«list.sort» ⟨[.ref a],[]⟩) P E s:=by
 rw[list_sort_plain]
 have ha:a < s.heap.objs.size:=aO ho
 have hl:sizeLine=16777216:=eK
 refine ay (listItems_at ho rfl ?_)
 refine ay (vC ho rfl ?_ (by rw[bJ]; omega) (bF _))
 obtain⟨e1,Ft⟩: ∃e1,(s.heap.update a (Obj.mapSeq fun _=>(#[]:Array Value))).get? a=some (seqObj "list" #[] e1):=⟨_,LW ho (fun _=> #[])⟩
 refine ay (seqEpoch_at Ft rfl ?_)
 refine ay (wpAny_newTuple ?_ (by show vs.length<=_; omega))
 refine ay (JW ?_ (bF _))
 refine ix ?_
 have S9:(((s.heap.update a (Obj.mapSeq fun _=>(#[]:Array Value))).push (seqObj "tuple" vs.toArray 0)).push (seqObj "list" #[] 0)).get? a=some (seqObj "list" #[] e1):=by
  rw[mE _ _ _ (by rw[size_push',oZ]; exact bc (iV ha)),mE _ _ _ (by rw[oZ]; exact bc ha)]
  exact Ft
 show wpAny (model prog w) A _ P E {s with heap:=((s.heap.update a (Obj.mapSeq fun _=>(#[]:Array Value))).push (seqObj "tuple" vs.toArray 0)).push (seqObj "list" #[] 0)}
 dsimp only
 have keep: ∀b o,b≠a->s.heap.get? b=some o->(((s.heap.update a (Obj.mapSeq fun _=>(#[]:Array Value))).push (seqObj "tuple" vs.toArray 0)).push (seqObj "list" #[] 0)).get? b=some o:=fun b o hb e=>
  ax _ (ax _ ((mD s.heap _ (vE hb)).trans e))
 have hsz:vs.toArray.size=vs.length:=by simp
 by_cases h2:vs.toArray.size < 2
 ·rw[bg h2,bg h2]
  refine ay (bM ?_)
  rw[StateT.run_pure]
  refine ay (bM ?_)
  dsimp only
  have Cs:(arrOf (SortSt.mk' general' (vs.toArray.zip vs.toArray) #[] 7 none)).map (·.2)=((List.toArray (List.range vs.length)).toList.map fun i=>vs.getD i Value.none).toArray:=by
   show(vs.toArray.zip vs.toArray).map (·.2)=_
   apply Array.toList_inj.mp
   apply List.ext_getElem?
   intro i
   simp only[Array.toList_map,Array.toList_zip,List.getElem?_map,List.getElem?_zip_eq_some,List.getElem?_range]
   by_cases hi:i < vs.length
   ·simp[hi,List.getElem?_zip_eq_some,List.zip]
   ·simp[hi]
  refine ay (seqEpoch_at S9 rfl ?_)
  rw[Cs]
  refine wpAny_bind (listUpdate_at S9 rfl ?_ (Nat.zero_le _) (by simp; omega))
  simp only[bne_self_eq_false,Bool.false_eq_true,if_false]
  refine bM (h _ (JV _) ?_)
  intro i j Xv hj
  have:i=j:=by omega
  subst this; exact fR _
 ·rw[aV h2,aV h2]
  have QJ:2<=vs.length:=by omega
  refine ay (cD (hk QJ _ (fun κ' s'=>κ'=κ/\s'={s with heap:=((s.heap.update a (Obj.mapSeq fun _=>(#[]:Array Value))).push (seqObj "tuple" vs.toArray 0)).push (seqObj "list" #[] 0)}) keep ⟨rfl,rfl⟩) (fun κ' s' JJ=>?_) fun _ _ x=>x.elim)
  obtain⟨rfl,rfl⟩:=JJ
  refine ay (cD (kat_run (Q:=fun zT s'=>s'={s with heap:=((s.heap.update a (Obj.mapSeq fun _=>(#[]:Array Value))).push (seqObj "tuple" vs.toArray 0)).push (seqObj "list" #[] 0)}/\ ∃p:Array Nat,p.size=vs.length/\arrOf zT=p.map (kas_item (vs.toArray.zip vs.toArray))/\failedOf zT=none/\qt vs.length p/\lp key p vs.length)
   (G:=fun p s'=>s'={s with heap:=((s.heap.update a (Obj.mapSeq fun _=>(#[]:Array Value))).push (seqObj "tuple" vs.toArray 0)).push (seqObj "list" #[] 0)}/\qt vs.length p/\lp key p vs.length)
   (κ:=κ') rfl QJ BS (fun p' zT s' a1 a2 a3 a4=>⟨a4.1,p',a1,a2,a3,a4.2⟩) (uB (fun i j C hi hj q=>hc _ i j C keep hi hj q) (fun p q=>⟨rfl,q⟩) _ (HP (by omega)))) ?_ fun _ _ e=>e)
  rintro⟨⟨⟩,zT⟩ s' ⟨rfl,p,hp,UZ,hf,q1,q2⟩
  dsimp only
  have Cs:=kat_snds (ks:=vs) (vs:=vs) rfl UZ
  rw[Cs]
  refine ay (seqEpoch_at S9 rfl ?_)
  refine ay (vC S9 rfl ?_ (bF _) (by rw[bJ,ae,oj,hp]; omega))
  rw[hf]
  simp only[bne_self_eq_false,Bool.false_eq_true,if_false]
  exact bM (h p q1 q2)
theorem Fu {l:Addr}{vs:List Value}{Q:Value->Shared->Prop}{key:Nat->Int}{κ:SortKind}(hl:s.heap.IsList l vs.toArray)(BS:vs.length < 64)
  (hk:2<=vs.length-> ∀(s':Shared) (Q:SortKind->Shared->Prop),(∀b o,s.heap.get? b=some o->s'.heap.get? b=some o)->Q κ s'->wpAny (model prog w) A.in1.in1 (keyKind' vs.toArray) Q (fun _ _=>False) s')
  (hc: ∀(s':Shared) (i j:Nat) (C:Bool->Shared->Prop),(∀b o,s.heap.get? b=some o->s'.heap.get? b=some o)->i < vs.length->j < vs.length->C (decide (key i < key j)) s'->
   wpAny (model prog w) A.in1.in1 (keyLt' κ (vs.getD i Value.none) (vs.getD j Value.none)) C (fun _ _=>False) s')
  (h: ∀p:Array Nat,qt vs.length p->lp key p vs.length->Q (.ref (s.heap.objs.size + 1)) {s with heap:=sortedAll s.heap vs (p.toList.map fun i=>vs.getD i Value.none).toArray}):
  wpAny (model prog w) A (call (.builtin "sorted") [.ref l]) Q E s:=by
 have Ta:sizeLine=16777216:=eK
 refine Calls.call_function_entry kind_sorted plain_sorted entry_sorted (args_sorted1 _) ?_
 unfold Builtin.«sorted»
 refine ay (m:=checkCount "sorted" 1 1 _) (bM ?_)
 refine ay (collect_list hl ?_ (by omega))
 refine ay (JW ?_ (by show vs.length<=_; omega))
 have hsz:((s.heap.push (seqObj "list" #[] 0)).update s.heap.objs.size (Obj.mapSeq (· ++ vs.toArray))).objs.size=s.heap.objs.size + 1:=by
  rw[oZ,size_push']
 have MP:(((s.heap.push (seqObj "list" #[] 0)).update s.heap.objs.size (Obj.mapSeq (· ++ vs.toArray))).push (seqObj "list" vs.toArray 0)).get? (s.heap.objs.size + 1)=some (seqObj "list" vs.toArray 0):=by
  rw[← hsz]; exact bV _ rfl
 have keep: ∀b o,s.heap.get? b=some o->b≠s.heap.objs.size + 1/\(((s.heap.push (seqObj "list" #[] 0)).update s.heap.objs.size (Obj.mapSeq (· ++ vs.toArray))).push (seqObj "list" vs.toArray 0)).get? b=some o:=fun b o q=>by
  have iY:b < s.heap.objs.size:=aO q
  refine⟨bc (iV iY),?_⟩
  rw[mE _ _ _ (by rw[hsz]; exact bc (iV iY)),G4 _ _ _ _ (bc iY),mE _ _ _ (bc iY)]
  exact q
 show wpAny _ _ _ _ _ {s with heap:=((s.heap.push (seqObj "list" #[] 0)).update s.heap.objs.size (Obj.mapSeq (· ++ vs.toArray))).push (seqObj "list" vs.toArray 0)}
 rw[hsz]
 refine ay (ix (wpAny_call_entry slot_list_sort ⟨_,MP,rfl⟩ entry_list_sort (yq (key:=key) (κ:=κ) MP BS
  (fun h2 s' Q' kp q=>hk h2 s' Q' (fun b o e=>kp b o (keep b o e).1 (keep b o e).2) q) (fun s' i j C kp hi hj q=>hc s' i j C (fun b o e=>kp b o (keep b o e).1 (keep b o e).2) hi hj q) fun p a1 a2=>⟨_,rfl,?_⟩) (args_list_sort _)))
 exact bM ⟨_,rfl,h p a1 a2⟩
theorem mQ {b:Bool}{Q:Bool->Shared->Prop}: ∀{ts us:List Int} {vs ws:List Value} (i:Nat),IntsAre vs ts->IntsAre ws us->Q (HT.lexLt ts us) s->
  KatLex prog w A b (decide (ts.length < us.length)) Q (vs.zip ws) i s
 |_,_,_,_,i,.nil,.nil,q=>q
 |_,_,_,_,i,.nil,.cons _ _ _,q=>by
  show Q (decide _) s
  rw[decide_eq_true (by simp)]; exact q
 |_,_,_,_,i,.cons _ _ _,.nil,q=>by
  show Q (decide _) s
  rw[decide_eq_false (by simp)]; exact q
 |_,_,_,_,i,.cons x t r,.cons y u r',q=>by
  refine kat_cons ?_
  have he:=SeqAt.EqAt.int_int (A:=A) (s:=s) x t y u
  refine he prog w _ _ ?_
  rw[HT.lR] at q
  by_cases e:x=y
  ·rw[bg e] at q
   have eb:(x == y)=true:=by simp[e]
   rw[eb]
   refine kat_yes ?_
   have hd: ∀(a b:Nat),decide (a + 1 < b + 1)=decide (a < b):=fun a b=>by
    rw[Bool.eq_iff_iff]; simp
   rw[cz,cz,hd]
   exact mQ (i + 1) r r' q
  ·rw[aV e] at q
   have eb:(x == y)=false:=by simpa using e
   rw[eb]
   refine kat_no ?_
   cases hb:(b && i == 0) with
   |true=>exact oneLt_int q
   |false=>exact kat_one _ _ (PyProof.Rows.lt_int q)
end
def gr (H:Hp)(ts:List (List Int))(xs:List V):Prop:=Paired (fun(t:List Int) v=> ∃p,v= .ref p/\H p=some (.tup (t.map V.int))) ts xs
theorem gr.mono {H H':Hp}{ts:List (List Int)}{xs:List V}(h:gr H ts xs)(k: ∀b xs,H b=some (.tup xs)->H' b=some (.tup xs)):gr H' ts xs:=
 Paired.ir h fun _ _ ⟨p,e,q⟩=>⟨p,e,k _ _ q⟩
theorem gr.get {H:Hp}{ts:List (List Int)}{xs:List V}(h:gr H ts xs){i:Nat}(hi:i < ts.length): ∃p,xs.getD i .eI= .ref p/\H p=some (.tup ((ts.getD i []).map V.int)):=by
 have g:ts[i]? =some ts[i]:=af hi
 obtain⟨v,hv,p,e,q⟩:=bR h g
 refine⟨p,?_,?_⟩
 ·rw[ak,hv,e]; rfl
 ·rw[ak,g]; exact q
theorem jD {xs:List V}{us:List Value}(r:Vals xs us)(i:Nat):RelV (xs.getD i .eI) (us.getD i .none):=by
 by_cases hi:i < xs.length
 ·have g:xs[i]? =some xs[i]:=af hi
  obtain⟨u,h1,h2⟩:=r.get g
  rw[ak,ak,g,h1]
  exact h2
 ·have h1:xs[i]? =none:=vJ (by omega)
  rw[ak,ak,h1,r.none_of h1]
  rfl
theorem rJ {xs:List V}{us:List Value}(r:Vals xs us): ∀l:List Nat,Vals (l.map fun i=>xs.getD i .eI) (l.map fun i=>us.getD i .none)
 |[]=> .nil
 |i :: l=> .cons (jD r i) (rJ r l)
theorem xu {H:Hp}{ts:List (List Int)}{xs:List V}(h:gr H ts xs): ∀l:List Nat,(∀i∈l,i < ts.length)->gr H (l.map fun i=>ts.getD i []) (l.map fun i=>xs.getD i .eI)
 |[],_=> .nil
 |i :: l,hl=> .cons (by
   obtain⟨p,e,q⟩:=h.get (hl i bT)
   exact⟨p,e,q⟩) (xu h l fun j hj=>hl j (bz _ hj))
theorem range_getD {α:Type}(ts:List α)(d:α):(List.range ts.length).map (fun i=>ts.getD i d)=ts:=by
 apply List.ext_getElem?
 intro i
 rw[aB]
 by_cases hi:i < ts.length
 ·rw[List.getElem?_range hi,oh,ak,af hi]; rfl
 ·rw[List.getElem?_eq_none (by simpa using hi),List.getElem?_eq_none (by omega)]; rfl
theorem qt.list {n:Nat}{p:Array Nat}(h:qt n p):p.toList.Perm (List.range n):=by
 have:=Array.perm_iff_toList_perm.mp h
 simpa using this
theorem sv {p:Array Nat}{n:Nat}{key:Nat->Int}(hp:p.size=n)(h:lp key p n):p.toList.Pairwise (fun i j=>key i<=key j):=by
 rw[List.pairwise_iff_getElem]
 intro i j hi hj Xv
 have vD:i < p.size:=by simpa using hi
 have Tc:j < p.size:=by simpa using hj
 have:=h i j (by omega) (by omega)
 unfold kf at this
 have e1:p.getD i 0=p.toList[i]:=by simp[Array.getD,vD]
 have e2:p.getD j 0=p.toList[j]:=by simp[Array.getD,Tc]
 rw[e1,e2] at this
 exact this
section
variable {X:Cx}
theorem Inv.tupI {pins:List (Addr×Obj)}{σ:St}{H:Hp}{s:Shared}(I:Inv X pins σ H s){p:Addr}{t:List Int}(h:H p=some (.tup (t.map V.int))):
  ∃(o:Obj) (cy:List Value) (n:Nat),s.heap.get? p=some o/\o.cls= .type "tuple"/\o.data= .seq cy.toArray n/\IntsAre cy t:=by
 obtain⟨_,cy,rv,o,ho,hc,n,hd⟩:=(show dJ X.prog X.w H s.heap p (.tup (t.map V.int)) from I.cK p _ h)
 exact⟨o,cy,n,ho,hc,hd,intsAre_of rv⟩
theorem rK {pins:List (Addr×Obj)}{σ:St}{H:Hp}{s:Shared}(I:Inv X pins σ H s){h':Heap}(kp: ∀b o,s.heap.get? b=some o->h'.get? b=some o): ∀{ts:List (List Int)} {xs:List V} {us:List Value},gr H ts xs->Vals xs us->(∀t∈ts,t≠[])->
  ∃fs:List Value,KatTups h' us fs/\fs.length=us.length/\ ∀v∈fs,∃n t,v= .int n t
 |[],_,us,.nil,r,_=>by
  have e:us=[]:=r.zero
  subst e
  exact⟨[],trivial,rfl,fun v hv=>by cases hv⟩
 |t :: ts,_,_,.cons ⟨p,e,q⟩ rest,.cons r1 r2,jf=>by
  subst e
  obtain⟨fs,h1,h2,h3⟩:=rK I kp rest r2 fun t ht=>jf t (bz _ ht)
  obtain⟨o,cy,n,ho,hc,hd,hi⟩:=I.tupI q
  have ht:t≠[]:=jf t bT
  cases hi with
  |nil=>exact absurd rfl ht
  |cons z tk vD=>
   cases r1
   refine⟨.int z tk :: fs,⟨⟨p,o,_,n,rfl,kp _ _ ho,hc,hd,by simp⟩,h1⟩,by rw[List.length_cons,List.length_cons,h2],fun v hv=>?_⟩
   rcases aw.mp hv with rfl|hv
   ·exact⟨z,tk,rfl⟩
   ·exact h3 v hv
def Np (K:PySem.W.Frag):List V->Hp->VK->Prop:=fun vs H Q=> ∃a xs ts,∃key:List Int->Int,vs=[V.ref a]/\bP K H a xs/\xs.length < 64/\gr H ts xs/\(∀t∈ts,t≠[])/\(∀t∈ts,∀u∈ts,HT.lexLt t u=decide (key t < key u))/\
 ∀D ys us,H D=none->gr H us ys->us.Perm ts->us.Pairwise (fun t u=>key t<=key u)->Q (V.ref D) (upd H D (.lst ys))
theorem qv:je X (.builtin "sorted") (Np X.K):=by
 intro pins s σ H xs us Q I r h
 obtain⟨a,xs,ts,key,rfl,hq,BS,hT,jf,Hh,q⟩:=h
 obtain⟨u,rfl,ru⟩:=vals1 r
 cases ru
 obtain⟨cy,rv,pl,hz⟩:=I.list hq
 have hl:=rv.length
 have iY:ts.length=xs.length:=hT.length
 refine Fu (κ:=tuples' true) (key:=fun i=>key (ts.getD i [])) pl.isList (by omega) (fun h2 s' Q' kp q'=>?_) (fun s' i j C kp hi hj q'=>?_) fun p hp Zr=>?_
 ·obtain⟨fs,f1,f2,f3⟩:=rK I kp hT rv jf
  refine kat_kind (T:= .type "int") f1 (by omega) (fun v hv=>?_) rfl q'
  obtain⟨n,t,rfl⟩:=f3 v hv
  exact Looks.of_pure rfl
 ·obtain⟨p1,e1,g1⟩:=hT.get (i:=i) (by omega)
  obtain⟨p2,e2,g2⟩:=hT.get (i:=j) (by omega)
  have w1:=jD rv i
  have w2:=jD rv j
  rw[e1] at w1
  rw[e2] at w2
  have Zs:cy.getD i Value.none= .ref p1:=w1
  have Zt:cy.getD j Value.none= .ref p2:=w2
  rw[Zs,Zt]
  obtain⟨o1,U0,n1,Ft,Zu,lU,QK⟩:=I.tupI g1
  obtain⟨o2,Fd,n2,O6,KA,hd2,QL⟩:=I.tupI g2
  refine kat_lt (kp _ _ Ft) lU (kp _ _ O6) hd2 ?_
  have l1:=QK.length
  have l2:=QL.length
  have m1:ts.getD i []∈ts:=by rw[ak,af (show i < ts.length by omega)]; exact bQ _
  have m2:ts.getD j []∈ts:=by rw[ak,af (show j < ts.length by omega)]; exact bQ _
  have k:=mQ (prog:=X.prog) (w:=X.w) (A:=X.A.in1.in1) (b:=true) (Q:=C) (s:=s') 0 QK QL (by rw[Hh _ m1 _ m2]; exact q')
  rw[bJ,bJ,l1,l2]
  exact k
 ·have mh:=hp.size
  have hD:H (s.heap.objs.size + 1)=none:=I.cK.fresh (dS _)
  obtain⟨e,he⟩:=sortedAll_at s.heap cy (p.toList.map fun i=>cy.getD i Value.none).toArray
  refine⟨.ref (s.heap.objs.size + 1),_,I.laid (t':=s.toks) (a:=s.heap.objs.size + 1) (o:= .lst (p.toList.map fun i=>xs.getD i .eI)) (fun b o q=>sortedAll_old q) (dS _) ⟨?_,_,e,rJ rv p.toList,he⟩,rfl,q _ _ (p.toList.map fun i=>ts.getD i []) hD ?_ ?_ ?_⟩
  ·rw[ae,oj,mh]
   exact a8 (iJ hl.symm) hz
  ·refine xu hT p.toList fun i hi=>?_
   have:=(hp.list.mem_iff).mp hi
   rw[dC] at this
   omega
  ·have e1:=hp.list.map (fun i=>ts.getD i [])
   rw[← hl,← iY,range_getD] at e1
   exact e1
  ·rw[rn]
   exact sv mh Zr
theorem sx (ns:List Int): ∀n,n<=ns.length->preSum (fun i=>ns.getD i 0) n=(ns.take n).sum
 |0,_=>by simp[preSum]
 |n + 1,h=>by
  rw[preSum,sx ns n (by omega),zS,List.sum_append,af (by omega),ak,af (by omega)]
  simp
def QM (K:PySem.W.Frag):List V->Hp->VK->Prop:=fun xs H Q=> ∃(p:Addr) (ns:List Int),xs=[V.ref p]/\bP K H p (ns.map V.int)/\Q (.int ns.sum) H
theorem rL (hc:X.calm=true):je X (.builtin "sum") (QM X.K):=by
 intro pins s σ H xs us Q I r h
 obtain⟨p,ns,rfl,hq,q⟩:=h
 obtain⟨u,rfl,ru⟩:=vals1 r
 cases ru
 obtain⟨cy,rv,pl,hz⟩:=I.list hq
 have hI:IntsAre cy ns:=intsAre_of rv
 have hl:=hI.length
 have hh:=I.ok.hd hc
 have hT:s.heap.IsList p cy.toArray:=pl.isList
 have hp:p < s.heap.objs.size:=by
  obtain⟨o,ho,_⟩:=hT
  exact aO ho
 have U1:p≠s.heap.objs.size:=bc hp
 refine call_sum_walkG (wpAny_pyIter_list hT ?_)
 refine⟨_,[_,p],[_],_,_,_,fun i=>ns.getD i 0,rfl,Walks.list (A:=X.A.in1) hh _ p U1 cy.toArray,
  ⟨⟨_,Heap.get?_push_size _ rfl,rfl,rfl⟩,hT.push _⟩,fun c hc=>?_,(fun i v hv=>IntsAre.int_at hI i v (by simpa using hv)),fun h' tk t' hk=>?_⟩
 ·show c < (s.heap.push _).objs.size
  rw[nP]
  rcases aw.mp hc with rfl|hc
  ·exact fZ _
  ·rcases aw.mp hc with rfl|hc
   ·exact iV hp
   ·cases hc
 ·refine⟨.int _,H,I.kept (t':=tk) (fun b o e=>hk b o (fun hm=>?_) (ax _ e)),⟨_,rfl⟩,?_⟩
  ·rw[ao] at hm
   exact absurd hm (bc (aO e))
  ·rw[bJ,hl,sx ns ns.length (aC _),bh]
   exact q
theorem xv (a:Array Nat): ∀(n:Nat) (acc:Array Nat),((List.replicate n a).foldl (· ++ ·) acc).size=acc.size + n * a.size
 |0,acc=>by simp
 |n + 1,acc=>by
  rw[dz,fQ,xv a n,Array.size_append,vH]
  omega
def QN:R2:=fun x y H Q=> ∃(z:Str) (n:Int),x= .str z/\y= .int n/\z.length=1/\0<=n/\n<=1000/\ ∀z':Str,z'.length<=1000->Q (.str z') H
theorem yr:oF X (binaryOp .Mult) QN:=by
 intro pins s σ H x y v u Q I rx ry h
 obtain⟨z,n,rfl,rfl,hz,h0,h1,q⟩:=h
 obtain⟨t,rfl⟩:=rx
 obtain⟨t',rfl⟩:=ry
 refine P.mul_str ?_ (fun _ _=>?_) (fun _ _=>?_) ?_
 ·rw[bA (by omega),bA (by omega)]; rfl
 ·rw[hz]
  intro KC
  have:(2 ^ 63 - 1:Int) / n≥1:=by
   have hn:0 < n:=by
    by_cases c:0 < n
    ·exact c
    ·have e:n=0:=by omega
     subst e
     simp at KC
     omega
   exact Int.le_ediv_of_mul_le hn (by omega)
  omega
 ·rw[hz]
  unfold Builtin.Str.tooLong
  simp
  rw[eK]
  omega
 ·by_cases c:n < 1
  ·rw[bg c]
   exact⟨by decide,⟨.str Str.empty,H,I.tok _,⟨_,rfl⟩,q _ (by show 0<=1000; omega)⟩⟩
  ·rw[aV c]
   by_cases c2:(n == 1 || z.length == 0)=true
   ·rw[bg c2]
    exact⟨.str z,H,I,⟨_,rfl⟩,q _ (by omega)⟩
   ·rw[aV c2]
    have hsz:((List.replicate n.toNat z.cps).foldl (· ++ ·) #[]).size<=1000:=by
     rw[xv]
     have:z.cps.size=1:=hz
     rw[this]
     simp
     omega
    refine⟨?_,⟨.str _,H,I.tok _,⟨_,rfl⟩,q _ hsz⟩⟩
    show _<=_
    refine a8 hsz ?_
    rw[eK]; omega
end
inductive bI where
 |d9 (aL:Str) (day yt dO:Int)
 |ra (aL:Str) (day dO:Int)
 |note (b day dO:Int)
 |set (c b dO:Int)
 |fI (aL:Str)
 |i6 (n:Int)
 |ask (aU:Bool) (aL:Str) (day:Int)
 |iM (aL:Str) (day:Int) (bZ:List Int)
structure Rw where
 aL:Str
 a:Int
 b:Int
 c:Int
 d:Int
instance:Inhabited Rw:=⟨⟨"",0,0,0,0⟩⟩
structure Bk where
 aH:List Rw
 credits:List Rw
 made:List (Nat×Nat×Int)
def Bk.new:Bk:=⟨[],[],[]⟩
def Bk.cr (S:Bk)(c:Nat):Rw:=S.credits.getD c default
def Bk.bl (S:Bk)(b:Nat):Rw:=S.aH.getD b default
def Bk.eM (S:Bk)(c b:Nat):Bool:=decide ((S.cr c).aL=(S.bl b).aL) && (decide ((S.cr c).c= -1) || decide ((S.cr c).c=(b:Int)))
def Rw.less (r:Rw)(x:Int):Rw:={r with d:=r.d - x}
def Bk.put (S:Bk)(c b:Nat)(x:Int):Bk:=⟨S.aH.set b ((S.bl b).less x),S.credits.set c ((S.cr c).less x),S.made ++ [(c,b,x)]⟩
def iN (a b:Int):Int:=if b < a then b else a
def tq (x:Int×Nat):Int:=x.1 * 1000 + (x.2:Int)
def ins (x:Int×Nat):List (Int×Nat)->List (Int×Nat)
 |[]=>[x]
 |y :: l=>if tq x<=tq y then x :: y :: l else y :: ins x l
def eE:List (Int×Nat)->List (Int×Nat)
 |[]=>[]
 |x :: l=>ins x (eE l)
theorem Au (x y:Int×Nat)(l:List (Int×Nat)):ins x (y :: l)=if tq x<=tq y then x :: y :: l else y :: ins x l:=rfl
theorem uD (x:Int×Nat): ∀l,(ins x l).Perm (x :: l)
 |[]=>ME _
 |y :: l=>by
  unfold ins
  split
  ·exact ME _
  ·exact(List.Perm.cons y (uD x l)).trans (List.Perm.swap x y l)
theorem dr: ∀l,(eE l).Perm l
 |[]=>ME _
 |x :: l=>(uD x (eE l)).trans (List.Perm.cons x (dr l))
theorem HQ (x:Int×Nat): ∀l,l.Pairwise (fun a b=>tq a<=tq b)->(ins x l).Pairwise (fun a b=>tq a<=tq b)
 |[],_=>List.pairwise_singleton _ _
 |y :: l,h=>by
  rw[fm] at h
  unfold ins
  split
  ·rename_i c
   rw[fm]
   refine⟨fun z hz=>?_,fm.mpr h⟩
   rcases aw.mp hz with rfl|hz
   ·exact c
   ·exact vK c (h.1 z hz)
  ·rename_i c
   rw[fm]
   refine⟨fun z hz=>?_,HQ x l h.2⟩
   rcases aw.mp ((uD x l).mem_iff.mp hz) with rfl|hz
   ·omega
   ·exact h.1 z hz
theorem uE: ∀l,(eE l).Pairwise (fun a b=>tq a<=tq b)
 |[]=>List.Pairwise.nil
 |x :: l=>HQ x _ (uE l)
theorem Fv (x:Int×Nat): ∀l,(∀y∈l,tq x<=tq y)->ins x l=x :: l
 |[],_=>rfl
 |y :: l,h=>by
  unfold ins
  rw[bg (h y bT)]
theorem uF (p:Int×Nat->Bool)(x:Int×Nat): ∀l,l.Pairwise (fun a b=>tq a<=tq b)->(ins x l).filter p=if p x then ins x (l.filter p) else l.filter p
 |[],_=>by
  unfold ins
  cases h:p x <;> simp[h,ins]
 |y :: l,hs=>by
  rw[fm] at hs
  rw[Au]
  by_cases c:tq x<=tq y
  ·rw[bg c]
   cases h:p x
   ·rw[List.filter_cons_of_neg (by simp[h])]
    simp
   ·rw[cI h]
    simp only[if_true]
    rw[Fv x]
    intro z hz
    rcases aw.mp (eX.mp hz).1 with rfl|Zv
    ·exact c
    ·exact vK c (hs.1 z Zv)
  ·rw[aV c]
   have ih:=uF p x l hs.2
   cases hy:p y
   ·rw[List.filter_cons_of_neg (by simp[hy]),ih,List.filter_cons_of_neg (by simp[hy])]
   ·rw[cI hy,ih,cI hy]
    cases h:p x
    ·simp
    ·simp only[if_true]
     rw[Au,aV c]
theorem lV (p:Int×Nat->Bool): ∀l,eE (l.filter p)=(eE l).filter p
 |[]=>rfl
 |x :: l=>by
  show _ =(ins x (eE l)).filter p
  rw[uF p x _ (uE l),← lV p l]
  cases h:p x
  ·rw[List.filter_cons_of_neg (by simp[h])]
   simp
  ·rw[cI h]
   simp[eE]
def gu (rows:List Rw)(aL:Str)(key:Rw->Int):List (Int×Nat):=((List.range rows.length).filter fun k=>decide ((rows.getD k default).aL=aL)).map fun k=>(key (rows.getD k default),k)
def inOrder (rows:List Rw)(aL:Str)(key:Rw->Int):List Nat:=(eE (gu rows aL key)).map (·.2)
def uG (rows:List Rw)(aL:Str)(key:Rw->Int):List (Int×Nat):=
 ((List.range rows.length).filter fun k=>decide ((rows.getD k default).aL=aL) && decide (0 < (rows.getD k default).d)).map fun k=>(key (rows.getD k default),k)
def inTurn (rows:List Rw)(aL:Str)(key:Rw->Int):List Nat:=(eE (uG rows aL key)).map (·.2)
theorem Av (rows:List Rw)(aL:Str)(key:Rw->Int):uG rows aL key=(gu rows aL key).filter fun x=>decide (0 < (rows.getD x.2 default).d):=by
 unfold uG gu
 rw[JX,pU]
 congr 1
 apply rq
 intro k _
 simp[Bool.and_comm]
theorem sy {α β:Type}(f:α->β)(p:β->Bool)(l:List α):(l.filter fun x=>p (f x)).map f=(l.map f).filter p:=by
 rw[JX]; rfl
theorem ie (rows:List Rw)(aL:Str)(key:Rw->Int):inTurn rows aL key=(inOrder rows aL key).filter fun k=>decide (0 < (rows.getD k default).d):=by
 unfold inTurn inOrder
 rw[Av,lV]
 exact sy (fun x:Int×Nat=>x.2) (fun k=>decide (0 < (rows.getD k default).d)) _
theorem kB {rows:List Rw}{aL:Str}{key:Rw->Int}{k:Nat}:k∈inOrder rows aL key↔k < rows.length/\(rows.getD k default).aL=aL:=by
 unfold inOrder gu
 rw[bN]
 constructor
 ·rintro⟨x,hx,rfl⟩
  obtain⟨j,hj,rfl⟩:=bN.mp ((dr _).mem_iff.mp hx)
  simpa using hj
 ·rintro⟨h1,h2⟩
  refine⟨(key (rows.getD k default),k),(dr _).mem_iff.mpr (bN.mpr ⟨k,?_,rfl⟩),rfl⟩
  exact List.mem_filter.mpr ⟨List.mem_range.mpr h1,by simpa using h2⟩
theorem eT {rows:List Rw}{aL:Str}{key:Rw->Int}{k:Nat}:k∈inTurn rows aL key↔k < rows.length/\(rows.getD k default).aL=aL/\0 < (rows.getD k default).d:=by
 rw[ie,eX,kB]
 simp[and_assoc]
theorem vT (rows:List Rw)(aL:Str)(key:Rw->Int):(inOrder rows aL key).Nodup:=by
 have h:((eE (gu rows aL key)).map (·.2)).Perm ((gu rows aL key).map (·.2)):=(dr _).map _
 refine h.nodup_iff.mpr ?_
 unfold gu
 rw[eZ]
 have e:((fun x:Int×Nat=>x.2) ∘ fun k=>(key (rows.getD k default),k))=id:=rfl
 rw[e,zY]
 exact mv.filter _
theorem lW (rows:List Rw)(aL:Str)(key:Rw->Int):(inTurn rows aL key).Nodup:=by
 rw[ie]
 exact(vT rows aL key).filter _
def ou (r r':Rw):Prop:=r'.aL=r.aL/\r'.a=r.a/\r'.b=r.b/\r'.c=r.c
theorem ou.refl (r:Rw):ou r r:=⟨rfl,rfl,rfl,rfl⟩
theorem ou.trans {r s t:Rw}(h:ou r s)(k:ou s t):ou r t:=⟨k.1.trans h.1,k.2.1.trans h.2.1,k.2.2.1.trans h.2.2.1,k.2.2.2.trans h.2.2.2⟩
theorem Aw {rows iC:List Rw}{aL:Str}{key:Rw->Int}(hk: ∀r r',ou r r'->key r'=key r)(hl:iC.length=rows.length)(h: ∀k,ou (rows.getD k default) (iC.getD k default)):gu iC aL key=gu rows aL key:=by
 unfold gu
 rw[hl]
 have e:(fun k=>decide ((iC.getD k default).aL=aL))=fun k=>decide ((rows.getD k default).aL=aL):=by
  funext k
  rw[(h k).1]
 rw[e]
 apply gS
 intro k _
 rw[hk _ _ (h k)]
theorem yu {rows iC:List Rw}{aL:Str}{key:Rw->Int}(hk: ∀r r',ou r r'->key r'=key r)(hl:iC.length=rows.length)(h: ∀k,ou (rows.getD k default) (iC.getD k default)):inOrder iC aL key=inOrder rows aL key:=by
 unfold inOrder
 rw[Aw hk hl h]
theorem yw {rows iC:List Rw}{aL:Str}{key:Rw->Int}(hk: ∀r r',ou r r'->key r'=key r)(hl:iC.length=rows.length)(h: ∀k,ou (rows.getD k default) (iC.getD k default))(hd: ∀k,(iC.getD k default).d<=(rows.getD k default).d):
  inTurn iC aL key=(inTurn rows aL key).filter fun k=>decide (0 < (iC.getD k default).d):=by
 rw[ie,ie,yu hk hl h,pU]
 apply rq
 intro k _
 have:=hd k
 by_cases c:0 < (iC.getD k default).d
 ·have c2:0 < (rows.getD k default).d:=by omega
  rw[aE c,aE c2]
  rfl
 ·rw[bA c]
  rfl
def cH (exact:Bool)(c:Nat)(S:Bk)(b:Nat):Bk:=
 if 0 < (S.cr c).d/\S.eM c b=true/\((S.cr c).d=(S.bl b).d∨exact=false) then S.put c b (iN (S.cr c).d (S.bl b).d) else S
def cZ (aL:Str)(exact:Bool)(S:Bk)(c:Nat):Bk:=(inTurn S.aH aL (·.b)).foldl (cH exact c) S
def bY (aL:Str)(S:Bk)(exact:Bool):Bk:=(inTurn S.credits aL (·.a)).foldl (cZ aL exact) S
def Bk.jR (S:Bk)(aL:Str):Bk:=bY aL (bY aL S true) false
theorem Ax {α:Type}{l:List α}{i k:Nat}{v d:α}(h:i < l.length):(l.set i v).getD k d=if k=i then v else l.getD k d:=by
 rw[ak,ak]
 by_cases c:k=i
 ·subst c
  rw[bg rfl,k4 h]
  rfl
 ·rw[aV c,mC (fun z=>c z.symm)]
theorem uH {S:Bk}{c b k:Nat}{x:Int}(h:b < S.aH.length):(S.put c b x).bl k=if k=b then(S.bl b).less x else S.bl k:=Ax h
theorem rM {S:Bk}{c b k:Nat}{x:Int}(h:c < S.credits.length):(S.put c b x).cr k=if k=c then(S.cr c).less x else S.cr k:=Ax h
def kq (S:Bk)(l:List (Nat×Nat×Int)):Bk:=l.foldl (fun S t=>S.put t.1 t.2.1 t.2.2) S
theorem mR (S:Bk)(l m:List (Nat×Nat×Int)):kq S (l ++ m)=kq (kq S l) m:=by
 unfold kq; rw[List.foldl_append]
theorem jE (S:Bk): ∀l,(kq S l).made=S.made ++ l
 |[]=>by simp[kq]
 |t :: l=>by
  show(kq (S.put t.1 t.2.1 t.2.2) l).made=_
  rw[jE _ l]
  simp[Bk.put]
structure Later (S S':Bk):Prop where
 bl:S'.aH.length=S.aH.length
 cl:S'.credits.length=S.credits.length
 b: ∀k,ou (S.bl k) (S'.bl k)/\(S'.bl k).d<=(S.bl k).d
 c: ∀k,ou (S.cr k) (S'.cr k)/\(S'.cr k).d<=(S.cr k).d
theorem Later.refl (S:Bk):Later S S:=⟨rfl,rfl,fun k=>⟨ou.refl _,fR _⟩,fun k=>⟨ou.refl _,fR _⟩⟩
theorem Later.trans {S T U:Bk}(h:Later S T)(k:Later T U):Later S U:=
 ⟨k.bl.trans h.bl,k.cl.trans h.cl,fun i=>⟨(h.b i).1.trans (k.b i).1,vK (k.b i).2 (h.b i).2⟩,fun i=>⟨(h.c i).1.trans (k.c i).1,vK (k.c i).2 (h.c i).2⟩⟩
theorem Later.put {S:Bk}{c b:Nat}{x:Int}(hb:b < S.aH.length)(hc:c < S.credits.length)(hx:0<=x):Later S (S.put c b x):=by
 refine⟨eA,eA,fun k=>?_,fun k=>?_⟩
 ·rw[uH hb]
  split
  ·rename_i e
   subst e
   exact⟨ou.refl _,by show(S.bl k).d - x<=_; omega⟩
  ·exact⟨ou.refl _,fR _⟩
 ·rw[rM hc]
  split
  ·rename_i e
   subst e
   exact⟨ou.refl _,by show(S.cr k).d - x<=_; omega⟩
  ·exact⟨ou.refl _,fR _⟩
theorem Later.eM {S T:Bk}(h:Later S T)(c b:Nat):T.eM c b=S.eM c b:=by
 unfold Bk.eM
 rw[(h.c c).1.1,(h.b b).1.1,(h.c c).1.2.2.2]
theorem Later.Mb {S T:Bk}(h:Later S T)(aL:Str):inTurn T.aH aL (·.b)=(inTurn S.aH aL (·.b)).filter fun k=>decide (0 < (T.bl k).d):=
 yw (fun r r' z=>z.2.2.1) h.bl (fun k=>(h.b k).1) (fun k=>(h.b k).2)
def hJ (f:Int)(ls:List Int)(row:List Bool)(tk:Nat->Bool):Option Nat:=(List.range ls.length).find? fun j=>row.getD j false && decide (ls.getD j 0=f) && !tk j
def ck (fs ls:List Int)(al:List (List Bool)):Nat->(Nat->Bool)×List (Nat×Nat×Int)
 |0=>(fun _=>false,[])
 |i + 1=>match hJ (fs.getD i 0) ls (al.getD i []) (ck fs ls al i).1 with
  |none=>ck fs ls al i
  |some j=>(fun x=>x == j || (ck fs ls al i).1 x,(ck fs ls al i).2 ++ [(i,j,fs.getD i 0)])
def lX (gs ts:List Nat)(t:Nat×Nat×Int):Nat×Nat×Int:=(gs.getD t.1 0,ts.getD t.2.1 0,t.2.2)
theorem xx {α:Type}(l:List α)(d:α):(List.range l.length).map (fun j=>l.getD j d)=l:=by
 apply List.ext_getElem
 ·rw[ae,dF]
 ·intro i h1 h2
  rw[List.getElem_map,List.getElem_range,ak,af h2]
  rfl
theorem Ct {α:Type}(l:List α)(d:α)(p:α->Bool):l.find? p=((List.range l.length).find? fun j=>p (l.getD j d)).map fun j=>l.getD j d:=by
 have e:l.find? p=((List.range l.length).map (fun j=>l.getD j d)).find? p:=by rw[xx]
 rw[e,List.find?_map]
 rfl
theorem jS {l:List Nat}{i:Nat}(h:i < l.length):l.getD i 0∈l:=by
 rw[ak,af h]
 exact bQ _
theorem getD_map {α β:Type}(f:α->β)(l:List α)(i:Nat)(d:α)(e:β)(h:i < l.length):(l.map f).getD i e=f (l.getD i d):=by
 rw[ak,ak,aB,af h]
 rfl
theorem getD_inj {l:List Nat}(nd:l.Nodup){i j:Nat}(hi:i < l.length)(hj:j < l.length)(h:l.getD i 0=l.getD j 0):i=j:=by
 rw[ak,ak,af hi,af hj] at h
 exact(List.getElem_inj nd).mp h
theorem idle {ex:Bool}{c:Nat}: ∀{l:List Nat} {S:Bk},(S.cr c).d<=0->l.foldl (cH ex c) S=S
 |[],_,_=>rfl
 |b :: l,S,h=>by
  rw[fQ]
  have e:cH ex c S b=S:=by
   unfold cH
   rw[aV (fun z=>by omega)]
  rw[e]
  exact idle h
theorem DM {c:Nat}{S:Bk}(hc:c < S.credits.length): ∀{l:List Nat},(∀b∈l,b < S.aH.length)->0 < (S.cr c).d->l.foldl (cH true c) S=match l.find? (fun b=>S.eM c b && decide ((S.bl b).d=(S.cr c).d)) with
  |none=>S
  |some b=>S.put c b (S.cr c).d
 |[],_,_=>rfl
 |b :: l,hl,h=>by
  rw[fQ]
  by_cases z:(S.eM c b && decide ((S.bl b).d=(S.cr c).d))=true
  ·rw[List.find?_cons_of_pos (p:=fun b=>S.eM c b && decide ((S.bl b).d=(S.cr c).d)) z]
   have z':S.eM c b=true/\(S.bl b).d=(S.cr c).d:=by simpa using z
   have e:cH true c S b=S.put c b (S.cr c).d:=by
    unfold cH
    rw[bg ⟨h,z'.1,.inl z'.2.symm⟩,z'.2]
    congr 1
    unfold iN
    split <;> rfl
   rw[e]
   refine idle ?_
   rw[rM hc,bg rfl]
   show(S.cr c).d - (S.cr c).d<=0
   omega
  ·rw[List.find?_cons_of_neg (p:=fun b=>S.eM c b && decide ((S.bl b).d=(S.cr c).d)) z]
   have e:cH true c S b=S:=by
    unfold cH
    rw[aV]
    rintro⟨_,z1,z2⟩
    rcases z2 with z2|z2
    ·exact z (by simp[z1,z2])
    ·cases z2
   rw[e]
   exact DM hc (fun x hx=>hl x (bz _ hx)) h
structure uI (S:Bk)(aL:Str)(gs ts:List Nat)(fs ls:List Int)(al:List (List Bool)):Prop where
 eg:gs=inTurn S.credits aL (·.a)
 et:ts=inTurn S.aH aL (·.b)
 ef:fs=gs.map fun g=>(S.cr g).d
 el:ls=ts.map fun t=>(S.bl t).d
 ea:al=gs.map fun g=>ts.map fun t=>S.eM g t
section
variable {S:Bk}{aL:Str}{gs ts:List Nat}{fs ls:List Int}{al:List (List Bool)}
theorem uI.g (R:uI S aL gs ts fs ls al){i:Nat}(h:i < gs.length):gs.getD i 0 < S.credits.length/\0 < (S.cr (gs.getD i 0)).d/\fs.getD i 0=(S.cr (gs.getD i 0)).d:=by
 have m:=jS h
 rw[R.eg] at m
 obtain⟨m1,_,m3⟩:=eT.mp m
 rw[← R.eg] at m1 m3
 exact⟨m1,m3,by rw[R.ef,getD_map _ gs i 0 0 h]⟩
theorem uI.t (R:uI S aL gs ts fs ls al){i:Nat}(h:i < ts.length):ts.getD i 0 < S.aH.length/\0 < (S.bl (ts.getD i 0)).d/\ls.getD i 0=(S.bl (ts.getD i 0)).d:=by
 have m:=jS h
 rw[R.et] at m
 obtain⟨m1,_,m3⟩:=eT.mp m
 rw[← R.et] at m1 m3
 exact⟨m1,m3,by rw[R.el,getD_map _ ts i 0 0 h]⟩
theorem uI.a (R:uI S aL gs ts fs ls al){i j:Nat}(hi:i < gs.length)(hj:j < ts.length):(al.getD i []).getD j false=S.eM (gs.getD i 0) (ts.getD j 0):=by
 rw[R.ea,getD_map _ gs i 0 [] hi,getD_map _ ts j 0 false hj]
theorem uI.gn (R:uI S aL gs ts fs ls al):gs.Nodup:=by rw[R.eg]; exact lW _ _ _
theorem uI.tn (R:uI S aL gs ts fs ls al):ts.Nodup:=by rw[R.et]; exact lW _ _ _
theorem uI.ll (R:uI S aL gs ts fs ls al):ls.length=ts.length:=by rw[R.el,ae]
theorem uI.tm (R:uI S aL gs ts fs ls al){b:Nat}(h:b∈ts):b < S.aH.length:=by
 rw[R.et] at h
 exact(eT.mp h).1
theorem pB {l:List Nat}{i:Nat}(h:i < l.length):l.take (i + 1)=l.take i ++ [l.getD i 0]:=by
 rw[zS,af h,ak,af h]
 rfl
structure U2 (S:Bk)(aL:Str)(gs ts:List Nat)(fs ls:List Int)(i:Nat)(st:(Nat->Bool)×List (Nat×Nat×Int))(Si:Bk):Prop where
 run:(gs.take i).foldl (cZ aL true) S=Si
 eq:Si=kq S (st.2.map (lX gs ts))
 later:Later S Si
 b: ∀j,j < ts.length->(Si.bl (ts.getD j 0)).d=if st.1 j=true then 0 else ls.getD j 0
 c: ∀k,i<=k->k < gs.length->(Si.cr (gs.getD k 0)).d=fs.getD k 0
theorem Ay (R:uI S aL gs ts fs ls al){i:Nat}{Si:Bk}(hi:i < gs.length)(J:U2 S aL gs ts fs ls i (ck fs ls al i) Si): ∃S',U2 S aL gs ts fs ls (i + 1) (ck fs ls al (i + 1)) S':=by
 obtain⟨g1,g2,g3⟩:=R.g hi
 have gc:gs.getD i 0 < Si.credits.length:=by rw[J.later.cl]; exact g1
 have fr:(Si.cr (gs.getD i 0)).d=fs.getD i 0:=J.c i (aC _) hi
 have fp:0 < (Si.cr (gs.getD i 0)).d:=by rw[fr,g3]; exact g2
 have find:((inTurn Si.aH aL (·.b)).find? fun b=>Si.eM (gs.getD i 0) b && decide ((Si.bl b).d=(Si.cr (gs.getD i 0)).d))=(hJ (fs.getD i 0) ls (al.getD i []) (ck fs ls al i).1).map fun j=>ts.getD j 0:=by
  rw[J.later.Mb,← R.et,List.find?_filter,Ct ts 0]
  unfold hJ
  rw[R.ll]
  congr 1
  have q: ∀j∈List.range ts.length,(decide (0 < (Si.bl (ts.getD j 0)).d) && (Si.eM (gs.getD i 0) (ts.getD j 0) && decide ((Si.bl (ts.getD j 0)).d=(Si.cr (gs.getD i 0)).d)))=((al.getD i []).getD j false && decide (ls.getD j 0=fs.getD i 0) && !(ck fs ls al i).1 j):=by
   intro j hj
   have hj:=dC.mp hj
   rw[R.a hi hj,J.later.eM,J.b j hj,fr]
   obtain⟨_,t2,t3⟩:=R.t hj
   cases h:(ck fs ls al i).1 j
   ·simp only[Bool.false_eq_true,if_false,Bool.not_false,Bool.and_true]
    rw[t3,aE t2]
    simp
   ·simp
  have key: ∀(l:List Nat) (p q:Nat->Bool),(∀j∈l,p j=q j)->l.find? p=l.find? q:=by
   intro l p q h
   induction l with
   |nil=>rfl
   |cons x l ih=>
    rw[List.find?_cons,List.find?_cons,h x bT,ih fun j hj=>h j (bz _ hj)]
  refine key _ _ _ fun j hj=>?_
  rw[← q j hj]
  simp
 have run:(gs.take (i + 1)).foldl (cZ aL true) S=match(hJ (fs.getD i 0) ls (al.getD i []) (ck fs ls al i).1).map (fun j=>ts.getD j 0) with
   |none=>Si
   |some b=>Si.put (gs.getD i 0) b (Si.cr (gs.getD i 0)).d:=by
  rw[pB hi,rz,J.run]
  show cZ aL true Si (gs.getD i 0)=_
  unfold cZ
  rw[DM gc (fun b hb=>(eT.mp hb).1) fp,find]
 cases h:hJ (fs.getD i 0) ls (al.getD i []) (ck fs ls al i).1 with
 |none=>
  rw[h] at run
  have e:ck fs ls al (i + 1)=ck fs ls al i:=by rw[ck,h]
  rw[e]
  exact⟨Si,run,J.eq,J.later,J.b,fun k h1 h2=>J.c k (by omega) h2⟩
 |some j=>
  rw[h] at run
  have e:ck fs ls al (i + 1)=(fun x=>x == j || (ck fs ls al i).1 x,(ck fs ls al i).2 ++ [(i,j,fs.getD i 0)]):=by rw[ck,h]
  have hj:j < ts.length:=by
   unfold hJ at h
   have:=MF h
   rw[R.ll] at this
   exact dC.mp this
  have Xw:(al.getD i []).getD j false=true/\ls.getD j 0=fs.getD i 0/\(ck fs ls al i).1 j=false:=by
   unfold hJ at h
   have:=List.find?_some h
   simpa[and_assoc] using this
  obtain⟨t1,t2,t3⟩:=R.t hj
  have tb:ts.getD j 0 < Si.aH.length:=by rw[J.later.bl]; exact t1
  have f0:0<=fs.getD i 0:=by rw[g3]; omega
  have run':(gs.take (i + 1)).foldl (cZ aL true) S=Si.put (gs.getD i 0) (ts.getD j 0) (fs.getD i 0):=by
   rw[run,← fr]
   rfl
  rw[e]
  refine⟨Si.put (gs.getD i 0) (ts.getD j 0) (fs.getD i 0),run',?_,J.later.trans (Later.put tb gc f0),fun j' Tc=>?_,fun k h1 h2=>?_⟩
  ·rw[aR,mR,← J.eq]
   rfl
  ·rw[uH tb]
   by_cases q:j'=j
   ·subst q
    rw[bg rfl]
    simp only[beq_self_eq_true,Bool.true_or,if_true]
    show(Si.bl (ts.getD j' 0)).d - fs.getD i 0=0
    rw[J.b j' hj,Xw.2.2,aV (by decide),Xw.2.1]
    omega
   ·rw[aV fun z=>q (getD_inj R.tn Tc hj z),J.b j' Tc]
    have:(j' == j)=false:=by simpa using q
    show _ =if(j' == j || (ck fs ls al i).1 j')=true then 0 else _
    rw[this,Bool.false_or]
  ·rw[rM gc,aV fun z=>by have:=getD_inj R.gn h2 hi z; omega]
   exact J.c k (by omega) h2
theorem uJ (R:uI S aL gs ts fs ls al): ∀i,i<=gs.length-> ∃Si,U2 S aL gs ts fs ls i (ck fs ls al i) Si
 |0,_=>⟨S,rfl,rfl,Later.refl S,fun j hj=>by
   obtain⟨_,_,t3⟩:=R.t hj
   show _ =if false=true then 0 else _
   rw[aV (by decide),t3],fun k _ h2=>by
   obtain⟨_,_,g3⟩:=R.g h2
   exact g3.symm⟩
 |i + 1,h=>by
  obtain⟨Si,J⟩:=uJ R i (by omega)
  exact Ay R (by omega) J
theorem HR (R:uI S aL gs ts fs ls al):bY aL S true=kq S ((ck fs ls al gs.length).2.map (lX gs ts))/\Later S (bY aL S true):=by
 obtain⟨Si,J⟩:=uJ R gs.length (aC _)
 have e:bY aL S true=Si:=by
  unfold bY
  rw[← R.eg,← J.run,bh]
 rw[e]
 exact⟨J.eq,J.later⟩
end
theorem DN {l:List Int}{i j:Nat}{v:Int}(h:i≠j):(l.set i v).getD j 0=l.getD j 0:=by
 rw[ak,ak,mC h]
theorem KD {l:List Int}{i:Nat}{v:Int}(h:i < l.length):(l.set i v).getD i 0=v:=by
 rw[ak,k4 h]; rfl
def dR (l:List Int)(ps:List (Nat×Int)):List Int:=ps.foldl (fun l x=>l.set x.1 (l.getD x.1 0 - x.2)) l
theorem sC (l:List Int)(ps:List (Nat×Int))(x:Nat×Int):dR l (ps ++ [x])=(dR l ps).set x.1 ((dR l ps).getD x.1 0 - x.2):=by
 unfold dR; rw[List.foldl_append]; rfl
theorem pC (ps:List (Nat×Int)): ∀l:List Int,(dR l ps).length=l.length:=by
 induction ps with
 |nil=>intro l; rfl
 |cons x ps ih=>
  intro l
  show(dR (l.set x.1 _) ps).length=_
  rw[ih,eA]
def bK (f:Int)(l:List Int)(row:List Bool):Nat->Int×List (Nat×Int)
 |0=>(f,[])
 |j + 1=>if row.getD j false=true/\0 < iN (bK f l row j).1 (l.getD j 0) then((bK f l row j).1 - iN (bK f l row j).1 (l.getD j 0),(bK f l row j).2 ++ [(j,iN (bK f l row j).1 (l.getD j 0))]) else bK f l row j
def cF (fs ls:List Int)(al:List (List Bool)):Nat->List Int×List (Nat×Nat×Int)
 |0=>(ls,[])
 |i + 1=>(dR (cF fs ls al i).1 (bK (fs.getD i 0) (cF fs ls al i).1 (al.getD i []) (cF fs ls al i).1.length).2,
   (cF fs ls al i).2 ++ (bK (fs.getD i 0) (cF fs ls al i).1 (al.getD i []) (cF fs ls al i).1.length).2.map fun x=>(i,x.1,x.2))
theorem jF (fs ls:List Int)(al:List (List Bool)): ∀i,(cF fs ls al i).1.length=ls.length
 |0=>rfl
 |i + 1=>by
  show(dR _ _).length=_
  rw[pC,jF fs ls al i]
def gh (c:Nat)(S:Bk)(b:Nat):Bk:=if 0 < (S.bl b).d then cH false c S b else S
theorem HS {c b:Nat}{S:Bk}(hc:c < S.credits.length)(hb:b < S.aH.length):Later S (gh c S b)/\ ∀k,k≠b->((gh c S b).bl k).d=(S.bl k).d:=by
 unfold gh cH
 split
 ·rename_i h1
  split
  ·rename_i h2
   refine⟨Later.put hb hc ?_,fun k hk=>by rw[uH hb,aV hk]⟩
   unfold iN
   split <;> omega
  ·exact⟨Later.refl S,fun _ _=>rfl⟩
 ·exact⟨Later.refl S,fun _ _=>rfl⟩
theorem DO {c:Nat}{S0:Bk}: ∀{l:List Nat} {S:Bk},l.Nodup->c < S.credits.length->(∀b∈l,b < S.aH.length)->(∀b∈l,(S.bl b).d=(S0.bl b).d)->
  (l.filter fun b=>decide (0 < (S0.bl b).d)).foldl (cH false c) S=l.foldl (gh c) S
 |[],_,_,_,_,_=>rfl
 |b :: l,S,nd,hc,hl,hd=>by
  rw[fP] at nd
  obtain⟨lt,ot⟩:=HS (S:=S) hc (hl b bT)
  have ih:=DO (S:=gh c S b) (S0:=S0) (l:=l) nd.2 (by rw[lt.cl]; exact hc) (fun x hx=>by rw[lt.bl]; exact hl x (bz _ hx)) (fun x hx=>by
   rw[ot x (fun z=>nd.1 (z▸hx))]
   exact hd x (bz _ hx))
  rw[fQ,← ih]
  have e:=hd b bT
  by_cases z:0 < (S0.bl b).d
  ·rw[List.filter_cons_of_pos (by simpa using z),List.foldl_cons]
   congr 1
   unfold gh
   rw[bg (by omega)]
  ·rw[List.filter_cons_of_neg (by simpa using z)]
   congr 1
   unfold gh
   rw[aV (by omega)]
section
variable {S:Bk}{aL:Str}{gs ts:List Nat}{fs ls:List Int}{al:List (List Bool)}
structure Nq (S:Bk)(ts:List Nat)(c:Nat)(L:List Int)(j:Nat)(st:Int×List (Nat×Int))(Sj:Bk):Prop where
 run:(ts.take j).foldl (gh c) S=Sj
 eq:Sj=kq S (st.2.map fun x=>(c,ts.getD x.1 0,x.2))
 later:Later S Sj
 f:(Sj.cr c).d=st.1
 b: ∀k,k < ts.length->(Sj.bl (ts.getD k 0)).d=(dR L st.2).getD k 0
 lt: ∀x∈st.2,x.1 < j
 oc: ∀k,k≠c->Sj.cr k=S.cr k
theorem yx {c:Nat}{L:List Int}{row:List Bool}(nd:ts.Nodup)(hc:c < S.credits.length)(ht: ∀b∈ts,b < S.aH.length)(hL:L.length=ts.length)(hb: ∀k,k < ts.length->(S.bl (ts.getD k 0)).d=L.getD k 0)
  (hr: ∀k,k < ts.length->row.getD k false=S.eM c (ts.getD k 0)) {j:Nat} (hj:j < ts.length) {Sj:Bk} (J:Nq S ts c L j (bK (S.cr c).d L row j) Sj): ∃S',Nq S ts c L (j + 1) (bK (S.cr c).d L row (j + 1)) S':=by
 have ap:(dR L (bK (S.cr c).d L row j).2).getD j 0=L.getD j 0:=by
  have other: ∀(ps:List (Nat×Int)) (l:List Int),(∀x∈ps,x.1≠j)->(dR l ps).getD j 0=l.getD j 0:=by
   intro ps
   induction ps with
   |nil=>intro l h; rfl
   |cons x ps ih=>
    intro l h
    show(dR (l.set x.1 _) ps).getD j 0=_
    rw[ih _ fun y hy=>h y (bz _ hy),DN (h x bT)]
  exact other _ _ fun x hx=>bc (J.lt x hx)
 have bd:(Sj.bl (ts.getD j 0)).d=L.getD j 0:=by rw[J.b j hj,ap]
 have cj:c < Sj.credits.length:=by rw[J.later.cl]; exact hc
 have bj:ts.getD j 0 < Sj.aH.length:=by rw[J.later.bl]; exact ht _ (jS hj)
 have run:(ts.take (j + 1)).foldl (gh c) S=gh c Sj (ts.getD j 0):=by
  rw[pB hj,rz,J.run]
  rfl
 have g:Sj.eM c (ts.getD j 0)=row.getD j false:=by rw[J.later.eM,hr j hj]
 by_cases z:row.getD j false=true/\0 < iN (bK (S.cr c).d L row j).1 (L.getD j 0)
 ·have e:bK (S.cr c).d L row (j + 1)=((bK (S.cr c).d L row j).1 - iN (bK (S.cr c).d L row j).1 (L.getD j 0),(bK (S.cr c).d L row j).2 ++ [(j,iN (bK (S.cr c).d L row j).1 (L.getD j 0))]):=by
   rw[bK,bg z]
  have z1:0 < (Sj.bl (ts.getD j 0)).d/\0 < (Sj.cr c).d:=by
   rw[bd,J.f]
   have:=z.2
   unfold iN at this
   split at this <;> omega
  have e2:gh c Sj (ts.getD j 0)=Sj.put c (ts.getD j 0) (iN (bK (S.cr c).d L row j).1 (L.getD j 0)):=by
   unfold gh cH
   rw[bg z1.1,bg ⟨z1.2,by rw[g]; exact z.1,.inr rfl⟩,J.f,bd]
  rw[e]
  refine⟨_,run.trans e2,?_,J.later.trans (Later.put bj cj (by omega)),?_,fun k hk=>?_,fun x hx=>?_,fun k hk=>?_⟩
  ·rw[aR,mR,← J.eq]
   rfl
  ·rw[rM cj,bg rfl]
   show(Sj.cr c).d - _ =_
   rw[J.f]
  ·rw[uH bj,sC]
   have len:(dR L (bK (S.cr c).d L row j).2).length=ts.length:=by rw[pC,hL]
   by_cases q:k=j
   ·subst q
    rw[bg rfl,KD (by rw[len]; exact hk)]
    show(Sj.bl (ts.getD k 0)).d - _ =(dR L _).getD k 0 - _
    rw[J.b k hk]
   ·rw[aV fun w=>q (getD_inj nd hk hj w),J.b k hk,DN (vE q)]
  ·rcases bL.mp hx with hx|hx
   ·have:=J.lt x hx
    omega
   ·rw[ao.mp hx]
    exact fZ _
  ·rw[rM cj,aV hk]
   exact J.oc k hk
 ·have e:bK (S.cr c).d L row (j + 1)=bK (S.cr c).d L row j:=by rw[bK,aV z]
  have e2:gh c Sj (ts.getD j 0)=Sj:=by
   unfold gh cH
   split
   ·rename_i h1
    rw[aV]
    rintro⟨h2,h3,_⟩
    refine z ⟨by rw[← g]; exact h3,?_⟩
    rw[bd] at h1
    rw[J.f] at h2
    unfold iN
    split <;> assumption
   ·rfl
  rw[e]
  exact⟨Sj,run.trans e2,J.eq,J.later,J.f,J.b,fun x hx=>by have:=J.lt x hx; omega,J.oc⟩
theorem DP {c:Nat}{L:List Int}{row:List Bool}(nd:ts.Nodup)(hc:c < S.credits.length)(ht: ∀b∈ts,b < S.aH.length)(hL:L.length=ts.length)(hb: ∀k,k < ts.length->(S.bl (ts.getD k 0)).d=L.getD k 0)
  (hr: ∀k,k < ts.length->row.getD k false=S.eM c (ts.getD k 0)): ∀j,j<=ts.length-> ∃Sj,Nq S ts c L j (bK (S.cr c).d L row j) Sj
 |0,_=>⟨S,rfl,rfl,Later.refl S,rfl,hb,(fun _ h=>by cases h),fun _ _=>rfl⟩
 |j + 1,h=>by
  obtain⟨Sj,J⟩:=DP nd hc ht hL hb hr j (by omega)
  exact yx nd hc ht hL hb hr (by omega) J
structure U3 (S:Bk)(aL:Str)(gs ts:List Nat)(fs:List Int)(i:Nat)(st:List Int×List (Nat×Nat×Int))(Si:Bk):Prop where
 run:(gs.take i).foldl (cZ aL false) S=Si
 eq:Si=kq S (st.2.map (lX gs ts))
 later:Later S Si
 b: ∀j,j < ts.length->(Si.bl (ts.getD j 0)).d=st.1.getD j 0
 c: ∀k,i<=k->k < gs.length->(Si.cr (gs.getD k 0)).d=fs.getD k 0
theorem Az (R:uI S aL gs ts fs ls al){i:Nat}{Si:Bk}(hi:i < gs.length)(J:U3 S aL gs ts fs i (cF fs ls al i) Si): ∃S',U3 S aL gs ts fs (i + 1) (cF fs ls al (i + 1)) S':=by
 obtain⟨g1,g2,g3⟩:=R.g hi
 have gc:gs.getD i 0 < Si.credits.length:=by rw[J.later.cl]; exact g1
 have fr:(Si.cr (gs.getD i 0)).d=fs.getD i 0:=J.c i (aC _) hi
 have tl:(cF fs ls al i).1.length=ts.length:=by rw[jF,R.ll]
 have tb: ∀b∈ts,b < Si.aH.length:=fun b hb=>by rw[J.later.bl]; exact R.tm hb
 obtain⟨S',K⟩:=DP (S:=Si) (ts:=ts) (c:=gs.getD i 0) (L:=(cF fs ls al i).1) (row:=al.getD i []) R.tn gc tb tl J.b (fun k hk=>by rw[R.a hi hk,J.later.eM]) ts.length (aC _)
 have e:(gs.take (i + 1)).foldl (cZ aL false) S=S':=by
  rw[pB hi,rz,J.run]
  show cZ aL false Si (gs.getD i 0)=_
  unfold cZ
  rw[J.later.Mb,← R.et,DO R.tn gc tb (fun _ _=>rfl),← K.run,bh]
 rw[fr] at K
 have pe:bK (fs.getD i 0) (cF fs ls al i).1 (al.getD i []) ts.length=bK (fs.getD i 0) (cF fs ls al i).1 (al.getD i []) (cF fs ls al i).1.length:=by rw[tl]
 rw[pe] at K
 refine⟨S',e,?_,J.later.trans K.later,K.b,fun k h1 h2=>?_⟩
 ·show S'=kq S (((cF fs ls al i).2 ++ _).map (lX gs ts))
  rw[aR,mR,← J.eq,K.eq,eZ]
  rfl
 ·rw[K.oc _ fun z=>by have:=getD_inj R.gn h2 hi z; omega]
  exact J.c k (by omega) h2
theorem uK (R:uI S aL gs ts fs ls al): ∀i,i<=gs.length-> ∃Si,U3 S aL gs ts fs i (cF fs ls al i) Si
 |0,_=>⟨S,rfl,rfl,Later.refl S,fun j hj=>by
   obtain⟨_,_,t3⟩:=R.t hj
   exact t3.symm,fun k _ h2=>by
   obtain⟨_,_,g3⟩:=R.g h2
   exact g3.symm⟩
 |i + 1,h=>by
  obtain⟨Si,J⟩:=uK R i (by omega)
  exact Az R (by omega) J
theorem HU (R:uI S aL gs ts fs ls al):bY aL S false=kq S ((cF fs ls al gs.length).2.map (lX gs ts))/\Later S (bY aL S false):=by
 obtain⟨Si,J⟩:=uK R gs.length (aC _)
 have e:bY aL S false=Si:=by
  unfold bY
  rw[← R.eg,← J.run,bh]
 rw[e]
 exact⟨J.eq,J.later⟩
end
inductive xy where
 |int (i:Int)
 |txt (s:Str)
 |sets (l:List (Nat×Nat×Int))
 |pairs (l:List (Nat×Int))
 |ints (l:List Int)
def bI.isSet:bI->Bool
 | .set _ _ _=>true
 | .fI _=>true
 |_=>false
def bI.tells:bI->Bool
 | .d9 _ _ _ _=>true
 | .ra _ _ _=>true
 | .note _ _ _=>true
 | .set _ _ _=>true
 | .fI _=>true
 |_=>false
def pW (x:Int)(n:Nat):Prop:=0<=x/\x < (n:Int)
instance (x:Int) (n:Nat):Decidable (pW x n):=inferInstanceAs (Decidable (_/\_))
def Bk.bar (S:Bk):bI->Str
 | .d9 _ day yt dO=>if dO < 1 then "no amount" else if yt < day then "too early" else ""
 | .ra _ _ dO=>if dO < 1 then "no amount" else ""
 | .note b _ dO=>if ¬ pW b S.aH.length then "no bill" else if dO < 1 then "no amount" else ""
 | .set c b dO=>if ¬ pW c S.credits.length then "no credit" else if ¬ pW b S.aH.length then "no bill" else if S.eM c.toNat b.toNat=false then "not theirs" else
   if dO < 1 then "no amount" else if iN (S.cr c.toNat).d (S.bl b.toNat).d < dO then "too much" else ""
 |_=>""
theorem uL (S:Bk)(b d a:Int):S.bar (.note b d a)=(if ¬ pW b S.aH.length then("no bill":Str) else if a < 1 then("no amount":Str) else("":Str)):=rfl
theorem yy (S:Bk)(c b a:Int):S.bar (.set c b a)=(if ¬ pW c S.credits.length then("no credit":Str) else if ¬ pW b S.aH.length then("no bill":Str) else if S.eM c.toNat b.toNat=false then("not theirs":Str) else
   if a < 1 then("no amount":Str) else if iN (S.cr c.toNat).d (S.bl b.toNat).d < a then("too much":Str) else("":Str)):=rfl
theorem n1:("no credit":Str)≠"":=by decide +kernel
theorem n2:("no bill":Str)≠"":=by decide +kernel
theorem n3:("not theirs":Str)≠"":=by decide +kernel
theorem n4:("no amount":Str)≠"":=by decide +kernel
theorem n6:("too much":Str)≠"":=by decide +kernel
theorem rN {S:Bk}{b d a:Int}(h:S.bar (.note b d a)=""):pW b S.aH.length/\1<=a:=by
 rw[uL] at h
 split at h
 ·exact absurd h n2
 ·rename_i q
  split at h
  ·exact absurd h n4
  ·exact⟨ER.mp q,by omega⟩
theorem qw {S:Bk}{c b a:Int}(h:S.bar (.set c b a)=""):pW c S.credits.length/\pW b S.aH.length/\S.eM c.toNat b.toNat=true/\1<=a/\a<=(S.cr c.toNat).d/\a<=(S.bl b.toNat).d:=by
 rw[yy] at h
 split at h
 ·exact absurd h n1
 rename_i q1
 split at h
 ·exact absurd h n2
 rename_i q2
 split at h
 ·exact absurd h n3
 rename_i q3
 split at h
 ·exact absurd h n4
 rename_i q4
 split at h
 ·exact absurd h n6
 rename_i q5
 refine⟨Classical.not_not.mp q1,Classical.not_not.mp q2,by simpa using q3,by omega,?_⟩
 unfold iN at q5
 split at q5 <;> omega
def Bk.kr (S:Bk)(r:Rw):Bk:={S with aH:=S.aH ++ [r]}
def Bk.iu (S:Bk)(r:Rw):Bk:={S with credits:=S.credits ++ [r]}
def Bk.enter (S:Bk):bI->Bk
 | .d9 w d u a=>S.kr ⟨w,d,u,a,a⟩
 | .ra w d a=>S.iu ⟨w,d,a,-1,a⟩
 | .note b d a=>S.iu ⟨(S.bl b.toNat).aL,d,a,b,a⟩
 | .set c b a=>S.put c.toNat b.toNat a
 | .fI w=>S.jR w
 |_=>S
def Bk.GS (S:Bk):bI->xy
 | .d9 _ _ _ _=> .int S.aH.length
 | .ra _ _ _=> .int S.credits.length
 | .note _ _ _=> .int S.credits.length
 | .set _ _ a=> .int a
 | .fI w=> .sets ((S.jR w).made.drop S.made.length)
 |_=> .int 0
def cV:List (Int×bI)->Bk->Option Bk
 |[],S=>some S
 |(_,d) :: l,S=>if S.bar d="" then cV l (S.enter d) else none
def iD:List (Int×bI)->Bk->Str
 |[],_=>""
 |(_,d) :: l,S=>if S.bar d="" then iD l (S.enter d) else S.bar d
def Bk.fX (S:Bk)(t:Nat×Nat×Int):Int:=if(S.bl t.2.1).a > (S.cr t.1).a then(S.bl t.2.1).a else(S.cr t.1).a
def spotOf (aU:Bool)(t:Nat×Nat×Int):Nat:=if aU then t.2.1 else t.1
def Bk.cnt (S:Bk)(aU:Bool)(k:Nat)(day:Int)(t:Nat×Nat×Int):Bool:=decide (spotOf aU t=k) && decide (S.fX t<=day)
def Bk.rows (S:Bk)(aU:Bool):List Rw:=if aU then S.aH else S.credits
def sD (aU:Bool)(r:Rw):Int:=if aU then r.c else r.b
def keyOf (aU:Bool)(r:Rw):Int:=if aU then r.b else r.a
def Bk.rest (S:Bk)(aU:Bool)(k:Nat)(day:Int):Int:=sD aU ((S.rows aU).getD k default) - ((S.made.filter (S.cnt aU k day)).map (·.2.2)).sum
def Bk.gW (S:Bk)(aU:Bool)(aL:Str)(day:Int):List (Nat×Int):=
 ((inOrder (S.rows aU) aL (keyOf aU)).filter fun k=>decide (((S.rows aU).getD k default).a<=day) && decide (0 < S.rest aU k day)).map fun k=>(k,S.rest aU k day)
def placeOf (fX:Int)(bZ:List Int):Nat:=if fX<=0 then 0 else 1 + (bZ.filter fun l=>decide (l < fX)).length
def kC (l:List Int)(i:Nat)(x:Int):List Int:=l.set i (l.getD i 0 + x)
def Bk.vU (S:Bk)(aL:Str)(day:Int)(bZ:List Int):List Int:=
 (S.gW true aL day).foldl (fun l t=>kC l (placeOf (day - (S.bl t.1).b) bZ) t.2) (List.replicate (bZ.length + 2) 0)
structure jl where
 steps:List (Int×bI)
 bk:Bk
def jl.new:jl:=⟨[],Bk.new⟩
def cv (m:Int)(st:Int×bI):Bool:= !(decide (st.1=m) && st.2.isSet)
def dY (T:jl)(n:Int):bI->xy×jl
 | .i6 m=>if(T.steps.filter (cv m)).length=T.steps.length then(.txt "no setting",T) else
   match cV (T.steps.filter (cv m)) Bk.new with
   |none=>(.txt "needed",T)
   |some S=>(.txt "undone",⟨T.steps.filter (cv m),S⟩)
 | .ask o w d=>(.pairs (T.bk.gW o w d),T)
 | .iM w d l=>(.ints (T.bk.vU w d l),T)
 |d=>if T.bk.bar d="" then(T.bk.GS d,⟨T.steps ++ [(n,d)],T.bk.enter d⟩) else(.txt (T.bk.bar d),T)
def hV:List bI->jl->Nat->List xy×jl
 |[],T,_=>([],T)
 |d :: l,T,n=>((dY T n d).1 :: (hV l (dY T n d).2 (n + 1)).1,(hV l (dY T n d).2 (n + 1)).2)
structure WF (S:Bk)(n:Nat):Prop where
 m: ∀t∈S.made,t.1 < S.credits.length/\t.2.1 < S.aH.length
 o: ∀c,c < S.credits.length->(S.cr c).c= -1∨ ∃b:Nat,(S.cr c).c=(b:Int)/\b < S.aH.length/\(S.cr c).aL=(S.bl b).aL
 lb:S.aH.length<=n
 lc:S.credits.length<=n
 lm:S.made.length<=8000 * n
theorem WF.new:WF Bk.new 0:=⟨(fun t h=>by cases h),fun c h=>absurd h (iK _),aC _,aC _,aC _⟩
theorem WF.mono {S:Bk}{n m:Nat}(h:WF S n)(k:n<=m):WF S m:=⟨h.m,h.o,a8 h.lb k,a8 h.lc k,a8 h.lm (Nat.mul_le_mul_left _ k)⟩
theorem getD_snoc {α:Type}{l:List α}{x d:α}{k:Nat}(h:k < l.length):(l ++ [x]).getD k d=l.getD k d:=by
 rw[ak,ak,MG h]
theorem getD_last {α:Type}{l:List α}{x d:α}:(l ++ [x]).getD l.length d=x:=by
 rw[ak,oY (aC _)]
 simp
theorem WF.kr {S:Bk}{n:Nat}(h:WF S n)(r:Rw):WF (S.kr r) (n + 1):=by
 have len:(S.kr r).aH.length=S.aH.length + 1:=by simp[Bk.kr]
 refine⟨fun t ht=>⟨(h.m t ht).1,by rw[len]; have:=(h.m t ht).2; omega⟩,fun c hc=>?_,by rw[len]; have:=h.lb; omega,by have:=h.lc; exact ES this,by have:=h.lm; show S.made.length<=_; omega⟩
 rcases h.o c hc with z|⟨b,z1,z2,z3⟩
 ·exact .inl z
 ·refine .inr ⟨b,z1,by rw[len]; omega,?_⟩
  show(S.cr c).aL=((S.aH ++ [r]).getD b default).aL
  rw[getD_snoc z2]
  exact z3
theorem WF.iu {S:Bk}{n:Nat}(h:WF S n)(r:Rw)(hr:r.c= -1∨ ∃b:Nat,r.c=(b:Int)/\b < S.aH.length/\r.aL=(S.bl b).aL):WF (S.iu r) (n + 1):=by
 have len:(S.iu r).credits.length=S.credits.length + 1:=by simp[Bk.iu]
 refine⟨fun t ht=>⟨by rw[len]; have:=(h.m t ht).1; omega,(h.m t ht).2⟩,fun c hc=>?_,by have:=h.lb; exact ES this,by rw[len]; have:=h.lc; omega,by have:=h.lm; show S.made.length<=_; omega⟩
 by_cases q:c < S.credits.length
 ·have e:(S.iu r).cr c=S.cr c:=getD_snoc q
  rw[e]
  exact h.o c q
 ·have q':c=S.credits.length:=by omega
  have e:(S.iu r).cr c=r:=by rw[q']; exact getD_last
  rw[e]
  exact hr
theorem WF.later {S S':Bk}{n m:Nat}(h:WF S n)(l:Later S S')(hm: ∀t∈S'.made,t.1 < S.credits.length/\t.2.1 < S.aH.length)(hn:n<=m)(hl:S'.made.length<=8000 * m):WF S' m:=by
 refine⟨fun t ht=>by rw[l.cl,l.bl]; exact hm t ht,fun c hc=>?_,by rw[l.bl]; exact a8 h.lb hn,by rw[l.cl]; exact a8 h.lc hn,hl⟩
 rw[l.cl] at hc
 rw[(l.c c).1.2.2.2,(l.c c).1.1]
 rcases h.o c hc with z|⟨b,z1,z2,z3⟩
 ·exact .inl z
 ·exact .inr ⟨b,z1,by rw[l.bl]; exact z2,by rw[(l.b b).1.1]; exact z3⟩
theorem uM: ∀{n:Nat} {l:List Nat},l.Nodup->(∀x∈l,x < n)->l.length<=n
 |0,l,_,h=>by
  cases l with
  |nil=>exact aC _
  |cons x l=>exact absurd (h x bT) (iK _)
 |n + 1,l,nd,h=>by
  by_cases q:n∈l
  ·have h1:=uM (n:=n) (l:=l.erase n) (nd.erase n) (fun x hx=>by
    have h2:=h x (List.mem_of_mem_erase hx)
    have h3:x≠n:=fun z=>(List.Nodup.mem_erase_iff nd).mp hx |>.1 z
    omega)
   rw[List.length_erase_of_mem q] at h1
   omega
  ·have:=uM (n:=n) nd (fun x hx=>by
    have h2:=h x hx
    have h3:x≠n:=fun z=>q (z▸hx)
    omega)
   omega
theorem jT (rows:List Rw)(aL:Str)(key:Rw->Int):(inTurn rows aL key).length<=rows.length:=uM (lW _ _ _) fun _ h=>(eT.mp h).1
theorem ig (fs ls:List Int)(al:List (List Bool)): ∀i,(ck fs ls al i).2.length<=i
 |0=>aC _
 |i + 1=>by
  have:=ig fs ls al i
  unfold ck
  split
  ·omega
  ·rw[aK]
   show _ + 1<=_
   omega
theorem gv (f:Int)(l:List Int)(row:List Bool): ∀j,(bK f l row j).2.length<=j
 |0=>aC _
 |j + 1=>by
  have:=gv f l row j
  rw[bK]
  split
  ·rw[aK]
   show _ + 1<=_
   omega
  ·omega
theorem pE (fs ls:List Int)(al:List (List Bool)): ∀i,(cF fs ls al i).2.length<=i * ls.length
 |0=>by simp[cF]
 |i + 1=>by
  have h1:=pE fs ls al i
  have h2:=gv (fs.getD i 0) (cF fs ls al i).1 (al.getD i []) (cF fs ls al i).1.length
  show((cF fs ls al i).2 ++ _).length<=_
  rw[aK,ae,vH]
  rw[jF] at h2 ⊢
  omega
theorem lY (fs ls:List Int)(al:List (List Bool)): ∀i,∀t∈(ck fs ls al i).2,t.1 < i/\t.2.1 < ls.length
 |0,t,h=>by cases h
 |i + 1,t,h=>by
  rw[ck] at h
  split at h
  ·have:=lY fs ls al i t h
   omega
  ·rename_i j hj
   rcases bL.mp h with h|h
   ·have:=lY fs ls al i t h
    omega
   ·rw[ao.mp h]
    unfold hJ at hj
    have:=dC.mp (MF hj)
    exact⟨fZ _,this⟩
theorem pF (f:Int)(l:List Int)(row:List Bool): ∀j,∀x∈(bK f l row j).2,x.1 < j
 |0,x,h=>by cases h
 |j + 1,x,h=>by
  rw[bK] at h
  split at h
  ·rcases bL.mp h with h|h
   ·have:=pF f l row j x h
    omega
   ·rw[ao.mp h]
    exact fZ _
  ·have:=pF f l row j x h
   omega
theorem uN (fs ls:List Int)(al:List (List Bool)): ∀i,∀t∈(cF fs ls al i).2,t.1 < i/\t.2.1 < ls.length
 |0,t,h=>by cases h
 |i + 1,t,h=>by
  rcases bL.mp (show t∈(cF fs ls al i).2 ++ _ from h) with h|h
  ·have:=uN fs ls al i t h
   omega
  ·obtain⟨x,hx,rfl⟩:=bN.mp h
   have:=pF _ _ _ _ x hx
   rw[jF] at this
   exact⟨fZ _,this⟩
def Xx (S:Bk)(aL:Str):uI S aL (inTurn S.credits aL (·.a)) (inTurn S.aH aL (·.b)) ((inTurn S.credits aL (·.a)).map fun g=>(S.cr g).d) ((inTurn S.aH aL (·.b)).map fun t=>(S.bl t).d)
  ((inTurn S.credits aL (·.a)).map fun g=>(inTurn S.aH aL (·.b)).map fun t=>S.eM g t):=⟨rfl,rfl,rfl,rfl,rfl⟩
theorem DQ {S:Bk}{gs ts:List Nat}{l:List (Nat×Nat×Int)}(hl: ∀t∈l,t.1 < gs.length/\t.2.1 < ts.length)(hg: ∀g∈gs,g < S.credits.length)(ht: ∀t∈ts,t < S.aH.length): ∀t∈l.map (lX gs ts),t.1 < S.credits.length/\t.2.1 < S.aH.length:=by
 intro t h
 obtain⟨x,hx,rfl⟩:=bN.mp h
 obtain⟨h1,h2⟩:=hl x hx
 exact⟨hg _ (jS h1),ht _ (jS h2)⟩
theorem uO (S:Bk)(aL:Str)(ex:Bool):Later S (bY aL S ex)/\ ∃l,(bY aL S ex).made=S.made ++ l/\(∀t∈l,t.1 < S.credits.length/\t.2.1 < S.aH.length)/\l.length<=S.credits.length + S.credits.length * S.aH.length:=by
 have gl:=jT S.credits aL (·.a)
 have tl:=jT S.aH aL (·.b)
 have hg: ∀g∈inTurn S.credits aL (·.a),g < S.credits.length:=fun g h=>(eT.mp h).1
 have ht: ∀t∈inTurn S.aH aL (·.b),t < S.aH.length:=fun g h=>(eT.mp h).1
 have mul:(inTurn S.credits aL (·.a)).length * (inTurn S.aH aL (·.b)).length<=S.credits.length * S.aH.length:=lK gl tl
 cases ex with
 |true=>
  obtain⟨e,l⟩:=HR (Xx S aL)
  refine⟨l,_,by rw[e]; exact jE _ _,DQ (fun t h=>?_) hg ht,?_⟩
  ·have:=lY _ _ _ _ t h
   rwa [ae] at this
  ·rw[ae]
   have:=ig ((inTurn S.credits aL (·.a)).map fun g=>(S.cr g).d) ((inTurn S.aH aL (·.b)).map fun t=>(S.bl t).d) ((inTurn S.credits aL (·.a)).map fun g=>(inTurn S.aH aL (·.b)).map fun t=>S.eM g t) (inTurn S.credits aL (·.a)).length
   omega
 |false=>
  obtain⟨e,l⟩:=HU (Xx S aL)
  refine⟨l,_,by rw[e]; exact jE _ _,DQ (fun t h=>?_) hg ht,?_⟩
  ·have:=uN _ _ _ _ t h
   rwa [ae] at this
  ·rw[ae]
   have:=pE ((inTurn S.credits aL (·.a)).map fun g=>(S.cr g).d) ((inTurn S.aH aL (·.b)).map fun t=>(S.bl t).d) ((inTurn S.credits aL (·.a)).map fun g=>(inTurn S.aH aL (·.b)).map fun t=>S.eM g t) (inTurn S.credits aL (·.a)).length
   rw[ae] at this
   omega
theorem mS (S:Bk)(aL:Str):Later S (S.jR aL)/\ ∃l,(S.jR aL).made=S.made ++ l/\(∀t∈l,t.1 < S.credits.length/\t.2.1 < S.aH.length)/\l.length<=2 * (S.credits.length + S.credits.length * S.aH.length):=by
 obtain⟨l1,m1,e1,h1,n1⟩:=uO S aL true
 obtain⟨l2,m2,e2,h2,n2⟩:=uO (bY aL S true) aL false
 refine⟨l1.trans l2,m1 ++ m2,by show(bY aL (bY aL S true) false).made=_; rw[e2,e1,gF],fun t ht=>?_,?_⟩
 ·rcases bL.mp ht with ht|ht
  ·exact h1 t ht
  ·have:=h2 t ht
   rwa [l1.cl,l1.bl] at this
 ·rw[l1.cl,l1.bl] at n2
  rw[aK]
  omega
theorem WF.enter {S:Bk}{n:Nat}{d:bI}(h:WF S n)(hn:n < 60)(hb:S.bar d=""):WF (S.enter d) (n + 1):=by
 cases d with
 |d9 w d u a=>exact h.kr _
 |ra w d a=>exact h.iu _ (.inl rfl)
 |note b d a=>
  refine h.iu _ (.inr ⟨b.toNat,?_⟩)
  have z:=(rN hb).1
  obtain⟨z1,z2⟩:=z
  refine⟨?_,?_,rfl⟩
  ·show b=(b.toNat:Int)
   omega
  ·omega
 |set c b a=>
  obtain⟨zc,zb,_,za,_⟩:=qw hb
  obtain⟨c1,c2⟩:=zc
  obtain⟨b1,b2⟩:=zb
  have l:Later S (S.put c.toNat b.toNat a):=Later.put (by omega) (by omega) (by omega)
  refine h.later l (fun t ht=>?_) (dS _) ?_
  ·rcases bL.mp ht with ht|ht
   ·exact h.m t ht
   ·rw[ao.mp ht]
    show c.toNat < _/\b.toNat < _
    omega
  ·show(S.made ++ [_]).length<=_
   rw[aK]
   have:=h.lm
   show _ + 1<=_
   omega
 |fI w=>
  obtain⟨l,m,e,h1,h2⟩:=mS S w
  refine h.later l (fun t ht=>?_) (dS _) ?_
  ·rw[show(S.enter (.fI w)).made=S.made ++ m from e] at ht
   rcases bL.mp ht with ht|ht
   ·exact h.m t ht
   ·exact h1 t ht
  ·show(S.jR w).made.length<=_
   rw[e,aK]
   have h3:=h.lm
   have h4:=h.lb
   have h5:=h.lc
   have:S.credits.length * S.aH.length<=60 * 60:=lK (by omega) (by omega)
   omega
 |i6 m=>exact h.mono (dS _)
 |ask o w d=>exact h.mono (dS _)
 |iM w d l=>exact h.mono (dS _)
structure mT (S T:Bk):Prop where
 bl:T.aH.length=S.aH.length
 cl:T.credits.length=S.credits.length
 b: ∀k,ou (S.bl k) (T.bl k)
 c: ∀k,ou (S.cr k) (T.cr k)
theorem ou.symm {r s:Rw}(h:ou r s):ou s r:=⟨h.1.symm,h.2.1.symm,h.2.2.1.symm,h.2.2.2.symm⟩
theorem mT.refl (S:Bk):mT S S:=⟨rfl,rfl,fun _=>ou.refl _,fun _=>ou.refl _⟩
theorem mT.symm {S T:Bk}(h:mT S T):mT T S:=⟨h.bl.symm,h.cl.symm,fun k=>(h.b k).symm,fun k=>(h.c k).symm⟩
theorem mT.trans {S T U:Bk}(h:mT S T)(k:mT T U):mT S U:=⟨k.bl.trans h.bl,k.cl.trans h.cl,fun i=>(h.b i).trans (k.b i),fun i=>(h.c i).trans (k.c i)⟩
theorem Later.rD {S T:Bk}(h:Later S T):mT S T:=⟨h.bl,h.cl,fun k=>(h.b k).1,fun k=>(h.c k).1⟩
theorem mT.eM {S T:Bk}(h:mT S T)(c b:Nat):T.eM c b=S.eM c b:=by
 unfold Bk.eM
 rw[(h.c c).1,(h.b b).1,(h.c c).2.2.2]
theorem rO {l m:List Rw}{r s:Rw}(hl:m.length=l.length)(h: ∀k,ou (l.getD k default) (m.getD k default))(hr:ou r s)(k:Nat):ou ((l ++ [r]).getD k default) ((m ++ [s]).getD k default):=by
 by_cases q:k < l.length
 ·rw[getD_snoc q,getD_snoc (by rw[hl]; exact q)]
  exact h k
 ·by_cases e:k=l.length
  ·subst e
   rw[getD_last,← hl,getD_last]
   exact hr
  ·have o1:(l ++ [r]).getD k default=default:=by
    rw[ak,vJ (by rw[aK]; show l.length + 1<=k; omega)]
    rfl
   have o2:(m ++ [s]).getD k default=default:=by
    rw[ak,vJ (by rw[aK]; show m.length + 1<=k; omega)]
    rfl
   rw[o1,o2]
   exact ou.refl _
theorem HV {S T:Bk}(h:mT S T){d:bI}(hb:S.bar d=""):T.bar d=""∨T.bar d="too much":=by
 cases d with
 |note b d a=>
  obtain⟨z1,z2⟩:=rN hb
  left
  rw[uL,h.bl,aV (fun z=>z z1),aV (by omega)]
 |set c b a=>
  obtain⟨z1,z2,z3,z4,_⟩:=qw hb
  rw[yy,h.bl,h.cl,h.eM,aV (fun z=>z z1),aV (fun z=>z z2),aV (by rw[z3]; decide),aV (by omega)]
  split
  ·exact .inr rfl
  ·exact .inl rfl
 |d9 w d u a=>exact .inl hb
 |ra w d a=>exact .inl hb
 |fI w=>exact .inl rfl
 |i6 m=>exact .inl rfl
 |ask o w d=>exact .inl rfl
 |iM w d l=>exact .inl rfl
theorem lq {S:Bk}{d:bI}(hs:d.isSet=true)(hb:S.bar d=""):Later S (S.enter d):=by
 cases d with
 |set c b a=>
  obtain⟨⟨_,_⟩,⟨_,_⟩,_,_,_⟩:=qw hb
  exact Later.put (by omega) (by omega) (by omega)
 |fI w=>exact(mS S w).1
 |d9 w d u a=>cases hs
 |ra w d a=>cases hs
 |note b d a=>cases hs
 |i6 m=>cases hs
 |ask o w d=>cases hs
 |iM w d l=>cases hs
theorem Cu {S T:Bk}(h:mT S T){d:bI}(hs:S.bar d="")(ht:T.bar d=""):mT (S.enter d) (T.enter d):=by
 cases d with
 |d9 w d u a=>exact⟨by simp[Bk.enter,Bk.kr,h.bl],h.cl,rO h.bl h.b (ou.refl _),h.c⟩
 |ra w d a=>exact⟨h.bl,by simp[Bk.enter,Bk.iu,h.cl],h.b,rO h.cl h.c (ou.refl _)⟩
 |note b d a=>exact⟨h.bl,by simp[Bk.enter,Bk.iu,h.cl],h.b,rO h.cl h.c ⟨(h.b _).1,rfl,rfl,rfl⟩⟩
 |set c b a=>exact(lq rfl hs).rD.symm.trans (h.trans (lq rfl ht).rD)
 |fI w=>exact(lq (d:= .fI w) rfl hs).rD.symm.trans (h.trans (lq (d:= .fI w) rfl ht).rD)
 |i6 m=>exact h
 |ask o w d=>exact h
 |iM w d l=>exact h
theorem Nr (m:Int): ∀(l:List (Int×bI)) {S T:Bk},mT S T->(cV l S).isSome=true->iD (l.filter (cv m)) T=""∨iD (l.filter (cv m)) T="too much"
 |[],_,_,_,_=> .inl rfl
 |(n,d) :: l,S,T,h,hw=>by
  unfold cV at hw
  split at hw
  ·rename_i hb
   by_cases k:cv m (n,d)=true
   ·rw[cI k]
    unfold iD
    split
    ·rename_i ht
     exact Nr m l (Cu h hb ht) hw
    ·rename_i ht
     exact .inr ((HV h hb).resolve_left ht)
   ·rw[gT k]
    have ds:d.isSet=true:=by
     unfold cv at k
     simp at k
     exact k.2
    exact Nr m l ((lq ds hb).rD.symm.trans h) hw
  ·cases hw
theorem rP: ∀(l:List (Int×bI)) {S T:Bk} {n:Nat},WF S n->cV l S=some T->n + l.length<=60->WF T (n + l.length)
 |[],S,T,n,h,e,_=>by
  cases e
  exact h
 |(k,d) :: l,S,T,n,h,e,hl=>by
  unfold cV at e
  split at e
  ·rename_i hb
   have len:((k,d) :: l).length=l.length + 1:=rfl
   rw[len] at hl ⊢
   have:=rP l (h.enter (by omega) hb) e (by omega)
   rwa [show n + (l.length + 1)=n + 1 + l.length by omega]
  ·cases e
theorem kO: ∀(l m:List (Int×bI)) (S:Bk),cV (l ++ m) S=(cV l S).bind (cV m)
 |[],m,S=>rfl
 |(k,d) :: l,m,S=>by
  show(if S.bar d="" then cV (l ++ m) (S.enter d) else none)=(if S.bar d="" then cV l (S.enter d) else none).bind (cV m)
  split
  ·exact kO l m _
  ·rfl
structure Good (T:jl)(n:Nat):Prop where
 w:cV T.steps Bk.new=some T.bk
 lt: ∀st∈T.steps,0<=st.1/\st.1 < (n:Int)
 inc:T.steps.Pairwise fun a b=>a.1 < b.1
 tl: ∀st∈T.steps,st.2.tells=true
 len:T.steps.length<=n
theorem Good.new:Good jl.new 0:=⟨rfl,(fun _ h=>by cases h),List.Pairwise.nil,(fun _ h=>by cases h),aC _⟩
theorem Good.mono {T:jl}{n m:Nat}(h:Good T n)(k:n<=m):Good T m:=⟨h.w,fun st hs=>⟨(h.lt st hs).1,by have:=(h.lt st hs).2; omega⟩,h.inc,h.tl,a8 h.len k⟩
theorem Good.wf {T:jl}{n:Nat}(h:Good T n)(hn:n<=60):WF T.bk n:=by
 have z:=rP T.steps WF.new h.w (by have:=h.len; omega)
 rw[Nat.zero_add] at z
 exact z.mono h.len
theorem Good.add {T:jl}{n:Nat}(h:Good T n){d:bI}(ht:d.tells=true)(hb:T.bk.bar d=""):Good ⟨T.steps ++ [((n:Int),d)],T.bk.enter d⟩ (n + 1):=by
 refine⟨?_,fun st hs=>?_,?_,fun st hs=>?_,?_⟩
 ·show cV (T.steps ++ [((n:Int),d)]) Bk.new=_
  rw[kO,h.w]
  show(if T.bk.bar d="" then some (T.bk.enter d) else none)=_
  rw[bg hb]
 ·rcases bL.mp hs with hs|hs
  ·have:=h.lt st hs
   omega
  ·rw[ao.mp hs]
   show(0:Int)<=(n:Int)/\(n:Int) < _
   omega
 ·rw[List.pairwise_append]
  refine⟨h.inc,List.pairwise_singleton _ _,fun a ha b hb=>?_⟩
  rw[ao.mp hb]
  exact(h.lt a ha).2
 ·rcases bL.mp hs with hs|hs
  ·exact h.tl st hs
  ·rw[ao.mp hs]
   exact ht
 ·show(T.steps ++ [_]).length<=_
  rw[aK]
  have:=h.len
  show _ + 1<=_
  omega
theorem Good.step {T:jl}{n:Nat}(h:Good T n)(d:bI):Good (dY T n d).2 (n + 1):=by
 have keep:=h.mono (dS n)
 have dflt: ∀d:bI,d.tells=true->Good (if T.bk.bar d="" then(T.bk.GS d,(⟨T.steps ++ [((n:Int),d)],T.bk.enter d⟩:jl)) else(.txt (T.bk.bar d),T)).2 (n + 1):=fun d ht=>by
  split
  ·rename_i hb
   exact h.add ht hb
  ·exact keep
 cases d with
 |i6 m=>
  show Good (if(T.steps.filter (cv m)).length=T.steps.length then(xy.txt "no setting",T) else
   match cV (T.steps.filter (cv m)) Bk.new with
   |none=>(.txt "needed",T)
   |some S=>(.txt "undone",⟨T.steps.filter (cv m),S⟩)).2 (n + 1)
  split
  ·exact keep
  ·cases e:cV (T.steps.filter (cv m)) Bk.new with
   |none=>exact keep
   |some S=>
    refine⟨e,fun st hs=>?_,h.inc.filter _,fun st hs=>h.tl st (eX.mp hs).1,?_⟩
    ·have:=h.lt st (eX.mp hs).1
     omega
    ·have h1:=a7 (cv m) T.steps
     have h2:=h.len
     show(T.steps.filter (cv m)).length<=_
     omega
 |ask o w d=>exact keep
 |iM w d l=>exact keep
 |d9 w d u a=>exact dflt _ rfl
 |ra w d a=>exact dflt _ rfl
 |note b d a=>exact dflt _ rfl
 |set c b a=>exact dflt _ rfl
 |fI w=>exact dflt _ rfl
theorem mU: ∀(l:List bI) (T:jl) (n:Nat),(hV l T n).1.length=l.length
 |[],_,_=>rfl
 |d :: l,T,n=>by
  show(hV l _ _).1.length + 1=_
  rw[mU l]
  rfl
def bI.dt:bI->Dt
 | .d9 w d u a=> .tup [.str "bill",.str w,.int d,.int u,.int a]
 | .ra w d a=> .tup [.str "pay",.str w,.int d,.int a]
 | .note b d a=> .tup [.str "note",.int b,.int d,.int a]
 | .set c b a=> .tup [.str "set",.int c,.int b,.int a]
 | .fI w=> .tup [.str "sweep",.str w]
 | .i6 n=> .tup [.str "undo",.int n]
 | .ask o w d=> .tup [.str (if o then "owed" else "free"),.str w,.int d]
 | .iM w d l=> .tup [.str "ages",.str w,.int d,.tup (l.map Dt.int)]
def bI.ok:bI->Prop
 | .iM _ _ l=>l.length<=11/\l.Pairwise (· < ·)/\ ∀x∈l,1<=x
 |_=>True
mutual
def Dt.JK:Dt->Bool
 | .lst _=>false
 | .tup ds=>Dt.vV ds
 | .eI=>true
 | .bl _=>true
 | .int _=>true
 | .str _=>true
def Dt.vV:List Dt->Bool
 |[]=>true
 |d :: ds=>d.JK && Dt.vV ds
end
def cW (H H':Hp):Prop:= ∀b xs,H b=some (.tup xs)->H' b=some (.tup xs)
theorem cW.trans {H1 H2 H3:Hp}(a:cW H1 H2)(b:cW H2 H3):cW H1 H3:=fun x xs e=>b x xs (a x xs e)
theorem aD.tk {H H':Hp}(s:aD H H'):cW H H':=fun b xs e=>s _ _ e
theorem fT {H:Hp}{p:Addr}{o:HO}{ys:List V}(h:H p=some (.lst ys)):cW H (upd H p o):=dN h
mutual
theorem Rp.AA {H H':Hp}(k:cW H H'): ∀(d:Dt) {v:V},d.JK=true->Rp H d v->Rp H' d v
 | .eI,_,_,h=>uA.mpr (uA.mp h)
 | .bl _,_,_,h=>qr.mpr (qr.mp h)
 | .int _,_,_,h=>dM.mpr (dM.mp h)
 | .str _,_,_,h=>gQ.mpr (gQ.mp h)
 | .tup ds,_,n,h=>by
  obtain⟨a,xs,e,h1,h2⟩:=jP.mp h
  exact jP.mpr ⟨a,xs,e,k _ _ h1,g8.AA k ds (by simpa[Dt.JK] using n) h2⟩
 | .lst ds,_,n,h=>by simp[Dt.JK] at n
theorem g8.AA {H H':Hp}(k:cW H H'): ∀(ds:List Dt) {vs:List V},Dt.vV ds=true->g8 H ds vs->g8 H' ds vs
 |[],_,_,h=>dA.mpr (dA.mp h)
 |d :: ds,_,n,h=>by
  obtain⟨v,r,e,h1,h2⟩:=bW.mp h
  have n':d.JK=true/\Dt.vV ds=true:=by simpa[Dt.vV] using n
  exact bW.mpr ⟨v,r,e,Rp.AA k d n'.1 h1,g8.AA k ds n'.2 h2⟩
end
theorem Fw (l:List Int):Dt.vV (l.map Dt.int)=true:=by
 induction l with
 |nil=>rfl
 |cons x l ih=>simp[Dt.vV,Dt.JK,ih]
theorem bI.JK (d:bI):d.dt.JK=true:=by
 cases d <;> simp[bI.dt,Dt.JK,Dt.vV,Fw]
theorem Fx (ds:List bI):Dt.vV (ds.map bI.dt)=true:=by
 induction ds with
 |nil=>rfl
 |cons d ds ih=>simp[Dt.vV,bI.JK,ih]
def ij (H:Hp)(ds:List bI)(ms:List V):Prop:=g8 H (ds.map bI.dt) ms
theorem ij.mono {H H':Hp}{ds:List bI}{ms:List V}(h:ij H ds ms)(k:cW H H'):ij H' ds ms:=g8.AA k _ (Fx ds) h
theorem ij.snoc {H:Hp}{ds:List bI}{ms:List V}{d:bI}{v:V}(h:ij H ds ms)(hd:Rp H d.dt v):ij H (ds ++ [d]) (ms ++ [v]):=by
 unfold ij
 rw[aR]
 exact g8.append h (g8.one hd)
theorem ij.length {H:Hp}{ds:List bI}{ms:List V}(h:ij H ds ms):ds.length=ms.length:=by
 have:=g8.length h
 rwa [ae] at this
theorem KG (n:Nat)(b:Str):(List.replicate n [V.str b]).flatten=(List.replicate n b).map V.str:=by
 induction n with
 |zero=>rfl
 |succ n ih=>rw[dz,iU,ih,dz]; rfl
def Rw.vs (r:Rw):List V:=[.str r.aL,.int r.a,.int r.b,.int r.c,.int r.d]
structure fN where
 pb:Addr
 pc:Addr
 pm:Addr
 iw:List Addr
 cps:List Addr
def fN.fp (f:fN):List Addr:=f.pb :: f.pc :: f.pm :: (f.iw ++ f.cps)
def Zw (f:fN):List (Key×V):=[(Sum.inr "bills",.ref f.pb),(Sum.inr "credits",.ref f.pc),(Sum.inr "made",.ref f.pm)]
def fh (H:Hp)(rs:List Rw)(ps:List Addr):Prop:=Paired (fun(r:Rw) p=>H p=some (.lst r.vs)) rs ps
def il (H:Hp)(ms:List (Nat×Nat×Int))(vs:List V):Prop:=Paired (fun(t:Nat×Nat×Int) v=> ∃p,v= .ref p/\H p=some (.tup [.int t.1,.int t.2.1,.int t.2.2])) ms vs
theorem il.mono {H H':Hp}{ms:List (Nat×Nat×Int)}{vs:List V}(h:il H ms vs)(k:cW H H'):il H' ms vs:=
 Paired.ir h fun _ _ ⟨p,e,q⟩=>⟨p,e,k _ _ q⟩
structure dI (H:Hp)(sd:Addr)(S:Bk)(f:fN):Prop where
 dict:H sd=some (.dK (Zw f))
 hb:H f.pb=some (.lst (f.iw.map V.ref))
 hc:H f.pc=some (.lst (f.cps.map V.ref))
 hm: ∃ms,H f.pm=some (.lst ms)/\il H S.made ms
 rb:fh H S.aH f.iw
 rc:fh H S.credits f.cps
 nd:f.fp.Nodup
 ns:sd∉f.fp
theorem fh.keep {H H':Hp}{rs:List Rw}{ps:List Addr}(h:fh H rs ps)(k: ∀p∈ps,∀o,H p=some o->H' p=some o):fh H' rs ps:=by
 induction h with
 |nil=>exact .nil
 | @cons r p rs ps hr t ih=>exact .cons (k p bT _ hr) (ih fun q hq=>k q (bz _ hq))
theorem dI.keep {H H':Hp}{sd:Addr}{S:Bk}{f:fN}(h:dI H sd S f)(k: ∀b o,(b=sd∨b∈f.fp)->H b=some o->H' b=some o)(t:cW H H'):dI H' sd S f:=by
 obtain⟨ms,m1,m2⟩:=h.hm
 refine⟨k _ _ (.inl rfl) h.dict,k _ _ (.inr (by simp[fN.fp])) h.hb,k _ _ (.inr (by simp[fN.fp])) h.hc,⟨ms,k _ _ (.inr (by simp[fN.fp])) m1,m2.mono t⟩,h.rb.keep fun p hp o e=>k p o (.inr (by simp[fN.fp,hp])) e,h.rc.keep fun p hp o e=>k p o (.inr (by simp[fN.fp,hp])) e,h.nd,h.ns⟩
theorem dI.same {H H':Hp}{sd:Addr}{S:Bk}{f:fN}(h:dI H sd S f)(s:aD H H'):dI H' sd S f:=h.keep (fun b o _ e=>s _ _ e) s.tk
def Frame (fp:List Addr)(H H':Hp):Prop:= ∀b o,b∉fp->H b=some o->H' b=some o
theorem Frame.refl {fp:List Addr}{H:Hp}:Frame fp H H:=fun _ _ _ e=>e
theorem Frame.trans {fp QO:List Addr}{H1 H2 H3:Hp}(a:Frame fp H1 H2)(b:Frame QO H2 H3)(h: ∀x∈QO,x∈fp∨H1 x=none):Frame fp H1 H3:=fun x o hx e=>
 b x o (fun Zx=>by
  rcases h x Zx with h|h
  ·exact hx h
  ·rw[h] at e; cases e) (a x o hx e)
theorem aD.frame {fp:List Addr}{H H':Hp}(s:aD H H'):Frame fp H H':=fun b o _ e=>s _ _ e
theorem Frame.upd {fp:List Addr}{H:Hp}{p:Addr}{o:HO}(h:p∈fp):Frame fp H (upd H p o):=fun b u hb e=>by
 have jf:b≠p:=fun z=>hb (by rw[z]; exact h)
 rw[aA jf]; exact e
theorem Frame.same {fp:List Addr}{H0 H H':Hp}(a:Frame fp H H')(s:aD H0 H)(h: ∀x∈fp,H0 x=none):aD H0 H':=fun b o e=>a b o (fun hb=>by rw[h b hb] at e; cases e) (s b o e)
theorem fh.length {H:Hp}{rs:List Rw}{ps:List Addr}(h:fh H rs ps):rs.length=ps.length:=aQ h
theorem fh.at {H:Hp}{rs:List Rw}{ps:List Addr}(h:fh H rs ps){i:Nat}(hi:i < rs.length): ∃p,ps[i]? =some p/\H p=some (.lst (rs.getD i default).vs):=by
 obtain⟨p,e,q⟩:=bR h (af hi)
 refine⟨p,e,?_⟩
 rw[ak,af hi]
 exact q
theorem fh.set {H:Hp}: ∀{rs:List Rw} {ps:List Addr} {i:Nat} {p:Addr} {r:Rw},fh H rs ps->ps.Nodup->ps[i]? =some p->fh (upd H p (.lst r.vs)) (rs.set i r) ps
 |_,_,i,p,r,.nil,_,h=>by simp at h
 |_,_,0,p,r,.cons (b:=q) hr t,nd,h=>by
  injection h with h
  subst h
  rw[fP] at nd
  refine .cons ag (fh.keep t fun x hx o e=>?_)
  have jf:x≠q:=fun z=>nd.1 (by rw[← z]; exact hx)
  rw[aA jf]; exact e
 |_,_,i + 1,p,r,.cons (b:=q) hr t,nd,h=>by
  rw[fP] at nd
  rw[List.getElem?_cons_succ] at h
  have jf:q≠p:=fun z=>nd.1 (by rw[z]; exact gE h)
  refine .cons ?_ (fh.set t nd.2 h)
  rw[aA jf]; exact hr
theorem fh.ip {H:Hp}{rs:List Rw}{ps:List Addr}{p:Addr}{o:HO}(h:fh H rs ps)(hp:p∉ps):fh (upd H p o) rs ps:=
 h.keep fun q hq u e=>by
  have jf:q≠p:=fun z=>hp (by rw[← z]; exact hq)
  rw[aA jf]; exact e
theorem fN.QP {f:fN}(h:f.fp.Nodup):f.pb≠f.pc/\f.pb≠f.pm/\f.pc≠f.pm/\(∀p∈f.iw,p≠f.pb/\p≠f.pc/\p≠f.pm/\p∉f.cps)/\(∀p∈f.cps,p≠f.pb/\p≠f.pc/\p≠f.pm/\p∉f.iw)/\f.iw.Nodup/\f.cps.Nodup:=by
 unfold fN.fp at h
 simp only[List.nodup_cons,List.mem_cons,List.mem_append,not_or,List.nodup_append] at h
 obtain⟨⟨h1,h2,h3,h4⟩,⟨h5,h6,h7⟩,⟨h8,h9⟩,QQ,U4,O7⟩:=h
 refine⟨h1,h2,h5,fun p hp=>⟨fun e=>h3 (e▸hp),fun e=>h6 (e▸hp),fun e=>h8 (e▸hp),fun hc=>O7 p hp p hc rfl⟩,fun p hp=>⟨fun e=>h4 (e▸hp),fun e=>h7 (e▸hp),fun e=>h9 (e▸hp),fun hb=>O7 p hb p hp rfl⟩,QQ,U4⟩
theorem dI.setB {H:Hp}{sd:Addr}{S:Bk}{f:fN}(h:dI H sd S f){i:Nat}{p:Addr}{r:Rw}(hp:f.iw[i]? =some p)(hl: ∃xs,H p=some (.lst xs)):dI (upd H p (.lst r.vs)) sd {S with aH:=S.aH.set i r} f:=by
 obtain⟨d1,d2,d3,d4,d5,d6,d7⟩:=fN.QP h.nd
 have hm:=gE hp
 obtain⟨e1,e2,e3,e4⟩:=d4 p hm
 obtain⟨ms,m1,m2⟩:=h.hm
 obtain⟨xs,hx⟩:=hl
 have es:sd≠p:=fun z=>h.ns (by rw[z]; simp[fN.fp,hm])
 exact⟨by rw[aA es]; exact h.dict,by rw[aA e1.symm]; exact h.hb,by rw[aA e2.symm]; exact h.hc,⟨ms,by rw[aA e3.symm]; exact m1,m2.mono (fT hx)⟩,h.rb.set d6 hp,h.rc.ip e4,h.nd,h.ns⟩
theorem dI.setC {H:Hp}{sd:Addr}{S:Bk}{f:fN}(h:dI H sd S f){i:Nat}{p:Addr}{r:Rw}(hp:f.cps[i]? =some p)(hl: ∃xs,H p=some (.lst xs)):dI (upd H p (.lst r.vs)) sd {S with credits:=S.credits.set i r} f:=by
 obtain⟨d1,d2,d3,d4,d5,d6,d7⟩:=fN.QP h.nd
 have hm:=gE hp
 obtain⟨e1,e2,e3,e4⟩:=d5 p hm
 obtain⟨ms,m1,m2⟩:=h.hm
 obtain⟨xs,hx⟩:=hl
 have es:sd≠p:=fun z=>h.ns (by rw[z]; simp[fN.fp,hm])
 exact⟨by rw[aA es]; exact h.dict,by rw[aA e1.symm]; exact h.hb,by rw[aA e2.symm]; exact h.hc,⟨ms,by rw[aA e3.symm]; exact m1,m2.mono (fT hx)⟩,h.rb.ip e4,h.rc.set d7 hp,h.nd,h.ns⟩
theorem dI.U5 {H:Hp}{sd:Addr}{S:Bk}{f:fN}(h:dI H sd S f){ms:List V}{t:Nat×Nat×Int}{p:Addr}(hm:H f.pm=some (.lst ms))(Zy:il H S.made ms)(hp:H p=some (.tup [.int t.1,.int t.2.1,.int t.2.2])):
  dI (upd H f.pm (.lst (ms ++ [.ref p]))) sd {S with made:=S.made ++ [t]} f:=by
 obtain⟨d1,d2,d3,d4,d5,d6,d7⟩:=fN.QP h.nd
 have es:sd≠f.pm:=fun z=>h.ns (by rw[z]; simp[fN.fp])
 exact⟨by rw[aA es]; exact h.dict,by rw[aA d2]; exact h.hb,by rw[aA d3]; exact h.hc,⟨_,ag,cQ (Zy.mono (fT hm)) ⟨p,rfl,dN hm _ _ hp⟩⟩,h.rb.ip fun z=>(d4 _ z).2.2.1 rfl,h.rc.ip fun z=>(d5 _ z).2.2.1 rfl,h.nd,h.ns⟩
theorem QR:("bills":Str)≠"credits":=by decide +kernel
theorem QS:("bills":Str)≠"made":=by decide +kernel
theorem QT:("credits":Str)≠"made":=by decide +kernel
theorem QU (a b c:V):gi [((Sum.inr "bills":Key),a),(Sum.inr "credits",b),(Sum.inr "made",c)] (Sum.inr "bills")=some a:=by
 unfold gi
 rw[List.find?_cons_of_pos (by simp)]; rfl
theorem QV (a b c:V):gi [((Sum.inr "bills":Key),a),(Sum.inr "credits",b),(Sum.inr "made",c)] (Sum.inr "credits")=some b:=by
 unfold gi
 rw[List.find?_cons_of_neg (by simpa using QR),List.find?_cons_of_pos (by simp)]; rfl
theorem QW (a b c:V):gi [((Sum.inr "bills":Key),a),(Sum.inr "credits",b),(Sum.inr "made",c)] (Sum.inr "made")=some c:=by
 unfold gi
 rw[List.find?_cons_of_neg (by simpa using QS),List.find?_cons_of_neg (by simpa using QT),List.find?_cons_of_pos (by simp)]; rfl
theorem Nt (a b c:V):pq [] [((Sum.inr "bills":Key),a),(Sum.inr "credits",b),(Sum.inr "made",c)]=[((Sum.inr "bills":Key),a),(Sum.inr "credits",b),(Sum.inr "made",c)]:=by
 unfold pq
 rw[fQ,fQ,fQ,List.foldl_nil]
 have h1:putK ([]:List (Key×V)) (Sum.inr "bills") a=[((Sum.inr "bills":Key),a)]:=by
  unfold putK; rw[if_neg (by simp)]; rfl
 have h2:putK [((Sum.inr "bills":Key),a)] (Sum.inr "credits") b=[((Sum.inr "bills":Key),a),(Sum.inr "credits",b)]:=by
  unfold putK; rw[if_neg (by simpa using QR)]; rfl
 have h3:putK [((Sum.inr "bills":Key),a),(Sum.inr "credits",b)] (Sum.inr "made") c=[((Sum.inr "bills":Key),a),(Sum.inr "credits",b),(Sum.inr "made",c)]:=by
  unfold putK; rw[if_neg (by simpa using⟨QS,QT⟩)]; rfl
 dsimp only
 rw[h1,h2,h3]
theorem dI.gB {H:Hp}{sd:Addr}{S:Bk}{f:fN}(h:dI H sd S f):mx H sd (.str "bills") (some (.ref f.pb)):=QU (.ref f.pb) (.ref f.pc) (.ref f.pm)▸mx.k (k:=Sum.inr "bills") h.dict
theorem dI.gC {H:Hp}{sd:Addr}{S:Bk}{f:fN}(h:dI H sd S f):mx H sd (.str "credits") (some (.ref f.pc)):=QV (.ref f.pb) (.ref f.pc) (.ref f.pm)▸mx.k (k:=Sum.inr "credits") h.dict
theorem dI.gM {H:Hp}{sd:Addr}{S:Bk}{f:fN}(h:dI H sd S f):mx H sd (.str "made") (some (.ref f.pm)):=QW (.ref f.pb) (.ref f.pc) (.ref f.pm)▸mx.k (k:=Sum.inr "made") h.dict
theorem dI.lb {H:Hp}{sd:Addr}{S:Bk}{f:fN}(h:dI H sd S f){b:Nat}(hb:b < S.aH.length): ∃p,f.iw[b]? =some p/\q0 (f.iw.map V.ref) (b:Int)=some (.ref p)/\H p=some (.lst (S.bl b).vs):=by
 obtain⟨p,e,q⟩:=h.rb.at hb
 exact⟨p,e,cO (by rw[aB,e]; rfl),q⟩
theorem dI.lc {H:Hp}{sd:Addr}{S:Bk}{f:fN}(h:dI H sd S f){b:Nat}(hb:b < S.credits.length): ∃p,f.cps[b]? =some p/\q0 (f.cps.map V.ref) (b:Int)=some (.ref p)/\H p=some (.lst (S.cr b).vs):=by
 obtain⟨p,e,q⟩:=h.rc.at hb
 exact⟨p,e,cO (by rw[aB,e]; rfl),q⟩
section
variable {prog:Program}{w:World}{A:Around}{E:Value->Shared->Prop}
def sE (prog:Program)(w:World)(A:Around)(kS:Addr)(f:Value)(Fi:List Value->Shared->Prop):List Value->List Value->Shared->Prop
 |[],ks,s=>Fi ks s
 |v :: r,ks,s=>wpAny (model prog w) A (call f [v]) (fun k s'=> ∃e,s'.heap.get? kS=some (seqObj "list" ks.toArray e)/\ ∀h' c,Heap.SameBut kS s'.heap h'->h'.get? kS=some (seqObj "list" (ks ++ [k]).toArray c)->sE prog w A kS f Fi r (ks ++ [k]) {s' with heap:=h'}) (fun _ _=>False) s
def Fy (prog:Program)(w:World)(A:Around)(D kS:Addr)(e1:Nat)(vs:List Value)(Q:Shared->Prop)(ks:List Value)(s:Shared):Prop:=
 ∃(κ:SortKind) (key:Nat->Int),D≠kS/\s.heap.get? D=some (seqObj "list" #[] e1)/\(2<=vs.length-> ∀Q':SortKind->Shared->Prop,Q' κ s->wpAny (model prog w) A (keyKind' ks.toArray) Q' (fun _ _=>False) s)/\
  (∀(i j:Nat) (C:Bool->Shared->Prop),i < vs.length->j < vs.length->C (decide (key i < key j)) s->wpAny (model prog w) A (keyLt' κ (ks.getD i Value.none) (ks.getD j Value.none)) C (fun _ _=>False) s)/\
  ∀(p:Array Nat) (h':Heap) (n:Nat),qt vs.length p->lp key p vs.length->h'.objs.size=s.heap.objs.size->h'.get? D=some (seqObj "list" (p.toList.map fun i=>vs.getD i Value.none).toArray n)->(∀b,b≠D->b≠kS->h'.get? b=s.heap.get? b)->Q {s with heap:=h'}
theorem DR {f:Value}{kS:Addr}{Fi:List Value->Shared->Prop}{n:Nat}{body:Value->PUnit->Sem (ForInStep PUnit)}(hn:n < 64)
  (hb: ∀x ks (s:Shared) (C:Value->Shared->Prop),List.length ks < 64->wpAny (model prog w) A (call f [x]) (fun k s'=> ∃e,s'.heap.get? kS=some (seqObj "list" ks.toArray e)/\ ∀h' c,Heap.SameBut kS s'.heap h'->h'.get? kS=some (seqObj "list" (ks ++ [k]).toArray c)->C k {s' with heap:=h'}) (fun _ _=>False) s->
   wpAny (model prog w) A (body x ⟨⟩) (fun r s'=>r= .yield ⟨⟩/\ ∃k c,s'.heap.get? kS=some (seqObj "list" (ks ++ [k]).toArray c)/\C k s') E s): ∀(r ks:List Value) (e:Nat) (s:Shared),ks.length + r.length=n->
   s.heap.get? kS=some (seqObj "list" ks.toArray e)->sE prog w A kS f Fi r ks s->
   wpAny (model prog w) A (forIn r PUnit.unit body) (fun _ s'=> ∃ks e,s'.heap.get? kS=some (seqObj "list" ks.toArray e)/\ks.length=n/\Fi ks s') E s
 |[],ks,e,s,hl,hk,h=>by
  rw[List.forIn_nil]
  exact wpAny_pure ⟨ks,e,hk,by simpa using hl,h⟩
 |x :: r,ks,e,s,hl,hk,h=>by
  rw[cz] at hl
  rw[List.forIn_cons]
  refine ay (cD (hb x ks s (fun k s'=>sE prog w A kS f Fi r (ks ++ [k]) s') (by omega) h) (fun q s' hq=>?_) fun _ _ x=>x)
  obtain⟨rfl,k,c,JJ,h2⟩:=hq
  show wpAny (model prog w) A (forIn r PUnit.unit body) _ E s'
  exact DR hn hb r (ks ++ [k]) c s' (by rw[aK,List.length_singleton]; omega) JJ h2
variable {s:Shared}
theorem DS {D kS:Addr}{e e1:Nat}{ks out:List Value}{st:SortSt}{P:PySem.Fin->Shared->Prop}(hD:s.heap.get? D=some (seqObj "list" #[] e1))(hk:s.heap.get? kS=some (seqObj "list" ks.toArray e))(ne:D≠kS)
  (Cs:(arrOf st).map (·.2)=out.toArray) (hz:out.length < 64) (hkz:ks.length < 64) (hf:failedOf st=none)
  (h: ∀(h':Heap) (n:Nat),h'.objs.size=s.heap.objs.size->h'.get? D=some (seqObj "list" out.toArray n)->(∀b,b≠D->b≠kS->h'.get? b=s.heap.get? b)->P (.done (.ret .none)) {s with heap:=h'}):
  wpAny (model prog w) A (ksk_tail D false e1 (.ref kS) st) P E s:=by
 have hl:sizeLine=16777216:=eK
 unfold ksk_tail
 try dsimp only
 rw[Cs]
 have s1:=rA s.heap kS (Obj.mapSeq fun _=>(#[]:Array Value))
 have d1:(s.heap.update kS (Obj.mapSeq fun _=>(#[]:Array Value))).get? D=some (seqObj "list" #[] e1):=(s1.2 D ne).trans hD
 have s2:=rA (s.heap.update kS (Obj.mapSeq fun _=>(#[]:Array Value))) D (Obj.mapSeq fun _=>out.toArray)
 obtain⟨c2,KA⟩: ∃c2,((s.heap.update kS (Obj.mapSeq fun _=>(#[]:Array Value))).update D (Obj.mapSeq fun _=>out.toArray)).get? D=some (seqObj "list" out.toArray c2):=⟨_,LW d1 fun _=>out.toArray⟩
 refine ay (vC hk rfl ?_ (by rw[bJ]; omega) (bF _))
 refine ay (wpAny_letGo ?_)
 refine ay (seqEpoch_at d1 rfl ?_)
 simp only[Bool.false_eq_true,if_false]
 refine ay (vC d1 rfl ?_ (bF _) (by rw[bJ]; omega))
 rw[hf]
 simp only[bne_self_eq_false,Bool.false_eq_true,if_false]
 refine bM (h _ c2 (s2.1.trans s1.1) KA fun b n1 n2=>(s2.2 b n1).trans (s1.2 b n2))
theorem Nu {D kS:Addr}{e e1:Nat}{ks vs:List Value}{P:PySem.Fin->Shared->Prop}(hk:s.heap.get? kS=some (seqObj "list" ks.toArray e))(hl:ks.length=vs.length)(BS:vs.length < 64)
  (h:Fy prog w A D kS e1 vs (fun s'=>P (.done (.ret .none)) s') ks s):wpAny (model prog w) A (ksk_end D false vs.toArray e1 (.ref kS) ks.toArray) P E s:=by
 obtain⟨κ,key,ne,hD,kind,cmp,fin⟩:=h
 have hsz:vs.toArray.size=vs.length:=by simp
 unfold ksk_end
 try dsimp only
 simp only[Bool.false_eq_true,if_false]
 by_cases h2:vs.toArray.size < 2
 ·rw[bg h2,bg h2]
  refine ay (bM ?_)
  rw[StateT.run_pure]
  refine ay (bM ?_)
  dsimp only
  have Cs:(arrOf (SortSt.mk' general' (ks.toArray.zip vs.toArray) #[] 7 none)).map (·.2)=((List.toArray (List.range vs.length)).toList.map fun i=>vs.getD i Value.none).toArray:=by
   show(ks.toArray.zip vs.toArray).map (·.2)=_
   apply Array.toList_inj.mp
   have e1:((ks.toArray.zip vs.toArray).map (·.2)).toList=vs:=by
    rw[Array.toList_map,Array.toList_zip]
    exact List.map_snd_zip (by rw[zZ,zZ]; omega)
   rw[e1]
   show vs=(List.range vs.length).map fun i=>vs.getD i Value.none
   exact(range_getD vs Value.none).symm
  refine DS hD hk ne Cs (by rw[ae,zZ,dF]; exact BS) (by omega) rfl fun h' n z1 z2 z3=>?_
  refine fin (List.toArray (List.range vs.length)) h' n (JV _) (fun i j Xv hj=>?_) z1 z2 z3
  have:i=j:=by omega
  subst this
  exact fR _
 ·rw[aV h2,aV h2]
  have QJ:2<=vs.length:=by omega
  refine ay (cD (kind QJ (fun κ' s'=>κ'=κ/\s'=s) ⟨rfl,rfl⟩) (fun κ' s' JJ=>?_) fun _ _ x=>x.elim)
  obtain⟨rfl,rfl⟩:=JJ
  refine ay (cD (kat_run (Q:=fun zT Dx=>Dx=s'/\ ∃p:Array Nat,p.size=vs.length/\arrOf zT=p.map (kas_item (ks.toArray.zip vs.toArray))/\failedOf zT=none/\qt vs.length p/\lp key p vs.length)
   (G:=fun p Dx=>Dx=s'/\qt vs.length p/\lp key p vs.length) (κ:=κ') hl QJ BS (fun p' zT Dx a1 a2 a3 a4=>⟨a4.1,p',a1,a2,a3,a4.2⟩) (uB (fun i j C hi hj q=>cmp i j C hi hj q) (fun p q=>⟨rfl,q⟩) _ (HP (by omega)))) ?_ fun _ _ e=>e)
  rintro⟨⟨⟩,zT⟩ Dx ⟨rfl,p,hp,UZ,hf,q1,q2⟩
  dsimp only
  exact DS hD hk ne (kat_snds hl UZ) (by rw[ae,oj,hp]; exact BS) (by omega) hf fun h' n z1 z2 z3=>fin p h' n q1 q2 z1 z2 z3
theorem KH {D:Addr}{n:Nat}{vs:List Value}{f:Value}{P:PySem.Fin->Shared->Prop}(ho:s.heap.get? D=some (seqObj "list" vs.toArray n))(BS:vs.length < 64)
  (h: ∀(kS:Addr) (e1:Nat) (h':Heap),(∀b o,b≠D->s.heap.get? b=some o->h'.get? b=some o)->h'.get? D=some (seqObj "list" #[] e1)->h'.get? kS=some (seqObj "list" #[] 0)->D≠kS->s.heap.objs.size<=kS->
   sE prog w A kS f (Fy prog w A D kS e1 vs (fun s'=>P (.done (.ret .none)) s')) vs [] {s with heap:=h'}):wpAny (model prog w) A (ksk_tree D f false) P E s:=by
 have ha:D < s.heap.objs.size:=aO ho
 have hl:sizeLine=16777216:=eK
 have s1:=rA s.heap D (Obj.mapSeq fun _=>(#[]:Array Value))
 obtain⟨e1,Ft⟩: ∃e1,(s.heap.update D (Obj.mapSeq fun _=>(#[]:Array Value))).get? D=some (seqObj "list" #[] e1):=⟨_,LW ho fun _=> #[]⟩
 have U6:((s.heap.update D (Obj.mapSeq fun _=>(#[]:Array Value))).push (seqObj "tuple" vs.toArray 0)).objs.size=s.heap.objs.size + 1:=by rw[size_push',oZ]
 unfold ksk_tree
 refine ay (listItems_at ho rfl ?_)
 refine ay (vC ho rfl ?_ (by rw[bJ]; omega) (bF _))
 refine ay (seqEpoch_at Ft rfl ?_)
 refine ay (wpAny_newTuple ?_ (by show vs.length<=_; omega))
 refine ay (JW ?_ (bF _))
 refine ix ?_
 generalize hU:((s.heap.update D (Obj.mapSeq fun _=>(#[]:Array Value))).push (seqObj "tuple" vs.toArray 0))=U at U6
 have kU: ∀b o,(s.heap.update D (Obj.mapSeq fun _=>(#[]:Array Value))).get? b=some o->U.get? b=some o:=fun b o z=>by
  rw[← hU]
  exact ax _ z
 have O8:(U.push (seqObj "list" #[] 0)).get? U.objs.size=some (seqObj "list" #[] 0):=bV _ rfl
 have start:=h U.objs.size e1 (U.push (seqObj "list" #[] 0)) (fun b o n z=>ax _ (kU b o ((s1.2 b n).trans z))) (ax _ (kU D _ Ft)) O8 (by rw[U6]; exact bc (iV ha)) (by rw[U6]; exact dS _)
 show wpAny (model prog w) A (ksk_rest D f false vs.toArray e1 (.ref U.objs.size)) P E {s with heap:=U.push (seqObj "list" #[] 0)}
 unfold ksk_rest
 refine ay (wpAny_rule ?_)
 first
  |rw[List.forIn_toArray]
  |(rw[← Array.forIn_toList]; simp only[List.toList_toArray])
 refine wpAny_bind (wpAny_mono (DR BS (fun x ks s' C hz hx=>?_) vs [] 0 _ (by simp) O8 start) (fun _ s' hd=>?_) fun _ _ x=>x)
 ·refine ay (wpAny_attempt (cD hx (fun k Dx hk=>?_) fun _ _ hF=>hF.elim))
  obtain⟨e,nk,c⟩:=hk
  have s2:=rA Dx.heap U.objs.size (Obj.mapSeq (·.push k))
  have ea:ks.toArray.push k=(ks ++ [k]).toArray:=by simp
  obtain⟨c2,KA⟩: ∃c2,(Dx.heap.update U.objs.size (Obj.mapSeq (·.push k))).get? U.objs.size=some (seqObj "list" (ks ++ [k]).toArray c2):=⟨_,by rw[← ea]; exact LW nk (·.push k)⟩
  try dsimp only
  refine ay (vC nk rfl ?_ (by rw[bJ]; omega) (a8 (iJ (Array.size_push ..)) (by rw[bJ]; omega)))
  exact bM ⟨rfl,k,c2,KA,c _ c2 s2 KA⟩
 ·obtain⟨ks,e,JJ,Zz,fin⟩:=hd
  try dsimp only
  refine ay (listItems_at JJ rfl ?_)
  exact Nu JJ Zz BS fin
theorem sortedK {l q:Addr}{vs:List Value}{Q:Value->Shared->Prop}(hl:s.heap.IsList l vs.toArray)(BS:vs.length < 64)
  (h: ∀(D kS:Addr) (e1:Nat) (h':Heap),(∀b o,s.heap.get? b=some o->h'.get? b=some o)->h'.get? D=some (seqObj "list" #[] e1)->h'.get? kS=some (seqObj "list" #[] 0)->D≠kS->s.heap.objs.size<=D->s.heap.objs.size<=kS->
   sE prog w A.in1.in1 kS (.ref q) (Fy prog w A.in1.in1 D kS e1 vs (fun s'=>Q (.ref D) s')) vs [] {s with heap:=h'}):
  wpAny (model prog w) A (call (.builtin "sorted") [.ref l] [(Str.ofString "key",.ref q)]) Q E s:=by
 have Ta:sizeLine=16777216:=eK
 refine call_function_entry_kw kind_sorted plain_sorted entry_sorted (ksk_s1 _ _) ?_
 unfold Builtin.«sorted»
 refine ay (m:=checkCount "sorted" 1 1 _) (bM ?_)
 refine ay (collect_list hl ?_ (by omega))
 refine ay (JW ?_ (by show vs.length<=_; omega))
 have hsz:((s.heap.push (seqObj "list" #[] 0)).update s.heap.objs.size (Obj.mapSeq (· ++ vs.toArray))).objs.size=s.heap.objs.size + 1:=by
  rw[oZ,size_push']
 generalize hU:((s.heap.push (seqObj "list" #[] 0)).update s.heap.objs.size (Obj.mapSeq (· ++ vs.toArray)))=U at hsz
 have keep: ∀b o,s.heap.get? b=some o->U.get? b=some o:=fun b o z=>by
  have lt:b < s.heap.objs.size:=aO z
  rw[← hU,G4 _ _ _ _ (bc lt),mE _ _ _ (bc lt)]
  exact z
 have MP:(U.push (seqObj "list" vs.toArray 0)).get? U.objs.size=some (seqObj "list" vs.toArray 0):=bV _ rfl
 show wpAny _ _ _ _ _ {s with heap:=U.push (seqObj "list" vs.toArray 0)}
 refine ay (ix (wpAny_call_entry_kw slot_list_sort ⟨_,MP,rfl⟩ entry_list_sort ?body (ksk_l1 _ _)))
 case body=>
  show wpAny (model prog w) A.in1.in1 (Builtin.«list.sort» ⟨[.ref U.objs.size],[(Str.ofString "key",.ref q)]⟩) _ _ _
  rw[ksk_t1]
  refine KH (s:={s with heap:=U.push (seqObj "list" vs.toArray 0)}) MP BS fun kS e1 h' kp d1 k1 ne le=>?_
  have z:=h U.objs.size kS e1 h' (fun b o w=>kp b o (fun w2=>by rw[w2] at w; exact absurd (aO w) (by rw[hsz]; exact wX.mpr (dS _))) (ax _ (keep b o w))) d1 k1 ne (by rw[hsz]; exact dS _) (by
   have Xy:(U.push (seqObj "list" vs.toArray 0)).objs.size<=kS:=le
   rw[size_push',hsz] at Xy
   exact a8 (ES (dS _)) Xy)
  have mono: ∀(r ks:List Value) (s':Shared),sE prog w A.in1.in1 kS (.ref q) (Fy prog w A.in1.in1 U.objs.size kS e1 vs (fun s'=>Q (.ref U.objs.size) s')) r ks s'->
    sE prog w A.in1.in1 kS (.ref q) (Fy prog w A.in1.in1 U.objs.size kS e1 vs (fun s'=> ∃v,PySem.Fin.done (.ret .none)= .done (.ret v)/\wpAny (model prog w) A.in1 (ret (.ref U.objs.size)) (fun fin s'=> ∃v,fin=PySem.Fin.done (Flow.ret v)/\Q v s') E s')) r ks s':=by
   intro r
   induction r with
   |nil=>
    rintro ks s' ⟨κ,key,a1,a2,a3,a4,a5⟩
    exact⟨κ,key,a1,a2,a3,a4,fun p h2 n b1 b2 b3 b4 b5=>⟨_,rfl,bM ⟨_,rfl,a5 p h2 n b1 b2 b3 b4 b5⟩⟩⟩
   |cons v r ih=>
    intro ks s' hh
    exact cD hh (fun k s2 ⟨e,z1,z2⟩=>⟨e,z1,fun h2 c w1 w2=>ih _ _ (z2 h2 c w1 w2)⟩) fun _ _ x=>x
  exact mono vs [] _ z
end
end L2
namespace KI
open PySem
theorem Fz (f:Array Value->Array Value)(o:Obj):(Obj.mapFields f o).dict=o.dict:=by
 obtain⟨c,d,dt,sl⟩:=o
 cases dt <;> rfl
def i7 (h:Heap)(e:Addr)(cls:Value)(iO:Option Addr)(vs:Array Value):Prop:= ∃oe,h.get? e=some oe/\oe.cls=cls/\oe.dict=iO/\oe.data= .fields vs
theorem i7.set {h:Heap}{e:Addr}{cls:Value}{iO:Option Addr}{vs:Array Value}(x:i7 h e cls iO vs)(i:Nat)(v:Value):
  i7 (h.update e (Obj.mapFields (·.setIfInBounds i v))) e cls iO (vs.setIfInBounds i v):=by
 obtain⟨oe,he,hc,hd,hv⟩:=x
 have q:=Obj.data_mapFields hv (·.setIfInBounds i v)
 exact⟨_,B0 _ he (Obj.isFreed_of_fields q),(Obj.cls_mapFields _ _).trans hc,(Fz _ _).trans hd,q⟩
theorem i7.same {h h':Heap}{e:Addr}{cls:Value}{iO:Option Addr}{vs:Array Value}(x:i7 h e cls iO vs)(k: ∀o,h.get? e=some o->h'.get? e=some o):i7 h' e cls iO vs:=
 let⟨oe,he,r⟩:=x
 ⟨oe,k _ he,r⟩
def mV (fr own:List Addr)(h h':Heap):Prop:= ∀b o,h.get? b=some o->b∉own->(b∉fr->h'.get? b=some o)/\ ∃sl,h'.get? b=some {o with slots:=sl}
theorem mV.trans {fr o1 o2:List Addr}{h h1 h2:Heap}(a:mV fr o1 h h1)(b:mV fr o2 h1 h2):mV fr (o1 ++ o2) h h2:=fun c ob q n=>by
 obtain⟨k,sl,e⟩:=a c ob q (fun z=>n (df _ z))
 obtain⟨_,Td,e2⟩:=b c _ e (fun z=>n (bE _ z))
 exact⟨fun hn=>(b c ob (k hn) (fun z=>n (bE _ z))).1 hn,Td,e2⟩
theorem mV.mono {fr O9 o1 o2:List Addr}{h h1:Heap}(a:mV fr o1 h h1)(hf: ∀b∈fr,b∈O9)(ho: ∀b∈o1,b∈o2):mV O9 o2 h h1:=fun c ob q n=>
 let⟨k,sl,e⟩:=a c ob q (fun z=>n (ho c z))
 ⟨fun hn=>k (fun z=>hn (hf c z)),sl,e⟩
theorem yz {fr:List Addr}{h:Heap}{a:Addr}(f:Obj->Obj):mV fr [a] h (h.update a f):=fun b o q n=>by
 have z:(h.update a f).get? b=some o:=(mD _ _ (fun(e:a=b)=>n (ao.mpr e.symm))).trans q
 exact⟨fun _=>z,o.slots,z⟩
theorem uP {fr own:List Addr}{h:Heap}(o':Obj):mV fr own h (h.push o'):=fun b o q _=>⟨fun _=>ax _ q,o.slots,ax _ q⟩
theorem i7.but {fr own:List Addr}{h h':Heap}{e:Addr}{cls:Value}{iO:Option Addr}{vs:Array Value}(x:i7 h e cls iO vs)(b:mV fr own h h')(n:e∉own):i7 h' e cls iO vs:=by
 obtain⟨oe,he,hc,hd,hv⟩:=x
 obtain⟨_,sl,q⟩:=b e oe he n
 exact⟨_,q,hc,hd,hv⟩
def JL (h:Heap)(T:Addr)(fl:Value):Prop:= ∃c d ts,i7 h T c d ts/\ts[3]? =some fl
theorem fq {ts:Array Value}{i:Nat}{v:Value}(h:ts[i]? =some v):i < ts.size:=(Array.getElem?_eq_some_iff.mp h).1
theorem pG {ts:Array Value}{i:Nat}{v:Value}(h:i < ts.size):(ts.setIfInBounds i v)[i]? =some v:=by
 rw[Array.getElem?_setIfInBounds_self_of_lt h]
theorem qx {ts:Array Value}{i j:Nat}{v:Value}(h:i≠j):(ts.setIfInBounds i v)[j]? =ts[j]? :=by
 rw[Array.getElem?_setIfInBounds_ne h]
section
variable {M:Model}{A:Around}{E:Value->Shared->Prop}{s:Shared}{env:Env}{outer:List Env}{base:Heap}{L e T:Addr}{cls:Value}{iO:Option Addr}{vs:Array Value}{Q:Unit->Shared->Prop}
theorem qy {a:Addr}{i:Nat}{v:Value}{R:Value->Shared->Prop}(x:i7 s.heap a cls iO vs)(h:vs[i]? =some v)(q:R v s):wpAny M A (field (.ref a) i) R E s:=by
 obtain⟨oe,he,_,_,hv⟩:=x
 exact G5 he hv h q
theorem nV {a:Addr}{i:Nat}{v:Value}(x:i7 s.heap a cls iO vs)(h:i < vs.size)
  (q: ∀h',mV [] [a] s.heap h'->i7 h' a cls iO (vs.setIfInBounds i v)->h'.objs.size=s.heap.objs.size->Q () {s with heap:=h'}):wpAny M A (setField (.ref a) i v) Q E s:=by
 obtain⟨oe,he,hc,hd,hv⟩:=id x
 exact wpAny_setField he hv h (q _ (yz _) (x.set i v) (Heap.size_after_update ..))
theorem uQ {fl:Value}(x:i7 s.heap e cls iO vs)(h1:vs[1]? =some (.ref T))(ht:JL s.heap T fl)
  (q: ∀h',mV [] [T] s.heap h'->JL h' T .none->h'.objs.size=s.heap.objs.size->Q () {s with heap:=h'}):wpAny M A (setFlight (.ref e) none) Q E s:=by
 obtain⟨c,d,ts,xt,h3⟩:=ht
 unfold setFlight
 refine ay (qy x h1 ?_)
 rw[if_pos (show(Value.ref T != Value.none)=true from by simp)]
 exact nV xt (fq h3) fun h' b x' z=>q h' b ⟨c,d,_,x',pG (fq h3)⟩ z
theorem entry {head:Value}{ZA:Bool}(BU:A.frames=some (env :: outer))(hl:s.heap.FunFrames base (env :: outer))(hf:env.frame=some L)(x:i7 s.heap e cls iO vs)(hsz:1 < vs.size)
  (q: ∀h' T,mV ((env :: outer).filterMap (·.frame)) [e] s.heap h'->i7 h' e cls iO (vs.setIfInBounds 1 (.ref T))->T=s.heap.objs.size->JL h' T (rawInt L)->Q () {s with heap:=h'}):
  wpAny M A (do let a ← frameOf env; let pl ← entryPlaceOf L ZA; let b ← EntryCells.newEntry head a .none (rawInt L) .none pl; setField (.ref e) 1 b) Q E s:=by
 refine ay (wpAny_frameOf_fun BU hl hf fun h1 so=>?_)
 refine ay (wpAny_entryPlaceOf fun pl iL=>?_)
 unfold EntryCells.newEntry newFields
 refine ay (wpAny_newObj_type ?_ (iL.sizeOk5 _ _ _ _ _))
 have b1:mV ((env :: outer).filterMap (·.frame)) [] s.heap h1:=fun b o z _=>⟨fun n=>(so.2.1 b n).trans z,so.2.2 b o z⟩
 have x1:i7 h1 e cls iO vs:=x.but b1 (by simp)
 generalize Te:({cls:= .type "traceback",dict:=none,data:= .fields ([head,.ref L,.none,rawInt L,.none] ++ (if pl.isEmpty then List.replicate 6 Value.none else pl)).toArray}:Obj)=ob
 have x2:i7 (h1.push ob) e cls iO vs:=x1.same fun o z=>ax _ z
 have ne:h1.objs.size≠e:=by
  obtain⟨_,z,_⟩:=x1
  exact pS (aO z)
 have xt:i7 (h1.push ob) h1.objs.size ob.cls ob.dict ([head,.ref L,.none,rawInt L,.none] ++ (if pl.isEmpty then List.replicate 6 Value.none else pl)).toArray:=by
  subst Te
  exact⟨_,bV _ rfl,rfl,rfl,rfl⟩
 refine nV (s:={s with heap:=h1.push ob}) x2 hsz fun h' b x' _=>q h' h1.objs.size ?_ x' so.1 ⟨_,_,_,xt.but b (by simpa using ne),?_⟩
 ·exact((b1.trans (uP ob (own:=[]))).trans (b.mono (by simp) (fun _ z=>z))).mono (fun _ z=>z) (by simp)
 ·simp
theorem Nv (BU:A.frames=some (env :: outer))(hl:s.heap.FunFrames base (env :: outer))(hf:env.frame=some L)(x:i7 s.heap e cls iO vs)(h1:vs[1]? =some .none)
  (q: ∀h' T,mV ((env :: outer).filterMap (·.frame)) [e] s.heap h'->i7 h' e cls iO (vs.setIfInBounds 1 (.ref T))->T=s.heap.objs.size->JL h' T .none->Q () {s with heap:=h'}):
  wpAny M A (leaving env (.ref e)) Q E s:=by
 have ne:s.heap.objs.size≠e:=by
  obtain⟨_,z,_⟩:=x
  exact pS (aO z)
 unfold leaving noteFrame
 simp only[hf]
 refine ay (ay (qy x h1 ?_))
 rw[aV (by decide)]
 refine entry BU hl hf x (fq h1) fun h' T b x' hT t=>?_
 refine uQ x' (pG (fq h1)) t fun h2 b2 t2 _=>q h2 T ?_ (x'.but b2 (by rw[hT]; simpa using ne.symm)) hT t2
 intro c o z n
 have hc:c≠T:=fun w=>by rw[w,hT] at z; exact absurd (aO z) (iS _)
 exact(b.trans (b2.mono (by simp) (fun _ z=>z))) c o z (by simpa using⟨by simpa using n,hc⟩)
theorem Mc (BU:A.frames=some (env :: outer))(hl:s.heap.FunFrames base (env :: outer))(hf:env.frame=some L)(x:i7 s.heap e cls iO vs)(h1:vs[1]? =some (.ref T))(ht:JL s.heap T .none)(U7:T≠e)
  (q: ∀h' T',mV ((env :: outer).filterMap (·.frame)) [T,e] s.heap h'->i7 h' e cls iO (vs.setIfInBounds 1 (.ref T'))->T'=s.heap.objs.size->JL h' T' (rawInt L)->Q () {s with heap:=h'}):
  wpAny M A (noteFrame (.ref e) env) Q E s:=by
 obtain⟨c,d,ts,xt,h3⟩:=ht
 unfold noteFrame
 simp only[hf]
 refine ay (qy x h1 ?_)
 rw[if_pos (show(Value.ref T != Value.none)=true from by simp)]
 refine ay (qy xt h3 ?_)
 rw[if_neg (show ¬ ((Value.none == rawInt L)=true) from by simp[rawInt])]
 refine ay (nV xt (fq h3) fun h' b xt' sz=>?_)
 refine entry (s:={s with heap:=h'}) BU (hl.of_keeps fun a o z nf=>?_) hf (x.but b (by simpa using U7.symm)) (fq h1) fun h2 T' b2 x2 hT t2=>q h2 T' ?_ x2 (hT.trans sz) t2
 ·have na:a≠T:=fun w=>by
   obtain⟨_,z',_,_,hd⟩:=xt
   rw[w,z'] at z
   cases z
   exact nf _ hd
  obtain⟨_,sl,z'⟩:=b a o z (by simpa using na)
  exact⟨_,z',rfl⟩
 ·exact((b.mono (fun _ z=>absurd z (by simp)) (fun _ z=>z)).trans b2).mono (fun _ z=>z) (by simp)
theorem Nw (BU:A.frames=some (env :: outer))(hl:s.heap.FunFrames base (env :: outer))(hf:env.frame=some L)(x:i7 s.heap e cls iO vs)(h1:vs[1]? =some (.ref T))(ht:JL s.heap T .none)(U7:T≠e)
  (q: ∀h' T',mV ((env :: outer).filterMap (·.frame)) [T,e] s.heap h'->i7 h' e cls iO (vs.setIfInBounds 1 (.ref T'))->T'=s.heap.objs.size->JL h' T' .none->Q () {s with heap:=h'}):
  wpAny M A (leaving env (.ref e)) Q E s:=by
 have ne:s.heap.objs.size≠e:=by
  obtain⟨_,z,_⟩:=x
  exact pS (aO z)
 unfold leaving
 refine ay (Mc BU hl hf x h1 ht U7 fun h' T' b x' hT t=>?_)
 refine uQ (s:={s with heap:=h'}) x' (pG (fq h1)) t fun h2 b2 t2 _=>q h2 T' ?_ (x'.but b2 (by rw[hT]; simpa using ne.symm)) hT t2
 intro c o z n
 have hc:c≠T':=fun w=>by rw[w,hT] at z; exact absurd (aO z) (iS _)
 have n': ¬ (c=T∨c=e):=by simpa using n
 exact(b.trans (b2.mono (by simp) (fun _ z=>z))) c o z (by simp; exact⟨fun w=>n' (.inl w),fun w=>n' (.inr w),hc⟩)
end
def JM {α:Type}(M:Model)(h:Heap)(t:Sem α)(r:α):Prop:=
 ∀(A:Around) (Q:α->Shared->Prop) (E:Value->Shared->Prop) (s:Shared),(∀b o,h.get? b=some o->s.heap.get? b=some o)->Q r s->wpAny M A t Q E s
section
variable {M:Model}{A:Around}{E:Value->Shared->Prop}{h:Heap}{g:Array GenState}{d:Drawn}{t:Nat}{os:OsState}
variable {nm q:Str}{C N:Addr}{bs bm DT:List Value}{ow:Bool}{sn:List Str}{sub:List Value}{ab:Bool}{col:Option Bool}{dd:Option Addr}{k0 k1 k2 k3 k5:Option Value}{B newId kP:String}
theorem iE {X:String}{r:Bool}(hb:bm.contains (.type X)=r):(Value.ref C :: bm).contains (.type X)=r:=by
 rw[List.contains_cons,hb]
 rfl
theorem KJ (F:ExcBaseFacts B newId kP DT)(hB:bm.contains (.type B)=true){rest:List Value}{Q:Unit->Shared->Prop}
  (hC:h.get? C=some (excClassObj nm q C N bs bm ow sn sub ab col dd k0 k1 k2 k3 k5 newId)) (hq:Q () ⟨h,g,d,t,os⟩):wpAny M A (checkBuiltinCall newId ⟨.ref C :: rest,[]⟩) Q E ⟨h,g,d,t,os⟩:=by
 have jU:=iE (C:=C) hB; have st:=F.noStar
 simp only[checkBuiltinCall,F.newKind,F.newSplit,F.newRow]
 repeat (first
  |refine bH hC ?_
  |(refine de hC ?_; rw[jU])
  |refine wpAny_staticBase_exc hC ?_
  |refine wpAny_madeBy_exc hC ?_
  |simp only[bne_self_eq_false,Bool.false_eq_true,if_false]
  |wp_step)
 exact hq
end
section
variable {prog:Program}{w:World}{A:Around}{E:Value->Shared->Prop}{R:Result->Shared->Prop}{h:Heap}{g:Array GenState}{d:Drawn}{t:Nat}{os:OsState}
variable {nm q:Str}{C N f:Addr}{bs bm DT:List Value}{ow:Bool}{sn:List Str}{sub:List Value}{ab:Bool}{col:Option Bool}{dd:Option Addr}{k0 k1 k2 k3 k5:Option Value}{B newId kP:String}
abbrev lZ (C t:Addr):Obj:={cls:= .ref C,data:= .fields #[.ref t,.none,.none,.none,.bool false,.none]}
abbrev jo (l:List Value):Obj:={cls:= .type "tuple",data:= .seq l.toArray}
theorem KL (F:ExcBaseFacts B newId kP DT)(hB:bm.contains (.type B)=true)(hA:bm.contains (.type "AttributeError")=false)(hN:bm.contains (.type "NameError")=false)
  (hC:h.get? C=some (excClassObj nm q C N bs bm ow sn sub ab col dd k0 k1 k2 k3 k5 newId)) (hq:R (.ok (.ret (.ref (h.objs.size + 1)))) ⟨(h.push (jo [])).push (lZ C h.objs.size),g,d,t,os⟩):
  codeAny (model prog w) A (.builtin newId ⟨[.ref C],[]⟩) R ⟨h,g,d,t,os⟩:=by
 have he:=F.ends
 have h1:=iE (C:=C) hB; have h2:=iE (C:=C) hA; have h3:=iE (C:=C) hN
 refine codeAny_builtinAt F.entry ?_
 unfold Builtin.«BaseException.__new__»
 refine wpAt_bind ?_
 show wpAt _ _ _ (stack >>=_) _ _ _
 refine wpAt_bind (wpAt_stack fun p below=>wpAt_of_wpAny ?_)
 wp_walk
 refine wpAt_of_wpAny ?_
 rw[F.owner]
 repeat (first
  |with_reducible refine wpAny_madeHere_exc F.canon hC ?_
  |with_reducible refine bH hC ?_
  |(with_reducible refine de hC ?_; first|rw[h1]|rw[h2]|rw[h3])
  |wp_step)
 show R _ _
 rw[nP]
 exact hq
theorem FA (F:ExcBaseFacts B newId kP DT)(hB:bm.contains (.type B)=true)(hA:bm.contains (.type "AttributeError")=false)(hN:bm.contains (.type "NameError")=false){oI:Obj}{Q:Fin->Shared->Prop}
  (hC:h.get? C=some (excClassObj nm q C N bs bm ow sn sub ab col dd k0 k1 k2 k3 k5 newId)) (hi:JM (model prog w) h (typeLookup (.ref C) "__init__") (some (.ref f))) (hf:h.get? f=some oI) (QX:oI.cls= .type "function")
  (hq:wpAny (model prog w) A (call (.ref f) [.ref (h.objs.size + 1)]) (fun r s'=>r= .none/\Q (.done (.ret (.ref (h.objs.size + 1)))) s') E ⟨(h.push (jo [])).push (lZ C h.objs.size),g,d,t,os⟩):
  wpAny (model prog w) A (Builtin.«type.__call__» ⟨[.ref C],[]⟩) Q E ⟨h,g,d,t,os⟩:=by
 repeat (first
  |with_reducible refine bH hC ?_
  |with_reducible refine wpAny_madeBy_exc hC ?_
  |wp_step)
 refine codeAny_call_builtin_code (Code.quiet_builtin _ F.quiet) (KJ F hB hC ?_)
 refine KL F hB hA hN hC ?_
 show wpAny _ _ _ _ _ _
 have kp: ∀b o,h.get? b=some o->((h.push (jo [])).push (lZ C h.objs.size)).get? b=some o:=fun b o z=>ax _ (ax _ z)
 have HW:=kp _ _ hC
 have hg:((h.push (jo [])).push (lZ C h.objs.size)).get? (h.objs.size + 1)=some (lZ C h.objs.size):=by heap_get
 have QY:(Value.ref C :: bm).contains (.ref C)=true:=by simp
 unfold isInstance
 repeat (first
  |with_reducible refine bH hg ?_
  |(with_reducible refine de HW ?_; rw[QY])
  |wp_step)
 show wpAny _ _ (typeLookup (.ref C) _) _ _ _
 refine hi _ _ _ _ kp ?_
 refine ix (ay ?_)
 unfold bindSpecial
 refine ay (wpAny_typeOf (T:="function") ⟨_,kp _ _ hf,QX⟩ ?_)
 rw[bg (by decide)]
 refine bM (ay (cD hq (fun r s' hr=>?_) fun _ _ x=>x))
 obtain⟨rfl,z⟩:=hr
 wp_walk
 exact z
theorem call_exc (F:ExcBaseFacts B newId kP DT)(hB:bm.contains (.type B)=true)(hA:bm.contains (.type "AttributeError")=false)(hN:bm.contains (.type "NameError")=false){oI:Obj}{Q:Value->Shared->Prop}
  (hC:h.get? C=some (excClassObj nm q C N bs bm ow sn sub ab col dd k0 k1 k2 k3 k5 newId)) (hi:JM (model prog w) h (typeLookup (.ref C) "__init__") (some (.ref f))) (hf:h.get? f=some oI) (QX:oI.cls= .type "function")
  (hq:wpAny (model prog w) (A.under (.builtin "type.__call__" ⟨[.ref C],[]⟩)) (call (.ref f) [.ref (h.objs.size + 1)]) (fun r s'=>r= .none/\Q (.ref (h.objs.size + 1)) s') E ⟨(h.push (jo [])).push (lZ C h.objs.size),g,d,t,os⟩):
  wpAny (model prog w) A (call (.ref C) []) Q E ⟨h,g,d,t,os⟩:=by
 have f1:=tc_lookup; have f2:=tc_bind (.ref C)
 have hT:(⟨h,g,d,t,os⟩:Shared).TypeIs (.ref C) "type":=⟨_,hC,rfl⟩
 refine Dk (codeAny_of_tree ?_)
 show wpAny _ _ (callAny (.ref C) _) _ _ _
 repeat (any_goals (first
  |assumption
  |with_reducible refine bH hC ?_
  |wp_step))
 refine⟨rfl,?_⟩
 exact codeAny_call_builtin_at (Code.quiet_builtin _ (by decide +kernel)) entry_typeCall (wpAny_check_type_call_sub hC (FA F hB hA hN hC hi hf QX hq))
end
def Stop (P:Prop):Prop:=P
theorem Stop.out {P:Prop}(h:Stop P):P:=h
theorem Stop.in {P:Prop}(h:P):Stop P:=h
section
variable {prog:Program}{w:World}{A:Around}{E:Value->Shared->Prop}{R:Result->Shared->Prop}{h:Heap}{g:Array GenState}{d:Drawn}{t:Nat}{os:OsState}
variable {nm q:Str}{C N e:Addr}{bs bm DT:List Value}{ow:Bool}{sn:List Str}{sub:List Value}{ab:Bool}{col:Option Bool}{dd iO:Option Addr}{k0 k1 k2 k3 k5:Option Value}{B newId Xz kP:String}{vs:Array Value}
theorem HX {M:Model}(F:ExcBaseFacts B Xz kP DT)(hB:bm.contains (.type B)=true){oe:Obj}{rest:List Value}{Q:Unit->Shared->Prop}
  (hC:h.get? C=some (excClassObj nm q C N bs bm ow sn sub ab col dd k0 k1 k2 k3 k5 newId)) (he:h.get? e=some oe) (hc:oe.cls= .ref C) (hq:Q () ⟨h,g,d,t,os⟩):
  wpAny M A (checkBuiltinCall kP ⟨.ref e :: rest,[]⟩) Q E ⟨h,g,d,t,os⟩:=by
 have h1:=iE (C:=C) hB; have h2:=F.noStar
 simp only[checkBuiltinCall,F.initKind,F.initSplit,F.initRow]
 repeat (first
  |(with_reducible refine bH he ?_; rw[hc])
  |with_reducible refine bH hC ?_
  |(with_reducible refine de hC ?_; rw[h1])
  |wp_step)
 refine wpAny_onRaise ?_
 rw[show ∀(a b:String) (n:Nat),Bind.check ⟨.positional,"*",B,.self,[⟨"args",.varPos,false⟩]⟩ a b n (List.map (fun x=>x.fst) ({pos:=Value.ref e :: rest}:Args).kw)=pure () from fun a b n=>
  check_star_args _ _ _ _ _ _]
 exact bM hq
theorem FC (F:ExcBaseFacts B Xz kP DT)(hB:bm.contains (.type B)=true){v:Value}{Q:Value->Shared->Prop}
  (hC:h.get? C=some (excClassObj nm q C N bs bm ow sn sub ab col dd k0 k1 k2 k3 k5 newId)) (x:i7 h e (.ref C) iO vs) {t0:Addr} (h0:vs[0]? =some (.ref t0))
  (hq: ∀h',mV [] [e] h h'->i7 h' e (.ref C) iO (vs.setIfInBounds 0 (.ref h.objs.size))->Q .none ⟨h',g,d,t,os⟩):
  wpAny (model prog w) A (call (.builtin kP) [.ref e,v]) Q E ⟨h,g,d,t,os⟩:=by
 obtain⟨oe,he,hc,U8,hv⟩:=id x
 refine Dk (ET F.init.plain F.initEntry (HX F hB hC he hc ?_))
 unfold Builtin.«BaseException.__init__»
 have U9:(h.push (jo [v])).get? e=some oe:=ax _ he
 have x1:i7 (h.push (jo [v])) e (.ref C) iO vs:=⟨oe,U9,hc,U8,hv⟩
 have hs:=fq h0
 repeat (first
  |with_reducible refine G5 U9 hv h0 ?_
  |with_reducible refine wpAny_setField U9 hv hs ?_
  |wp_step)
 have bt:mV [] [e] h ((h.push (jo [v])).update e (Obj.mapFields (·.setIfInBounds 0 (Value.ref h.objs.size)))):=(uP (fr:=[]) (own:=[]) (jo [v])).trans (yz _)
 exact hq _ bt (x1.set 0 _)
end
section
variable {M:Model}{A:Around}{E:Value->Shared->Prop}{s:Shared}{env:Env}
variable {nm q:Str}{C N e:Addr}{bs bm DT:List Value}{ow:Bool}{sn:List Str}{sub:List Value}{ab:Bool}{col:Option Bool}{dd iO:Option Addr}{k0 k1 k2 k3 k5:Option Value}{newId:String}{vs:Array Value}
theorem Cv {x:Sem Value}{Q:Flow->Shared->Prop}(hB:bm.contains (.type "BaseException")=true)(hh:A.handled=none)
  (h:wpAny M A x (fun v s1=> ∃e iO vs,v= .ref e/\s1.heap.get? C=some (excClassObj nm q C N bs bm ow sn sub ab col dd k0 k1 k2 k3 k5 newId)/\i7 s1.heap e (.ref C) iO vs/\vs[1]? =some .none/\E (.ref e) s1) E s):
  wpAny M A (raiseStmt env (some x) none) Q E s:=by
 have h1:=iE (C:=C) hB
 unfold raiseStmt
 refine ay (cD h (fun v s1 z=>?_) fun _ _ x=>x)
 obtain⟨e,iO,vs,rfl,hC,⟨oe,he,hc,U8,hv⟩,v1,hE⟩:=z
 obtain⟨hp,g,d,tk,os⟩:=s1
 repeat (first
  |(with_reducible refine bH he ?_; rw[hc])
  |with_reducible refine bH hC ?_
  |(with_reducible refine de hC ?_; rw[h1])
  |with_reducible refine G5 he hv v1 ?_
  |wp_step)
 exact wpAny_raiseNew_none hh hE
theorem KN {a:Addr}{cls:Value}{i:Nat}{v:Value}{Q:Unit->Shared->Prop}(x:i7 s.heap a cls iO vs)(h:i < vs.size)
  (q: ∀h',mV [] [a] s.heap h'->i7 h' a cls iO (vs.setIfInBounds i v)->Q () {s with heap:=h'}):wpAny M A (updateField a i v) Q E s:=
 nV (i:=i) (v:=v) x h fun h' b x' _=>q h' b x'
theorem vW:entryFor table "proto.unchain"=some Builtin.«proto.unchain»:=entryFor_of_tree (by kernel_rfl)
end
section
variable {prog:Program}{w:World}{A:Around}{E:Value->Shared->Prop}{s:Shared}{env:Env}
variable {nm q:Str}{C N e:Addr}{bs bm DT:List Value}{ow:Bool}{sn:List Str}{sub:List Value}{ab:Bool}{col:Option Bool}{dd iO:Option Addr}{k0 k1 k2 k3 k5:Option Value}{newId:String}{vs:Array Value}
theorem Cw {x c:Sem Value}{Q:Flow->Shared->Prop}{e0:Addr}(hB:bm.contains (.type "BaseException")=true)(hh:A.handled=some (.ref e0))(hc: ∀(R:Value->Shared->Prop) (s:Shared),R .none s->wpAny (model prog w) A c R E s)
  (h:wpAny (model prog w) A x (fun v s1=> ∃e iO vs c0 d0 Qv,v= .ref e/\e≠e0/\s1.heap.get? C=some (excClassObj nm q C N bs bm ow sn sub ab col dd k0 k1 k2 k3 k5 newId)/\i7 s1.heap e (.ref C) iO vs/\vs[1]? =some .none/\vs.size=6/\
   i7 s1.heap e0 c0 d0 Qv/\Qv[2]? =some .none/\ ∀h',mV [] [e] s1.heap h'->i7 h' e (.ref C) iO (((vs.setIfInBounds 3 .none).setIfInBounds 4 (.bool true)).setIfInBounds 2 (.ref e0))->E (.ref e) {s1 with heap:=h'}) E s):
  wpAny (model prog w) A (raiseStmt env (some x) (some c)) Q E s:=by
 have h1:=iE (C:=C) hB
 unfold raiseStmt
 refine ay (cD h (fun v s1 z=>?_) fun _ _ x=>x)
 obtain⟨e,iO,vs,c0,d0,Qv,rfl,ne,hC,xe,v1,sz,x0,c2,hE⟩:=z
 obtain⟨oe,he,qz,U8,hv⟩:=id xe
 obtain⟨hp,g,d,tk,os⟩:=s1
 have eC:e≠C:=fun q=>by
  rw[q] at he
  rw[hC] at he
  cases he
  cases hv
 repeat (first
  |(with_reducible refine bH he ?_; rw[qz])
  |with_reducible refine bH hC ?_
  |(with_reducible refine de hC ?_; rw[h1])
  |with_reducible refine nV xe (by rw[sz]; decide) fun h2 b2 x2 _=>Stop.out ?_
  |with_reducible refine hc _ _ ?_
  |wp_step)
 have ZC:mV [] [e] hp h2:=b2
 refine Stop.in ?_
 refine ay (nV (s:=⟨h2,g,d,tk,os⟩) x2 (by rw[rB,sz]; decide) fun h3 b3 x3 _=>?_)
 have ZD:mV [] [e] h2 h3:=b3
 have Va:mV [] [e] hp h3:=(ZC.trans ZD).mono (fun _ z=>z) (by simp)
 have XA:h3.get? C=_:=(Va C _ hC (by simpa using eC.symm)).1 (by simp)
 have ZE:i7 h3 e0 c0 d0 Qv:=i7.but x0 Va (by simpa using ne.symm)
 obtain⟨o3,XB,ZF,_,ZG⟩:=id x3
 obtain⟨o0,ZH,_,_,Vb⟩:=id ZE
 have ZI:((vs.setIfInBounds 3 Value.none).setIfInBounds 4 (Value.bool true))[1]? =some Value.none:=by rw[qx (by decide),qx (by decide)]; exact v1
 repeat (first
  |(with_reducible refine bH XB ?_; rw[ZF])
  |with_reducible refine bH XA ?_
  |(with_reducible refine de XA ?_; rw[h1])
  |with_reducible refine G5 XB ZG ZI ?_
  |wp_step)
 have ZJ:((vs.setIfInBounds 3 Value.none).setIfInBounds 4 (Value.bool true)).size=6:=by rw[rB,rB,sz]
 unfold raiseNew
 refine ay (wpAny_handled ?_)
 rw[hh]
 dsimp only
 rw[if_pos (show(Value.ref e0 != Value.ref e)=true from by simpa using ne.symm)]
 refine ay (ix (wpAny_runValue (codeAny_builtin vW ?_)))
 unfold Builtin.«proto.unchain»
 repeat (first
  |with_reducible refine G5 ZH Vb c2 ?_
  |with_reducible refine ay (KN (s:=⟨h3,g,d,tk,os⟩) x3 (by rw[ZJ]; decide) fun h4 b4 x4=>Stop.out ?_)
  |wp_step)
 refine Stop.in ?_
 refine wpAny_throw (hE h4 ?_ x4)
 have ZK:mV [] [e] h3 h4:=b4
 exact(Va.trans ZK).mono (fun _ z=>z) (by simp)
end
open PySem.Builtin PySem.Builtin.ObjectAttr
section
variable {prog:Program}{w:World}{A:Around}{E:Value->Shared->Prop}{h:Heap}{g:Array GenState}{d:Drawn}{t:Nat}{os:OsState}
variable {nm q:Str}{C N e:Addr}{bs bm:List Value}{sn:List Str}{sub:List Value}{ab:Bool}{col:Option Bool}{dd:Option Addr}{k0 k1 k2 k3 k5:Option Value}{newId:String}{vs:Array Value}{name:Str}{v:Value}
theorem FD {tk:Tok}{Q:Fin->Shared->Prop}(hC:h.get? C=some (excClassObj nm q C N bs bm true sn sub ab col dd k0 k1 k2 k3 k5 newId))(hp: ∀self:Value,refuseLoop self "__setattr__" (.ref C :: bm)=pure ())
  (tx:JM (model prog w) h (typeLookup (.ref C) name) none) (x:i7 h e (.ref C) none vs)
  (hq: ∀h' Nx,mV [] [e] h h'->i7 h' e (.ref C) (some h.objs.size) vs->h'.Ns1 h.objs.size (fun y=>if y=name then some v else none)->Q (.done (.ret .none)) ⟨h',g,d,Nx,os⟩):
  wpAny (model prog w) A (Builtin.«object.__setattr__» ⟨[.ref e,.str name tk,v],[]⟩) Q E ⟨h,g,d,t,os⟩:=by
 obtain⟨o,hx,hc,Vc,hv⟩:=id x
 have QZ:=hp (.ref e)
 have Vd: ∀{A':Around} {Q':Option Value->Shared->Prop} {E':Value->Shared->Prop},Q' none ⟨h,g,d,t,os⟩->wpAny (model prog w) A' (typeLookup (.ref C) name) Q' E' ⟨h,g,d,t,os⟩:=fun z=>tx _ _ _ _ (fun _ _ y=>y) z
 have hnc: ∀c,o.data≠ .cls c:=fun c z=>by rw[hv] at z; cases z
 unfold Builtin.«object.__setattr__»
 repeat (first
  |rw[refuse_eq]
  |rw[QZ]
  |(with_reducible refine bH hx ?_; rw[hc])
  |with_reducible refine wpAny_mroOf_exc hC ?_
  |with_reducible refine Vd ?_
  |wp_step)
 rw[Vc,if_neg (by simp[typeHasDict])]
 rw[hv]
 dsimp only
 have lt:=aO hx
 have ne:e≠h.objs.size:=bc lt
 generalize hD:({cls:= .type "dict",data:= .dict #[]}:Obj)=D
 have xA:(h.push D).get? e=some o:=ax _ hx
 refine ay (wpAny_alloc' (ay (wpAny_update' xA (bM ?_))))
 generalize hU:(h.push D).update e (fun o=>{cls:=o.cls,dict:=some h.objs.size,data:=o.data,slots:=o.slots})=U
 have b1:mV [] [e] h U:=by
  rw[← hU]
  exact(uP (fr:=[]) (own:=[]) D).trans (yz _)
 have x1:i7 U e (.ref C) (some h.objs.size) vs:=by
  refine⟨{cls:=o.cls,dict:=some h.objs.size,data:=o.data,slots:=o.slots},?_,hc,rfl,hv⟩
  rw[← hU]
  exact B0 _ xA (Obj.isFreed_of_fields (vs:=vs) hv)
 have gd:U.get? h.objs.size=some {cls:= .type "dict",data:= .dict #[]}:=by
  rw[← hU,← hD]
  exact(G4 _ _ _ _ ne.symm).trans (Heap.get?_push_at rfl rfl)
 have nd:U.Ns h.objs.size (fun _=>none):=⟨_,#[],_,gd,rfl,fun _ he=>absurd he (by simp),fun _=>rfl⟩
 show wpAny _ _ (storeInDict h.objs.size (.str name tk) name v) _ _ _
 unfold storeInDict newKeyGuard
 refine ay (bM (ay (wpAny_nsSet1 (s:=⟨U,g,d,t,os⟩) (Heap.Ns1.of_empty nd) fun h' hn hs=>?_)))
 obtain⟨oD,Y7,Y8,Us,Ut,Uu⟩:=hn.count (Within.cons name v Within.nil)
 refine ay (wpAny_lookBehind Us (by rw[Ut]; exact pastItsLine_dict (a8 Uu (by rw[cz,vI,eK]; omega))) ?_)
 wp_walk
 have lt': ∀b o',h.get? b=some o'->h'.get? b=U.get? b:=fun b o' z=>hs.2 b (bc (aO z))
 refine hq h' _ (fun b ob z n=>?_) (x1.same fun ob z=>(hs.2 e ne).trans z) hn
 obtain⟨z1,sl,z2⟩:=b1 b ob z n
 exact⟨fun n'=>(lt' b ob z).trans (z1 n'),sl,(lt' b ob z).trans z2⟩
theorem Ny {M:Model}{B sa owner:String}{DT:List Value}{o:Obj}{uR:Value}{Q:Unit->Shared->Prop}(SF:StoreFacts B DT sa owner)(ho:bm.contains (.type owner)=true)
  (hC:h.get? C=some (excClassObj nm q C N bs bm true sn sub ab col dd k0 k1 k2 k3 k5 newId)) (hx:h.get? e=some o) (hc:o.cls= .ref C) (hq:Q () ⟨h,g,d,t,os⟩):
  wpAny M A (checkBuiltinCall sa ⟨[.ref e,uR,v],[]⟩) Q E ⟨h,g,d,t,os⟩:=by
 have h1:=iE (C:=C) ho; have ha:=SF.args (.ref e) uR v
 simp only[checkBuiltinCall,SF.kind,SF.split]
 refine ay ?_
 unfold isInstance
 repeat (first
  |(with_reducible refine bH hx ?_; rw[hc])
  |(with_reducible refine de hC ?_; rw[h1])
  |wp_step)
 cases hs:Manifest.signature? sa with
 |none=>exact bM hq
 |some sg=>
  simp only[argsOk,hs] at ha
  have h2:Bind.checkArgs sa sg ⟨[.ref e,uR,v],[]⟩=pure ():=ha
  show wpAny M A (Bind.checkArgs sa sg ⟨[.ref e,uR,v],[]⟩) Q E _
  rw[h2]
  exact bM hq
theorem KO {B sa owner:String}{DT:List Value}{Q:Unit->Shared->Prop}(SF:StoreFacts B DT sa owner)(ho:bm.contains (.type owner)=true)(hC:h.get? C=some (excClassObj nm q C N bs bm true sn sub ab col dd k0 k1 k2 k3 k5 newId))
  (hp: ∀self:Value,refuseLoop self "__setattr__" (.ref C :: bm)=pure ()) (sL:JM (model prog w) h (typeLookup (.ref C) "__setattr__") (some (.builtin sa))) (tx:JM (model prog w) h (typeLookup (.ref C) name) none) (x:i7 h e (.ref C) none vs)
  (hq: ∀h' Nx,mV [] [e] h h'->i7 h' e (.ref C) (some h.objs.size) vs->h'.Ns1 h.objs.size (fun y=>if y=name then some v else none)->Q () ⟨h',g,d,Nx,os⟩):
  wpAny (model prog w) A (setAttr (.ref e) name v) Q E ⟨h,g,d,t,os⟩:=by
 obtain⟨o,hx,hc,_⟩:=id x
 have f3:=SF.slot.bind (.ref e)
 have ZL: ∀{tk:Nat} {A':Around} {Q':Option Value->Shared->Prop} {E':Value->Shared->Prop},Q' (some (.builtin sa)) ⟨h,g,d,tk,os⟩->wpAny (model prog w) A' (typeLookup (.ref C) "__setattr__") Q' E' ⟨h,g,d,tk,os⟩:=fun z=>sL _ _ _ _ (fun _ _ y=>y) z
 unfold setAttr callSpecial? specialOf
 repeat (any_goals (first
  |assumption
  |(with_reducible refine bH hx ?_; rw[hc])
  |with_reducible refine ZL ?_
  |wp_step))
 refine ET SF.slot.plain SF.entry (Ny SF ho hC hx hc (FD hC hp tx x fun h' Nx b x' n=>?_))
 repeat (any_goals (first
  |assumption
  |wp_step))
 exact hq h' Nx b x' n
end
section
variable {prog:Program}{w:World}{A:Around}{E:Value->Shared->Prop}{h:Heap}{g:Array GenState}{d:Drawn}{t:Nat}{os:OsState}
variable {nm q:Str}{C N e dx:Addr}{bs bm:List Value}{sn:List Str}{sub:List Value}{ab:Bool}{col:Option Bool}{dd:Option Addr}{k0 k1 k2 k3 k5:Option Value}{newId:String}{vs:Array Value}{name:Str}{v:Value}{mA:Str->Option Value}
theorem FE {tk:Tok}{Q:Fin->Shared->Prop}(hC:h.get? C=some (excClassObj nm q C N bs bm true sn sub ab col dd k0 k1 k2 k3 k5 newId))(tx:JM (model prog w) h (typeLookup (.ref C) name) none)(x:i7 h e (.ref C) (some dx) vs)
  (n:h.Ns dx mA) (hm:mA name=some v) (hq:Q (.done (.ret v)) ⟨h,g,d,t,os⟩):wpAny (model prog w) A (Builtin.«object.__getattribute__» ⟨[.ref e,.str name tk],[]⟩) Q E ⟨h,g,d,t,os⟩:=by
 obtain⟨o,hx,hc,Vc,hv⟩:=id x
 have Vd: ∀{A':Around} {Q':Option Value->Shared->Prop} {E':Value->Shared->Prop},Q' none ⟨h,g,d,t,os⟩->wpAny (model prog w) A' (typeLookup (.ref C) name) Q' E' ⟨h,g,d,t,os⟩:=fun z=>tx _ _ _ _ (fun _ _ y=>y) z
 repeat (any_goals (first
  |assumption
  |(with_reducible refine bH hx ?_; rw[hc])
  |with_reducible refine Vd ?_
  |wp_step))
 rw[hv]
 show wpAny _ _ (instanceDict e false) _ _ _
 unfold instanceDict
 refine ay (bH hx ?_)
 rw[hc]
 dsimp only
 unfold classData
 refine ay (ay (bH hC (bM ?_)))
 rw[if_neg (by simp)]
 rw[Vc]
 refine bM ?_
 show wpAny _ _ (nsGet dx name) _ _ _
 refine wpAny_nsGet n ?_
 rw[hm]
 repeat (first
  |exact hq
  |wp_step)
theorem Nz {M:Model}{uR:Value}{o:Obj}{Q:Unit->Shared->Prop}(hB:bm.contains (.type "BaseException")=true)(hC:h.get? C=some (excClassObj nm q C N bs bm true sn sub ab col dd k0 k1 k2 k3 k5 newId))
  (hx:h.get? e=some o) (hc:o.cls= .ref C) (hq:Q () ⟨h,g,d,t,os⟩):wpAny M A (checkBuiltinCall "BaseException.__getattribute__" ⟨[.ref e,uR],[]⟩) Q E ⟨h,g,d,t,os⟩:=by
 have hk:builtinKind "BaseException.__getattribute__"=some .slot:=by decide +kernel
 have hs:splitId "BaseException.__getattribute__"=some ("BaseException","__getattribute__"):=by decide +kernel
 have h1:=iE (C:=C) hB; have ha:=F.args_bexc_ga (.ref e) uR
 simp only[checkBuiltinCall,hk,hs]
 refine ay ?_
 unfold isInstance
 repeat (first
  |(with_reducible refine bH hx ?_; rw[hc])
  |(with_reducible refine de hC ?_; rw[h1])
  |wp_step)
 exact hq
theorem KP {T:String}{expr:Bool}{Q:Value->Shared->Prop}(FB:Slot T "__getattribute__" "BaseException.__getattribute__")(hB:bm.contains (.type "BaseException")=true)(hC:h.get? C=some (excClassObj nm q C N bs bm true sn sub ab col dd k0 k1 k2 k3 k5 newId))
  (gL:JM (model prog w) h (typeLookup (.ref C) "__getattribute__") (some (.builtin "BaseException.__getattribute__"))) (kL:JM (model prog w) h (typeLookup (.ref C) "__getattr__") none) (tx:JM (model prog w) h (typeLookup (.ref C) name) none)
  (x:i7 h e (.ref C) (some dx) vs) (n:h.Ns dx mA) (hm:mA name=some v) (hv:handedOut v=pure v) (hq:Q v ⟨h,g,d,t + 1,os⟩):wpAny (model prog w) A (getAttr (.ref e) name expr) Q E ⟨h,g,d,t,os⟩:=by
 obtain⟨o,hx,hc,_⟩:=id x
 have f3:=FB.bind (.ref e)
 have x0:(expr && onTheHeap (Value.builtin "BaseException.__getattribute__"))=false:=by cases expr <;> rfl
 have x2:(Value.builtin "BaseException.__getattribute__" == Value.builtin "object.__getattribute__")=false:=by decide +kernel
 have x1:(onTheHeap (Value.ref C) && Value.builtin "BaseException.__getattribute__" == Value.builtin "object.__getattribute__")=false:=by rw[x2]; rfl
 have ZM: ∀{tk:Nat} {A':Around} {Q':Option Value->Shared->Prop} {E':Value->Shared->Prop},Q' (some (.builtin "BaseException.__getattribute__")) ⟨h,g,d,tk,os⟩->wpAny (model prog w) A' (typeLookup (.ref C) "__getattribute__") Q' E' ⟨h,g,d,tk,os⟩:=
  fun z=>gL _ _ _ _ (fun _ _ y=>y) z
 have ZN: ∀{tk:Nat} {A':Around} {Q':Option Value->Shared->Prop} {E':Value->Shared->Prop},Q' none ⟨h,g,d,tk,os⟩->wpAny (model prog w) A' (typeLookup (.ref C) "__getattr__") Q' E' ⟨h,g,d,tk,os⟩:=fun z=>kL _ _ _ _ (fun _ _ y=>y) z
 unfold getAttr
 repeat (any_goals (first
  |assumption
  |(with_reducible refine bH hx ?_; rw[hc])
  |with_reducible refine ZM ?_
  |with_reducible refine ZN ?_
  |wp_step))
 refine ET FB.plain F.entry_bexc_ga (Nz hB hC hx hc (FE hC tx x n hm ?_))
 repeat (any_goals (first
  |assumption
  |wp_step))
end
section
variable {M:Model}{A:Around}{E:Value->Shared->Prop}
variable {nm q:Str}{C N:Addr}{bs bm:List Value}{ow:Bool}{sn:List Str}{sub:List Value}{ab:Bool}{col:Option Bool}{dd:Option Addr}{k0 k1 k2 k3 k5:Option Value}{newId:String}
variable {ZO q':Str}{R N':Addr}{ZP Ve:List Value}{Q0:Bool}{ZQ:List Str}{Vf:List Value}{ZR:Bool}{Vg:Option Bool}{DD:Option Addr}{j0 j1 j2 j3 j5:Option Value}{NA:String}
theorem xB {h:Heap}{g:Array GenState}{d:Drawn}{t:Nat}{os:OsState}{e:Addr}{iO:Option Addr}{vs:Array Value}{b:Bool}{Q:Bool->Shared->Prop}
  (hC:h.get? C=some (excClassObj nm q C N bs bm ow sn sub ab col dd k0 k1 k2 k3 k5 newId)) (hR:h.get? R=some (excClassObj ZO q' R N' ZP Ve Q0 ZQ Vf ZR Vg DD j0 j1 j2 j3 j5 NA))
  (x:i7 h e (.ref C) iO vs) (uo:Ve.contains (.type "BaseException")=true) (up:(Value.ref C :: bm).contains (.ref R)=b)
  (hq:Q b ⟨h,g,d,t,os⟩):wpAny M A (excMatches (.ref e) (.ref R)) Q E ⟨h,g,d,t,os⟩:=by
 obtain⟨oe,he,MO,_⟩:=x
 have Vh:(Value.ref R :: Ve).contains (.type "BaseException")=true:=by rw[List.contains_cons,uo,Bool.or_true]
 have f:=tc_notTuple
 unfold excMatches
 repeat (first|(with_reducible refine de hR ?_; rw[Vh])|(with_reducible refine de hC ?_; rw[up])|(with_reducible refine bH he ?_; rw[MO])|with_reducible refine bH hR ?_|wp_step)
 cases b <;> (wp_walk; exact hq)
end
end KI
namespace L2
open PySem PySem.Spec PyProof.Rows KI
structure gX (K:PySem.W.Frag)(C R:Addr):Prop where
 obj: ∃(nm q:Str) (N:Addr) (bs bm:List Value) (sn:List Str) (sub:List Value) (ab:Bool) (col:Option Bool) (dd:Option Addr) (k0 k1 k2 k3 k5:Option Value),
  K.lookup C=some (excClassObj nm q C N bs bm true sn sub ab col dd k0 k1 k2 k3 k5 "Exception.__new__")/\
   (bm=[.type "Exception",.type "BaseException",.type "object"]/\C=R∨bm=[.ref R,.type "Exception",.type "BaseException",.type "object"])
 sa:PySem.W.findIn K (.ref C) "__setattr__"=some (some (.builtin "object.__setattr__"))
 ga:PySem.W.findIn K (.ref C) "__getattribute__"=some (some (.builtin "BaseException.__getattribute__"))
 gk:PySem.W.findIn K (.ref C) "__getattr__"=some none
 tx:PySem.W.findIn K (.ref C) "text"=some none
structure Vi (h:Heap)(C R:Addr)(nm q:Str)(N:Addr)(bs bm:List Value)(sn:List Str)(sub:List Value)(ab:Bool)(col:Option Bool)(dd:Option Addr)(k0 k1 k2 k3 k5:Option Value):Prop where
 at_:h.get? C=some (excClassObj nm q C N bs bm true sn sub ab col dd k0 k1 k2 k3 k5 "Exception.__new__")
 e:bm.contains (.type "Exception")=true
 b:bm.contains (.type "BaseException")=true
 o:bm.contains (.type "object")=true
 na:bm.contains (.type "AttributeError")=false
 nn:bm.contains (.type "NameError")=false
 rf: ∀self:Value,refuseLoop self "__setattr__" (.ref C :: bm)=pure ()
 up:(Value.ref C :: bm).contains (.ref R)=true
theorem gX.on {K:PySem.W.Frag}{C R:Addr}(k:gX K C R): ∃nm q N bs bm sn sub ab col dd k0 k1 k2 k3 k5,∀h:Heap,K.In h->Vi h C R nm q N bs bm sn sub ab col dd k0 k1 k2 k3 k5:=by
 obtain⟨nm,q,N,bs,bm,sn,sub,ab,col,dd,k0,k1,k2,k3,k5,l,hb⟩:=k.obj
 have pass: ∀self:Value,refuseLoop self "__setattr__" [.type "Exception",.type "BaseException",.type "object"]=pure ():=F.store_Exception.passes
 refine⟨nm,q,N,bs,bm,sn,sub,ab,col,dd,k0,k1,k2,k3,k5,fun h X=>?_⟩
 rcases hb with⟨rfl,rfl⟩|rfl
 ·exact⟨X _ _ l,by decide +kernel,by decide +kernel,by decide +kernel,by decide +kernel,by decide +kernel,fun self=>by rw[refuseLoop_ref]; exact pass self,by simp⟩
 ·exact⟨X _ _ l,iE (by decide +kernel),iE (by decide +kernel),iE (by decide +kernel),iE (by decide +kernel),iE (by decide +kernel),fun self=>by rw[refuseLoop_ref,refuseLoop_ref]; exact pass self,by simp⟩
theorem lu {K:PySem.W.Frag}{M:Model}{h:Heap}(X:K.In h){t:Value}{name:Str}{r:Option Value}(e:PySem.W.findIn K t name=some r):JM M h (typeLookup t name) r:=PySem.W.looks_findIn X e
abbrev xo (e C:Addr)(iO:Option Addr)(vs:Array Value):HO:= .ext fun h=>i7 h e (.ref C) iO vs
theorem HY {P:Program}{w:World}{H:Hp}{h:Heap}{e C:Addr}{iO:Option Addr}{vs:Array Value}(x:i7 h e (.ref C) iO vs):dJ P w H h e (xo e C iO vs):=by
 refine⟨x,?_,fun h1 h2 z k=>i7.same z k⟩
 obtain⟨o,z,_⟩:=x
 exact⟨o,z⟩
abbrev v0 (t:Addr):Array Value:= #[.ref t,.none,.none,.none,.bool false,.none]
section
variable {X:Cx}{pins:List (Addr×Obj)}{σ:St}{H:Hp}{s:Shared}{e C R dx:Addr}{iO:Option Addr}{vs Vj:Array Value}{h':Heap}{t':Nat}
theorem Inv.Cy (I:Inv X pins σ H s)(h:H e=some (xo e C iO vs)):i7 s.heap e (.ref C) iO vs:=(I.cK e _ h).1
theorem Inv.NB (I:Inv X pins σ H s)(h:H e=some (xo e C iO vs))(b:mV [] [e] s.heap h')(x:i7 h' e (.ref C) iO Vj):Inv X pins σ (upd H e (xo e C iO Vj)) {s with heap:=h',toks:=t'}:=by
 refine I.write (x:=e) (e:=e) (by rw[h]; exact True.intro) (.inl rfl) (fun c u n z=>(b c u z (by simpa using n)).1 (by simp)) ?_ (HY x)
 obtain⟨o,z,_⟩:=x
 exact⟨o,z⟩
theorem Inv.KQ {f:Str}{y:V}{u:Value}(I:Inv X pins σ H s)(h:H e=some (xo e C none vs))(b:mV [] [e] s.heap h')(x:i7 h' e (.ref C) (some s.heap.objs.size) vs)(n:h'.Ns1 s.heap.objs.size (fun z=>if z=f then some u else none))(r:RelV y u):
  Inv X pins σ (upd (upd H s.heap.objs.size (.xd [(f,y)])) e (xo e C (some s.heap.objs.size) vs)) {s with heap:=h',toks:=t'}:=by
 have hn:H s.heap.objs.size=none:=I.cK.fresh (aC _)
 have ne:e≠s.heap.objs.size:=aN h hn
 have off: ∀c u,H c=some u->c≠s.heap.objs.size:=fun c u z=>aN z hn
 have kp: ∀c o,c≠e->s.heap.get? c=some o->h'.get? c=some o:=fun c o n z=>(b c o z (by simpa using n)).1 (by simp)
 have low: ∀c o,s.heap.get? c=some o->c≠s.heap.objs.size:=fun c o z=>bc (aO z)
 have same: ∀c,c≠e->c≠s.heap.objs.size->upd (upd H s.heap.objs.size (.xd [(f,y)])) e (xo e C (some s.heap.objs.size) vs) c=H c:=fun c n1 n2=>by rw[aA n1,aA n2]
 refine I.un ⟨fun c o z hc _ _=>kp c o (fun w=>by rw[w,h] at hc; cases hc) z,fun c o z hc _ _=>⟨o.slots,kp c o (fun w=>by rw[w,h] at hc; cases hc) z⟩,fun c o z hc _=>?_,fun c o z _=>?_,fun c xs z=>?_,fun c o u z=>?_,fun c ps z=>?_⟩ fun c u z=>?_
 ·rw[same c (fun w=>by rw[w,h] at hc; cases hc) (low c o z)]
  exact hc
 ·by_cases q:c=e
  ·rw[q]
   obtain⟨oe,w,_⟩:=x
   exact⟨oe,w⟩
  ·exact⟨o,kp c o q z⟩
 ·rw[same c (fun w=>by rw[w,h] at z; cases z) (off c _ z)]
  exact z
 ·rw[same c (fun w=>by rw[w,h] at z; cases z) (off c _ z)]
  exact z
 ·refine⟨#[],?_⟩
  rw[same c (fun w=>by rw[w,h] at z; cases z) (off c _ z),z]
  simp
 ·by_cases q:c=e
  ·subst q
   rw[ag] at z
   cases z
   exact HY x
  ·rw[aA q] at z
   by_cases q2:c=s.heap.objs.size
   ·subst q2
    rw[ag] at z
    cases z
    refine⟨_,n,fun g=>?_⟩
    show k7 (List.lookup g [(f,y)]) (if g=f then some u else none)
    by_cases w:g=f
    ·subst w
     rw[bg rfl]
     simpa[List.lookup,k7] using r
    ·rw[aV w]
     have:(g == f)=false:=by simpa using w
     simp[List.lookup,this,k7]
   ·rw[aA q2] at z
    refine(I.cK c u z).sY (fun d o hd w=>?_) (fun d w=>?_) fun d xs w=>?_
    ·refine kp d o (fun w2=>?_) w
     rcases hd with hd|hd
     ·exact q (hd▸w2)
     ·rw[w2,h] at hd
      cases hd
    ·rw[same d (fun w2=>by rw[w2,h] at w; cases w) (off d _ w)]
     exact w
    ·rw[same d (fun w2=>by rw[w2,h] at w; cases w) (off d _ w)]
     exact w
def gone (H:Hp)(a:Addr):Hp:=fun b=>if b=a then none else H b
theorem xC {a:Addr}:gone H a a=none:=by unfold gone; rw[if_pos rfl]
theorem iF {a b:Addr}(h:b≠a):gone H a b=H b:=by unfold gone; rw[if_neg h]
theorem Inv.drop {H0:Hp}{s0:Shared}{φ:Heap->Prop}(I0:Inv X pins σ H0 s0)(h0:H0 e=none)(I:Inv X pins σ H s)(h:H e=some (.ext φ)):Inv X pins σ (gone H e) s:=by
 have off: ∀c u,H c=some u->u≠ .ext φ->c≠e:=fun c u z n w=>by
  rw[w,h] at z
  cases z
  exact n rfl
 refine⟨I.ok,I.os,I.bare,⟨I.base.keep,I.base.slot,fun c o z hc hx=>?_,I.base.there,fun c xs z=>?_,fun c o u z=>?_,fun c ps z=>?_⟩,I.loc,I.cell,?_,fun x c z=>?_,fun p hp=>?_,fun c u z=>?_,I.len⟩
 ·have w:=I.base.free c o z hc hx
  rw[iF (fun q=>by rw[q,h] at w; cases w)]
  exact w
 ·rw[iF (aN (I0.base.qa c xs z) h0)]
  exact I.base.qa c xs z
 ·rw[iF (aN (I0.base.o4 c o u z) h0)]
  exact I.base.o4 c o u z
 ·obtain⟨m,w⟩:=I0.base.o5 c ps z
  obtain⟨m',w'⟩:=I.base.o5 c ps z
  exact⟨m',by rw[iF (aN w h0)]; exact w'⟩
 ·rw[iF (fun q=>by have w:=I.free; rw[q,h] at w; cases w)]
  exact I.free
 ·have w:=I.iP x c z
  rw[iF (fun q=>by rw[q,h] at w; cases w)]
  exact w
 ·obtain⟨w1,w2,w3⟩:=I.pin p hp
  refine⟨w1,?_,w3⟩
  rw[iF (fun q=>by rw[q,h] at w2; cases w2)]
  exact w2
 ·by_cases q:c=e
  ·rw[q,xC] at z
   cases z
  ·rw[iF q] at z
   refine(I.cK c u z).sY (fun d o _ w=>w) (fun d w=>?_) fun d xs w=>?_
   ·rw[iF (off d _ w (by intro z; cases z))]
    exact w
   ·rw[iF (off d _ w (by intro z; cases z))]
    exact w
end
structure iq (k:Nat)(A:Around):Prop where
 dp:A.depth + 3 * k + 5 < recursionLimit
 un:A.units + 16 * k + 200 < cLine
theorem fE.h {k:Nat}{A:Around}(r:fE k A):iq k A:=⟨r.dp,r.un⟩
theorem iq.mono {j k:Nat}{A:Around}(r:iq k A)(h:j<=k):iq j A:=⟨by have:=r.dp; omega,by have:=r.un; omega⟩
theorem iq.deeper {k:Nat}{A:Around}(r:iq (k + 1) A)(env:Env):iq k (A.deeper env):=
 ⟨by have:=r.dp; show A.depth + 1 + 3 * k + 5 < _; omega,by have:=r.un; show A.units + 3 + 16 * k + 200 < _; omega⟩
theorem iq.make {k:Nat}{A:Around}(r:iq (k + 1) A)(C:Addr)(us:List Value)(kw:List (Str×Value)):iq k (A.under (.builtin "type.__call__" ⟨.ref C :: us,kw⟩)):=
 ⟨by have:=r.dp; rw[uj]; omega,by have:=r.un; rw[uk]; omega⟩
theorem iq.mark {k:Nat}{A:Around}(r:iq k A)(e:Option Value):iq k (A.mark e):=⟨r.dp,r.un⟩
structure Q1 (P:Program)(w:World)(K:PySem.W.Frag)(mg:Str->Option Value)(base:Heap)(k:Nat)(f:Addr)(fd:FuncData)(ps:List Str)(sp:Sp):Prop where
 len: ∀vs H Q E,sp vs H Q E->vs.length=ps.length
 run: ∀(A:Around) (outer:List Env) (s:Shared) (H:Hp) (args:Args) (us:List Value) (vs:List V) (Q:VK) (E:XK),iq k A->qh P w K mg base A outer s H->BindsTo s fd args (ps.zip us)->Vals vs us->sp vs H Q E->
  codeAny (model P w) A (.call (.ref f) args) (CR sq outer P w H s Q E) s
abbrev uS (P:Program)(w:World)(K:PySem.W.Frag)(mg:Str->Option Value)(base:Heap)(N:List Str)(qual:Str)(scope:Scope)(f:Addr)(cd:Value)(A:Around)(outer:List Env)(s:Shared)(H:Hp)(E:XK):Cx:=
 {lQ sq P w K mg base N qual scope f cd A outer s H E with calm:=false}
theorem uT {P:Program}{w:World}{K:PySem.W.Frag}{mg:Str->Option Value}{base:Heap}{N ps:List Str}{qual:Str}{scope:Scope}{f:Addr}{cd:Value}{A:Around}{outer:List Env}{s s1:Shared}{H:Hp}{E:XK}{us:List Value}{vs:List V}
  (S:a0 N ps scope) (e0:qh P w K mg base A outer s H) (hl:vs.length=ps.length) (r:Vals vs us)
  (x:InCallC s s.heap.objs.size (bindL (envOfC qual scope s.heap.objs.size f cd).kindOf (ps.zip us) fun _=>none) (cellsFrom (s.heap.objs.size + 1) scope.names []) (bindC (envOfC qual scope s.heap.objs.size f cd).kindOf (ps.zip us) fun _=>none) s1):
  Inv (uS P w K mg base N qual scope f cd A outer s H E) [] (start N vs) H s1:=by
 have I:=xj (CX:=sq) (E:=E) (A:={A with handled:=none}) (K:=K) (base:=base) (P:=P) (w:=w) (mg:=mg) (N:=N) S rfl ⟨e0.frames,e0.mod,e0.bs,e0.z7,e0.lM,e0.Dl,e0.cK,e0.bare⟩ hl r x
 have ok:=I.ok
 exact⟨⟨ok.mod,ok.kind,ok.glob,ok.blt,ok.above,ok.inj,ok.has,ok.JG,(fun z=>by cases z),Around.frames_deeper e0.frames,ok.GL,ok.J1,ok.bs,ok.z7,ok.vM,ok.vN,ok.lM,ok.Dl⟩,I.os,I.bare,I.base,I.loc,I.cell,I.free,I.iP,I.pin,I.cK,I.len⟩
theorem l0 {P:Program}{w:World}{K:PySem.W.Frag}{mg:Str->Option Value}{base:Heap}{k:Nat}{f:Addr}{x qual:Str}{st:Stmt}{fd:FuncData}{N ps:List Str}{sp:Sp}(F:gq K x qual st f fd)(S:a0 N ps (az st))
  (len: ∀vs H Q E,sp vs H Q E->vs.length=ps.length)
  (gp: ∀(dh:Value) (A:Around) (outer:List Env) (s:Shared) (H:Hp) (vs:List V) (Q:VK) (E:XK),iq k (A.deeper (envOfC qual (az st) s.heap.objs.size f dh))->sp vs H Q E->
   ∃t,pV (uS P w K mg base N qual (az st) f dh A outer s H E).E2 (d8 st) t/\t {nx:=fun _ H'=>Q .eI H',rt:=Q} (start N vs) H):Q1 P w K mg base (k + 1) f fd ps sp:=by
 obtain⟨oc,od,kV,doc,pm,an,dh,ct,Fb,rfl,lk,qZ⟩:=F.ex
 refine⟨len,fun A outer s H args us vs Q E hr e0 hb r yh=>?_⟩
 have hl:=len _ _ _ _ yh
 have KX:K.In s.heap:=e0.mod.J0.keeps fun b o e=>(e0.bs b o e).1
 have lim:s.heap.NoLimit:=e0.mod.nolimit.keeps fun b o e=>(e0.bs b o e).1
 have mJ: ∀y∈ps.zip us,(az st).names.lookup y.1=some .local∨((az st).names.lookup y.1=some .cell/\((cellsFrom (s.heap.objs.size + 1) (az st).names []).lookup y.1).isSome=true):=fun⟨n,v⟩ hy=>by
  rcases S.par n (og hy).1 with q|q
  ·exact .inl q
  ·exact .inr ⟨q,k6 _ _ _ (.inl q)⟩
 have dp:A.depth < recursionLimit:=by have:=hr.dp; omega
 refine codeAny_call_function dp (KX _ _ lk) rfl S.co S.gen rfl (PySem.W.codeRec_of KX qZ) (hb _ _ _ _ ?_)
 refine sW S.kind mJ fun env he s1 y=>?_
 subst he
 refine⟨lim.keeps y.toInCall.keep,codeAny_func ?_⟩
 obtain⟨t,ht,hq⟩:=gp dh A outer s H vs Q E (hr.deeper _) yh
 have I:Inv (uS P w K mg base N qual (az st) f dh A outer s H E) [] (start N vs) H s1:=uT S e0 hl r y
 refine cD (ht.E2 [] s1 (start N vs) H _ I hq) (fun fl s' hs=>?_) fun e s' hs=>hs
 have fin: ∀{σ':St} {H':Hp} {v:V} {u:Value},Inv (uS P w K mg base N qual (az st) f dh A outer s H E) [] σ' H' s'->RelV v u->Q v H'->CE outer P w H s Q u s':=
  fun{σ' H' v u} J rv q=>⟨v,H',J.os,J.bare,J.base,J.cK,rv,q⟩
 cases fl with
 |ret u=>
  obtain⟨v,σ',H',J,rv,q⟩:=hs
  exact fin J rv q
 |next=>
  obtain⟨σ',H',J,q⟩:=hs
  exact fin (v:=V.eI) (u:=Value.none) J rfl q
 |brk=>
  obtain⟨_,_,_,q⟩:=hs
  exact False.elim q
 |cont=>
  obtain⟨_,_,_,q⟩:=hs
  exact False.elim q
section
variable {X:Cx}{k:Nat}{f C R:Addr}{fd:FuncData}{ps:List Str}{sp:Sp}{x:Str}{p pos apos pos':Pos}{a b o value e:Expr}{es:List Expr}{ta tb tv:TE}{t:TA}
theorem DU {A:Around}{xe:Value->Shared->Prop}{pins:List (Addr×Obj)}{σ:St}{H:Hp}{s:Shared}{Q:VK}{us:List Value}{vs:List V}(F:Q1 X.prog X.w X.K X.mg X.base k f fd ps sp)(hr:iq k A)(e0:qh X.prog X.w X.K X.mg X.base A X.stack s H)(hb:Binds X.K fd ps [])
  (I:Inv X pins σ H s) (r:Vals vs us) (h:sp vs H Q E0):wpAny (model X.prog X.w) A (call (.ref f) us) (EP X pins σ Q) xe s:=by
 have hl:(us ++ []).length=ps.length:=by rw[b9,← r.length]; exact F.len _ _ _ _ h
 have bd:=hb s us I.gO hl
 rw[b9] at bd
 refine Dk (BZ (F.run A X.stack s H ⟨us,[]⟩ us vs Q E0 hr e0 bd r h) fun r s' hq=>?_)
 cases r with
 |error e=>exact False.elim hq
 |ok fl=>
  cases fl with
  |ret u=>exact I.after hq
  |next=>exact False.elim hq
  |brk=>exact False.elim hq
  |cont=>exact False.elim hq
def NC (K:PySem.W.Frag)(t:TA):TE:=fun σ H Q=>t σ H fun xs H2=> ∃(e C R t0:Addr) (iO:Option Addr) (vs:Array Value) (y:V),xs=[.ref e,y]/\H2 e=some (xo e C iO vs)/\gX K C R/\vs[0]? =some (.ref t0)/\ ∀t',Q .eI (upd H2 e (xo e C iO (vs.setIfInBounds 0 (.ref t'))))
theorem HZ {pl:Sem Bool}(hg:Gl X "Exception")(hm:X.mg "Exception"=none)(ha:PA X (e :: es) t)
  (hs:starEach (e :: es) X.env=(false,eval e X.env) :: starEach es X.env:=by rfl) (iL:(backTo pos (starEach es X.env)).any (·.1)=false:=by rfl)
  (ht:eval (.Call (.Attribute (.Name "Exception" p) "__init__" apos) (e :: es) [] pos) X.env=(do
   let ov ← eval (.Name "Exception" p) X.env
   standAt apos.atName
   let(f,first) ← holding [ov] (getMethod ov "__init__" pl)
   callWith pos f first (backTo pos (starEach (e :: es) X.env)) (backToKw pos (keywordEach [] X.env))):=by rfl):
  PE X (.Call (.Attribute (.Name "Exception" p) "__init__" apos) (e :: es) [] pos) (NC X.K t):=by
 intro pins s σ H Q I h
 obtain⟨m,F⟩:=I.fr
 refine vF (pl:=pl) (o6 I hg hm (u:= .type "Exception") (by rfl) ?_) ht
 refine PySem.W.method_type (v:= .builtin "Exception.__init__") F I.mod.J0 (by rfl) (by decide +kernel) (by rfl) (by rfl) ?_
 have hA:=ha pos pins {s with toks:=s.toks + 1} σ H _ (I.tok _) h
 rw[hs] at hA ⊢
 refine iT (by show(false || (backTo pos (starEach es X.env)).any (·.1))=false; rw[iL] <;> rfl) (EM ?_)
 refine eh hA fun us s2 ⟨vs,H2,I2,r2,e,C,R,t0,iO,ws,y,e1,e2,k,e3,q⟩=>?_
 subst e1
 obtain⟨u1,u2,rfl,ru,_⟩:=vals2 r2
 obtain rfl:u1=Value.ref e:=ru
 obtain⟨nm,qn,N,bs,bm,sn,sub,ab,col,dd,k0,k1,k2,k3,k5,c⟩:=k.on
 have c:=c _ I2.gO
 obtain⟨hp,g,d,tk,os⟩:=s2
 exact FC MH c.e c.at_ (I2.Cy e2) e3 fun h' b x'=>⟨.eI,_,I2.NB (t':=tk) e2 b x',rfl,q _⟩
def Q2 (K:PySem.W.Frag)(ta tv:TE):TS:=fun D σ H=>tv σ H fun y H1=>ta σ H1 fun x H2=> ∃(e C R:Addr) (vs:Array Value),x= .ref e/\H2 e=some (xo e C none vs)/\gX K C R/\
 ∀dx,H2 dx=none->D.nx σ (upd (upd H2 dx (.xd [("text",y)])) e (xo e C (some dx) vs))
theorem KR (ha:PE X o ta)(hv:PE X value tv)(hs:swapsWith value (some (.Attribute o "text" pos')) pos.line X.env=pure false):PS X (.Assign [.Attribute o "text" pos'] value pos) (Q2 X.K ta tv):=by
 intro pins s σ H D I h
 refine MD (eh (hv pins s σ H _ I h) fun u s1 ⟨y,H1,I1,ry,q⟩=>eh (ha pins s1 σ H1 _ I1 q) fun ov s2 ⟨x,H2,I2,rx,e,C,R,vs,e1,e2,k,q2⟩=>?_) hs
 subst e1
 obtain rfl:ov=Value.ref e:=rx
 obtain⟨nm,qn,N,bs,bm,sn,sub,ab,col,dd,k0,k1,k2,k3,k5,c⟩:=k.on
 have c:=c _ I2.gO
 have hn:=I2.cK.fresh (aC s2.heap.objs.size)
 obtain⟨hp,g,d,tk,os⟩:=s2
 refine KO PySem.F.store_Exception c.o c.at_ c.rf (lu I2.gO k.sa) (lu I2.gO k.tx) (I2.Cy e2) fun h' Nx b x' n=>?_
 exact⟨σ,_,I2.KQ (t':=Nx) e2 b x' n ry,q2 _ hn⟩
structure DV (K:PySem.W.Frag)(R f:Addr):Prop where
 rd:PySem.W.readsIn K R (.type "type")=true
 sp:PySem.W.specialIn K (.ref R) "__getattribute__"=some (some (.builtin "type.__getattribute__"))
 fd:PySem.W.findCls K (.ref R) (.type "type") "__init__"=some (.val (.ref f))
 kp:PySem.W.keepIn K (.ref f)=true
theorem jg {pl:Sem Bool}(i:DV X.K R f)(F:Q1 X.prog X.w X.K X.mg X.base k f fd ps sp)(hr:iq k X.A)(hb:Binds X.K fd ps [])(hg:Gl X x)(hm:X.mg x=some (.ref R))(ha:PA X (e :: es) t)(rG:(x == ("__debug__":Str))=false:=by decide)
  (hs:starEach (e :: es) X.env=(false,eval e X.env) :: starEach es X.env:=by rfl) (iL:(backTo pos (starEach es X.env)).any (·.1)=false:=by rfl)
  (ht:eval (.Call (.Attribute (.Name x p) "__init__" apos) (e :: es) [] pos) X.env=(do
   let ov ← eval (.Name x p) X.env
   standAt apos.atName
   let(f,first) ← holding [ov] (getMethod ov "__init__" pl)
   callWith pos f first (backTo pos (starEach (e :: es) X.env)) (backToKw pos (keywordEach [] X.env))):=by rfl):
  PE X (.Call (.Attribute (.Name x p) "__init__" apos) (e :: es) [] pos) (xa sp [] E0 t):=by
 intro pins s σ H Q I h
 refine vF (pl:=pl) (jv I hg hm ?_ rG) ht
 refine PySem.W.method_cls I.gO i.sp (PySem.W.cls_value I.gO i.rd i.fd rfl ?_)
 refine km (h₀:=X.base) I.ok.mod.J0 i.kp (eh (ha pos pins _ σ H _ (I.tok _) h) fun us s1 ⟨vs,H1,I1,r,q⟩=>⟨I1.gO,?_⟩) hs iL
 have q2:sp (vs ++ []) H1 Q E0:=q
 rw[b9] at q2
 exact DU F hr I1.Hn hb I1 r q2
end
def ZS (mg:Str->Option Value)(n0:Nat)(H:Hp)(h:Heap)(a C dx:Addr):Prop:=
 ∃(vs:Array Value) (T:Addr),i7 h a (.ref C) (some dx) vs/\vs[1]? =some (.ref T)/\JL h T .none/\T≠a/\n0<=a/\n0<=T/\H a=none/\H T=none/\(vs[2]? =some .none∨mg "Needed"=some (.ref C))
def my (P:Program)(w:World)(mg:Str->Option Value):E9:=fun outer H s E e s'=>
 ∃(a C dx:Addr) (H':Hp),e= .ref a/\s'.os=s.os/\AllBare s'.gens/\Un (B6 outer) [] H H' s.heap s'.heap/\oq P w H' s'.heap/\ZS mg s.heap.objs.size H' s'.heap a C dx/\E (.ref C) (some dx) H'
theorem DW {fs fr own:List Addr}{H H2:Hp}{h h2 h3:Heap}(u:Un fs [] H H2 h h2)(b:mV fr own h2 h3)(ho: ∀c∈own,h.objs.size<=c)(hf: ∀c∈fr,c∈fs∨h.objs.size<=c):Un fs [] H H2 h h3 where
 keep:=fun c o z n hc hx=>(b c o (u.keep c o z n hc hx) (fun w=>absurd (aO z) (wX.mpr (ho c w)))).1 (fun w=>(hf c w).elim hc (fun q=>absurd (aO z) (wX.mpr q)))
 slot:=fun c o z n hc hx=>by
  obtain⟨sl,e⟩:=u.slot c o z n hc hx
  obtain⟨_,Td,e2⟩:=b c _ e (fun w=>absurd (aO z) (wX.mpr (ho c w)))
  exact⟨Td,e2⟩
 free:=u.free
 there:=fun c o z hx=>by
  obtain⟨o',e⟩:=u.there c o z hx
  obtain⟨_,Td,e2⟩:=b c _ e (fun w=>absurd (aO z) (wX.mpr (ho c w)))
  exact⟨_,e2⟩
 qa:=u.qa
 o4:=u.o4
 o5:=u.o5
theorem yA {P:Program}{w:World}{fr own:List Addr}{H:Hp}{h h':Heap}(k:oq P w H h)(b:mV fr own h h')(hf: ∀c∈fr,H c=none)(ho: ∀c∈own,H c=none):oq P w H h':=fun c u z=>by
 refine(k c u z).sY (fun d o hd w=>?_) (fun _ q=>q) fun _ _ q=>q
 have t: ∃u',H d=some u':=hd.elim (fun q=>⟨u,by rw[q]; exact z⟩) (fun q=>⟨_,q⟩)
 obtain⟨u',y⟩:=t
 exact(b d o w (fun q=>by rw[ho d q] at y; cases y)).1 (fun q=>by rw[hf d q] at y; cases y)
section
variable {X:Cx}{pins:List (Addr×Obj)}{σ:St}{H:Hp}{s:Shared}{h':Heap}{own:List Addr}
theorem Inv.jV {c:Addr}(I:Inv X pins σ H s)(h:s.heap.objs.size<=c):(c∈X.ex∨X.s₀.heap.objs.size<=c)/\c≠X.env.locals/\(∀x k,X.env.cells.lookup x=some k->k≠c)/\ ∀p∈X.pn ++ pins,p.1≠c:=by
 refine⟨.inr (a8 I.sz h),(bc (bu I.lt h)).symm,fun x k z=>?_,fun p hp=>?_⟩
 ·obtain⟨v,w⟩:=I.cell x k z
  exact bc (bu w.lt h)
 ·exact bc (bu (aO (I.pin p hp).1) h)
theorem Inv.but (I:Inv X pins σ H s)(b:mV (B6 X.stack) own s.heap h')
  (ho: ∀c∈own,H c=none/\(c∈X.ex∨X.s₀.heap.objs.size<=c)/\c≠X.env.locals/\(∀x k,X.env.cells.lookup x=some k->k≠c)/\ ∀p∈X.pn ++ pins,p.1≠c):Inv X pins σ H {s with heap:=h'}:=by
 refine I.Dm (s':={s with heap:=h'}) (ch:=own) rfl ⟨fun c o z n hc hx=>(b c o z hx).1 hc,fun c o z n hc hx=>(b c o z hx).2,fun c o z n hx=>n,fun c o z hx=>?_,fun _ _ z=>z,fun _ _ _ z=>z,fun c ps z=>⟨#[],by rw[z]; simp⟩⟩ ?_ I.bare fun c hc=>(ho c hc).2
 ·obtain⟨_,sl,e⟩:=b c o z hx
  exact⟨_,e⟩
 ·exact yA I.cK b I.qd fun c hc=>(ho c hc).1
end
structure Pa (X:Cx)(E:XK):Prop where
 pass:Passes (my X.prog X.w X.mg) X E
 mi: ∀{pins:List (Addr×Obj)} {σ:St} {H:Hp} {s:Shared} {a C dx:Addr} {vs:Array Value},Inv X pins σ H s->i7 s.heap a (.ref C) (some dx) vs->vs[1]? =some .none->(vs[2]? =some .none∨X.mg "Needed"=some (.ref C))->
  X.s₀.heap.objs.size<=a->H a=none->E (.ref C) (some dx) H->X.xe (.ref a) s
 own:PassesOwn (model X.prog X.w) X.A X.env X.xe
 ownAt: ∀hd:Option Value,PassesOwnAt (model X.prog X.w) (X.A.mark hd) X.A X.env X.xe
 GL:X.stack=X.env :: X.outer
 XC:X.env.frame=some X.env.locals
section
variable {P:Program}{w:World}{K:PySem.W.Frag}{mg:Str->Option Value}{base:Heap}{N:List Str}{qual:Str}{scope:Scope}{f:Addr}{cd:Value}{A:Around}{outer:List Env}{s:Shared}{H:Hp}{E:XK}
theorem Q3:Passes (my P w mg) (lQ (my P w mg) P w K mg base N qual scope f cd A outer s H E) E:=by
 rintro pins σ H1 s1 e s2 I ⟨a,C,dx,H2,rfl,ho,hg,u,cK,⟨vs,T,x,h1,ft,ne,na,nT,Ha,HT,h2⟩,q⟩
 have I2:=I.Dm (ch:=[]) ho u cK hg (fun b z=>absurd z (by simp))
 have sz:s.heap.objs.size<=s1.heap.objs.size:=I.sz
 have Pb:a < s2.heap.objs.size:=by
  obtain⟨o,z,_⟩:=x
  exact aO z
 show wpAny _ _ (leaving (envOfC qual scope s.heap.objs.size f cd) (.ref a)) _ _ s2
 refine Nw (base:=base) (outer:=outer) (L:=s.heap.objs.size) I.ok.frames I2.stack rfl x h1 ft ne fun h3 T' b x' hT t'=>?_
 have Pc:T'≠a:=by
  rw[hT]
  exact(bc Pb).symm
 refine⟨a,C,dx,H2,rfl,I2.os,I2.bare,DW I2.base b ?_ ?_,yA cK b I2.qd ?_,⟨_,T',x',pG (fq h1),t',Pc,a8 sz na,?_,Ha,I2.cK.fresh (iJ hT.symm),?_⟩,q⟩
 ·intro c hc
  rcases aw.mp hc with rfl|hc
  ·exact a8 sz nT
  ·rw[ao.mp hc]
   exact a8 sz na
 ·intro c hc
  rcases aw.mp (I2.ue c hc) with hc|hc
  ·rw[hc]
   exact .inr (aC _)
  ·exact .inl hc
 ·intro c hc
  rcases aw.mp hc with rfl|hc
  ·exact HT
  ·rw[ao.mp hc]
   exact Ha
 ·rw[hT]
  exact I2.sz
 ·rw[qx (by decide)]
  exact h2
theorem ND:Pa (lQ (my P w mg) P w K mg base N qual scope f cd A outer s H E) E where
 pass:=Q3
 mi:=by
  intro pins σ H1 s1 a C dx vs I x h1 h2 na Ha q
  have Pb:a < s1.heap.objs.size:=by
   obtain⟨o,z,_⟩:=x
   exact aO z
  show wpAny _ _ (leaving (envOfC qual scope s.heap.objs.size f cd) (.ref a)) _ _ s1
  refine Nv (base:=base) (outer:=outer) (L:=s.heap.objs.size) I.ok.frames I.stack rfl x h1 fun h3 T' b x' hT t'=>?_
  have Pc:T'≠a:=by
   rw[hT]
   exact(bc Pb).symm
  refine⟨a,C,dx,H1,rfl,I.os,I.bare,DW I.base b ?_ ?_,yA I.cK b I.qd ?_,⟨_,T',x',pG (fq h1),t',Pc,na,?_,Ha,I.cK.fresh (iJ hT.symm),?_⟩,q⟩
  ·intro c hc
   rw[ao.mp hc]
   exact na
  ·intro c hc
   rcases aw.mp (I.ue c hc) with hc|hc
   ·rw[hc]
    exact .inr (aC _)
   ·exact .inl hc
  ·intro c hc
   rw[ao.mp hc]
   exact Ha
  ·rw[hT]
   exact I.sz
  ·rw[qx (by decide)]
   exact h2
 own:=PassesOwn.leaving
 ownAt:=fun _=>PassesOwnAt.leaving
 GL:=rfl
 XC:=rfl
theorem gq.XD {x qual:Str}{st:Stmt}{f:Addr}{fd:FuncData}{N ps:List Str}{k:Nat}{sp:Sp}(F:gq K x qual st f fd)(S:a0 N ps (az st))(len: ∀vs H Q E,sp vs H Q E->vs.length=ps.length)
  (gp: ∀(dh:Value) (A:Around) (outer:List Env) (s:Shared) (H:Hp) (vs:List V) (Q:VK) (E:XK),fE k (A.deeper (envOfC qual (az st) s.heap.objs.size f dh))->Pa (lQ (my P w mg) P w K mg base N qual (az st) f dh A outer s H E) E->sp vs H Q E->
   ∃t,pV (lQ (my P w mg) P w K mg base N qual (az st) f dh A outer s H E) (d8 st) t/\t {nx:=fun _ H'=>Q .eI H',rt:=Q} (start N vs) H):lP P w K mg base (my P w mg) (k + 1) f fd ps sp:=by
 obtain⟨oc,od,kV,doc,pm,an,dh,ct,Fb,rfl,lk,qZ⟩:=F.ex
 exact Hr lk qZ S len fun A outer s H vs Q E hr yh=>gp dh A outer s H vs Q E hr ND yh
end
def NF (K:PySem.W.Frag)(txt:Str):Sp:=fun vs H Q _=> ∃(e C R t0:Addr),vs=[.ref e]/\H e=some (xo e C none (v0 t0))/\gX K C R/\ ∀dx t',H dx=none->Q .eI (upd (upd H dx (.xd [("text",.str txt)])) e (xo e C (some dx) (v0 t')))
def NG (E:XK)(C:Addr)(txt:Str):TS:=fun _ _ H=> ∀dx,H dx=none->E (.ref C) (some dx) (upd H dx (.xd [("text",.str txt)]))
structure Ia (P:Program)(w:World)(K:PySem.W.Frag)(mg:Str->Option Value)(base:Heap)(k:Nat)(x:Str)(C R:Addr)(txt:Str):Prop where
 XE:mg x=some (.ref C)
 ek:gX K C R
 kp:PySem.W.keepIn K (.ref C)=true
 init: ∃(f:Addr) (fd:FuncData),PySem.W.findIn K (.ref C) "__init__"=some (some (.ref f))/\PySem.W.typeIn K (.ref f)=some (.type "function")/\Q1 P w K mg base k f fd ["self"] (NF K txt)/\Binds K fd ["self"] []
section
variable {X:Cx}{k:Nat}{C R:Addr}{x txt:Str}{p pos gP:Pos}{E:XK}
theorem Ib (M:Ia X.prog X.w X.K X.mg X.base k x C R txt)(hr:iq (k + 1) X.A)(hg:Gl X x)(rG:(x == ("__debug__":Str))=false){pins:List (Addr×Obj)}{σ:St}{H:Hp}{s:Shared}{Q:Value->Shared->Prop}{xe:Value->Shared->Prop}(I:Inv X pins σ H s)
  (q: ∀(s2:Shared) (e dx t':Addr),s.heap.objs.size<=e->H dx=none->H e=none->dx≠e->Inv X pins σ (upd H dx (.xd [("text",.str txt)])) s2->i7 s2.heap e (.ref C) (some dx) (v0 t')->Q (.ref e) s2):
  wpAny (model X.prog X.w) X.A (eval (.Call (.Name x p) [] [] gP) X.env) Q xe s:=by
 obtain⟨f,fd,hi,hf,F,hb⟩:=M.init
 refine eL (jv I hg M.XE ?_ rG)
 refine zX I.gO M.kp ?_
 obtain⟨nm,qn,N,bs,bm,sn,sub,ab,col,dd,k0,k1,k2,k3,k5,c⟩:=M.ek.on
 have c:=c _ I.gO
 have hz:=I.cK.fresh (dS s.heap.objs.size)
 have I1:=I.kept (t':=s.toks) (h':=s.heap.push (jo [])) (fun b u z=>ax _ z)
 have ex:i7 ((s.heap.push (jo [])).push (lZ C s.heap.objs.size)) (s.heap.objs.size + 1) (.ref C) none (v0 s.heap.objs.size):=⟨lZ C s.heap.objs.size,by heap_get,rfl,rfl,rfl⟩
 have I2:=I1.laid (a:=s.heap.objs.size + 1) (o:=xo (s.heap.objs.size + 1) C none (v0 s.heap.objs.size)) (t':=s.toks) (h':=(s.heap.push (jo [])).push (lZ C s.heap.objs.size)) (fun b u z=>ax _ z) (iJ (nP _ _)) (HY ex)
 have SY:=PySem.W.looks_typeIn (M:=model X.prog X.w) I.gO hf
 have NH: ∃oI,s.heap.get? f=some oI/\oI.cls= .type "function":=by
  have z:=hf
  unfold PySem.W.typeIn at z
  dsimp only at z
  cases w:X.K.lookup f with
  |none=>rw[w] at z; cases z
  |some o=>
   rw[w] at z
   exact⟨o,I.gO _ _ w,aF z⟩
 obtain⟨oI,NH,QX⟩:=NH
 have e0:=I2.Hn.make C [] []
 obtain⟨hp,g,d,tk,os⟩:=s
 refine call_exc MH c.e c.na c.nn c.at_ (lu I.gO hi) NH QX ?_
 refine eh (DU (X:=X) F (hr.make C [] []) e0 hb I2 (us:=[.ref (hp.objs.size + 1)]) (vs:=[.ref (hp.objs.size + 1)]) (Q:=fun v H'=>v= .eI/\ ∃dx t',H dx=none/\dx≠hp.objs.size + 1/\H'=upd (upd (upd H (hp.objs.size + 1) (xo (hp.objs.size + 1) C none (v0 hp.objs.size))) dx (.xd [("text",.str txt)])) (hp.objs.size + 1) (xo (hp.objs.size + 1) C (some dx) (v0 t'))) (.cons rfl .nil) ?_) fun u s2 h2=>?_
 ·refine⟨_,C,R,_,rfl,ag,M.ek,fun dx t' BV=>⟨rfl,dx,t',?_⟩⟩
  have ne:dx≠hp.objs.size + 1:=fun z=>by
   rw[z,ag] at BV
   cases BV
  rw[aA ne] at BV
  exact⟨BV,ne,rfl⟩
 ·obtain⟨v,H',I3,rv,rfl,dx,t',BV,ne,rfl⟩:=h2
  refine⟨rv,?_⟩
  have I4:=Inv.drop I hz I3 ag
  have eH:gone (upd (upd (upd H (hp.objs.size + 1) (xo (hp.objs.size + 1) C none (v0 hp.objs.size))) dx (.xd [("text",.str txt)])) (hp.objs.size + 1) (xo (hp.objs.size + 1) C (some dx) (v0 t'))) (hp.objs.size + 1)=upd H dx (.xd [("text",.str txt)]):=by
   funext b
   by_cases h1:b=hp.objs.size + 1
   ·rw[h1,xC,aA ne.symm,hz]
   ·rw[iF h1,aA h1]
    by_cases h2:b=dx
    ·rw[h2,ag,ag]
    ·rw[aA h2,aA h2,aA h1]
  rw[eH] at I4
  exact q s2 _ dx t' (dS _) BV hz ne I4 (I3.Cy ag)
theorem jW (T:Pa X E)(M:Ia X.prog X.w X.K X.mg X.base k x C R txt)(hr:iq (k + 1) X.A)(hg:Gl X x)(hc:X.calm=true)(rG:(x == ("__debug__":Str))=false:=by decide):
  PS X (.Raise (some (.Call (.Name x p) [] [] gP)) none pos) (NG E C txt):=by
 intro pins s σ H D I h
 rw[arm_exec_Raise]
 obtain⟨nm,qn,N,bs,bm,sn,sub,ab,col,dd,k0,k1,k2,k3,k5,c⟩:=M.ek.on
 refine ay (iy (Cv (C:=C) (nm:=nm) (q:=qn) (N:=N) (bs:=bs) (bm:=bm) (ow:=true) (sn:=sn) (sub:=sub) (ab:=ab) (col:=col) (dd:=dd) (k0:=k0) (k1:=k1) (k2:=k2) (k3:=k3) (k5:=k5) (newId:="Exception.__new__") (c _ I.gO).b (I.ok.hd hc) (ay (Ib M hr hg rG I fun s2 e dx t' he BV hz ne I2 x2=>ay (iy (bM ?_))))))
 exact⟨e,some dx,v0 t',rfl,(c _ I2.gO).at_,x2,rfl,T.mi I2 x2 rfl (.inl rfl) (a8 I.sz he) (by rw[aA ne.symm]; exact hz) (h dx BV)⟩
end
abbrev Cx.vX (X:Cx)(xe:Value->Shared->Prop)(pn:List (Addr×Obj)):Cx:={X with xe:=xe,pn:=pn}
abbrev Cx.JN (X:Cx)(e:Value)(pn:List (Addr×Obj))(xe:Value->Shared->Prop):Cx:={X with A:=X.A.mark (some e),calm:=false,pn:=pn,xe:=xe}
section
variable {X:Cx}{pins z9 l:List (Addr×Obj)}{σ:St}{H:Hp}{s:Shared}{xe:Value->Shared->Prop}{E:XK}
theorem Inv.vX (I:Inv X pins σ H s)(xe:Value->Shared->Prop):Inv (X.vX xe (X.pn ++ pins)) [] σ H s:=
 have ok:=I.ok
 ⟨⟨ok.mod,ok.kind,ok.glob,ok.blt,ok.above,ok.inj,ok.has,ok.JG,ok.hd,ok.frames,ok.GL,ok.J1,ok.bs,ok.z7,ok.vM,ok.vN,ok.lM,ok.Dl⟩,I.os,I.bare,I.base,I.loc,I.cell,I.free,I.iP,fun p hp=>I.pin p (by simpa using hp),I.cK,I.len⟩
theorem Inv.jX (I:Inv (X.vX xe (X.pn ++ pins)) z9 σ H s):Inv X pins σ H s:=
 have ok:=I.ok
 ⟨⟨ok.mod,ok.kind,ok.glob,ok.blt,ok.above,ok.inj,ok.has,ok.JG,ok.hd,ok.frames,ok.GL,ok.J1,ok.bs,ok.z7,ok.vM,ok.vN,ok.lM,ok.Dl⟩,I.os,I.bare,I.base,I.loc,I.cell,I.free,I.iP,fun p hp=>I.pin p (df _ hp),I.cK,I.len⟩
theorem Inv.JN (I:Inv X pins σ H s)(e:Value)(xe:Value->Shared->Prop)(h: ∀p∈l,s.heap.get? p.1=some p.2/\H p.1=none/\p.1≠X.env.locals/\p.1∉X.fs/\ ∀v,p.2.data≠ .cell v):Inv (X.JN e (X.pn ++ pins ++ l) xe) [] σ H s:=
 have ok:=I.ok
 ⟨⟨ok.mod,ok.kind,ok.glob,ok.blt,ok.above,ok.inj,ok.has,ok.JG,(fun z=>by cases z),ok.frames,ok.GL,ok.J1,ok.bs,ok.z7,ok.vM,ok.vN,ok.lM,ok.Dl⟩,I.os,I.bare,I.base,I.loc,I.cell,I.free,I.iP,
  fun p hp=>by
   rw[b9] at hp
   exact(bL.mp hp).elim (fun z=>I.pin p z) (h p),I.cK,I.len⟩
theorem Inv.Q4 (I0:Inv X pins σ H s){e:Value}{σ':St}{H':Hp}{s':Shared}(I:Inv (X.JN e (X.pn ++ pins ++ l) xe) z9 σ' H' s'):Inv X pins σ' H' s':=
 have ok:=I.ok
 ⟨⟨ok.mod,ok.kind,ok.glob,ok.blt,ok.above,ok.inj,ok.has,ok.JG,I0.ok.hd,ok.frames,ok.GL,ok.J1,ok.bs,ok.z7,ok.vM,ok.vN,ok.lM,ok.Dl⟩,I.os,I.bare,I.base,I.loc,I.cell,I.free,I.iP,
  fun p hp=>I.pin p (df _ (df _ hp)),I.cK,I.len⟩
theorem SP.jX {D:Ends}{f:Flow}{s':Shared}(h:SP (X.vX xe (X.pn ++ pins)) [] D f s'):SP X pins D f s':=by
 cases f with
 |next=>obtain⟨σ',H',I,q⟩:=h; exact⟨σ',H',I.jX,q⟩
 |brk=>obtain⟨σ',H',I,q⟩:=h; exact⟨σ',H',I.jX,q⟩
 |cont=>obtain⟨σ',H',I,q⟩:=h; exact⟨σ',H',I.jX,q⟩
 |ret u=>obtain⟨v,σ',H',I,r,q⟩:=h; exact⟨v,σ',H',I.jX,r,q⟩
theorem Inv.renamed {h5:Heap}{m5:Str->Option Value}{t':Nat}(I:Inv X pins σ H s)(n5:h5.Ns X.env.locals m5)(sb:Heap.SameBut X.env.locals s.heap h5):Inv X pins (List.replicate X.N.length none) H {s with heap:=h5,toks:=t'}:=by
 have low: ∀c o,X.s₀.heap.get? c=some o->c≠X.env.locals:=fun c o z=>bc (bu (aO z) I.ok.above)
 refine⟨I.ok,I.os,I.bare,⟨fun c o z n hc hx=>(sb.2 c (low c o z)).trans (I.base.keep c o z n hc hx),fun c o z n hc hx=>?_,I.base.free,fun c o z hx=>?_,I.base.qa,I.base.o4,I.base.o5⟩,⟨m5,n5,fun i x v h1 h2 _=>?_⟩,fun x c z=>?_,I.free,I.iP,fun p hp=>?_,fun c u z=>?_,?_⟩
 ·obtain⟨sl,e⟩:=I.base.slot c o z n hc hx
  exact⟨sl,(sb.2 c (low c o z)).trans e⟩
 ·obtain⟨o',e⟩:=I.base.there c o z hx
  exact⟨o',(sb.2 c (low c o z)).trans e⟩
 ·rw[List.getElem?_replicate] at h2
  split at h2 <;> cases h2
 ·obtain⟨v,w⟩:=I.cell x c z
  exact⟨v,w.sameBut sb (I.LX x c z)⟩
 ·obtain⟨w1,w2,w3,w4⟩:=I.pin p hp
  exact⟨(sb.2 _ w3).trans w1,w2,w3,w4⟩
 ·refine(I.cK c u z).sY (fun d o hd w=>(sb.2 d (fun q=>?_)).trans w) (fun _ q=>q) fun _ _ q=>q
  rcases hd with hd|hd
  ·rw[← hd,q,I.free] at z
   cases z
  ·rw[q,I.free] at hd
   cases hd
 ·rw[eY]
theorem land (sf:X.stack=X.env :: X.outer)(BU:X.env.frame=some X.env.locals){e:Value}{s':Shared}(I:Inv X pins σ H s)(c:my X.prog X.w X.mg X.stack H s E e s'){hs:List ExceptHandler}{Q:Flow->Shared->Prop}
  (q: ∀(a C dx T:Addr) (vs:Array Value) (H':Hp) (s3:Shared),e= .ref a->Inv X pins σ H' s3->i7 s3.heap a (.ref C) (some dx) vs->vs[1]? =some (.ref T)->JL s3.heap T .none->T≠a->s.heap.objs.size<=a->s.heap.objs.size<=T->H' a=none->H' T=none->
   (vs[2]? =some .none∨X.mg "Needed"=some (.ref C))->E (.ref C) (some dx) H'->wpAny (model X.prog X.w) X.A (handleBy e X.env hs) Q xe s3):
  wpAny (model X.prog X.w) X.A (noteFrame e X.env) (fun _ s2=>wpAny (model X.prog X.w) X.A (setFlight e none) (fun _ s3=>wpAny (model X.prog X.w) X.A (handleBy e X.env hs) Q xe s3) xe s2) xe s':=by
 obtain⟨a,C,dx,H2,rfl,ho,hg,u,cK,⟨vs,T,x,h1,ft,ne,na,nT,Ha,HT,h2⟩,z⟩:=c
 have I2:=I.Dm (ch:=[]) ho u cK hg (fun b z=>absurd z (by simp))
 have st:=I2.stack
 rw[sf] at st
 have Pb:a < s'.heap.objs.size:=by
  obtain⟨o,z,_⟩:=x
  exact aO z
 have Vk:s.heap.objs.size<=s'.heap.objs.size:=a8 na (dU Pb)
 refine Mc (base:=X.base) (outer:=X.outer) (by rw[I.ok.frames,sf]) st BU x h1 ft ne fun h3 T' b x3 hT t3=>?_
 have Pc:T'≠a:=by
  rw[hT]
  exact(bc Pb).symm
 have XF:H2 T'=none:=I2.cK.fresh (iJ hT.symm)
 have ZT:=I2.jV (iJ hT.symm)
 have b':mV (B6 X.stack) [T,a] s'.heap h3:=by
  rw[sf]
  exact b
 have I3:=I2.but b' (fun c hc=>by
  rcases aw.mp hc with rfl|hc
  ·exact⟨HT,I.jV nT⟩
  ·rw[ao.mp hc]
   exact⟨Ha,I.jV na⟩)
 refine uQ (s:={s' with heap:=h3}) x3 (pG (fq h1)) t3 fun h4 b4 t4 _=>?_
 have I4:=I3.but (h':=h4) (own:=[T']) (b4.mono (fun _ z=>absurd z (by simp)) (fun _ z=>z)) (fun c hc=>by
  rw[ao.mp hc]
  exact⟨XF,ZT⟩)
 refine q a C dx T' _ H2 _ rfl I4 (x3.but b4 (by simpa using Pc.symm)) (pG (fq h1)) t4 Pc na (by rw[hT]; exact Vk) Ha XF ?_ z
 rw[qx (by decide)]
 exact h2
end
section
variable {X:Cx}{R:Addr}{n x:Str}{i k:Nat}{p1 p2 p3 p4 p5 pos gP:Pos}{body:List Stmt}{t:XK->TS}{E:XK}{CN:Addr}{txt:Str}
def Q5 (K:PySem.W.Frag)(R:Addr)(D:Ends):XK:=fun c d H'=> ∃(C dx:Addr) (txt:Str),c= .ref C/\d=some dx/\gX K C R/\H' dx=some (.xd [("text",.str txt)])/\D.rt (.str txt) H'
def KS (K:PySem.W.Frag)(R:Addr)(t:XK->TS):TS:=fun D σ H=>t (Q5 K R D) D σ H
theorem FF (sf:X.stack=X.env :: X.outer)(BU:X.env.frame=some X.env.locals)(hc:X.calm=true)(hN:X.N.Nodup)(hi:X.N[i]? =some n)(hl:X.env.scope.names.lookup n=some .local)(hg:Gl X x)(hm:X.mg x=some (.ref R))(kR:gX X.K R R)
  (hb: ∀(xe:Value->Shared->Prop) (pn:List (Addr×Obj)) (E:XK),Passes (my X.prog X.w X.mg) (X.vX xe pn) E->pV (X.vX xe pn) body (t E)) (hd:(n == ("__debug__":Str))=false:=by decide) (qZ:(n == ("__classdict__":Str))=false:=by decide) (hx:(x == ("__debug__":Str))=false:=by decide):
  PS X (.Try body [.ExceptHandler (some (.Name x p1)) (some n) [.Return (some (.Attribute (.Name n p2) "text" p3)) p4] p5] [] [] pos) (KS X.K R t):=by
 intro pins s σ H D I h
 refine wpAny_Try_except (cD (hb (fun e s1=>wpAny (model X.prog X.w) X.A (noteFrame e X.env) (fun _ s2=>wpAny (model X.prog X.w) X.A (setFlight e none) (fun _ s3=>
  wpAny (model X.prog X.w) X.A (handleBy e X.env [.ExceptHandler (some (.Name x p1)) (some n) [.Return (some (.Attribute (.Name n p2) "text" p3)) p4] p5]) (SP X pins D) X.xe s3) X.xe s2) X.xe s1) (X.pn ++ pins) (Q5 X.K R D) ?_ [] s σ H D (I.vX _) h) (fun f s1 q=>?_) fun _ _ z=>z)
 ·rintro Q7 σ1 H1 s1 e s2 I1 cx
  refine land sf BU I1.jX cx fun a C dx T vs H2 s3 he I3 x3 h1 ft ne na nT Ha HT h2 z=>?_
  subst he
  obtain⟨C',dx',txt,e1,e2,ek,ed,q⟩:=z
  cases e1
  cases e2
  obtain⟨oe,Vl,O0,NI,Q8⟩:=id x3
  have cC:=ek.on
  have cR:=kR.on
  obtain⟨_,_,_,_,_,_,_,_,_,_,_,_,_,_,_,cC⟩:=cC
  obtain⟨_,_,_,_,_,_,_,_,_,_,_,_,_,_,_,cR⟩:=cR
  have nw:=I1.jX.jV na
  have Im:=I3.JN (l:=[(a,oe)]) (.ref a) (fun _ _=>False) (fun p hp=>by
   rw[ao.mp hp]
   exact⟨Vl,Ha,nw.2.1,I1.jX.EZ na,fun v z=>by rw[Q8] at z; cases z⟩)
  refine wpAny_handleBy_cons (codeAny_handlers_test (jv Im hg hm ?_ hx)) (by intro q; cases q)
  obtain⟨hp,g,d,tk,os⟩:=s3
  refine xB (cC _ I3.gO).at_ (cR _ I3.gO).at_ x3 (cR _ I3.gO).b (cC _ I3.gO).up ?_
  refine codeAny_handlers_suite_as ?_
  refine uQ x3 h1 ft fun h4 b4 t4 _=>?_
  have KU:=I1.jX.jV nT
  have I4:=Im.but (h':=h4) (own:=[T]) (b4.mono (fun _ z=>absurd z (by simp)) (fun _ z=>z)) (fun c hc=>by
   rw[ao.mp hc]
   refine⟨HT,KU.1,KU.2.1,KU.2.2.1,fun p hp=>?_⟩
   rw[b9] at hp
   rcases bL.mp hp with hp|hp
   ·exact KU.2.2.2 p hp
   ·rw[ao.mp hp]
    exact ne.symm)
  refine uf (X:=X.JN (.ref a) (X.pn ++ pins ++ [(a,oe)]) (fun _ _=>False)) (v:= .ref a) I4 hN hi (.inl hl) rfl (fun s5 I5=>?_) (.inr hl)
  have pe:PE (X.JN (.ref a) (X.pn ++ pins ++ [(a,oe)]) (fun _ _=>False)) (.Attribute (.Name n p2) "text" p3) (fun σ H Q=>σ[i]? =some (some (.ref a))/\H dx=some (.xd [("text",.str txt)])/\Q (.str txt) H):=by
   rintro Md s6 σ6 H6 Q6 J ⟨e1,e2,q6⟩
   refine Du rfl (eh (B7 (X:=X.JN (.ref a) (X.pn ++ pins ++ [(a,oe)]) (fun _ _=>False)) hi (.inl hl) hd qZ Md s6 σ6 H6 (fun v H'=>v= .ref a/\H'=H6) J ⟨_,e1,rfl,rfl⟩) ?_)
   rintro u s7 ⟨v,H7,J7,rv,rfl,rfl⟩
   obtain rfl:u=Value.ref a:=rv
   obtain⟨w1,_⟩:=J7.pin (a,oe) (df _ (bE _ (ao.mpr rfl)))
   obtain⟨mA,n1,rl⟩:=J7.cK dx _ e2
   have rt:=rl "text"
   have lk:List.lookup ("text":Str) [("text",V.str txt)]=some (V.str txt):=by simp[List.lookup]
   rw[lk] at rt
   cases Vm:mA "text" with
   |none=>rw[Vm] at rt; exact False.elim rt
   |some u7=>
    rw[Vm] at rt
    obtain⟨tk7,rfl⟩: ∃tk,u7=Value.str txt tk:=rt
    obtain⟨hp7,g7,d7,t7,os7⟩:=s7
    refine KP PySem.F.attr_Exception.ga (cC _ J7.gO).b (cC _ J7.gO).at_ (lu J7.gO ek.ga) (lu J7.gO ek.gk) (lu J7.gO ek.tx) ⟨oe,w1,O0,NI,Q8⟩ n1.ns Vm rfl ?_
    exact⟨.str txt,H7,J7.tok _,⟨_,rfl⟩,q6⟩
  have hlen:i < σ1.length:=by
   rw[I1.len]
   exact(av.mp hi).1
  refine wpAny_mono (au (bf pe) [] s5 _ H2 {nx:=fun _ _=>False,rt:=fun v H'=>v= .str txt/\H'=H2} I5 ⟨by simp[hlen],ed,rfl,rfl⟩) (fun f s6 q6=>?_) fun _ _ z=>z.elim
  cases f with
  |next=>obtain⟨_,_,_,z⟩:=q6; exact z.elim
  |brk=>obtain⟨_,_,_,z⟩:=q6; exact z.elim
  |cont=>obtain⟨_,_,_,z⟩:=q6; exact z.elim
  |ret u=>
   obtain⟨v,σ6,H6,I6,rv,rfl,rfl⟩:=q6
   have I7:Inv X pins σ6 H6 s6:=Inv.Q4 I3 I6
   obtain⟨m6,n6,_⟩:=id I7.loc
   have kd:(X.env.scope.kind == .class || (X.env.scope.kind == .module && X.env.locals != X.env.globals))=false:=by
    rw[I.ok.kind]
    rfl
   refine wpAny_nameGoes hl n6 kd fun h7 m7 n7 sb=>?_
   exact⟨.str txt,_,H6,I7.renamed n7 sb,rv,q⟩
 ·have q':=SP.jX q
  cases f with
  |next=>exact jm q'
  |brk=>exact q'
  |cont=>exact q'
  |ret u=>exact q'
def Ic (CT CN:Addr)(txt:Str)(E:XK):XK:=fun c d H'=>c= .ref CT/\ ∀dx,H' dx=none->E (.ref CN) (some dx) (upd H' dx (.xd [("text",.str txt)]))
def FG (CT CN:Addr)(txt:Str)(E:XK)(t:XK->TS):TS:=fun D σ H=>t (Ic CT CN txt E) D σ H
theorem AB {CT:Addr}{kk:_}(T:Pa X E)(hc:X.calm=true)(hg:Gl X x)(hm:X.mg x=some (.ref CT))(kT:gX X.K CT R)(jf:X.mg "Needed"≠some (.ref CT))(M:Ia X.prog X.w X.K X.mg X.base k "Needed" CN R txt)(hr:iq (k + 1) X.A)(ZU:Gl X "Needed")
  (hb: ∀(xe:Value->Shared->Prop) (pn:List (Addr×Obj)) (E:XK),Passes (my X.prog X.w X.mg) (X.vX xe pn) E->pV (X.vX xe pn) body (t E)) (hx:(x == ("__debug__":Str))=false:=by decide):
  PS X (.Try body [.ExceptHandler (some (.Name x p1)) none [.Raise (some (.Call (.Name "Needed" p2) [] [] gP)) (some (.Constant .none kk p3)) p4] p5] [] [] pos) (FG CT CN txt E t):=by
 intro pins s σ H D I h
 refine wpAny_Try_except (cD (hb (fun e s1=>wpAny (model X.prog X.w) X.A (noteFrame e X.env) (fun _ s2=>wpAny (model X.prog X.w) X.A (setFlight e none) (fun _ s3=>
  wpAny (model X.prog X.w) X.A (handleBy e X.env [.ExceptHandler (some (.Name x p1)) none [.Raise (some (.Call (.Name "Needed" p2) [] [] gP)) (some (.Constant .none kk p3)) p4] p5]) (SP X pins D) X.xe s3) X.xe s2) X.xe s1) (X.pn ++ pins) (Ic CT CN txt E) ?_ [] s σ H D (I.vX _) h) (fun f s1 q=>?_) fun _ _ z=>z)
 ·rintro Q7 σ1 H1 s1 e s2 I1 cx
  refine land T.GL T.XC I1.jX cx fun a C dx T0 vs H2 s3 he I3 x3 h1 ft ne na nT Ha HT h2 z=>?_
  subst he
  obtain⟨e1,q⟩:=z
  cases e1
  have v2:vs[2]? =some .none:=h2.elim id (fun z=>absurd z jf)
  obtain⟨oe,Vl,O0,NI,Q8⟩:=id x3
  obtain⟨_,_,_,_,_,_,_,_,_,_,_,_,_,_,_,cT⟩:=kT.on
  obtain⟨nm,qn,N,bs,bm,sn,sub,ab,col,dd,k0,k1,k2,k3,k5,cN⟩:=M.ek.on
  have nw:=I1.jX.jV na
  have Vn: ∀p∈[(a,oe)],s3.heap.get? p.1=some p.2/\H2 p.1=none/\p.1≠X.env.locals/\p.1∉X.fs/\ ∀v,p.2.data≠ .cell v:=fun p hp=>by
   rw[ao.mp hp]
   exact⟨Vl,Ha,nw.2.1,I1.jX.EZ na,fun v z=>by rw[Q8] at z; cases z⟩
  have Im:=I3.JN (l:=[(a,oe)]) (.ref a) X.xe Vn
  refine wpAny_handleBy_cons (codeAny_handlers_test (jv Im hg hm ?_ hx)) (by intro q; cases q)
  obtain⟨hp,g,d,tk,os⟩:=s3
  refine xB (b:=true) (cT _ I3.gO).at_ (cT _ I3.gO).at_ x3 (cT _ I3.gO).b (by simp) ?_
  refine codeAny_handlers_suite ?_
  refine uQ x3 h1 ft fun h4 b4 t4 _=>?_
  have KU:=I1.jX.jV nT
  have I4:=Im.but (h':=h4) (own:=[T0]) (b4.mono (fun _ z=>absurd z (by simp)) (fun _ z=>z)) (fun c hc=>by
   rw[ao.mp hc]
   refine⟨HT,KU.1,KU.2.1,KU.2.2.1,fun p hp=>?_⟩
   rw[b9] at hp
   rcases bL.mp hp with hp|hp
   ·exact KU.2.2.2 p hp
   ·rw[ao.mp hp]
    exact ne.symm)
  refine wpAny_passesOwnAt (T.ownAt (some (.ref a))) ?_
  have ps:PS (X.JN (.ref a) (X.pn ++ pins ++ [(a,oe)]) X.xe) (.Raise (some (.Call (.Name "Needed" p2) [] [] gP)) (some (.Constant .none kk p3)) p4) (fun _ _ H=> ∀dx,H dx=none->E (.ref CN) (some dx) (upd H dx (.xd [("text",.str txt)]))):=by
   intro Md s6 σ6 H6 D6 J h6
   rw[arm_exec_Raise]
   refine ay (iy (Cw (C:=CN) (e0:=a) (nm:=nm) (q:=qn) (N:=N) (bs:=bs) (bm:=bm) (ow:=true) (sn:=sn) (sub:=sub) (ab:=ab) (col:=col) (dd:=dd) (k0:=k0) (k1:=k1) (k2:=k2) (k3:=k3) (k5:=k5) (newId:="Exception.__new__") (cN _ J.gO).b rfl (fun Rr s7 z=>ay (Constant_none (ay (iy (bM z))))) (ay (Ib (X:=X.JN (.ref a) (X.pn ++ pins ++ [(a,oe)]) X.xe) M (hr.mark _) ZU (by decide) J fun s7 e Vo t' he BV hz ZV I7 x7=>ay (iy (bM ?_))))))
   obtain⟨w1,_⟩:=I7.pin (a,oe) (df _ (bE _ (ao.mpr rfl)))
   have w0:=(J.pin (a,oe) (df _ (bE _ (ao.mpr rfl)))).1
   have ZW:e≠a:=fun q=>by
    rw[q] at he
    exact absurd (aO w0) (wX.mpr he)
   refine⟨e,some Vo,v0 t',.ref CT,some dx,vs,rfl,ZW,(cN _ I7.gO).at_,x7,rfl,rfl,⟨oe,w1,O0,NI,Q8⟩,v2,fun h8 b8 x8=>?_⟩
   have Hz:upd H6 Vo (.xd [("text",.str txt)]) e=none:=by
    rw[aA ZV.symm]
    exact hz
   have I8:=I7.but (h':=h8) (own:=[e]) (b8.mono (fun _ z=>absurd z (by simp)) (fun _ z=>z)) (fun c hc=>by
    rw[ao.mp hc]
    exact⟨Hz,J.jV he⟩)
   exact T.mi (Inv.Q4 I3 I8) x8 rfl (.inr M.XE) (a8 J.sz he) Hz (h6 Vo BV)
  refine cD (au ps [] _ _ H2 {nx:=fun _ _=>False,rt:=fun _ _=>False} I4 q) (fun f s9 z=>?_) fun _ _ z=>z
  cases f with
  |next=>obtain⟨_,_,_,z⟩:=z; exact z.elim
  |brk=>obtain⟨_,_,_,z⟩:=z; exact z.elim
  |cont=>obtain⟨_,_,_,z⟩:=z; exact z.elim
  |ret u=>obtain⟨_,_,_,_,_,z⟩:=z; exact z.elim
 ·have q':=SP.jX q
  cases f with
  |next=>exact jm q'
  |brk=>exact q'
  |cont=>exact q'
  |ret u=>exact q'
end
open PySem.W
def BMain (mg:Str->Option Value)(h:Heap):Prop:= ∃bm o,mg "__builtins__"=some (.ref bm)/\bm≠builtinsNs/\bm≠mainGlobals/\h.get? bm=some o/\o.cls= .type "module"/\o.dict=some builtinsNs/\o.data= .plain
abbrev xD (c:Addr)(qual:Str):HO:= .ext fun h=>h.CodeRec (.ref c) qual
theorem Ie {P:Program}{w:World}{H:Hp}{h:Heap}{c:Addr}{qual:Str}(x:h.CodeRec (.ref c) qual):dJ P w H h c (xD c qual):=by
 refine⟨x,?_,fun h1 h2 z k=>?_⟩
 ·obtain⟨c',o,vs,t,e,g,_⟩:=x
  cases e
  exact⟨o,g⟩
 ·obtain⟨c',o,vs,t,e,g,r⟩:=z
  cases e
  exact⟨c,o,vs,t,rfl,k o g,r⟩
def Tb (H:Hp)(P:Addr)(pos:Pos)(qual:Str):Prop:= ∃ps:Array Value,H P=some (.nQ ps)/\TriplesOk ps.toList/\(codeAmong pos ps.toList=none∨ ∃c',codeAmong pos ps.toList=some (.ref c')/\H c'=some (xD c' qual))
section
variable {X:Cx}{pins:List (Addr×Obj)}{σ:St}{H:Hp}{s:Shared}{c P:Addr}{params:Arguments}{body:Expr}{scope:Scope}{pos:Pos}{Q:Value->Shared->Prop}{xe:Value->Shared->Prop}
theorem BMain.at {mg:Str->Option Value}{h h':Heap}(B:BMain mg h)(k: ∀b o,h.get? b=some o->h'.get? b=some o){ps:Array Value}(hP:h'.get? P=some (tabObj ps)):h'.BuiltinsAt mg P:=by
 obtain⟨bm,o,b1,b2,b3,b4,b5,b6,b7⟩:=B
 refine⟨bm,o,b1,b2,b3,fun z=>?_,k _ _ b4,b5,b6,b7⟩
 have e:=k _ _ b4
 rw[z,hP] at e
 cases e
 cases b5
theorem Ig (I:Inv X pins σ H s)(B:BMain X.mg X.base)(DX:X.env.code= .ref c)(C:CodeHd X.base c P)(tb:Tb H P pos (X.env.qual ++ "<lambda>"))(NJ:defaultsOf params X.env=([],[]))(qz:closureFor scope X.env=pure [])
  (q: ∀(f c':Addr) (DY:Value) (H':Hp) (s':Shared),Inv X pins σ H' s'->Frame [P] H H'->Tb H' P pos (X.env.qual ++ "<lambda>")->H' f=none->s'.heap.get? f=some (kla_obj "<lambda>" (X.env.qual ++ "<lambda>") params body scope [] ((X.mg "__name__").getD .none) c' DY)->
   H' c'=some (xD c' (X.env.qual ++ "<lambda>"))->s.heap.objs.size<=f->Q (.ref f) s'):wpAny (model X.prog X.w) X.A (eval (.Lambda params body scope pos) X.env) Q xe s:=by
 obtain⟨ps,hP,ht,hc⟩:=tb
 have Tf:s.heap.get? P=some (tabObj ps):=I.cK P _ hP
 have hg:s.heap.Ns mainGlobals X.mg:=I.mod.glob.keeps I.bk
 have ZX:mainGlobals≠P:=fun z=>by
  obtain⟨o,es,ep,e,hd,_⟩:=hg
  rw[z,Tf] at e
  cases e
  cases hd
 have hB:=B.at I.bk Tf
 refine kla_eval NJ ?_
 rcases hc with hn|⟨c',hf,Tg⟩
 ·refine kla_makeFunction qz I.ok.glob hg DX (C.keeps I.bk) Tf ht hn ZX hB fun c' DY h' tk hx Nn iY Vp Pd=>?_
  have Vq:H c'=none:=I.cK.fresh Nn
  have cP:c'≠P:=fun z=>by rw[z,hP] at Vq; cases Vq
  have lt: ∀b o,s.heap.get? b=some o->b≠c':=fun b o z=>bc (bu (aO z) Nn)
  have same: ∀b,b≠P->b≠c'->upd (upd H P (.nQ (ps ++ #[rawInt pos.line,rawInt pos.col,.ref c']))) c' (xD c' (X.env.qual ++ "<lambda>")) b=H b:=fun b n1 n2=>by rw[aA n2,aA n1]
  have KW: ∀b u,H b=some u->u≠ .nQ ps->b≠P:=fun b u z n w=>by
   rw[w,hP] at z
   cases z
   exact n rfl
  have FH: ∀b u,H b=some u->b≠c':=fun b u z=>aN z Vq
  generalize Te:kla_obj "<lambda>" (X.env.qual ++ "<lambda>") params body scope [] ((X.mg "__name__").getD .none) c' DY=ob
  have hf:(h'.push ob).get? h'.objs.size=some ob:=by
   rw[← Te]
   exact bV _ rfl
  have kp: ∀b o,b≠P->s.heap.get? b=some o->(h'.push ob).get? b=some o:=fun b o n z=>ax _ (hx b o n z)
  have Q9:(h'.push ob).get? P=some (tabObj (ps ++ #[rawInt pos.line,rawInt pos.col,.ref c'])):=ax _ Pd
  have I2:Inv X pins σ (upd (upd H P (.nQ (ps ++ #[rawInt pos.line,rawInt pos.col,.ref c']))) c' (xD c' (X.env.qual ++ "<lambda>"))) {s with heap:=h'.push ob,toks:=tk}:=by
   refine I.un ⟨fun b o z n _ _=>kp b o (fun w=>by rw[w,hP] at n; cases n) z,fun b o z n _ _=>⟨o.slots,kp b o (fun w=>by rw[w,hP] at n; cases n) z⟩,fun b o z n _=>?_,fun b o z _=>?_,fun b xs z=>?_,fun b o u z=>?_,fun b qs z=>?_⟩ fun b u z=>?_
   ·rw[same b (fun w=>by rw[w,hP] at n; cases n) (lt b o z)]
    exact n
   ·by_cases w:b=P
    ·rw[w]
     exact⟨_,Q9⟩
    ·exact⟨o,kp b o w z⟩
   ·rw[same b (KW b _ z (by intro w; cases w)) (FH b _ z)]
    exact z
   ·rw[same b (KW b _ z (by intro w; cases w)) (FH b _ z)]
    exact z
   ·by_cases w:b=P
    ·rw[w] at z ⊢
     rw[hP] at z
     cases z
     exact⟨_,by rw[aA cP.symm,ag]⟩
    ·exact⟨#[],by rw[same b w (FH b _ z),z]; simp⟩
   ·by_cases w:b=c'
    ·subst w
     rw[ag] at z
     cases z
     exact Ie (Vp.push ob)
    ·rw[aA w] at z
     by_cases w2:b=P
     ·subst w2
      rw[ag] at z
      cases z
      exact Q9
     ·rw[aA w2] at z
      refine(I.cK b u z).sY (fun d o hd y=>kp d o (fun w3=>?_) y) (fun d y=>?_) fun d xs y=>?_
      ·rcases hd with hd|hd
       ·exact w2 (hd▸w3)
       ·rw[w3,hP] at hd
        cases hd
      ·rw[same d (KW d _ y (by intro w; cases w)) (FH d _ y)]
       exact y
      ·rw[same d (KW d _ y (by intro w; cases w)) (FH d _ y)]
       exact y
  have Ka:H h'.objs.size=none:=I.cK.fresh (a8 Nn (dU iY))
  refine q h'.objs.size c' DY _ _ I2 (fun b o nb z=>?_) ⟨ps ++ #[rawInt pos.line,rawInt pos.col,.ref c'],by rw[aA cP.symm,ag],?_,.inr ⟨c',?_,ag⟩⟩ ?_ (by rw[Te]; exact hf) ag (a8 Nn (dU iY))
  ·rw[same b (fun w=>nb (by rw[w]; exact ao.mpr rfl)) (FH b _ z)]
   exact z
  ·rw[Array.toList_append]
   exact TriplesOk_snoc _ _ _ _ ht
  ·rw[Array.toList_append]
   exact codeAmong_snoc _ ht hn
  ·rw[same _ (fun w=>by rw[w,hP] at Ka; cases Ka) (pS iY)]
   exact Ka
 ·refine kla_makeFunctionHit qz I.ok.glob hg DX (C.keeps I.bk) Tf ht hf hB fun DY h' tk hk hsz=>?_
  have I2:=(I.kept (t':=tk) (h':=h'.push (kla_obj "<lambda>" (X.env.qual ++ "<lambda>") params body scope [] ((X.mg "__name__").getD .none) c' DY)) fun b u z=>ax _ (hk b u z))
  exact q h'.objs.size c' DY H _ I2 Frame.refl ⟨ps,hP,ht,.inr ⟨c',hf,Tg⟩⟩ (I.cK.fresh hsz) (bV _ rfl) Tg hsz
theorem Ih {A:Around}{name qual:Str}{pm DY:Value}{f c':Addr}{N ps:List Str}{us:List Value}{vs:List V}{t:TE}{R:VK}(I:Inv X pins σ H s)(e0:qh X.prog X.w X.K X.mg X.base A X.stack s H)(Th:A.depth < recursionLimit)
  (ho:s.heap.get? f=some (kla_obj name qual params body scope [] pm c' DY)) (qZ:s.heap.CodeRec (.ref c') qual) (S:a0 N ps scope) (hb:bindArgs (kla_fn name qual params body scope [] pm (.ref c') DY) ⟨us,[]⟩=pure (ps.zip us)) (hl:vs.length=ps.length) (r:Vals vs us)
  (gp:PE (uS X.prog X.w X.K X.mg X.base N qual scope f (.ref c') A X.stack s H E0).E2 body t) (h:t (start N vs) H R):wpAny (model X.prog X.w) A (call (.ref f) us) (EP X pins σ R) xe s:=by
 have lim:s.heap.NoLimit:=I.nolimit
 have mJ: ∀y∈ps.zip us,scope.names.lookup y.1=some .local∨(scope.names.lookup y.1=some .cell/\((cellsFrom (s.heap.objs.size + 1) scope.names []).lookup y.1).isSome=true):=fun⟨n,v⟩ hy=>by
  rcases S.par n (og hy).1 with q|q
  ·exact .inl q
  ·exact .inr ⟨q,k6 _ _ _ (.inl q)⟩
 refine Dk (kla_callFunE Th ho rfl S.co S.gen rfl qZ ?_)
 rw[hb]
 refine bM ?_
 refine sW S.kind mJ fun env he s1 y=>?_
 subst he
 refine⟨lim.keeps y.toInCall.keep,kla_codeExpr ?_⟩
 have J:Inv (uS X.prog X.w X.K X.mg X.base N qual scope f (.ref c') A X.stack s H E0) [] (start N vs) H s1:=uT S e0 hl r y
 refine cD (gp [] s1 (start N vs) H R (J.ug _) h) (fun v s' hs=>?_) fun e s' hs=>hs.elim
 obtain⟨v',H',J',rv,q'⟩:=hs
 exact I.after ⟨v',H',J'.os,J'.bare,J'.base,J'.cK,rv,q'⟩
end
section
variable {X:Cx}{pins:List (Addr×Obj)}{σ:St}{H:Hp}{s:Shared}
theorem Inv.Ra {D:Addr}{o:HO}(I:Inv X pins σ H s)(hn:H D=none)(ok:dJ X.prog X.w (upd H D o) s.heap D o)(nw:(D∈X.ex∨X.s₀.heap.objs.size<=D)/\D≠X.env.locals/\(∀x k,X.env.cells.lookup x=some k->k≠D)/\ ∀p∈X.pn ++ pins,p.1≠D)
  (hx:X.s₀.heap.objs.size<=D):Inv X pins σ (upd H D o) s:=by
 have off: ∀b u,H b=some u->b≠D:=fun b u z=>aN z hn
 have low: ∀b ob,X.s₀.heap.get? b=some ob->b≠D:=fun b ob z=>bc (bu (aO z) hx)
 refine⟨I.ok,I.os,I.bare,⟨I.base.keep,I.base.slot,fun b ob z n hb=>?_,I.base.there,fun b xs z=>?_,fun b ob u z=>?_,fun b ps z=>?_⟩,I.loc,I.cell,?_,fun x k z=>?_,fun p hp=>?_,fun b u z=>?_,I.len⟩
 ·rw[aA (low b ob z)]
  exact I.base.free b ob z n hb
 ·have w:=I.base.qa b xs z
  rw[aA (off b _ w)]
  exact w
 ·have w:=I.base.o4 b ob u z
  rw[aA (off b _ w)]
  exact w
 ·obtain⟨m,w⟩:=I.base.o5 b ps z
  exact⟨m,by rw[aA (off b _ w)]; exact w⟩
 ·rw[aA nw.2.1.symm]
  exact I.free
 ·rw[aA (nw.2.2.1 x k z)]
  exact I.iP x k z
 ·obtain⟨w1,w2,w3⟩:=I.pin p hp
  exact⟨w1,by rw[aA (nw.2.2.2 p hp)]; exact w2,w3⟩
 ·by_cases q:b=D
  ·subst q
   rw[ag] at z
   cases z
   exact ok
  ·rw[aA q] at z
   exact(I.cK b u z).sY (fun _ _ _ w=>w) (fun d w=>by rw[aA (off d _ w)]; exact w) fun d xs w=>by rw[aA (off d _ w)]; exact w
theorem Frame.ZY {K:PySem.W.Frag}{fp:List Addr}{H H':Hp}{a:Addr}{xs:List V}(f:Frame fp H H')(h:bP K H a xs)(ha: ∀o,H a=some o->a∉fp):bP K H' a xs:=by
 rcases h with(h|⟨o,h⟩)|h
 ·exact .inl (.inl (f _ _ (ha _ h) h))
 ·exact .inl (.inr ⟨o,f _ _ (ha _ h) h⟩)
 ·exact .inr h
theorem Tb.upd {P:Addr}{pos:Pos}{qual:Str}{p:Addr}{o:HO}(t:Tb H P pos qual)(hp:H p=none):Tb (upd H p o) P pos qual:=by
 obtain⟨ps,h1,h2,h3⟩:=t
 refine⟨ps,by rw[aA (aN h1 hp)]; exact h1,h2,?_⟩
 rcases h3 with h3|⟨c',h3,h4⟩
 ·exact .inl h3
 ·exact .inr ⟨c',h3,by rw[aA (aN h4 hp)]; exact h4⟩
theorem Frame.new {fp:List Addr}{H H':Hp}{p:Addr}{o:HO}(f:Frame fp H H')(hp:H' p=none):Frame fp H (L2.upd H' p o):=fun b u hb z=>by
 have w:=f b u hb z
 rw[aA (aN w hp)]
 exact w
end
def Me (K:PySem.W.Frag)(P:Addr)(pos:Pos)(qual:Str)(N:List Str)(tb:TE)(Q:VK)(x:V)(H1:Hp):Prop:= ∃(a:Addr) (xs:List V) (ts:List (List Int)) (key:List Int->Int),x= .ref a/\bP K H1 a xs/\xs.length < 64/\ts.length=xs.length/\Tb H1 P pos qual/\
 (∀t∈ts,t≠[])/\(∀t∈ts,∀u∈ts,HT.lexLt t u=decide (key t < key u))/\
 (∀i,i < xs.length-> ∀H2,Frame [P] H1 H2-> ∀R:VK,(∀p,H2 p=none->R (.ref p) (upd H2 p (.tup ((ts.getD i []).map V.int))))->tb (start N [xs.getD i .eI]) H2 R)/\
 ∀(D:Addr) (p:List Nat) (H2:Hp),p.Perm (List.range xs.length)->p.Pairwise (fun i j=>key (ts.getD i [])<=key (ts.getD j []))->Frame [P] H1 H2->Tb H2 P pos qual->H1 D=none->H2 D=some (.lst (p.map fun i=>xs.getD i .eI))->Q (.ref D) H2
def Ij (K:PySem.W.Frag)(P:Addr)(pos:Pos)(qual:Str)(N:List Str)(ta tb:TE):TE:=fun σ H Q=>ta σ H (Me K P pos qual N tb Q)
theorem gr.snoc {H:Hp}: ∀{ts:List (List Int)} {xs:List V} {t:List Int} {p:Addr},gr H ts xs->H p=some (.tup (t.map V.int))->gr H (ts ++ [t]) (xs ++ [.ref p])
 |_,_,_,p,.nil,h=> .cons ⟨p,rfl,h⟩ .nil
 |_,_,_,p,.cons a r,h=> .cons a (gr.snoc r h)
theorem take_succ_getD {α:Type}{l:List α}{i:Nat}{d:α}(h:i < l.length):l.take (i + 1)=l.take i ++ [l.getD i d]:=by
 rw[zS,af h,ak,af h]
 rfl
section
variable {X:Cx}{c P:Addr}{params:Arguments}{body e:Expr}{scope:Scope}{p pos Ik Qf:Pos}{ta tb:TE}{N:List Str}{y:Str}
theorem uU (hg:Gl X "sorted")(hm:X.mg "sorted"=none)(B:BMain X.mg X.base)(DX:X.env.code= .ref c)(C:CodeHd X.base c P)(hr:fE 1 X.A)(S:a0 N [y] scope)
  (gp: ∀(f c':Addr) (A:Around) (s:Shared) (H:Hp),PE (uS X.prog X.w X.K X.mg X.base N (X.env.qual ++ "<lambda>") scope f (.ref c') A X.stack s H E0).E2 body tb) (ha:PE X e ta)
  (hb: ∀(pm DY u:Value) (c':Addr),bindArgs (kla_fn "<lambda>" (X.env.qual ++ "<lambda>") params body scope [] pm (.ref c') DY) ⟨[u],[]⟩=pure ([y].zip [u]):=by intros; rfl)
  (NJ:defaultsOf params X.env=([],[]):=by rfl) (qz:closureFor scope X.env=pure []:=by rfl)
  (he:backTo pos (starEach [e] X.env)=(false,eval e X.env) :: backTo pos (starEach [] X.env):=by rfl)
  (hs:starEach [e] X.env=(false,eval e X.env) :: starEach [] X.env:=by rfl) (Cj:(backTo pos (starEach [e] X.env)).any (·.1)=false:=by rfl):
  PE X (.Call (.Name "sorted" p) [e] [⟨some "key",.Lambda params body scope Ik,Qf⟩] pos) (Ij X.K P Ik (X.env.qual ++ "<lambda>") N ta tb):=by
 intro pins s σ H Q I h
 refine eL (o6 I hg hm (u:= .builtin "sorted") (by rfl) ?_)
 refine PyProof.Rows.callWith_kw (eh ((aa ha aj hs) pos pins s σ H (fun vs H1=>match vs with|[x]=>Me X.K P Ik (X.env.qual ++ "<lambda>") N tb Q x H1|_=>False) I h) fun us s1 h1=>?_) he Cj rfl rfl
 obtain⟨vs,H1,I1,rv,q1⟩:=h1
 cases vs with
 |nil=>exact q1.elim
 |cons x vs=>
 cases vs with
 |cons _ _=>exact q1.elim
 |nil=>
 obtain⟨a,xs,ts,key,rfl,hS,BS,iY,XG,jf,Hh,ZZ,fin⟩:=q1
 obtain⟨u,rfl,ru⟩:=vals1 rv
 obtain rfl:u=Value.ref a:=ru
 show wpAny _ _ (evalAll [(do let v ← eval (.Lambda params body scope Ik) X.env; standAt pos; pure v)]) _ _ s1
 refine wpAny_evalAll_cons (ay (Ig I1 B DX C XG NJ qz fun f c' DY H2 s2 I2 XH Z0 Ka NH Tg hle=>ay (iy (bM (wpAny_evalAll_nil ?_)))))
 show wpAny _ _ (call (.builtin "sorted") [.ref a] [(Str.ofString "key",.ref f)]) _ _ s2
 have aP: ∀o,H1 a=some o->a∉[P]:=fun o z w=>by
  obtain⟨ps,hP,_⟩:=XG
  have w':=ao.mp w
  rcases hS with(hS|⟨_,hS⟩)|⟨ob,_,_,hK,qz,_⟩
  ·rw[w',hP] at hS; cases hS
  ·rw[w',hP] at hS; cases hS
  ·have e1:=I1.gO _ _ hK
   have e2:s1.heap.get? P=some _:=I1.cK P _ hP
   rw[w',e2] at e1
   cases e1
   cases qz
 have NK:=XH.ZY hS aP
 obtain⟨cy,Vr,pl,hz⟩:=I2.list NK
 have hl:=Vr.length
 have lf:f < s2.heap.objs.size:=aO NH
 have Vk:s1.heap.objs.size<=s2.heap.objs.size:=a8 hle (dU lf)
 refine sortedK pl.isList (by omega) fun D kS e1 h' kp d1 k1 XI Pe Ti=>?_
 have I3:=I2.kept (t':=s2.toks) kp
 have HD:H2 D=none:=I2.cK.fresh Pe
 have HK:H2 kS=none:=I2.cK.fresh Ti
 have Mf:=I2.jV Pe
 have NL:=I2.jV Ti
 have Z1:=I1.jV hle
 have fD:f≠D:=bc (bu lf Pe)
 have fK:f≠kS:=bc (bu lf Ti)
 have dp:X.A.in1.in1.depth < recursionLimit:=hr.depth
 generalize Rb:kla_obj "<lambda>" (X.env.qual ++ "<lambda>") params body scope [] ((X.mg "__name__").getD .none) c' DY=Pf at NH
 have loop: ∀(r:List Value) (i:Nat) (ks:List Value) (br:List V) (Hi:Hp) (si:Shared),r=cy.drop i->i<=xs.length->Inv X (pins ++ [(f,Pf),(D,seqObj "list" #[] e1)]) σ Hi si->(∃e,si.heap.get? kS=some (seqObj "list" ks.toArray e))->Hi kS=none->
   Frame [P] H1 Hi->Tb Hi P Ik (X.env.qual ++ "<lambda>")->Hi c'=some (xD c' (X.env.qual ++ "<lambda>"))->gr Hi (ts.take i) br->Vals br ks->
   sE X.prog X.w X.A.in1.in1 kS (.ref f) (Fy X.prog X.w X.A.in1.in1 D kS e1 cy (fun s'=>EP X pins σ Q (.ref D) s')) r ks si:=by
  intro r
  induction r with
  |nil=>
   intro i ks br Hi si hr hi Ii hk KY Tj Vs Tn hT rk
   have ei:i=xs.length:=by
    have:=c8 List.length hr
    rw[vI,mr] at this
    omega
   have JO:gr Hi ts br:=by rwa [ei,← iY,bh] at hT
   have lk:br.length=xs.length:=by have:=JO.length; omega
   have lk2:=rk.length
   obtain⟨w1,w2,_⟩:=Ii.pin (D,seqObj "list" #[] e1) (List.mem_append_right _ (List.mem_append_right _ (by simp)))
   refine⟨tuples' true,fun i=>key (ts.getD i []),XI,w1,fun h2 Q' q'=>?_,fun a b C ha hb q'=>?_,fun pr h5 n Rc Z2 hsz Z3 DZ=>?_⟩
   ·obtain⟨fs,f1,f2,f3⟩:=rK Ii (fun _ _ z=>z) JO rk jf
    refine kat_kind (T:= .type "int") f1 (by omega) (fun v hv=>?_) rfl q'
    obtain⟨n,t,rfl⟩:=f3 v hv
    exact Looks.of_pure rfl
   ·obtain⟨p1,g1,g2⟩:=JO.get (i:=a) (by omega)
    obtain⟨p2,g3,g4⟩:=JO.get (i:=b) (by omega)
    have v1:=jD rk a
    have v2:=jD rk b
    rw[g1] at v1
    rw[g3] at v2
    have Z4:ks.getD a Value.none= .ref p1:=v1
    have Z5:ks.getD b Value.none= .ref p2:=v2
    rw[Z4,Z5]
    obtain⟨o1,U0,n1,Ft,Zu,lU,QK⟩:=Ii.tupI g2
    obtain⟨o2,Fd,n2,O6,KA,hd2,QL⟩:=Ii.tupI g4
    refine kat_lt Ft lU O6 hd2 ?_
    have l1:=QK.length
    have l2:=QL.length
    have m1:ts.getD a []∈ts:=by rw[ak,af (show a < ts.length by omega)]; exact bQ _
    have m2:ts.getD b []∈ts:=by rw[ak,af (show b < ts.length by omega)]; exact bQ _
    have kx:=mQ (prog:=X.prog) (w:=X.w) (A:=X.A.in1.in1) (b:=true) (Q:=C) (s:=si) 0 QK QL (by rw[Hh _ m1 _ m2]; exact q')
    rw[bJ,bJ,l1,l2]
    exact kx
   ·have In:=Ii.jd
    have bt:mV (B6 X.stack) [D,kS] si.heap h5:=fun b o z nb=>by
     have n1:b≠D:=fun w=>nb (by simp[w])
     have n2:b≠kS:=fun w=>nb (by simp[w])
     have e:=(DZ b n1 n2).trans z
     exact⟨fun _=>e,o.slots,e⟩
    have I5:=In.but bt (fun cc hc=>by
     rcases aw.mp hc with rfl|hc
     ·exact⟨w2,Mf⟩
     ·rw[ao.mp hc]
      exact⟨KY,NL⟩)
    have mh:=Rc.size
    have I6:=I5.Ra (D:=D) (o:= .lst (pr.toList.map fun i=>xs.getD i .eI)) w2 ⟨by rw[ae,oj,mh]; exact a8 (iJ hl.symm) hz,_,n,rJ Vr pr.toList,Z3⟩ Mf (a8 I2.sz Pe)
    refine⟨.ref D,_,I6,rfl,fin D pr.toList _ ?_ ?_ (Tj.new w2) (Vs.upd w2) (I1.cK.fresh (a8 Vk Pe)) ag⟩
    ·have:=Rc.list
     rwa [← hl] at this
    ·exact sv mh Z2
  |cons v r ih=>
   intro i ks br Hi si hr hi Ii hk KY Tj Vs Tn hT rk
   have vD:i < xs.length:=by
    have:=c8 List.length hr
    rw[cz,mr] at this
    omega
   have hv:v=cy.getD i Value.none/\r=cy.drop (i + 1):=by
    rw[MI (by omega)] at hr
    injection hr with h1 h2
    refine⟨?_,h2⟩
    rw[h1,ak,af (by omega)]
    rfl
   obtain⟨hv,Vt⟩:=hv
   obtain⟨ek,hk⟩:=hk
   have Ip:Inv X (pins ++ [(f,Pf),(D,seqObj "list" #[] e1)] ++ [(kS,seqObj "list" ks.toArray ek)]) σ Hi si:=Ii.tS fun p hp=>by
    rcases bL.mp hp with hp|hp
    ·exact Ii.pin p (bE _ hp)
    ·rw[ao.mp hp]
     exact⟨hk,KY,NL.2.1,I2.EZ Ti,fun v z=>by cases z⟩
   have Vu:si.heap.get? f=some Pf:=(Ip.pin (f,Pf) (List.mem_append_right _ (List.mem_append_left _ (List.mem_append_right _ (by simp))))).1
   have qZ:si.heap.CodeRec (.ref c') (X.env.qual ++ "<lambda>"):=(Ip.cK c' _ Tn).1
   have XJ:=jD Vr i
   rw[← hv] at XJ
   show wpAny _ _ (call (.ref f) [v]) _ _ si
   refine cD (Ih (us:=[v]) (vs:=[xs.getD i .eI]) (R:=fun y H'=> ∃p,y= .ref p/\Hi p=none/\H'=upd Hi p (.tup ((ts.getD i []).map V.int))) (xe:=fun _ _=>False) Ip Ip.Hn.in1.in1 dp (by rw[Vu,← Rb]) qZ S (hb _ _ _ _) rfl (.cons XJ .nil) (gp _ _ _ _ _)
    (ZZ i vD Hi Tj _ fun p hp=>⟨p,rfl,hp,rfl⟩)) (fun u s5 h5=>?_) fun _ _ z=>z
   obtain⟨y,H5,I5,ry,pp,rfl,GU,rfl⟩:=h5
   obtain rfl:u=Value.ref pp:=ry
   obtain⟨z1,z2,_⟩:=I5.pin (kS,seqObj "list" ks.toArray ek) (List.mem_append_right _ (List.mem_append_right _ (by simp)))
   refine⟨ek,z1,fun h6 cc sb Z6=>?_⟩
   have I6:Inv X (pins ++ [(f,Pf),(D,seqObj "list" #[] e1)]) σ _ _:=Inv.jd I5
   have I7:=I6.turned (t':=s5.toks) (it:=kS) (h':=h6) (fun b o n z=>(sb.2 b n).trans z) z2 NL.2.1 NL.1 NL.2.2.1 (fun p hp=>by
    rcases bL.mp hp with hp|hp
    ·exact NL.2.2.2 p (df _ hp)
    ·rcases bL.mp hp with hp|hp
     ·exact NL.2.2.2 p (bE _ hp)
     ·rcases aw.mp hp with rfl|hp
      ·exact fK
      ·rw[ao.mp hp]
       exact XI)
   have Z7:c'≠pp:=aN Tn GU
   refine ih (i + 1) (ks ++ [.ref pp]) (br ++ [.ref pp]) _ _ Vt vD I7 ⟨cc,Z6⟩ z2 (Tj.new GU) (Vs.upd GU) (by rw[aA Z7]; exact Tn) ?_ (rk.append (show Vals [V.ref pp] [Value.ref pp] from .cons rfl .nil))
   rw[take_succ_getD (d:=[]) (by omega)]
   exact gr.snoc (hT.mono fun b xs z=>by rw[aA (aN z GU)]; exact z) ag
 have Ip:Inv X (pins ++ [(f,Pf),(D,seqObj "list" #[] e1)]) σ H2 {s2 with heap:=h'}:=I3.tS fun p hp=>by
  rcases bL.mp hp with hp|hp
  ·exact I3.pin p (bE _ hp)
  ·rcases aw.mp hp with rfl|hp
   ·exact⟨kp _ _ NH,Ka,Z1.2.1,I1.EZ hle,fun v z=>by rw[← Rb] at z; cases z⟩
   ·rw[ao.mp hp]
    exact⟨d1,HD,Mf.2.1,I2.EZ Pe,fun v z=>by cases z⟩
 exact loop cy 0 [] [] H2 _ rfl (bF _) Ip ⟨0,k1⟩ HK XH Z0 Tg .nil .nil
end
theorem FI {P:Program}{w:World}{K:PySem.W.Frag}{mg mb:Str->Option Value}{CX:E9}{k:Nat}{fa a:Addr}{fd:FuncData}{x:Str}{sp:Sp}{s₁:Shared}{vs:List Value}{ns:List Int}{cps:List (Addr×Addr)}
  (KX:K.In s₁.heap) (XM:s₁.heap.Ns mainGlobals mg) (hb:s₁.heap.Ns builtinsNs mb) (Z8: ∀x:Str,x≠"__name__"->mb x=bootBuiltins x) (Vv:s₁.heap.NoLimit) (hg:s₁.gens= #[])
  (ha:s₁.heap.get? a=some {cls:= .type "list",data:= .seq vs.toArray}) (hi:IntsAre vs ns) (hl:ns.length<=sizeLine) (hr:fE k callerA)
  (bm:BMain mg s₁.heap) (Pd: ∀cp∈cps,s₁.heap.get? cp.2=some (tabObj #[])) (Rf: ∀cp∈cps,codeHdIn K cp.1 cp.2=true/\K.lookup cp.2=none)
  (F: ∀base:Heap,K.In base->base.Ns mainGlobals mg->BMain mg base->lP P w K mg base CX k fa fd [x] sp) (Rg: ∀(s:Shared) (u:Value),BindsTo s fd ⟨[u],[]⟩ [(x,u)])
  (yh: ∀H:Hp,(∀cp∈cps,H cp.2=some (.nQ #[]))->bP K H a (ns.map V.int)->sp [.ref a] H (fun v _=>v= .bl true) fun _ _ _=>False)
  (Z9: ∀H e s',CX [] H s₁ (fun _ _ _=>False) e s'->False):
  codeAny (model P w) callerA (.call (.ref fa) ⟨[.ref a],[]⟩) (fun r s'=>r= .ok (.ret (.bool true))/\OldK s₁.heap s'.heap/\s'.os=s₁.os/\AllBare s'.gens) s₁:=by
 have rv:=xn hi
 have Rh:=hi.length
 have aT: ∀cp∈cps,cp.2≠a:=fun cp hc z=>by
  have e:=Pd cp hc
  rw[z,ha] at e
  cases e
 have core: ∀H:Hp,(∀b,H b=none∨(b=a/\H b=some (.BR {cls:= .type "list",data:= .seq vs.toArray} (.lst (ns.map V.int)))/\K.lookup a=none)∨ ∃cp∈cps,b=cp.2/\H b=some (.nQ #[]))->(∀cp∈cps,H cp.2=some (.nQ #[]))->bP K H a (ns.map V.int)->
   codeAny (model P w) callerA (.call (.ref fa) ⟨[.ref a],[]⟩) (fun r s'=>r= .ok (.ret (.bool true))/\OldK s₁.heap s'.heap/\s'.os=s₁.os/\AllBare s'.gens) s₁:=by
  intro H hO hT hS
  have cK:oq P w H s₁.heap:=fun b u z=>by
   rcases hO b with w|⟨rfl,w,_⟩|⟨cp,hc,rfl,w⟩
   ·rw[z] at w; cases w
   ·rw[z] at w
    cases w
    exact⟨ha,by rw[ae]; exact hl,vs,_,rv,ha⟩
   ·rw[z] at w
    cases w
    exact Pd cp hc
  have yB: ∀{b:Addr} {o:Obj},s₁.heap.get? b=some o->H b=none->(vL s₁.heap H).get? b=some o:=fun e n=>G6 e n
  have XN: ∀{b:Addr} {o:Obj},s₁.heap.get? b=some o->((∃es ep,o.data= .dict es ep)∨o.data= .plain)->H b=none:=fun{b o} e d=>by
   rcases hO b with w|⟨rfl,w,_⟩|⟨cp,hc,rfl,w⟩
   ·exact w
   ·rw[ha] at e
    cases e
    rcases d with⟨es,ep,d⟩|d <;> cases d
   ·rw[Pd cp hc] at e
    cases e
    rcases d with⟨es,ep,d⟩|d <;> cases d
  have To: ∀{b:Addr} {m:Str->Option Value},s₁.heap.Ns b m->(vL s₁.heap H).Ns b m:=fun{b m} ⟨o,es,ep,e,d,r⟩=>⟨o,es,ep,yB e (XN e (.inl ⟨es,ep,d⟩)),d,r⟩
  have XO:K.In (vL s₁.heap H):=fun b o e=>yB (KX b o e) (by
   rcases hO b with w|⟨rfl,w,hk⟩|⟨cp,hc,rfl,w⟩
   ·exact w
   ·rw[hk] at e; cases e
   ·rw[(Rf cp hc).2] at e; cases e)
  have hBb:BMain mg (vL s₁.heap H):=by
   obtain⟨b,o,b1,b2,b3,b4,b5,b6,b7⟩:=bm
   exact⟨b,o,b1,b2,b3,yB b4 (XN b4 (.inr b7)),b5,b6,b7⟩
  have hM:Mod K mg (vL s₁.heap H):=⟨XO,To XM,⟨mb,To hb,Z8⟩,let⟨mc,h1,h2⟩:=Vv; ⟨mc,To h1,h2⟩⟩
  have e0:qh P w K mg (vL s₁.heap H) callerA [] s₁ H:=⟨rfl,hM,fun b o e=>JZ e,Nat.le_of_eq (EY _ _),trivial,fun b hb=>absurd (show b∈([]:List Addr) from hb) (by simp),cK,.of_eq hg⟩
  refine BZ ((F _ XO (To XM) hBb).run callerA [] s₁ H ⟨[.ref a],[]⟩ [.ref a] [.ref a] _ _ hr e0 (Rg s₁ (.ref a)) (.cons rfl .nil) (yh H hT hS)) fun r s' h=>?_
  cases r with
  |error e=>exact(Z9 H e s' h).elim
  |ok fl=>
   cases fl with
   |next=>exact False.elim h
   |brk=>exact False.elim h
   |cont=>exact False.elim h
   |ret u=>
    obtain⟨v,H',os,bare,un,Ri,r',q⟩:=h
    have q':v= .bl true:=q
    subst q'
    obtain rfl:u=Value.bool true:=r'
    have old: ∀b o,s₁.heap.get? b=some o->asItWas s₁.heap s'.heap b o:=fun b o e=>by
     rcases hO b with z|⟨rfl,z,_⟩|⟨cp,hc,rfl,z⟩
     ·exact .inl (un.keep b o e z (by intro w; exact absurd (show b∈([]:List Addr) from w) (by simp)) (by simp))
     ·have z2:=un.o4 b _ _ z
      obtain⟨e2,_⟩:=Ri b _ z2
      rw[ha] at e
      cases e
      exact .inl e2
     ·obtain⟨more,z2⟩:=un.o5 _ _ z
      have e2:s'.heap.get? cp.2=some (tabObj (#[] ++ more)):=Ri _ _ z2
      have e1:=Pd cp hc
      rw[e1] at e
      cases e
      obtain⟨oc,ws,_,_,_,_,_,_,_,c1,c2,c3,c4,_⟩:=codeHd_of_K KX (Rf cp hc).1
      exact .inr (.inl ⟨⟨cp.1,oc,ws,c1,c2,c3,c4⟩,rfl,#[],more,rfl,e2⟩)
    refine⟨rfl,⟨old,fun b o e=>?_⟩,os,bare⟩
    exact un.there b o e (by simp)
 cases hk:K.lookup a with
 |some o=>
  have e:=KX a o hk
  rw[ha] at e
  cases e
  refine core (fun b=>if b∈cps.map (·.2) then some (.nQ #[]) else none) (fun b=>?_) (fun cp hc=>if_pos (List.mem_map.mpr ⟨cp,hc,rfl⟩)) (.inr ⟨_,vs.toArray,_,hk,rfl,rfl,rfl,by rw[List.size_toArray,Rh]; exact hl,by simpa using rv⟩)
  by_cases hb:b∈cps.map (·.2)
  ·obtain⟨cp,hc,rfl⟩:=bN.mp hb
   exact .inr (.inr ⟨cp,hc,rfl,bg hb⟩)
  ·exact .inl (aV hb)
 |none=>
  have na:a∉cps.map (·.2):=fun h=>by
   obtain⟨cp,hc,z⟩:=bN.mp h
   exact aT cp hc z
  refine core (fun b=>if b=a then some (.BR {cls:= .type "list",data:= .seq vs.toArray} (.lst (ns.map V.int))) else if b∈cps.map (·.2) then some (.nQ #[]) else none) (fun b=>?_) (fun cp hc=>?_) (.inl (.inr ⟨{cls:= .type "list",data:= .seq vs.toArray},bg rfl⟩))
  ·by_cases h1:b=a
   ·exact .inr (.inl ⟨h1,by rw[bg h1],hk⟩)
   ·by_cases hb:b∈cps.map (·.2)
    ·obtain⟨cp,hc,rfl⟩:=bN.mp hb
     exact .inr (.inr ⟨cp,hc,rfl,by rw[aV h1,bg hb]⟩)
    ·exact .inl (by rw[aV h1,aV hb])
  ·show(if cp.2=a then _ else if cp.2∈cps.map (·.2) then _ else _)=_
   rw[aV (aT cp hc),bg (bN.mpr ⟨cp,hc,rfl⟩)]
theorem Il {l:PySem.W.OpenLaw}{n k:Nat}{q:Program}{loose:List Str}{XP:(Str->Option Value)->Heap->Prop}{YP:World->Heap->Prop}{d:DefRec}{K:Params->PySem.W.Frag}{ts:List Addr}{sp:PySem.W.Frag->List (Addr×Addr)->Sp}{x:Str}
  (hn:l.most=some n) (SX:n<=sizeLine) (UM:d.params.defaults=[]) (hr:fE k callerA)
  (hY: ∀(w:World) (h:Heap),YP w h->(K w.params).In h/\ ∀P∈ts,h.get? P=some (tabObj #[]))
  (F: ∀(w:World) (mg:Str->Option Value) (fa:Addr) (h:Heap),(K w.params).In h->h.Ns mainGlobals mg->mg d.name=some (.ref fa)->
   ∃(fd:FuncData) (cps:List (Addr×Addr)),(∀cp∈cps,cp.2∈ts)/\(∀cp∈cps,codeHdIn (K w.params) cp.1 cp.2=true/\(K w.params).lookup cp.2=none)/\(∀(s:Shared) (u:Value),BindsTo s fd ⟨[u],[]⟩ [(x,u)])/\
    ∀base:Heap,(K w.params).In base->base.Ns mainGlobals mg->BMain mg base->lP l.prog w (K w.params) mg base sq k fa fd [x] (sp (K w.params) cps))
  (yh: ∀(K:PySem.W.Frag) (cps:List (Addr×Addr)) (H:Hp) (a:Addr) (ns:List Int),ns.length<=n->(∀cp∈cps,H cp.2=some (.nQ #[]))->bP K H a (ns.map V.int)->sp K cps [.ref a] H (fun v _=>v= .bl true) fun _ _ _=>False):
  PySem.W.WalkO q loose XP YP l.row.toRowW d [] (fun f vs=>PySem.call f vs):=by
 refine Xk.Ao hn UM fun w s₀ s₁ mg mb fa o pm cd doc a vs ns G Y ho hd qZ Qw Nf hints hlen hg=>?_
 obtain⟨KX,hT⟩:=hY w _ Y
 obtain⟨fd,cps,h1,h2,hb,hF⟩:=F w mg fa _ KX G.T.g Qw
 obtain⟨bm,ob,b1,b2,b3,b4,b5,b6⟩:=G.T.bmain
 have b7:bm≠mainGlobals:=fun z=>by
  obtain⟨o',es,ep,e,GN,_⟩:=G.T.g
  rw[z,e] at b3
  cases b3
  rw[GN] at b6
  cases b6
 exact FI KX G.T.g G.T.b G.T.builtins G.T.nolimit hg Nf hints (a8 hlen SX) hr ⟨bm,ob,b1,b2,b7,b3,b4,b5,b6⟩ (fun cp hc=>hT _ (h1 cp hc)) h2 hF hb (fun H hO hS=>yh _ cps H a ns hlen hO hS) fun H e s' z=>z
end L2
namespace eQ
open PySem L2 PyProof.Rows KI
seal L2.pV L2.PS L2.PE L2.PT L2.PW L2.PA L2.PC L2.PG L2.Kc L2.PI L2.L4 L2.Ku L2.PO L2.oF L2.MW L2.je L2.JI L2.O5
def top (i:Nat):Stmt:=PySem.Challenge.pw_spikebook_k04_answers.main.body.getD i (.Pass ⟨0,0,0,0⟩)
structure Txt (K:PySem.W.Frag)(mg:Str->Option Value):Prop where
 Cz:Df K mg "place_of" (top 1)
 NM:Df K mg "fits" (top 15)
 vY:Df K mg "counts_from" (top 16)
 FJ:Df K mg "bills_in_order" (top 17)
 CA:Df K mg "credits_in_order" (top 18)
 KZ:Df K mg "alike" (top 20)
 vZ:Df K mg "first_alike" (top 21)
 yC:Df K mg "shared_out" (top 22)
 CB:Df K mg "parts_of" (top 23)
 uV:Df K mg "check_amount" (top 26)
 v7:Df K mg "row_of_fits" (top 27)
 NN:Df K mg "done" (top 30)
 yD:Df K mg "done_again" (top 31)
 FK:Df K mg "answers" (top 33)
 yE:Df K mg "answers_in" (top 34)
 AD:Df K mg "answer_of" (top 35)
 FL:Df K mg "owed_at" (top 36)
 FN:Df K mg "free_at" (top 37)
 uW:Df K mg "remaining_at" (top 38)
 v8:Df K mg "counting_at" (top 39)
 AE:Df K mg "counts_at" (top 40)
 FO:Df K mg "ages_at" (top 41)
 AF:Df K mg "_law_room" (top 43)
 AG:Df K mg "_law_draw" (top 44)
 yF:Df K mg "_law_whole" (top 45)
 yG:Df K mg "_law_alike" (top 46)
 v9:Df K mg "_law_people" (top 47)
 wa:Df K mg "_law_penned" (top 48)
 wb:Df K mg "_law_chosen" (top 49)
 yH:Df K mg "_law_hasty" (top 50)
 wc:Df K mg "_law_due_in" (top 51)
 yI:Df K mg "_law_deeds" (top 52)
 yJ:Df K mg "_law_begun" (top 53)
 AH:Df K mg "_law_goes" (top 54)
 CC:Df K mg "_law_put" (top 55)
 uX:Df K mg "_law_in_turn" (top 56)
 yK:Df K mg "_law_swept" (top 57)
 we:Df K mg "_law_barred" (top 58)
 yL:Df K mg "_law_enter" (top 59)
 wg:Df K mg "_law_worked" (top 60)
 yM:Df K mg "_law_tells" (top 61)
 AI:Df K mg "_law_done" (top 62)
 wj:Df K mg "_law_at_day" (top 63)
 AJ:Df K mg "_law_aged" (top 64)
 tu:Df K mg "_law_reported" (top 65)
 XQ:Df K mg "law" (top 66)
 en:mg "len"=none
 dB:mg "isinstance"=none
 uY:mg "int"=none
 NO:mg "bool"=none
 D0:mg "str"=none
 rQ:mg "list"=none
 tV:mg "tuple"=none
 l4:mg "range"=none
 Io:mg "min"=none
 Mg:mg "max"=none
 Iq:mg "sum"=none
 qA:mg "sorted"=none
 jh:mg "enumerate"=none
 NP:mg "dict"=none
 AK:mg "Exception"=none
end eQ
namespace L2
open PySem PySem.Spec PySem.W PyProof.Rows KI
structure Vw (P:Program)(w:World)(K:PySem.W.Frag)(mg:Str->Option Value)(base:Heap)(k:Nat)(fa:Addr)(sp:Sp):Prop where
 ex: ∃(fd:FuncData) (ps:List Str),lP P w K mg base sq k fa fd ps sp/\PySem.W.keepIn K (.ref fa)=true/\Binds K fd ps []
theorem fb.XR {P:Program}{w:World}{K:PySem.W.Frag}{mg:Str->Option Value}{base:Heap}{x:Str}{k:Nat}{ps:List Str}{sp:Sp}(C:fb P w K mg base x k ps sp): ∃fa,mg x=some (.ref fa)/\Vw P w K mg base k fa sp:=by
 obtain⟨f,fd,F,hm,hk,hb⟩:=C.ex
 exact⟨f,hm,⟨fd,ps,F,hk,hb⟩⟩
section
variable {X:Cx}{x:Str}{i k:Nat}{e:Expr}{es:List Expr}{t:TA}{p pos:Pos}
def NQ (P:Program)(w:World)(K:PySem.W.Frag)(mg:Str->Option Value)(base:Heap)(k i:Nat)(t:TA):TE:=fun σ H Q=> ∃fa sp,σ[i]? =some (some (.ref fa))/\Vw P w K mg base k fa sp/\t σ H fun vs H1=>sp vs H1 Q E0
theorem NR (hr:fE k X.A)(hN:X.N[i]? =some x)(hv:PM X.env.scope x)(ha:PA X (e :: es) t)(hd:(x == ("__debug__":Str))=false:=by decide)(qZ:(x == ("__classdict__":Str))=false:=by decide)
  (he:starEach (e :: es) X.env=(false,eval e X.env) :: starEach es X.env:=by rfl) (iL:(backTo pos (starEach es X.env)).any (·.1)=false:=by rfl):PE X (.Call (.Name x p) (e :: es) [] pos) (NQ X.prog X.w X.K X.mg X.base k i t):=by
 rintro pins s σ H Q I ⟨fa,sp,e1,⟨fd,ps,F,hk,hb⟩,h⟩
 refine eL (eh (B7 hN hv hd qZ pins s σ H (fun v H'=>v= .ref fa/\H'=H) I ⟨_,e1,rfl,rfl⟩) ?_)
 rintro u s1 ⟨v,H1,I1,rv,rfl,rfl⟩
 obtain rfl:u=Value.ref fa:=rv
 refine km (h₀:=X.base) I.ok.mod.J0 hk (eh (ha pos pins s1 σ H1 _ I1 h) fun us s2 ⟨vs,H2,I2,r,q⟩=>⟨I2.gO,?_⟩) he iL
 exact yg F hr hb .nil mM I2 r (by rw[b9]; exact q)
end
theorem AL {X:Cx}:je X (.type "dict") (fun xs H Q=> ∃a br,xs=[.ref a]/\H a=some (.dK br)/\ ∀p,H p=none->Q (.ref p) (upd H p (.dK br))):=by
 intro pins s σ H xs us Q I r h
 obtain⟨a,br,rfl,e,q⟩:=h
 obtain⟨u,rfl,ru⟩:=vals1 r
 cases ru
 exact HC I (.inl e) fun p s' hp I'=>⟨.ref p,_,I',rfl,q p hp⟩
def D3 (P:Program)(w:World)(d:Addr)(br:List (Key×V))(φ:Heap->Prop):Prop:=(∀(H:Hp) (h:Heap),φ h->dJ P w H h d (.dK br))/\ ∀q:Str,φ≠fun h=>h.CodeRec (.ref d) q
def Rj (P:Program)(w:World)(td:TE)(g:TG)(tb:TS):TS:=fun D σ H=>td σ H fun v H1=> ∃d br,v= .ref d/\H1 d=some (.dK br)/\ ∀φ,D3 P w d br φ->
 ∃W:Nat->Nat->St->Hp->Prop,(∃m,W 0 m σ (upd H1 d (.ext φ)))/\ ∀i m σ' H',W i m σ' H'->H' d=some (.ext φ)/\((br.length<=i/\D.nx σ' (upd H' d (.dK br)))∨
  ∃x,(br.map (·.2))[i]? =some x/\ ∃N:St->Hp->Prop,(∀Kv GQ,N Kv GQ-> ∃m',m' < m/\W (i + 1) m' Kv GQ)/\g x σ' H' fun σ2 H2=>tb {D with nx:=N,ct:=N,bk:=fun _ _=>False} σ2 H2)
theorem K0 {X:Cx}{tg o:Expr}{apos gP pos:Pos}{body:List Stmt}{td:TE}{g:TG}{tb:TS}(hp:PassesOwn (model X.prog X.w) X.A X.env X.xe)(hc:X.calm=true)(ho:PE X o td)(hg:PG X tg g)(hb:pV X body tb)
  (uo:attributeBase o "values" X.env (eval o X.env)=eval o X.env:=by rfl) (Aj:(apos.endLine == gP.line)=true:=by rfl)
  (hs: ∀x,foldedSetIterable (.Call (.Attribute o "values" apos) [] [] gP) X.env x=pure x:=by intro _; rfl):PS X (.For tg (.Call (.Attribute o "values" apos) [] [] gP) body [] pos) (Rj X.prog X.w td g tb):=by
 intro pins s σ H D I h
 refine wpAny_For (wpAny_Call_method0_late uo Aj (eh (ho pins s σ H _ I h) ?_)) hs
 rintro u s1 ⟨v,H1,I1,rv,d,br,rfl,ed,h⟩
 obtain rfl:u=Value.ref d:=rv
 obtain⟨hz,hd,vs,rel,dd⟩:=DA I1.cK ed
 refine⟨"dict","dict.values",PySem.F.plainAttrs_dict,OY,PySem.F.type_dict_values,dd.typeIs,dd.mapOf.noDict,iT rfl (PySem.evalArgs_none ?_)⟩
 refine call_meetsIn OY dd.typeIs PySem.F.entry_dict_values (PySem.F.args_dict_values_1 _) (meets_dict_values (dZ X.prog X.w) d hd) ⟨⟨vs,dd⟩,?_⟩
 have I2:=I1.kept (t':=s1.toks) (h':=s1.heap.push {cls:= .type "dict_values",data:= .fields #[.ref d]}) (fun b ob e=>ax _ e)
 obtain⟨ep,da⟩:=dd.dictAt
 obtain⟨od,es,NI,r⟩:=id da
 have Vx: ∀h:Heap,h.get? d=some od->h.DictAt (dZ X.prog X.w) d vs ep:=fun h e=>⟨od,es,e,r⟩
 have XS:D3 X.prog X.w d br (fun h=>h.get? d=some od):=⟨fun H h e=>⟨hz,hd,vs,rel,⟨od,es,ep,e,r⟩⟩,fun q z=>by
  have z1:(s1.heap.get? d=some od)=s1.heap.CodeRec (.ref d) q:=congrFun z s1.heap
  obtain⟨c,o,Vj,t,e1,e2,e3,_⟩:=Eq.mp z1 NI
  cases e1
  rw[NI] at e2
  cases e2
  rw[r.2.1] at e3
  cases e3⟩
 obtain⟨W,⟨m0,w0⟩,turn⟩:=h _ XS
 generalize XT:s1.heap.push {cls:= .type "dict_values",data:= .fields #[.ref d]}=h2 at I2
 have hv2:h2.IsValuesView s1.heap.objs.size d:=by
  rw[← XT]
  exact⟨_,bV _ rfl,rfl,rfl⟩
 have Rk:h2.get? d=some od:=by
  rw[← XT]
  exact ax _ NI
 refine wpAny_pyIter_values (knd:=dZ X.prog X.w) hv2 (Vx _ Rk) ?_
 have I3:=I2.kept (t':=s1.toks) (h':=h2.push {cls:= .type "dict_valueiterator",data:= .fields #[.ref d,.int 0 0,.int vs.length 0,.int ep 0]}) (fun b ob e=>ax _ e)
 have NS:(h2.push {cls:= .type "dict_valueiterator",data:= .fields #[.ref d,.int 0 0,.int vs.length 0,.int ep 0]}).IsValIter h2.objs.size d 0 vs.length ep:=⟨_,bV _ rfl,rfl,rfl⟩
 have K1:(h2.push {cls:= .type "dict_valueiterator",data:= .fields #[.ref d,.int 0 0,.int vs.length 0,.int ep 0]}).get? d=some od:=ax _ Rk
 have BU:H1 h2.objs.size=none:=I2.cK.fresh (aC _)
 have jf:d≠h2.objs.size:=aN ed BU
 have Vy:=I2.E3 (aC _) BU
 generalize h2.push {cls:= .type "dict_valueiterator",data:= .fields #[.ref d,.int 0 0,.int vs.length 0,.int ep 0]}=h3 at I3 NS K1
 generalize h2.objs.size=it at NS BU jf Vy
 have I4:Inv X pins σ (upd H1 d (.ext fun h=>h.get? d=some od)) {s1 with heap:=h3}:=by
  refine I3.write (x:=d) (e:=d) (t':=s1.toks) (h':=h3) (by rw[ed]; exact True.intro) (.inl rfl) (fun _ _ _ q=>q) ⟨od,K1⟩ ?_
  exact⟨K1,⟨od,K1⟩,fun h1 h2 q k=>k od q⟩
 have fit:upd H1 d (.ext fun h=>h.get? d=some od) it=none:=by
  rw[aA jf.symm]
  exact BU
 have Rh:vs.length=br.length:=(aQ rel).symm
 refine codeAny_forLoop_any (fun n s'=> ∃i σ' H',Inv X pins σ' H' s'/\s'.heap.IsValIter it d i vs.length ep/\H' it=none/\W i n σ' H') ?_ m0 ⟨0,σ,_,I4,NS,fit,w0⟩
 rintro n s5 ⟨i,σ5,H5,I5,XU,O3,w5⟩
 obtain⟨e5,tn⟩:=turn i n σ5 H5 w5
 have Vz:s5.heap.get? d=some od:=(I5.cK d _ e5).1
 have f5:uh X pins H5 it:=⟨O3,Vy.2⟩
 obtain⟨f0,f1,f2,f3,f4,f6⟩:=f5
 rcases tn with⟨hle,qn⟩|⟨x,hx,N,hN,step⟩
 ·refine dW hp (wpAny_pyNext_values_end (knd:=dZ X.prog X.w) (I5.ok.hd hc) XU (Vx _ Vz) (by rw[pY]; omega) fun h6 eb=>?_)
  have I6:Inv X pins σ5 H5 {s5 with heap:=h6}:=I5.turned (t':=s5.toks) (fun b o hb e=>eb b o hb e) f0 f1 f3 f4 f6
  have XW:h6.get? d=some od:=eb d od jf Vz
  have I7:=I6.write (x:=d) (e:=d) (t':=s5.toks) (h':=h6) (o:= .dK br) (by rw[e5]; exact True.intro) (.inl rfl) (fun _ _ _ q=>q) ⟨od,XW⟩ (XS.1 _ _ XW)
  exact jm ⟨σ5,_,I7,qn⟩
 ·rw[aB] at hx
  obtain⟨kv,Tp,rfl⟩:=bG.mp hx
  obtain⟨ku,hku,e1,ru⟩:=bR rel Tp
  obtain⟨k1,u⟩:=ku
  refine dW hp (wpAny_pyNext_values_item (knd:=dZ X.prog X.w) XU (Vx _ Vz) hku fun h6 it6 sb=>?_)
  have I6:Inv X pins σ5 H5 {s5 with heap:=h6}:=I5.turned (t':=s5.toks) (fun b o hb e=>(sb.2 b hb).trans e) f0 f1 f3 f4 f6
  obtain⟨oi,Ft,O6,VA⟩:=id it6
  refine dW hp (Dp (s:={s5 with heap:=h6}) Ft O6 VA (by decide +kernel) ?_)
  have I6':Inv X (pins ++ o9 [it] h6) σ5 H5 {s5 with heap:=h6}:=I6.pinned (fun b hb=>by rw[ao.mp hb]; exact⟨O3,Vy.2⟩) (fun b hb=>by
   rw[ao.mp hb]
   exact⟨oi,Ft,fun v z=>by rw[VA] at z; cases z⟩)
  refine dW hp (eh (hg _ _ σ5 H5 kv.2 u _ I6' ru step) fun _ s7 ⟨σ7,H7,I7,q7⟩=>?_)
  refine dW hp (eh (hb _ s7 σ7 H7 _ I7 q7) fun f s8 q8=>?_)
  have again: ∀{σ8:St} {H8:Hp},Inv X (pins ++ o9 [it] h6) σ8 H8 s8->N σ8 H8-> ∃m,m < n/\ ∃i σ' H',Inv X pins σ' H' s8/\s8.heap.IsValIter it d i vs.length ep/\H' it=none/\W i m σ' H':=fun{σ8 H8} I8 n8=>by
   obtain⟨m',hm,w8⟩:=hN σ8 H8 n8
   have pn:=I8.pin (it,oi) (List.mem_append_right _ (List.mem_append_right _ (jM (by simp) Ft)))
   exact⟨m',hm,i + 1,σ8,H8,I8.jd,⟨oi,pn.1,O6,VA⟩,pn.2.1,w8⟩
  cases f with
  |next=>obtain⟨σ8,H8,I8,n8⟩:=q8; exact again I8 n8
  |cont=>obtain⟨σ8,H8,I8,n8⟩:=q8; exact again I8 n8
  |brk=>obtain⟨σ8,H8,I8,q8⟩:=q8; exact q8.elim
  |ret v=>obtain⟨x8,σ8,H8,I8,r8,q8⟩:=q8; exact⟨x8,σ8,H8,I8.jd,r8,q8⟩
theorem Ir {P:Program}{w:World}{td:TE}{g:TG}{tb:TS}{D:Ends}{σ:St}{H1:Hp}{d:Addr}{br:List (Key×V)}(ed:H1 d=some (.dK br))
  (h: ∀φ,D3 P w d br φ-> ∃Pv:Nat->St->Hp->Prop,Pv 0 σ (upd H1 d (.ext φ))/\(∀i σ' H',Pv i σ' H'->H' d=some (.ext φ))/\(∀i x σ' H',(br.map (·.2))[i]? =some x->Pv i σ' H'->g x σ' H' fun σ2 H2=>tb {D with nx:=Pv (i + 1),ct:=Pv (i + 1),bk:=fun _ _=>False} σ2 H2)/\
   ∀σ' H',Pv br.length σ' H'->D.nx σ' (upd H' d (.dK br))):
  ∃d' Iu,V.ref d= .ref d'/\H1 d'=some (.dK Iu)/\ ∀φ,D3 P w d' Iu φ->
 ∃W:Nat->Nat->St->Hp->Prop,(∃m,W 0 m σ (upd H1 d' (.ext φ)))/\ ∀i m σ' H',W i m σ' H'->H' d'=some (.ext φ)/\((Iu.length<=i/\D.nx σ' (upd H' d' (.dK Iu)))∨
  ∃x,(Iu.map (·.2))[i]? =some x/\ ∃N:St->Hp->Prop,(∀Kv GQ,N Kv GQ-> ∃m',m' < m/\W (i + 1) m' Kv GQ)/\g x σ' H' fun σ2 H2=>tb {D with nx:=N,ct:=N,bk:=fun _ _=>False} σ2 H2):=by
 refine⟨d,br,rfl,ed,fun φ hφ=>?_⟩
 obtain⟨Pv,p0,pk,ps,pe⟩:=h φ hφ
 refine⟨fun i m σ' H'=>m=br.length - i/\i<=br.length/\Pv i σ' H',⟨br.length,by simp,Nat.zero_le _,p0⟩,?_⟩
 rintro i m σ' H' ⟨rfl,hi,p⟩
 refine⟨pk i σ' H' p,?_⟩
 by_cases iY:i < br.length
 ·have hg:(br.map (·.2))[i]? =some br[i].2:=by rw[aB,af iY]; rfl
  exact .inr ⟨_,hg,Pv (i + 1),fun Kv GQ p'=>⟨br.length - (i + 1),by omega,rfl,iY,p'⟩,ps i _ σ' H' hg p⟩
 ·have e:i=br.length:=by omega
  subst e
  exact .inl ⟨aC _,pe σ' H' p⟩
theorem mW {α:Type}(f:α->Int): ∀(l2 l1:List α),l1.Perm l2->l1.Pairwise (fun a b=>f a<=f b)->l2.Pairwise (fun a b=>f a < f b)->l1=l2
 |[],l1,p,_,_=>List.Perm.eq_nil p
 |b :: l2,[],p,_,_=>absurd p.length_eq (by simp)
 |b :: l2,a :: l1,p,h1,h2=>by
  rw[fm] at h1 h2
  have hb:b∈a :: l1:=p.mem_iff.mpr bT
  have e:a=b:=by
   rcases aw.mp (p.mem_iff.mp (bT (a:=a) (l:=l1))) with e|ha
   ·exact e
   ·rcases aw.mp hb with e|hb
    ·exact e.symm
    ·have z1:=h1.1 b hb
     have z2:=h2.1 a ha
     omega
  subst e
  rw[mW f l2 l1 (List.Perm.cons_inv p) h1.2 h2.2]
theorem K2 {x y:Int×Nat}(hx:x.2 < 1000)(hy:y.2 < 1000)(h:tq x=tq y):x.2=y.2:=by
 unfold tq at h
 omega
theorem AM {l:List (Int×Nat)}(h: ∀x∈l,x.2 < 1000)(nd:(l.map (·.2)).Nodup):(eE l).Pairwise (fun a b=>tq a < tq b):=by
 have p:=dr l
 have Tq:((eE l).map (·.2)).Nodup:=(p.map (·.2)).nodup_iff.mpr nd
 have h': ∀x∈eE l,x.2 < 1000:=fun x hx=>h x (p.mem_iff.mp hx)
 have le:=uE l
 generalize eE l=m at Tq h' le
 induction m with
 |nil=>exact .nil
 |cons a m ih=>
  rw[fm] at le ⊢
  rw[di,fP] at Tq
  refine⟨fun b hb=>?_,ih Tq.2 (fun x hx=>h' x (bz _ hx)) le.2⟩
  have z:=le.1 b hb
  have n:tq a≠tq b:=fun e=>Tq.1 (by
   rw[K2 (h' a bT) (h' b (bz _ hb)) e]
   exact bN.mpr ⟨b,hb,rfl⟩)
  omega
def tw (t:List Int):Int:=t.getD 0 0 * 1000 + t.getD 1 0
theorem qB {x y:Int×Nat}{u v:List Int}(hx:x.2 < 1000)(hy:y.2 < 1000)(h:x.2=y.2->u=v/\x=y)(hs:HT.lexLt u u=false):HT.lexLt (x.1 :: (x.2:Int) :: u) (y.1 :: (y.2:Int) :: v)=decide (tw (x.1 :: (x.2:Int) :: u) < tw (y.1 :: (y.2:Int) :: v)):=by
 show _ =decide (x.1 * 1000 + (x.2:Int) < y.1 * 1000 + (y.2:Int))
 rw[HT.lR]
 by_cases c:x.1=y.1
 ·rw[bg c,HT.lR]
  by_cases d:x.2=y.2
  ·rw[bg (by omega),← (h d).1,hs,bA (by omega)]
  ·rw[aV (by omega)]
   exact mw.mpr (by omega)
 ·rw[aV c]
  exact mw.mpr (by omega)
theorem sF {ks:List (Int×Nat)}{g:Int×Nat->List Int}{us:List (List Int)}(h: ∀x∈ks,x.2 < 1000)(nd:(ks.map (·.2)).Nodup)(hg: ∀x∈ks,tw (g x)=tq x)(p:us.Perm (ks.map g))(le:us.Pairwise (fun t u=>tw t<=tw u)):us=(eE ks).map g:=by
 refine mW tw _ _ (p.trans ((dr ks).map g).symm) le ?_
 rw[rn]
 refine(AM h nd).imp_of_mem fun{a b} ha hb z=>?_
 rw[hg a ((dr ks).mem_iff.mp ha),hg b ((dr ks).mem_iff.mp hb)]
 exact z
theorem dI.tk {H H':Hp}{sd:Addr}{S:Bk}{f:fN}(h:dI H sd S f)(k:Frame f.fp H H'):cW H H':=fun b xs e=>k b _ (fun hb=>by
 obtain⟨ms,m1,_⟩:=h.hm
 unfold fN.fp at hb
 rcases aw.mp hb with rfl|hb
 ·rw[h.hb] at e; cases e
 ·rcases aw.mp hb with rfl|hb
  ·rw[h.hc] at e; cases e
  ·rcases aw.mp hb with rfl|hb
   ·rw[m1] at e; cases e
   ·have rows: ∀(rs:List Rw) (ps:List Addr),fh H rs ps->b∈ps->False:=fun rs ps hr hp=>by
     obtain⟨i,hi⟩:=yd hp
     have iY:i < rs.length:=by
      rw[hr.length]
      exact(av.mp hi).1
     obtain⟨q,e1,e2⟩:=hr.at iY
     rw[e1] at hi
     cases hi
     rw[e2] at e
     cases e
    rcases bL.mp hb with hb|hb
    ·exact rows _ _ h.rb hb
    ·exact rows _ _ h.rc hb) e
theorem Frame.l5 {fp:List Addr}{H1 H2 H3:Hp}(a:aD H1 H2)(b:Frame fp H2 H3):Frame fp H1 H3:=fun x o hx e=>b x o hx (a x o e)
theorem Frame.dE {fp:List Addr}{H1 H2 H3:Hp}(a:Frame fp H1 H2)(b:aD H2 H3):Frame fp H1 H3:=fun x o hx e=>b x o (a x o hx e)
theorem Frame.tr {fp:List Addr}{H1 H2 H3:Hp}(a:Frame fp H1 H2)(b:Frame fp H2 H3):Frame fp H1 H3:=fun x o hx e=>b x o hx (a x o hx e)
def xy.dt:xy->Dt
 | .int i=> .int i
 | .txt s=> .str s
 | .sets l=> .lst (l.map fun t=> .tup [.int t.1,.int t.2.1,.int t.2.2])
 | .pairs l=> .lst (l.map fun t=> .tup [.int t.1,.int t.2])
 | .ints l=> .lst (l.map Dt.int)
theorem il.NT {H:Hp}: ∀{ms:List (Nat×Nat×Int)} {vs:List V},il H ms vs->g8 H (ms.map fun t=> .tup [.int t.1,.int t.2.1,.int t.2.2]) vs
 |_,_,.nil=>dA.mpr rfl
 |_,_,.cons ⟨p,e,q⟩ t=>by
  subst e
  exact bW.mpr ⟨_,_,rfl,fM q (bW.mpr ⟨_,_,rfl,dM.mpr rfl,bW.mpr ⟨_,_,rfl,dM.mpr rfl,bW.mpr ⟨_,_,rfl,dM.mpr rfl,dA.mpr rfl⟩⟩⟩),il.NT t⟩
def fN.kr (f:fN)(p:Addr):fN:={f with iw:=f.iw ++ [p]}
def fN.iu (f:fN)(p:Addr):fN:={f with cps:=f.cps ++ [p]}
theorem fN.Iv (f:fN)(p:Addr):(f.kr p).fp.Perm (p :: f.fp):=by
 show(f.pb :: f.pc :: f.pm :: ((f.iw ++ [p]) ++ f.cps)).Perm (p :: f.pb :: f.pc :: f.pm :: (f.iw ++ f.cps))
 have h:((f.iw ++ [p]) ++ f.cps).Perm (p :: (f.iw ++ f.cps)):=by
  rw[gF]
  exact List.perm_middle
 exact(((h.cons f.pm).trans (List.Perm.swap _ _ _)).cons f.pc |>.trans (List.Perm.swap _ _ _)).cons f.pb |>.trans (List.Perm.swap _ _ _)
theorem fN.D4 (f:fN)(p:Addr):(f.iu p).fp.Perm (p :: f.fp):=by
 show(f.pb :: f.pc :: f.pm :: (f.iw ++ (f.cps ++ [p]))).Perm (p :: f.pb :: f.pc :: f.pm :: (f.iw ++ f.cps))
 have h:(f.iw ++ (f.cps ++ [p])).Perm (p :: (f.iw ++ f.cps)):=by
  rw[← gF]
  exact List.perm_append_singleton _ _
 exact(((h.cons f.pm).trans (List.Perm.swap _ _ _)).cons f.pc |>.trans (List.Perm.swap _ _ _)).cons f.pb |>.trans (List.Perm.swap _ _ _)
theorem dI.off {H:Hp}{sd D:Addr}{S:Bk}{f:fN}(h:dI H sd S f)(n:H D=none):D∉f.fp:=fun z=>by
 obtain⟨ms,m1,_⟩:=h.hm
 have rows: ∀(rs:List Rw) (ps:List Addr),fh H rs ps->D∈ps->False:=fun rs ps hr hp=>by
  obtain⟨i,hi⟩:=yd hp
  have iY:i < rs.length:=by
   rw[hr.length]
   exact(av.mp hi).1
  obtain⟨q,e1,e2⟩:=hr.at iY
  rw[e1] at hi
  cases hi
  rw[n] at e2
  cases e2
 unfold fN.fp at z
 rcases aw.mp z with rfl|z
 ·have:=h.hb; rw[n] at this; cases this
 rcases aw.mp z with rfl|z
 ·have:=h.hc; rw[n] at this; cases this
 rcases aw.mp z with rfl|z
 ·rw[n] at m1; cases m1
 rcases bL.mp z with z|z
 ·exact rows _ _ h.rb z
 ·exact rows _ _ h.rc z
section
variable {H:Hp}{sd pr:Addr}{S:Bk}{f:fN}{r:Rw}
theorem dI.kr (h:dI H sd S f)(n:H pr=none):dI (upd (upd H pr (.lst r.vs)) f.pb (.lst (f.iw.map V.ref ++ [.ref pr]))) sd (S.kr r) (f.kr pr):=by
 have s1:aD H (upd H pr (.lst r.vs)):=aD.new n
 have h1:=h.same s1
 have g1:upd H pr (.lst r.vs) pr=some (.lst r.vs):=ag
 have np:=h.off n
 have K3:sd≠pr:=aN h.dict n
 generalize upd H pr (.lst r.vs)=H1 at s1 h1 g1
 obtain⟨d1,d2,d3,d4,d5,d6,d7⟩:=fN.QP h.nd
 obtain⟨ms,m1,m2⟩:=h1.hm
 have es:sd≠f.pb:=fun z=>h.ns (by rw[z]; simp[fN.fp])
 have ep:pr≠f.pb:=fun z=>np (by rw[z]; simp[fN.fp])
 refine⟨by rw[aA es]; exact h1.dict,?_,by rw[show(f.kr pr).pc=f.pc from rfl,aA d1.symm]; exact h1.hc,⟨ms,by rw[show(f.kr pr).pm=f.pm from rfl,aA d2.symm]; exact m1,m2.mono (fT h1.hb)⟩,?_,?_,?_,?_⟩
 ·show upd H1 f.pb _ f.pb=some (.lst ((f.iw ++ [pr]).map V.ref))
  rw[ag,aR]; rfl
 ·exact cQ (h1.rb.ip fun z=>(d4 _ z).1 rfl) (by rw[aA ep]; exact g1)
 ·exact h1.rc.ip fun z=>(d5 _ z).1 rfl
 ·exact(f.Iv pr).nodup_iff.mpr (fP.mpr ⟨np,h.nd⟩)
 ·intro z
  rcases aw.mp ((f.Iv pr).mem_iff.mp z) with z|z
  ·exact K3 z
  ·exact h.ns z
theorem dI.iu (h:dI H sd S f)(n:H pr=none):dI (upd (upd H pr (.lst r.vs)) f.pc (.lst (f.cps.map V.ref ++ [.ref pr]))) sd (S.iu r) (f.iu pr):=by
 have s1:aD H (upd H pr (.lst r.vs)):=aD.new n
 have h1:=h.same s1
 have g1:upd H pr (.lst r.vs) pr=some (.lst r.vs):=ag
 have np:=h.off n
 have K3:sd≠pr:=aN h.dict n
 generalize upd H pr (.lst r.vs)=H1 at s1 h1 g1
 obtain⟨d1,d2,d3,d4,d5,d6,d7⟩:=fN.QP h.nd
 obtain⟨ms,m1,m2⟩:=h1.hm
 have es:sd≠f.pc:=fun z=>h.ns (by rw[z]; simp[fN.fp])
 have ep:pr≠f.pc:=fun z=>np (by rw[z]; simp[fN.fp])
 refine⟨by rw[aA es]; exact h1.dict,by rw[show(f.iu pr).pb=f.pb from rfl,aA d1]; exact h1.hb,?_,⟨ms,by rw[show(f.iu pr).pm=f.pm from rfl,aA d3.symm]; exact m1,m2.mono (fT h1.hc)⟩,?_,?_,?_,?_⟩
 ·show upd H1 f.pc _ f.pc=some (.lst ((f.cps ++ [pr]).map V.ref))
  rw[ag,aR]; rfl
 ·exact h1.rb.ip fun z=>(d4 _ z).2.1 rfl
 ·exact cQ (h1.rc.ip fun z=>(d5 _ z).2.1 rfl) (by rw[aA ep]; exact g1)
 ·exact(f.D4 pr).nodup_iff.mpr (fP.mpr ⟨np,h.nd⟩)
 ·intro z
  rcases aw.mp ((f.D4 pr).mem_iff.mp z) with z|z
  ·exact K3 z
  ·exact h.ns z
end
structure ej where
 d9:Addr
 eo:Addr
 work:Addr
 book:Addr
 refusal:Addr
 jY:Addr
 pH:Addr
 jG:Addr
 iG:Addr
 tooEarly:Addr
 tooMuch:Addr
 jH:Addr
 i8:Addr
def eF (H:Hp)(p C:Addr)(fs:List (Str×V)):Prop:= ∃dx,H p=some (.ins C dx fs)
theorem eF.same {H H':Hp}{p C:Addr}{fs:List (Str×V)}(h:eF H p C fs)(s:aD H H'):eF H' p C fs:=let⟨dx,e⟩:=h; ⟨dx,s _ _ e⟩
theorem eF.frame {H H':Hp}{p C:Addr}{fs:List (Str×V)}{fp:List Addr}(h:eF H p C fs)(s:Frame fp H H')(n:p∉fp):eF H' p C fs:=let⟨dx,e⟩:=h; ⟨dx,s _ _ n e⟩
def sG (c:Int):V:=if c= -1 then .eI else .int c
def fF (i:Nat)(r:Rw):List (Str×V):=[("number",.int i),("who",.str r.aL),("day",.int r.a),("due",.int r.b),("amount",.int r.c)]
def fj (i:Nat)(r:Rw):List (Str×V):=[("number",.int i),("who",.str r.aL),("day",.int r.a),("amount",.int r.b),("only",sG r.c)]
section
variable (i:Nat)(r:Rw)
theorem lx:(fF i r).lookup ("number":Str)=some (V.int i):=by rfl
theorem CD:(fF i r).lookup ("who":Str)=some (V.str r.aL):=by rfl
theorem NU:(fF i r).lookup ("day":Str)=some (V.int r.a):=by rfl
theorem Iw:(fF i r).lookup ("due":Str)=some (V.int r.b):=by rfl
theorem nW:(fj i r).lookup ("number":Str)=some (V.int i):=by rfl
theorem Iy:(fj i r).lookup ("who":Str)=some (V.str r.aL):=by rfl
theorem Iz:(fj i r).lookup ("day":Str)=some (V.int r.a):=by rfl
theorem K4:(fj i r).lookup ("only":Str)=some (sG r.c):=by rfl
end
structure eO where
 pb:Addr
 pc:Addr
 pl:Addr
 pf:Addr
 pm:Addr
 iw:List Addr
 cps:List Addr
def eO.fp (f:eO):List Addr:=[f.pb,f.pc,f.pl,f.pf,f.pm]
def ly (f:eO):List (Str×V):=[("bills",.ref f.pb),("all_credits",.ref f.pc),("lefts",.ref f.pl),("frees",.ref f.pf),("made",.ref f.pm)]
theorem ji (f:eO):(ly f).lookup ("bills":Str)=some (V.ref f.pb):=by rfl
theorem hX (f:eO):(ly f).lookup ("all_credits":Str)=some (V.ref f.pc):=by rfl
theorem lz (f:eO):(ly f).lookup ("lefts":Str)=some (V.ref f.pl):=by rfl
theorem lA (f:eO):(ly f).lookup ("frees":Str)=some (V.ref f.pf):=by rfl
theorem D5 (f:eO):(ly f).lookup ("made":Str)=some (V.ref f.pm):=by rfl
def gw (H:Hp)(C:Addr)(fs:Nat->Rw->List (Str×V))(rows:List Rw)(ps:List Addr):Prop:=ps.length=rows.length/\ ∀i p,ps[i]? =some p->eF H p C (fs i (rows.getD i default))
theorem gw.keep {H H':Hp}{C:Addr}{fs:Nat->Rw->List (Str×V)}{rows:List Rw}{ps:List Addr}(h:gw H C fs rows ps)(k: ∀p dx gs,H p=some (.ins C dx gs)->H' p=some (.ins C dx gs)):gw H' C fs rows ps:=
 ⟨h.1,fun i p e=>let⟨dx,z⟩:=h.2 i p e; ⟨dx,k _ _ _ z⟩⟩
theorem gw.get {H:Hp}{C:Addr}{fs:Nat->Rw->List (Str×V)}{rows:List Rw}{ps:List Addr}(h:gw H C fs rows ps){i:Nat}(hi:i < rows.length): ∃p,ps[i]? =some p/\eF H p C (fs i (rows.getD i default)):=by
 have iY:i < ps.length:=by rw[h.1]; exact hi
 exact⟨ps[i],af iY,h.2 i _ (af iY)⟩
theorem gw.rows {H:Hp}{C:Addr}{fs:Nat->Rw->List (Str×V)}{rows iC:List Rw}{ps:List Addr}(h:gw H C fs rows ps)(hl:iC.length=rows.length)(e: ∀i,fs i (iC.getD i default)=fs i (rows.getD i default)):gw H C fs iC ps:=
 ⟨h.1.trans hl.symm,fun i p z=>by rw[e]; exact h.2 i p z⟩
theorem gw.add {H:Hp}{C p:Addr}{fs:Nat->Rw->List (Str×V)}{rows:List Rw}{r:Rw}{ps:List Addr}(h:gw H C fs rows ps)(n:eF H p C (fs rows.length r)):gw H C fs (rows ++ [r]) (ps ++ [p]):=by
 refine⟨by rw[aK,aK,h.1]; rfl,fun i q e=>?_⟩
 by_cases hi:i < ps.length
 ·rw[MG hi] at e
  rw[getD_snoc (by rw[← h.1]; exact hi)]
  exact h.2 i q e
 ·rw[oY (by omega)] at e
  have e0:i - ps.length=0:=by
   have:=(av.mp e).1
   simp at this
   omega
  rw[e0] at e
  obtain rfl:p=q:=by simpa using e
  obtain rfl:i=rows.length:=by have:=h.1; omega
  rw[getD_last]
  exact n
structure dP (A:ej)(H:Hp)(pw:Addr)(S:Bk)(f:eO):Prop where
 obj:eF H pw A.work (ly f)
 hb:H f.pb=some (.lst (f.iw.map V.ref))
 hc:H f.pc=some (.lst (f.cps.map V.ref))
 hl:H f.pl=some (.lst (S.aH.map fun r=>V.int r.d))
 hf:H f.pf=some (.lst (S.credits.map fun r=>V.int r.d))
 hm: ∃ms,H f.pm=some (.lst ms)/\il H S.made ms
 rb:gw H A.d9 fF S.aH f.iw
 rc:gw H A.eo fj S.credits f.cps
 nd:f.fp.Nodup
section
variable {A:ej}{H H':Hp}{pw:Addr}{S:Bk}{f:eO}
theorem dP.lists (h:dP A H pw S f): ∀p∈f.fp,∃xs,H p=some (.lst xs):=fun p hp=>by
 obtain⟨ms,m1,_⟩:=h.hm
 simp only[eO.fp,List.mem_cons,List.not_mem_nil,or_false] at hp
 rcases hp with rfl|rfl|rfl|rfl|rfl
 ·exact⟨_,h.hb⟩
 ·exact⟨_,h.hc⟩
 ·exact⟨_,h.hl⟩
 ·exact⟨_,h.hf⟩
 ·exact⟨_,m1⟩
theorem dP.off (h:dP A H pw S f){p:Addr}(n: ∀xs,H p≠some (.lst xs)):p∉f.fp:=fun z=>by
 obtain⟨xs,e⟩:=h.lists p z
 exact n xs e
theorem dP.new (h:dP A H pw S f){p:Addr}(n:H p=none):p∉f.fp:=h.off fun xs e=>by rw[n] at e; cases e
theorem dP.ins (h:dP A H pw S f){p C:Addr}{fs:List (Str×V)}(n:eF H p C fs):p∉f.fp:=h.off fun xs e=>by
 obtain⟨dx,z⟩:=n
 rw[z] at e
 cases e
theorem dP.tk (h:dP A H pw S f)(k:Frame f.fp H H'):cW H H':=fun b xs e=>k b _ (h.off fun ys z=>by rw[e] at z; cases z) e
theorem dP.objs (h:dP A H pw S f)(k:Frame f.fp H H'):eF H' pw A.work (ly f)/\gw H' A.d9 fF S.aH f.iw/\gw H' A.eo fj S.credits f.cps:=by
 have go: ∀{p C:Addr} {dx:Addr} {gs:List (Str×V)},H p=some (.ins C dx gs)->H' p=some (.ins C dx gs):=fun e=>k _ _ (h.off fun ys z=>by rw[e] at z; cases z) e
 exact⟨let⟨dx,e⟩:=h.obj; ⟨dx,go e⟩,h.rb.keep fun _ _ _ e=>go e,h.rc.keep fun _ _ _ e=>go e⟩
theorem dP.same (h:dP A H pw S f)(s:aD H H'):dP A H' pw S f:=by
 obtain⟨o1,o2,o3⟩:=h.objs (s.frame (fp:=f.fp))
 obtain⟨ms,m1,m2⟩:=h.hm
 exact⟨o1,s _ _ h.hb,s _ _ h.hc,s _ _ h.hl,s _ _ h.hf,⟨ms,s _ _ m1,m2.mono s.tk⟩,o2,o3,h.nd⟩
theorem eO.ne (h:f.fp.Nodup):f.pb≠f.pc/\f.pb≠f.pl/\f.pb≠f.pf/\f.pb≠f.pm/\f.pc≠f.pl/\f.pc≠f.pf/\f.pc≠f.pm/\f.pl≠f.pf/\f.pl≠f.pm/\f.pf≠f.pm:=by
 simp only[eO.fp,List.nodup_cons,List.mem_cons,List.not_mem_nil,or_false,not_or] at h
 obtain⟨⟨h1,h2,h3,h4⟩,⟨h5,h6,h7⟩,⟨h8,h9⟩,QQ,_⟩:=h
 exact⟨h1,h2,h3,h4,h5,h6,h7,h8,h9,QQ⟩
theorem xE {rows:List Rw}{i:Nat}{x:Int}:(rows.set i ((rows.getD i default).less x)).map (fun r=>V.int r.d)=(rows.map fun r=>V.int r.d).set i (.int ((rows.getD i default).d - x)):=by
 rw[GK]; rfl
theorem dP.put (h:dP A H pw S f){c b:Nat}{x:Int}{ms:List V}{p:Addr}(hc:c < S.credits.length)(hb:b < S.aH.length)(m1:H f.pm=some (.lst ms))(m2:il H S.made ms)(np:H p=none):
  dP A (upd (upd (upd (upd H f.pf (.lst ((S.credits.map fun r=>V.int r.d).set c (.int ((S.cr c).d - x))))) f.pl (.lst ((S.aH.map fun r=>V.int r.d).set b (.int ((S.bl b).d - x))))) p (.tup [.int c,.int b,.int x])) f.pm (.lst (ms ++ [.ref p]))) pw (S.put c b x) f/\
  Frame f.fp H (upd (upd (upd (upd H f.pf (.lst ((S.credits.map fun r=>V.int r.d).set c (.int ((S.cr c).d - x))))) f.pl (.lst ((S.aH.map fun r=>V.int r.d).set b (.int ((S.bl b).d - x))))) p (.tup [.int c,.int b,.int x])) f.pm (.lst (ms ++ [.ref p]))):=by
 obtain⟨e1,e2,e3,e4,e5,e6,e7,e8,e9,Mh⟩:=eO.ne h.nd
 have pf: ∀q∈f.fp,q≠p:=fun q hq z=>h.new np (z▸hq)
 have i1:f.pb∈f.fp:=by simp[eO.fp]
 have i2:f.pc∈f.fp:=by simp[eO.fp]
 have i3:f.pl∈f.fp:=by simp[eO.fp]
 have i4:f.pf∈f.fp:=by simp[eO.fp]
 have i5:f.pm∈f.fp:=by simp[eO.fp]
 have t3: ∀(G:Hp) (q:Addr),q≠f.pf->q≠f.pl->q≠p->q≠f.pm-> ∀(a b c d:HO),upd (upd (upd (upd G f.pf a) f.pl b) p c) f.pm d q=G q:=fun G q h1 h2 h3 h4 a b c d=>by
  rw[aA h4,aA h3,aA h2,aA h1]
 have F:Frame f.fp H (upd (upd (upd (upd H f.pf (.lst ((S.credits.map fun r=>V.int r.d).set c (.int ((S.cr c).d - x))))) f.pl (.lst ((S.aH.map fun r=>V.int r.d).set b (.int ((S.bl b).d - x))))) p (.tup [.int c,.int b,.int x])) f.pm (.lst (ms ++ [.ref p]))):=fun q o hq e=>by
  rw[t3 H q (fun z=>hq (z▸i4)) (fun z=>hq (z▸i3)) (aN e np) (fun z=>hq (z▸i5))]
  exact e
 refine⟨?_,F⟩
 obtain⟨o1,o2,o3⟩:=h.objs F
 have tk:=h.tk F
 refine⟨o1,by rw[t3 H _ e3 e2 (pf _ i1) e4]; exact h.hb,by rw[t3 H _ e6 e5 (pf _ i2) e7]; exact h.hc,?_,?_,⟨_,ag,?_⟩,?_,?_,h.nd⟩
 ·rw[aA e9,aA (pf _ i3),ag]
  show _ =some (HO.lst ((S.aH.set b ((S.aH.getD b default).less x)).map fun r=>V.int r.d))
  rw[xE]; rfl
 ·rw[aA Mh,aA (pf _ i4),aA e8.symm,ag]
  show _ =some (HO.lst ((S.credits.set c ((S.credits.getD c default).less x)).map fun r=>V.int r.d))
  rw[xE]; rfl
 ·refine cQ (m2.mono tk) ⟨p,rfl,?_⟩
  rw[aA (pf _ i5).symm,ag]
 ·refine o2.rows eA fun i=>?_
  show fF i ((S.put c b x).bl i)=fF i (S.bl i)
  rw[uH hb]
  split
  ·rename_i z; subst z; rfl
  ·rfl
 ·refine o3.rows eA fun i=>?_
  show fj i ((S.put c b x).cr i)=fj i (S.cr i)
  rw[rM hc]
  split
  ·rename_i z; subst z; rfl
  ·rfl
end
end L2
namespace eQ
open PySem L2 PyProof.Rows KI
def K5:Stmt->List Stmt
 | .ClassDef _ _ _ b _ _ _ _ _ _ _=>b
 |_=>[]
def mem (i j:Nat):Stmt:=(K5 (top i)).getD j (.Pass ⟨0,0,0,0⟩)
structure jy (K:PySem.W.Frag)(mg:Str->Option Value)(A:ej):Prop where
 fU:mg "Refusal"=some (.ref A.refusal)
 CF:gX K A.refusal A.refusal
 NV:PySem.W.keepIn K (.ref A.refusal)=true
 gx: ∃f fd,gq K "__init__" "Refusal.__init__" (mem 3 0) f fd/\DV K A.refusal f
 AN:mg "NoCredit"=some (.ref A.jY)
 sH:gX K A.jY A.refusal
 AO:PySem.W.keepIn K (.ref A.jY)=true
 AQ: ∃f fd,gq K "__init__" "NoCredit.__init__" (mem 4 0) f fd/\PySem.W.findIn K (.ref A.jY) "__init__"=some (some (.ref f))/\PySem.W.typeIn K (.ref f)=some (.type "function")
 FP:mg "NoBill"=some (.ref A.pH)
 xF:gX K A.pH A.refusal
 FQ:PySem.W.keepIn K (.ref A.pH)=true
 FR: ∃f fd,gq K "__init__" "NoBill.__init__" (mem 5 0) f fd/\PySem.W.findIn K (.ref A.pH) "__init__"=some (some (.ref f))/\PySem.W.typeIn K (.ref f)=some (.type "function")
 yN:mg "NotTheirs"=some (.ref A.jG)
 qC:gX K A.jG A.refusal
 yO:PySem.W.keepIn K (.ref A.jG)=true
 yP: ∃f fd,gq K "__init__" "NotTheirs.__init__" (mem 6 0) f fd/\PySem.W.findIn K (.ref A.jG) "__init__"=some (some (.ref f))/\PySem.W.typeIn K (.ref f)=some (.type "function")
 AR:mg "NoAmount"=some (.ref A.iG)
 kE:gX K A.iG A.refusal
 AS:PySem.W.keepIn K (.ref A.iG)=true
 AU: ∃f fd,gq K "__init__" "NoAmount.__init__" (mem 7 0) f fd/\PySem.W.findIn K (.ref A.iG) "__init__"=some (some (.ref f))/\PySem.W.typeIn K (.ref f)=some (.type "function")
 AV:mg "TooEarly"=some (.ref A.tooEarly)
 sI:gX K A.tooEarly A.refusal
 AW:PySem.W.keepIn K (.ref A.tooEarly)=true
 AX: ∃f fd,gq K "__init__" "TooEarly.__init__" (mem 8 0) f fd/\PySem.W.findIn K (.ref A.tooEarly) "__init__"=some (some (.ref f))/\PySem.W.typeIn K (.ref f)=some (.type "function")
 uZ:mg "TooMuch"=some (.ref A.tooMuch)
 pI:gX K A.tooMuch A.refusal
 CG:PySem.W.keepIn K (.ref A.tooMuch)=true
 CI: ∃f fd,gq K "__init__" "TooMuch.__init__" (mem 9 0) f fd/\PySem.W.findIn K (.ref A.tooMuch) "__init__"=some (some (.ref f))/\PySem.W.typeIn K (.ref f)=some (.type "function")
 yQ:mg "NoSetting"=some (.ref A.jH)
 qD:gX K A.jH A.refusal
 yR:PySem.W.keepIn K (.ref A.jH)=true
 yS: ∃f fd,gq K "__init__" "NoSetting.__init__" (mem 10 0) f fd/\PySem.W.findIn K (.ref A.jH) "__init__"=some (some (.ref f))/\PySem.W.typeIn K (.ref f)=some (.type "function")
 xG:mg "Needed"=some (.ref A.i8)
 xH:gX K A.i8 A.refusal
 FT:PySem.W.keepIn K (.ref A.i8)=true
 FU: ∃f fd,gq K "__init__" "Needed.__init__" (mem 11 0) f fd/\PySem.W.findIn K (.ref A.i8) "__init__"=some (some (.ref f))/\PySem.W.typeIn K (.ref f)=some (.type "function")
 K6:mg "Bill"=some (.ref A.d9)
 eu:vO K A.d9
 eU:cA K A.d9 "number"
 kF:cA K A.d9 "who"
 mX:cA K A.d9 "day"
 mY:cA K A.d9 "due"
 mZ:cA K A.d9 "amount"
 K7: ∃f fd,gq K "__init__" "Bill.__init__" (mem 13 0) f fd/\Mk K A.d9 f
 FV:mg "Credit"=some (.ref A.eo)
 dv:vO K A.eo
 eP:cA K A.eo "number"
 kQ:cA K A.eo "who"
 jb:cA K A.eo "day"
 lB:cA K A.eo "amount"
 jZ:cA K A.eo "only"
 FW: ∃f fd,gq K "__init__" "Credit.__init__" (mem 14 0) f fd/\Mk K A.eo f
 K8:mg "Work"=some (.ref A.work)
 bO:vO K A.work
 ee:cA K A.work "bills"
 cU:cA K A.work "all_credits"
 fG:cA K A.work "lefts"
 fH:cA K A.work "frees"
 l6:cA K A.work "made"
 K9: ∃f fd,gq K "__init__" "Work.__init__" (mem 25 0) f fd/\Mk K A.work f
 qE: ∃f fd,gq K "tell_bill" "Work.tell_bill" (mem 25 1) f fd/\Meth K A.work "tell_bill" f
 m8: ∃f fd,gq K "tell_payment" "Work.tell_payment" (mem 25 2) f fd/\Meth K A.work "tell_payment" f
 qF: ∃f fd,gq K "tell_note" "Work.tell_note" (mem 25 3) f fd/\Meth K A.work "tell_note" f
 ox: ∃f fd,gq K "tell_credit" "Work.tell_credit" (mem 25 4) f fd/\Meth K A.work "tell_credit" f
 oy: ∃f fd,gq K "set_by_hand" "Work.set_by_hand" (mem 25 5) f fd/\Meth K A.work "set_by_hand" f
 wm: ∃f fd,gq K "sweep" "Work.sweep" (mem 25 6) f fd/\Meth K A.work "sweep" f
 qG: ∃f fd,gq K "one_round" "Work.one_round" (mem 25 7) f fd/\Meth K A.work "one_round" f
 AY: ∃f fd,gq K "put" "Work.put" (mem 25 8) f fd/\Meth K A.work "put" f
 qH: ∃f fd,gq K "credit_at" "Work.credit_at" (mem 25 9) f fd/\Meth K A.work "credit_at" f
 tE: ∃f fd,gq K "bill_at" "Work.bill_at" (mem 25 10) f fd/\Meth K A.work "bill_at" f
 La:mg "Book"=some (.ref A.book)
 eV:vO K A.book
 gI:cA K A.book "kept"
 gJ:cA K A.book "work"
 Lb: ∃f fd,gq K "__init__" "Book.__init__" (mem 29 0) f fd/\Mk K A.book f
 CJ: ∃f fd,gq K "do" "Book.do" (mem 29 1) f fd/\Meth K A.book "do" f
 yT: ∃f fd,gq K "undo" "Book.undo" (mem 29 2) f fd/\Meth K A.book "undo" f
 rR: ∃f fd,gq K "in_force" "Book.in_force" (mem 29 3) f fd/\Meth K A.book "in_force" f
end eQ
namespace L2
open PySem PySem.Spec PySem.W PyProof.Rows KI
structure gY (CX:E9)(P:Program)(w:World)(K:PySem.W.Frag)(mg:Str->Option Value)(base:Heap)(C:Addr)(m:Str)(k:Nat)(ps:List Str)(sp:Sp):Prop where
 ex: ∃(f:Addr) (fd:FuncData),vO K C/\Meth K C m f/\lP P w K mg base CX k f fd ps sp/\Binds K fd ps []
structure u0 (P:Program)(w:World)(K:PySem.W.Frag)(mg:Str->Option Value)(base:Heap)(x:Str)(k:Nat)(ps:List Str)(sp:Sp):Prop where
 ex: ∃(f:Addr) (fd:FuncData),lP P w K mg base (my P w mg) k f fd ps sp/\mg x=some (.ref f)/\PySem.W.keepIn K (.ref f)=true/\Binds K fd ps []
structure tF (P:Program)(w:World)(K:PySem.W.Frag)(mg:Str->Option Value)(base:Heap)(x:Str)(C:Addr)(k:Nat)(ps:List Str)(sp:Sp):Prop where
 ex: ∃(f:Addr) (fd:FuncData),Mk K C f/\lP P w K mg base sq k f fd ps sp/\Binds K fd ps []/\mg x=some (.ref C)
section
variable {X:Cx}{CX:E9}{C:Addr}{x m:Str}{k:Nat}{ps:List Str}{sp:Sp}{o e:Expr}{es:List Expr}{ta:TE}{t:TA}{p pos apos:Pos}{E:XK}
theorem m9 {pl:Sem Bool}(M:gY CX X.prog X.w X.K X.mg X.base C m k ps sp)(hr:fE k X.A)(hx:Passes CX X E)(he:PE X o ta)(ha:PA X (e :: es) t)
  (sf:starEach (e :: es) X.env=(false,eval e X.env) :: starEach es X.env:=by rfl) (iL:(backTo pos (starEach es X.env)).any (·.1)=false:=by rfl)
  (ht:eval (.Call (.Attribute o m apos) (e :: es) [] pos) X.env=(do
   let ov ← eval o X.env
   standAt apos.atName
   let(f,first) ← holding [ov] (getMethod ov m pl)
   callWith pos f first (backTo pos (starEach (e :: es) X.env)) (backToKw pos (keywordEach [] X.env))):=by rfl):
  PE X (.Call (.Attribute o m apos) (e :: es) [] pos) (L1 C m sp [] E ta t):=by
 obtain⟨f,fd,hc,hm,F,hb⟩:=M.ex
 exact Kg he hc hm F hr hb .nil hx ha sf iL ht
theorem rT (M:u0 X.prog X.w X.K X.mg X.base x k ps sp)(hr:fE k X.A)(hg:Gl X x)(hx:Passes (my X.prog X.w X.mg) X E)(ha:PA X (e :: es) t)(rG:(x == ("__debug__":Str))=false:=by decide)
  (he:starEach (e :: es) X.env=(false,eval e X.env) :: starEach es X.env:=by rfl) (iL:(backTo pos (starEach es X.env)).any (·.1)=false:=by rfl):PE X (.Call (.Name x p) (e :: es) [] pos) (xa sp [] E t):=by
 obtain⟨f,fd,F,hm,hk,hb⟩:=M.ex
 exact Dw F hr hg hm hk hb .nil hx ha rG he iL
theorem Rl (M:tF X.prog X.w X.K X.mg X.base x C k ps sp)(hr:fE (k + 1) X.A)(hg:Gl X x)(ha:PA X (e :: es) t)(rG:(x == ("__debug__":Str))=false:=by decide)
  (he:starEach (e :: es) X.env=(false,eval e X.env) :: starEach es X.env:=by rfl) (iL:(backTo pos (starEach es X.env)).any (·.1)=false:=by rfl):PE X (.Call (.Name x p) (e :: es) [] pos) (Dv C sp [] E0 t):=by
 obtain⟨f,fd,hk,F,hb,hm⟩:=M.ex
 exact Kh hk F hr hg hm hb .nil mM ha rG he iL
theorem IA (M:tF X.prog X.w X.K X.mg X.base x C k ps sp)(hr:fE (k + 1) X.A)(hg:Gl X x)(rG:(x == ("__debug__":Str))=false:=by decide):PE X (.Call (.Name x p) [] [] pos) (Dv C sp [] E0 Hm):=by
 obtain⟨f,fd,hk,F,hb,hm⟩:=M.ex
 exact Hq hk F hr hg hm hb .nil mM rG
end
section
variable {P:Program}{w:World}{K:PySem.W.Frag}{mg:Str->Option Value}{base:Heap}{C:Addr}{x m qual:Str}{st:Stmt}{N ps:List Str}{k:Nat}{sp:Sp}
theorem Lc (D: ∃f fd,gq K m qual st f fd/\Meth K C m f)(hc:vO K C)(S:a0 N ps (az st))
  (hb: ∀(kV doc pm:Value) (an:Option Addr) (dh ct:Value) (us:List Value),us.length=ps.length->bindArgs (PySem.W.fnOf m qual (g6 st) (d8 st) (az st) .none kV doc pm an dh ct) ⟨us,[]⟩=pure (ps.zip us))
  (len: ∀vs H Q E,sp vs H Q E->vs.length=ps.length)
  (gp: ∀(f:Addr) (dh:Value) (A:Around) (outer:List Env) (s:Shared) (H:Hp) (vs:List V) (Q:VK) (E:XK),fE k (A.deeper (envOfC qual (az st) s.heap.objs.size f dh))->sp vs H Q E->
   ∃t,pV (lQ sq P w K mg base N qual (az st) f dh A outer s H E).E2 (d8 st) t/\t {nx:=fun _ H'=>Q .eI H',rt:=Q} (start N vs) H):gY sq P w K mg base C m (k + 1) ps sp:=by
 obtain⟨f,fd,F,hm⟩:=D
 exact⟨f,fd,hc,hm,F.ok S len (gp f),F.binds hb⟩
theorem qI (D: ∃f fd,gq K m qual st f fd/\Meth K C m f)(hc:vO K C)(S:a0 N ps (az st))
  (hb: ∀(kV doc pm:Value) (an:Option Addr) (dh ct:Value) (us:List Value),us.length=ps.length->bindArgs (PySem.W.fnOf m qual (g6 st) (d8 st) (az st) .none kV doc pm an dh ct) ⟨us,[]⟩=pure (ps.zip us))
  (len: ∀vs H Q E,sp vs H Q E->vs.length=ps.length)
  (gp: ∀(f:Addr) (dh:Value) (A:Around) (outer:List Env) (s:Shared) (H:Hp) (vs:List V) (Q:VK) (E:XK),fE k (A.deeper (envOfC qual (az st) s.heap.objs.size f dh))->Pa (lQ (my P w mg) P w K mg base N qual (az st) f dh A outer s H E) E->sp vs H Q E->
   ∃t,pV (lQ (my P w mg) P w K mg base N qual (az st) f dh A outer s H E) (d8 st) t/\t {nx:=fun _ H'=>Q .eI H',rt:=Q} (start N vs) H):gY (my P w mg) P w K mg base C m (k + 1) ps sp:=by
 obtain⟨f,fd,F,hm⟩:=D
 exact⟨f,fd,hc,hm,F.XD S len (gp f),F.binds hb⟩
theorem NW (D:Df K mg x st)(S:a0 N ps (az st))
  (hb: ∀(kV doc pm:Value) (an:Option Addr) (dh ct:Value) (us:List Value),us.length=ps.length->bindArgs (PySem.W.fnOf x x (g6 st) (d8 st) (az st) .none kV doc pm an dh ct) ⟨us,[]⟩=pure (ps.zip us))
  (len: ∀vs H Q E,sp vs H Q E->vs.length=ps.length)
  (gp: ∀(f:Addr) (dh:Value) (A:Around) (outer:List Env) (s:Shared) (H:Hp) (vs:List V) (Q:VK) (E:XK),fE k (A.deeper (envOfC x (az st) s.heap.objs.size f dh))->Pa (lQ (my P w mg) P w K mg base N x (az st) f dh A outer s H E) E->sp vs H Q E->
   ∃t,pV (lQ (my P w mg) P w K mg base N x (az st) f dh A outer s H E) (d8 st) t/\t {nx:=fun _ H'=>Q .eI H',rt:=Q} (start N vs) H):u0 P w K mg base x (k + 1) ps sp:=by
 obtain⟨f,fd,F,hm⟩:=D.ex
 exact⟨f,fd,F.XD S len (gp f),hm,F.kp,F.binds hb⟩
theorem Ld (D: ∃f fd,gq K "__init__" qual st f fd/\Mk K C f)(hm:mg x=some (.ref C))(S:a0 N ps (az st))
  (hb: ∀(kV doc pm:Value) (an:Option Addr) (dh ct:Value) (us:List Value),us.length=ps.length->bindArgs (PySem.W.fnOf "__init__" qual (g6 st) (d8 st) (az st) .none kV doc pm an dh ct) ⟨us,[]⟩=pure (ps.zip us))
  (len: ∀vs H Q E,sp vs H Q E->vs.length=ps.length)
  (gp: ∀(f:Addr) (dh:Value) (A:Around) (outer:List Env) (s:Shared) (H:Hp) (vs:List V) (Q:VK) (E:XK),fE k (A.deeper (envOfC qual (az st) s.heap.objs.size f dh))->sp vs H Q E->
   ∃t,pV (lQ sq P w K mg base N qual (az st) f dh A outer s H E).E2 (d8 st) t/\t {nx:=fun _ H'=>Q .eI H',rt:=Q} (start N vs) H):tF P w K mg base x C (k + 1) ps sp:=by
 obtain⟨f,fd,F,hk⟩:=D
 exact⟨f,fd,hk,F.ok S len (gp f),F.binds hb,hm⟩
end
end L2
namespace eQ
open PySem L2 PyProof.Rows KI
seal L2.pV L2.PS L2.PE L2.PT L2.PW L2.PA L2.PC L2.PG L2.Kc L2.PI L2.L4 L2.Ku L2.PO L2.oF L2.MW L2.je L2.JI L2.O5
section
variable {P:Program}{w:World}{K:PySem.W.Frag}{mg:Str->Option Value}{base:Heap}
theorem FX {H:Hp}{e dx:Addr}{a b c:HO}(h:dx≠e):upd (upd (upd H e a) dx b) e c=upd (upd H dx b) e c:=by
 funext q
 by_cases h1:q=e
 ·rw[h1,ag,ag]
 ·rw[aA h1,aA h1]
  by_cases h2:q=dx
  ·rw[h2,ag,ag]
  ·rw[aA h2,aA h2,aA h1]
def Rm (K:PySem.W.Frag):Sp:=fun vs H Q _=> ∃(e C R t0:Addr) (txt:Str),vs=[.ref e,.str txt]/\H e=some (xo e C none (v0 t0))/\gX K C R/\ ∀dx t',H dx=none->Q .eI (upd (upd H dx (.xd [("text",.str txt)])) e (xo e C (some dx) (v0 t')))
theorem CK:a0 ["self","text"] ["self","text"] (az (mem 3 0)):=⟨rfl,rfl,rfl,by decide +kernel,rfl,by decide +kernel,by decide +kernel⟩
theorem gy (T:Txt K mg){f:Addr}{fd:FuncData}(F:gq K "__init__" "Refusal.__init__" (mem 3 0) f fd):Q1 P w K mg base 1 f fd ["self","text"] (Rm K):=by
 refine l0 (k:=0) F CK (fun vs H Q E h=>?_) (fun dh A outer s H vs Q E hr h=>?_)
 ·obtain⟨e,C,R,t0,txt,rfl,_⟩:=h
  rfl
 ·obtain⟨e,C,R,t0,txt,rfl,he,ek,k⟩:=h
  refine⟨_,(ai (bU (HZ rfl T.AK (aa (pv 0) (aa (pv 1) aj)))) (au (KR (pv 0) (pv 1) rfl))),?_⟩
  refine⟨_,rfl,_,rfl,e,C,R,t0,none,v0 t0,_,rfl,he,ek,rfl,fun t'=>?_⟩
  refine⟨_,rfl,_,rfl,e,C,R,v0 t',rfl,ag,ek,fun dx IB=>?_⟩
  have ne:dx≠e:=fun z=>by rw[z,ag] at IB; cases IB
  rw[aA ne] at IB
  have q:=k dx t' IB
  rw[← FX (a:=xo e C none (v0 t')) ne] at q
  exact q
theorem AZ:a0 ["self"] ["self"] (az (mem 4 0)):=⟨rfl,rfl,rfl,by decide +kernel,rfl,by decide +kernel,by decide +kernel⟩
theorem A0 (T:Txt K mg){A:ej}(G:jy K mg A):Ia P w K mg base 2 "NoCredit" A.jY A.refusal "no credit":=by
 obtain⟨f,fd,F,hi,ht⟩:=G.AQ
 obtain⟨f0,NX,F0,ik⟩:=G.gx
 refine⟨G.AN,G.sH,G.AO,f,fd,hi,ht,?_,F.binds (fun _ _ _ _ _ _ us hl=>match us,hl with|[_],_=>rfl)⟩
 refine l0 (k:=1) F AZ (fun vs H Q E h=>?_) (fun dh A' outer s H vs Q E hr h=>?_)
 ·obtain⟨e,C,R,t0,rfl,_⟩:=h
  rfl
 ·obtain⟨e,C,R,t0,rfl,he,ek,k⟩:=h
  refine⟨_,(au (bU (jg ik (gy T F0) hr (F0.binds (fun _ _ _ _ _ _ us hl=>match us,hl with|[_,_],_=>rfl)) rfl G.fU (aa (pv 0) (aa aW aj))))),?_⟩
  exact⟨_,rfl,e,C,R,t0,_,rfl,he,ek,fun dx t' n=>k dx t' n⟩
theorem FY:a0 ["self"] ["self"] (az (mem 5 0)):=⟨rfl,rfl,rfl,by decide +kernel,rfl,by decide +kernel,by decide +kernel⟩
theorem FZ (T:Txt K mg){A:ej}(G:jy K mg A):Ia P w K mg base 2 "NoBill" A.pH A.refusal "no bill":=by
 obtain⟨f,fd,F,hi,ht⟩:=G.FR
 obtain⟨f0,NX,F0,ik⟩:=G.gx
 refine⟨G.FP,G.xF,G.FQ,f,fd,hi,ht,?_,F.binds (fun _ _ _ _ _ _ us hl=>match us,hl with|[_],_=>rfl)⟩
 refine l0 (k:=1) F FY (fun vs H Q E h=>?_) (fun dh A' outer s H vs Q E hr h=>?_)
 ·obtain⟨e,C,R,t0,rfl,_⟩:=h
  rfl
 ·obtain⟨e,C,R,t0,rfl,he,ek,k⟩:=h
  refine⟨_,(au (bU (jg ik (gy T F0) hr (F0.binds (fun _ _ _ _ _ _ us hl=>match us,hl with|[_,_],_=>rfl)) rfl G.fU (aa (pv 0) (aa aW aj))))),?_⟩
  exact⟨_,rfl,e,C,R,t0,_,rfl,he,ek,fun dx t' n=>k dx t' n⟩
theorem yU:a0 ["self"] ["self"] (az (mem 6 0)):=⟨rfl,rfl,rfl,by decide +kernel,rfl,by decide +kernel,by decide +kernel⟩
theorem yV (T:Txt K mg){A:ej}(G:jy K mg A):Ia P w K mg base 2 "NotTheirs" A.jG A.refusal "not theirs":=by
 obtain⟨f,fd,F,hi,ht⟩:=G.yP
 obtain⟨f0,NX,F0,ik⟩:=G.gx
 refine⟨G.yN,G.qC,G.yO,f,fd,hi,ht,?_,F.binds (fun _ _ _ _ _ _ us hl=>match us,hl with|[_],_=>rfl)⟩
 refine l0 (k:=1) F yU (fun vs H Q E h=>?_) (fun dh A' outer s H vs Q E hr h=>?_)
 ·obtain⟨e,C,R,t0,rfl,_⟩:=h
  rfl
 ·obtain⟨e,C,R,t0,rfl,he,ek,k⟩:=h
  refine⟨_,(au (bU (jg ik (gy T F0) hr (F0.binds (fun _ _ _ _ _ _ us hl=>match us,hl with|[_,_],_=>rfl)) rfl G.fU (aa (pv 0) (aa aW aj))))),?_⟩
  exact⟨_,rfl,e,C,R,t0,_,rfl,he,ek,fun dx t' n=>k dx t' n⟩
theorem A1:a0 ["self"] ["self"] (az (mem 7 0)):=⟨rfl,rfl,rfl,by decide +kernel,rfl,by decide +kernel,by decide +kernel⟩
theorem A2 (T:Txt K mg){A:ej}(G:jy K mg A):Ia P w K mg base 2 "NoAmount" A.iG A.refusal "no amount":=by
 obtain⟨f,fd,F,hi,ht⟩:=G.AU
 obtain⟨f0,NX,F0,ik⟩:=G.gx
 refine⟨G.AR,G.kE,G.AS,f,fd,hi,ht,?_,F.binds (fun _ _ _ _ _ _ us hl=>match us,hl with|[_],_=>rfl)⟩
 refine l0 (k:=1) F A1 (fun vs H Q E h=>?_) (fun dh A' outer s H vs Q E hr h=>?_)
 ·obtain⟨e,C,R,t0,rfl,_⟩:=h
  rfl
 ·obtain⟨e,C,R,t0,rfl,he,ek,k⟩:=h
  refine⟨_,(au (bU (jg ik (gy T F0) hr (F0.binds (fun _ _ _ _ _ _ us hl=>match us,hl with|[_,_],_=>rfl)) rfl G.fU (aa (pv 0) (aa aW aj))))),?_⟩
  exact⟨_,rfl,e,C,R,t0,_,rfl,he,ek,fun dx t' n=>k dx t' n⟩
theorem A3:a0 ["self"] ["self"] (az (mem 8 0)):=⟨rfl,rfl,rfl,by decide +kernel,rfl,by decide +kernel,by decide +kernel⟩
theorem A4 (T:Txt K mg){A:ej}(G:jy K mg A):Ia P w K mg base 2 "TooEarly" A.tooEarly A.refusal "too early":=by
 obtain⟨f,fd,F,hi,ht⟩:=G.AX
 obtain⟨f0,NX,F0,ik⟩:=G.gx
 refine⟨G.AV,G.sI,G.AW,f,fd,hi,ht,?_,F.binds (fun _ _ _ _ _ _ us hl=>match us,hl with|[_],_=>rfl)⟩
 refine l0 (k:=1) F A3 (fun vs H Q E h=>?_) (fun dh A' outer s H vs Q E hr h=>?_)
 ·obtain⟨e,C,R,t0,rfl,_⟩:=h
  rfl
 ·obtain⟨e,C,R,t0,rfl,he,ek,k⟩:=h
  refine⟨_,(au (bU (jg ik (gy T F0) hr (F0.binds (fun _ _ _ _ _ _ us hl=>match us,hl with|[_,_],_=>rfl)) rfl G.fU (aa (pv 0) (aa aW aj))))),?_⟩
  exact⟨_,rfl,e,C,R,t0,_,rfl,he,ek,fun dx t' n=>k dx t' n⟩
theorem CL:a0 ["self"] ["self"] (az (mem 9 0)):=⟨rfl,rfl,rfl,by decide +kernel,rfl,by decide +kernel,by decide +kernel⟩
theorem CM (T:Txt K mg){A:ej}(G:jy K mg A):Ia P w K mg base 2 "TooMuch" A.tooMuch A.refusal "too much":=by
 obtain⟨f,fd,F,hi,ht⟩:=G.CI
 obtain⟨f0,NX,F0,ik⟩:=G.gx
 refine⟨G.uZ,G.pI,G.CG,f,fd,hi,ht,?_,F.binds (fun _ _ _ _ _ _ us hl=>match us,hl with|[_],_=>rfl)⟩
 refine l0 (k:=1) F CL (fun vs H Q E h=>?_) (fun dh A' outer s H vs Q E hr h=>?_)
 ·obtain⟨e,C,R,t0,rfl,_⟩:=h
  rfl
 ·obtain⟨e,C,R,t0,rfl,he,ek,k⟩:=h
  refine⟨_,(au (bU (jg ik (gy T F0) hr (F0.binds (fun _ _ _ _ _ _ us hl=>match us,hl with|[_,_],_=>rfl)) rfl G.fU (aa (pv 0) (aa aW aj))))),?_⟩
  exact⟨_,rfl,e,C,R,t0,_,rfl,he,ek,fun dx t' n=>k dx t' n⟩
theorem yW:a0 ["self"] ["self"] (az (mem 10 0)):=⟨rfl,rfl,rfl,by decide +kernel,rfl,by decide +kernel,by decide +kernel⟩
theorem yX (T:Txt K mg){A:ej}(G:jy K mg A):Ia P w K mg base 2 "NoSetting" A.jH A.refusal "no setting":=by
 obtain⟨f,fd,F,hi,ht⟩:=G.yS
 obtain⟨f0,NX,F0,ik⟩:=G.gx
 refine⟨G.yQ,G.qD,G.yR,f,fd,hi,ht,?_,F.binds (fun _ _ _ _ _ _ us hl=>match us,hl with|[_],_=>rfl)⟩
 refine l0 (k:=1) F yW (fun vs H Q E h=>?_) (fun dh A' outer s H vs Q E hr h=>?_)
 ·obtain⟨e,C,R,t0,rfl,_⟩:=h
  rfl
 ·obtain⟨e,C,R,t0,rfl,he,ek,k⟩:=h
  refine⟨_,(au (bU (jg ik (gy T F0) hr (F0.binds (fun _ _ _ _ _ _ us hl=>match us,hl with|[_,_],_=>rfl)) rfl G.fU (aa (pv 0) (aa aW aj))))),?_⟩
  exact⟨_,rfl,e,C,R,t0,_,rfl,he,ek,fun dx t' n=>k dx t' n⟩
theorem F6:a0 ["self"] ["self"] (az (mem 11 0)):=⟨rfl,rfl,rfl,by decide +kernel,rfl,by decide +kernel,by decide +kernel⟩
theorem F9 (T:Txt K mg){A:ej}(G:jy K mg A):Ia P w K mg base 2 "Needed" A.i8 A.refusal "needed":=by
 obtain⟨f,fd,F,hi,ht⟩:=G.FU
 obtain⟨f0,NX,F0,ik⟩:=G.gx
 refine⟨G.xG,G.xH,G.FT,f,fd,hi,ht,?_,F.binds (fun _ _ _ _ _ _ us hl=>match us,hl with|[_],_=>rfl)⟩
 refine l0 (k:=1) F F6 (fun vs H Q E h=>?_) (fun dh A' outer s H vs Q E hr h=>?_)
 ·obtain⟨e,C,R,t0,rfl,_⟩:=h
  rfl
 ·obtain⟨e,C,R,t0,rfl,he,ek,k⟩:=h
  refine⟨_,(au (bU (jg ik (gy T F0) hr (F0.binds (fun _ _ _ _ _ _ us hl=>match us,hl with|[_,_],_=>rfl)) rfl G.fU (aa (pv 0) (aa aW aj))))),?_⟩
  exact⟨_,rfl,e,C,R,t0,_,rfl,he,ek,fun dx t' n=>k dx t' n⟩
def oJ (rc rb:Rw)(b:Nat):Bool:=if rc.c= -1 then decide (rc.aL=rb.aL) else decide (rc.c=(b:Int))
def EX (E:XK)(C:Addr)(txt:Str)(H:Hp):Prop:= ∀(dx:Addr) (H':Hp),aD H H'->H dx=none->H' dx=some (.xd [("text",.str txt)])->E (.ref C) (some dx) H'
theorem EX.at {E:XK}{C dx:Addr}{txt:Str}{H:Hp}(h:EX E C txt H)(n:H dx=none):E (.ref C) (some dx) (upd H dx (.xd [("text",.str txt)])):=h dx _ (aD.new n) n ag
def tW (A:ej):Sp:=fun vs H Q E=> ∃a:Int,vs=[.int a]/\(1<=a->Q .eI H)/\(a < 1->EX E A.iG "no amount" H)
theorem tG:a0 ["amount"] ["amount"] (az (top 26)):=⟨rfl,rfl,rfl,by decide +kernel,rfl,by decide +kernel,by decide +kernel⟩
theorem j7 (T:Txt K mg){A:ej}(G:jy K mg A):u0 P w K mg base "check_amount" 4 ["amount"] (tW A):=by
 refine NW (k:=3) T.uV tG (fun _ _ _ _ _ _ us hl=>match us,hl with|[_],_=>rfl) (fun vs H Q E h=>?_) (fun f dh A' outer s H vs Q E hr mi h=>?_)
 ·obtain⟨a,rfl,_⟩:=h
  rfl
 ·obtain⟨a,rfl,k1,k2⟩:=h
  refine⟨_,(au (bX (aZ jN (pv 0) ah (ba _)) (au (jW mi (A2 T G) hr.h rfl rfl)) bw)),?_⟩
  refine⟨_,rfl,_,_,rfl,rfl,_,rfl,cL (fun z=>?_) (fun z=>?_)⟩
  ·exact fun dx n=>(k2 (aS z)).at n
  ·exact k1 (by have: ¬ a < 1:=fun q=>z (aE q); omega)
def CO (A:ej):Sp:=fun vs H Q _=> ∃(p q:Addr) (c b:Nat) (rc rb:Rw),vs=[.ref p,.ref q]/\eF H p A.eo (fj c rc)/\eF H q A.d9 (fF b rb)/\Q (.bl (oJ rc rb b)) H
theorem Le:a0 ["credit","bill"] ["credit","bill"] (az (top 15)):=⟨rfl,rfl,rfl,by decide +kernel,rfl,by decide +kernel,by decide +kernel⟩
theorem IC (T:Txt K mg){A:ej}(G:jy K mg A):fb P w K mg base "fits" 1 ["credit","bill"] (CO A):=by
 refine T.NM.kN (k:=0) Le (fun _ _ _ _ _ _ us hl=>match us,hl with|[_,_],_=>rfl) (fun vs H Q E h=>?_) (fun f dh A' outer s H vs Q E hr h=>?_)
 ·obtain⟨p,q,c,b,rc,rb,rfl,_⟩:=h
  rfl
 ·obtain⟨p,q,c,b,rc,rb,rfl,⟨dp,hp⟩,⟨dq,hq⟩,k⟩:=h
  refine⟨_,(ai (bX (ye (G7 (cu (pv 0) rfl)))
(au (bf (fv cX (cu (pv 0) rfl) (cu (pv 1) rfl) (ba _))))
bw)
(au (bf (fv cX (cu (pv 0) rfl) (cu (pv 1) rfl) (ba _))))),?_⟩
  have fo:=K4 c rc
  refine⟨_,rfl,p,_,dp,_,_,rfl,hp,G.dv,G.jZ,fo,?_⟩
  by_cases z:rc.c= -1
  ·have e:sG rc.c= .eI:=bg z
   refine⟨true,by rw[e]; rfl,fJ ?_⟩
   refine⟨_,rfl,p,_,dp,_,_,rfl,hp,G.dv,G.kQ,Iy c rc,_,rfl,q,_,dq,_,_,rfl,hq,G.eu,G.kF,CD b rb,rfl,?_⟩
   have e2:oJ rc rb b=decide (V.str rc.aL=V.str rb.aL):=by
    unfold oJ
    rw[bg z]
    exact mw.mpr ⟨fun h=>by rw[h],fun h=>by injection h⟩
   rw[e2] at k
   exact k
  ·have e:sG rc.c= .int rc.c:=aV z
   refine⟨false,by rw[e]; rfl,cg ?_⟩
   rw[e] at fo
   refine⟨_,rfl,p,_,dp,_,_,rfl,hp,G.dv,G.jZ,fo,_,rfl,q,_,dq,_,_,rfl,hq,G.eu,G.eU,lx b rb,rfl,?_⟩
   have e2:oJ rc rb b=decide (V.int rc.c=V.int (b:Int)):=by
    unfold oJ
    rw[aV z]
    exact mw.mpr ⟨fun h=>by rw[h],fun h=>by injection h⟩
   rw[e2] at k
   exact k
def ID (A:ej):Sp:=fun vs H Q _=> ∃(p q:Addr) (c b:Nat) (rc rb:Rw),vs=[.ref p,.ref q]/\eF H p A.eo (fj c rc)/\eF H q A.d9 (fF b rb)/\Q (.int (if rb.a > rc.a then rb.a else rc.a)) H
theorem u5:a0 ["credit","bill"] ["credit","bill"] (az (top 16)):=⟨rfl,rfl,rfl,by decide +kernel,rfl,by decide +kernel,by decide +kernel⟩
theorem wo (T:Txt K mg){A:ej}(G:jy K mg A):fb P w K mg base "counts_from" 1 ["credit","bill"] (ID A):=by
 refine T.vY.kN (k:=0) u5 (fun _ _ _ _ _ _ us hl=>match us,hl with|[_,_],_=>rfl) (fun vs H Q E h=>?_) (fun f dh A' outer s H vs Q E hr h=>?_)
 ·obtain⟨p,q,c,b,rc,rb,rfl,_⟩:=h
  rfl
 ·obtain⟨p,q,c,b,rc,rb,rfl,⟨dp,hp⟩,⟨dq,hq⟩,k⟩:=h
  refine⟨_,(au (bf (bq (w9 rfl) (by rfl) T.Mg boot_max (aa (cu (pv 0) rfl) (aa (cu (pv 1) rfl) aj))))),?_⟩
  exact⟨_,rfl,p,_,dp,_,_,rfl,hp,G.dv,G.jb,Iz c rc,_,rfl,q,_,dq,_,_,rfl,hq,G.eu,G.mX,NU b rb,_,_,rfl,k⟩
theorem getD_at {α:Type}{xs:List α}{d:α}{i:Nat}(h:i < xs.length):xs.getD i d=xs[i]:=by rw[ak,af h]; rfl
theorem pJ {g:Int->V}{xs:List Int}{i:Nat}(h:i < xs.length):q0 (xs.map g) (i:Int)=some (g (xs.getD i 0)):=by
 rw[getD_at h]
 exact cO (by rw[aB,af h]; rfl)
theorem qJ {n j:Nat}(h:j < n):Kj n (j:Int)=some j:=by
 unfold Kj
 rw[if_pos (by omega),if_pos (by omega)]; simp
theorem f9 {H H':Hp}(s:aD H H'): ∀b xs,H b=some (.tup xs)->H' b=some (.tup xs):=fun b xs e=>s _ _ e
theorem oE {α:Type}{xs:List α}{m:Nat}(h:m < xs.length):xs.take (m + 1)=xs.take m ++ [xs[m]]:=by
 rw[zS,af h]; rfl
theorem Rn (cs:List Int)(lo hi:Option Int): ∃ds:List Int,ql (cs.map V.int) lo hi=ds.map V.int/\ds.length<=cs.length:=by
 unfold ql
 refine⟨_,by rw[← List.map_drop,← List.map_take],?_⟩
 rw[bC,mr]
 omega
theorem yY (x m:Int)(h:0 < m): ∃n:Nat,x % m=(n:Int)/\(n:Int) < m:=by
 have h1:=om x (show m≠0 by omega)
 have h2:=B4 x h
 exact⟨(x % m).toNat,by omega,by omega⟩
theorem kG {α:Type}{g:α->V}{xs:List α}{m:Int}{x:Int}(hm:m=(xs.length:Int))(h:0 < m): ∃y∈xs,q0 (xs.map g) (x % m)=some (g y):=by
 obtain⟨n,e,hn⟩:=yY x m h
 have hl:n < xs.length:=by omega
 exact⟨xs[n],bQ _,by rw[e]; exact cO (by rw[aB,af hl]; rfl)⟩
def IE:Sp:=fun vs H Q _=> ∃n p m:Int,vs=[.int n,.int p,.int m]/\0 < p/\0 < m/\ ∀r,0<=r->r < m->Q (.int r) H
theorem yZ:a0 ["_law_number","_law_prime","_law_many"] ["_law_number","_law_prime","_law_many"] (az (top 44)):=⟨rfl,rfl,rfl,by decide +kernel,rfl,by decide +kernel,by decide +kernel⟩
theorem A5 (T:Txt K mg):fb P w K mg base "_law_draw" 1 ["_law_number","_law_prime","_law_many"] IE:=by
 refine T.AG.kN (k:=0) yZ (fun _ _ _ _ _ _ us hl=>match us,hl with|[_,_,_],_=>rfl) (fun vs H Q E h=>?_) (fun f dh A outer s H vs Q E hr h=>?_)
 ·obtain⟨n,p,m,rfl,_⟩:=h
  rfl
 ·obtain⟨n,p,m,rfl,hp,hm,k⟩:=h
  refine⟨_,(au (bf (aX cE (aX cE (aX lO (pv 0) ah) (pv 1)) (pv 2)))),?_⟩
  refine⟨_,rfl,_,_,rfl,rfl,.inr ⟨by decide,by decide⟩,_,rfl,_,_,rfl,rfl,hp,_,rfl,_,_,rfl,rfl,hm,?_⟩
  exact k _ (om _ (by omega)) (B4 _ hm)
def A6 (K:PySem.W.Frag):Sp:=fun vs H Q _=> ∃(a:Addr) (cs:List Int),vs=[.ref a]/\bP K H a (cs.map V.int)/\ ∀(pn:Addr) (names:List Str) (H':Hp),aD H H'->H' pn=some (.lst (names.map V.str))->names≠[]->names.length<=6->Q (.ref pn) H'
theorem ng:a0 ["_law_cells","_law_spot","_law_made"] ["_law_cells"] (az (top 47)):=⟨rfl,rfl,rfl,by decide +kernel,rfl,by decide +kernel,by decide +kernel⟩
theorem wq (T:Txt K mg):fb P w K mg base "_law_people" 1 ["_law_cells"] (A6 K):=by
 refine T.v9.kN (k:=0) ng (fun _ _ _ _ _ _ us hl=>match us,hl with|[_],_=>rfl) (fun vs H Q E h=>?_) (fun f dh A outer s H vs Q E hr h=>?_)
 ·obtain⟨a,cs,rfl,_⟩:=h
  rfl
 ·obtain⟨a,cs,rfl,hS,k⟩:=h
  have nd:=ng.nd
  refine⟨_,(ai (a9 (i:=1) nd rfl (Or.inl rfl) (aX cE (aX jw (bq (rL rfl) (by rfl) T.Iq boot_sum (aa (qk tT (pv 0) yj (qj ah)) aj)) ah) ah))
(ai (a9 (i:=2) nd rfl (Or.inl rfl) (cf (aa (cf (aa aW (aa aW (aa aW aj)))) (aa (cf (aa aW (aa aW (aa aW aj)))) aj))))
(ai (bU (fz aM aG aI b0 (pv 2) (aa (cf (aa (aX yr aW ah) (aa (aX ui (aX ui (aX yr aW (pv 1)) aW) (aX yr aW (aX ff ah (pv 1)))) (aa aW aj)))) aj)))
(au (bf (aJ a6 (aX pj (pv 2) (cf (aa (cf (aa aW (aa aW (aa aW (aa aW (aa aW (aa aW aj))))))) aj))) (aX cE (aX jw (bq (rL rfl) (by rfl) T.Iq boot_sum (aa (qk tT (pv 0) yj (qj ah)) aj)) ah) ah) (fun _ _=>rfl))))))),?_⟩
  refine⟨_,rfl,_,rfl,a,_,rfl,hS,fun p1 n1=>?_⟩
  obtain⟨ds,ed,_⟩:=Rn cs none (some 1)
  rw[ed]
  have s1:aD H (upd H p1 (.lst (ds.map V.int))):=aD.new n1
  refine⟨p1,ds,rfl,bP.of ag,_,_,rfl,rfl,⟨by decide,by decide⟩,_,_,rfl,rfl,(by show(0:Int) < 60; decide),?_⟩
  obtain⟨sp,Tr,yh⟩:=yY (ds.sum / 28) 60 (by decide)
  show _
  generalize upd H p1 (.lst (ds.map V.int))=H1 at s1 ⊢
  refine⟨(by show 3<=sizeLine; decide),fun p2 n2=>⟨(by show 3<=sizeLine; decide),fun p3 n3=>⟨(by show 2<=sizeLine; decide),fun p4 n4=>?_⟩⟩⟩
  have t2:=aD.new (o:= .lst [V.str "ann",.str "",.str "bo"]) n2
  have t3:=aD.new (o:= .lst [V.str "ann",.str "ann lee",.str "Ann"]) n3
  have t4:=aD.new (o:= .lst [V.ref p2,.ref p3]) n4
  have s4:=((s1.trans t2).trans t3).trans t4
  have g2:=(t3.trans t4) _ _ (ag (H:=H1) (a:=p2) (o:= .lst [V.str "ann",.str "",.str "bo"]))
  have g3:=t4 _ _ (ag (H:=upd H1 p2 (.lst [V.str "ann",.str "",.str "bo"])) (a:=p3) (o:= .lst [V.str "ann",.str "ann lee",.str "Ann"]))
  have g4:=ag (H:=upd (upd H1 p2 (.lst [V.str "ann",.str "",.str "bo"])) p3 (.lst [V.str "ann",.str "ann lee",.str "Ann"])) (a:=p4) (o:= .lst [V.ref p2,.ref p3])
  have m4:H p4=none:=((s1.trans t2).trans t3).free n4
  generalize upd (upd (upd H1 p2 (.lst [V.str "ann",.str "",.str "bo"])) p3 (.lst [V.str "ann",.str "ann lee",.str "Ann"])) p4 (.lst [V.ref p2,.ref p3])=H4 at s4 g2 g3 g4 ⊢
  clear t2 t3 t4
  refine⟨_,rfl,.inl ⟨rfl,_,bP.of g4⟩,?_⟩
  refine⟨_,_,rfl,rfl,rfl,(by decide),(by decide),fun z1 hz1=>?_⟩
  refine⟨_,rfl,_,_,rfl,rfl,rfl,(by rw[Tr]; omega),(by rw[Tr]; omega),fun z2 hz2=>?_⟩
  refine⟨_,_,rfl,rfl,dU (ja (by show z2.length + 1<=_; omega)),?_⟩
  refine⟨_,rfl,_,_,rfl,rfl,_,_,rfl,rfl,rfl,(by rw[Tr]; omega),(by rw[Tr]; omega),fun z3 hz3=>?_⟩
  refine⟨_,_,rfl,rfl,dU (ja (by
   have:(z2 ++ ("y":Str)).length=z2.length + 1:=by
    show(z2.cps ++ _).size=_
    rw[Array.size_append]; rfl
   rw[this]; omega)),?_⟩
  refine⟨(by show 3<=sizeLine; decide),fun p5 n5=>?_⟩
  generalize (z2 ++ ("y":Str)) ++ z3=z4
  have t5:=aD.new (o:= .lst [V.str z1,.str z4,.str " ~"]) n5
  refine⟨p4,_,_,rfl,rfl,t5 _ _ g4,(by show 2 < sizeLine; decide),?_⟩
  have s5:aD H (upd (upd H4 p5 (.lst [V.str z1,.str z4,.str " ~"])) p4 (.lst ([V.ref p2,.ref p3] ++ [.ref p5]))):=(s4.trans t5).dm m4
  have VB:p2≠p4:=fun e=>by rw[e,g4] at g2; cases g2
  have VC:p3≠p4:=fun e=>by rw[e,g4] at g3; cases g3
  have VD:p5≠p4:=(aN g4 n5).symm
  have j2:upd (upd H4 p5 (.lst [V.str z1,.str z4,.str " ~"])) p4 (.lst ([V.ref p2,.ref p3] ++ [.ref p5])) p2=some (.lst [V.str "ann",.str "",.str "bo"]):=by rw[aA VB]; exact t5 _ _ g2
  have j3:upd (upd H4 p5 (.lst [V.str z1,.str z4,.str " ~"])) p4 (.lst ([V.ref p2,.ref p3] ++ [.ref p5])) p3=some (.lst [V.str "ann",.str "ann lee",.str "Ann"]):=by rw[aA VC]; exact t5 _ _ g3
  have j5:upd (upd H4 p5 (.lst [V.str z1,.str z4,.str " ~"])) p4 (.lst ([V.ref p2,.ref p3] ++ [.ref p5])) p5=some (.lst [V.str z1,.str z4,.str " ~"]):=by rw[aA VD]; exact ag
  have j4:upd (upd H4 p5 (.lst [V.str z1,.str z4,.str " ~"])) p4 (.lst ([V.ref p2,.ref p3] ++ [.ref p5])) p4=some (.lst ([V.ref p2,.ref p3] ++ [.ref p5])):=ag
  generalize upd (upd H4 p5 (.lst [V.str z1,.str z4,.str " ~"])) p4 (.lst ([V.ref p2,.ref p3] ++ [.ref p5]))=H5 at s5 j2 j3 j4 j5 ⊢
  clear t5
  refine⟨_,rfl,?_⟩
  refine⟨(by show 6<=sizeLine; decide),fun p6 n6=>⟨(by show 1<=sizeLine; decide),fun p7 n7=>?_⟩⟩
  have t6:=aD.new (o:= .lst [V.str "ann",.str "",.str "bo",.str "Cy ~",.str "ann ",.str "dee"]) n6
  have t7:=aD.new (o:= .lst [V.ref p6]) n7
  have XX:=t6.trans t7
  have j6:=t7 _ _ (ag (H:=H5) (a:=p6) (o:= .lst [V.str "ann",.str "",.str "bo",.str "Cy ~",.str "ann ",.str "dee"]))
  refine⟨p4,p7,_,_,rfl,rfl,XX _ _ j4,ag,(by show 4<=sizeLine; decide),fun p8 n8=>?_⟩
  have t8:=aD.new (o:= .lst (([V.ref p2,.ref p3] ++ [.ref p5]) ++ [.ref p6])) n8
  have XY:=XX.trans t8
  have s8:=s5.trans XY
  refine⟨_,rfl,_,rfl,a,_,rfl,s8.seq hS,fun p9 n9=>?_⟩
  rw[ed]
  have t9:=aD.new (o:= .lst (ds.map V.int)) n9
  refine⟨p9,ds,rfl,bP.of ag,_,_,rfl,rfl,⟨by decide,by decide⟩,_,_,rfl,rfl,(by show(0:Int) < 4; decide),?_⟩
  obtain⟨r,er,VE⟩:=yY (ds.sum / 7) 4 (by decide)
  have VF:r < 4:=by omega
  have fin: ∀(pn:Addr) (names:List Str),H5 pn=some (.lst (names.map V.str))∨upd (upd H5 p6 (.lst [V.str "ann",.str "",.str "bo",.str "Cy ~",.str "ann ",.str "dee"])) p7 (.lst [V.ref p6]) pn=some (.lst (names.map V.str))->names≠[]->names.length<=6->Q (.ref pn) _:=fun pn names h h1 h2=>
   k pn names _ (s8.trans t9) (by
    rcases h with h|h
    ·exact(XY.trans t9) _ _ h
    ·exact(t8.trans t9) _ _ h) h1 h2
  have Ts:=t9 _ _ (ag (H:=upd (upd H5 p6 (.lst [V.str "ann",.str "",.str "bo",.str "Cy ~",.str "ann ",.str "dee"])) p7 (.lst [V.ref p6])) (a:=p8) (o:= .lst (([V.ref p2,.ref p3] ++ [.ref p5]) ++ [.ref p6])))
  match r,VF,er with
  |0,_,er=>exact⟨p8,_,_,.ref p2,rfl,rfl,bP.of Ts,by show q0 _ (ds.sum / 7 % 4)=_; rw[er]; rfl,fin p2 [_,_,_] (.inl j2) (by simp) (by simp)⟩
  |1,_,er=>exact⟨p8,_,_,.ref p3,rfl,rfl,bP.of Ts,by show q0 _ (ds.sum / 7 % 4)=_; rw[er]; rfl,fin p3 [_,_,_] (.inl j3) (by simp) (by simp)⟩
  |2,_,er=>exact⟨p8,_,_,.ref p5,rfl,rfl,bP.of Ts,by show q0 _ (ds.sum / 7 % 4)=_; rw[er]; rfl,fin p5 [_,_,_] (.inl j5) (by simp) (by simp)⟩
  |3,_,er=>exact⟨p8,_,_,.ref p6,rfl,rfl,bP.of Ts,by show q0 _ (ds.sum / 7 % 4)=_; rw[er]; rfl,fin p6 [_,_,_,_,_,_] (.inr j6) (by simp) (by simp)⟩
  |r + 4,h,_=>omega
theorem at4 (a b c d x:Int): ∃y,q0 [V.int a,V.int b,V.int c,V.int d] (x % 4)=some (V.int y):=by
 obtain⟨y,_,h⟩:=kG (g:=V.int) (xs:=[a,b,c,d]) (m:=4) (x:=x) rfl (by decide)
 exact⟨y,h⟩
theorem XZ (a b c x:Int): ∃y,q0 [V.int a,V.int b,V.int c] (x % 3)=some (V.int y):=by
 obtain⟨y,_,h⟩:=kG (g:=V.int) (xs:=[a,b,c]) (m:=3) (x:=x) rfl (by decide)
 exact⟨y,h⟩
theorem VG (a b x:Int): ∃y,(y=a∨y=b)/\q0 [V.int a,V.int b] (x % 2)=some (V.int y):=by
 obtain⟨y,hy,h⟩:=kG (g:=V.int) (xs:=[a,b]) (m:=2) (x:=x) rfl (by decide)
 exact⟨y,by simpa using hy,h⟩
def A7 (K:PySem.W.Frag):Sp:=fun vs H Q _=> ∃(a:Addr) (cs:List Int) (i:Nat),vs=[.ref a,.int i]/\bP K H a (cs.map V.int)/\i < cs.length/\ ∀(p:Addr) (aL:Str) (day dO:Int) (H':Hp),aD H H'->H' p=some (.tup [.str aL,.int day,.int dO])->Q (.ref p) H'
theorem ni:a0 ["_law_cells","_law_k","_law_cell","_law_rest","_law_names","_law_who","_law_day","_law_amount"] ["_law_cells","_law_k"] (az (top 48)):=⟨rfl,rfl,rfl,by decide +kernel,rfl,by decide +kernel,by decide +kernel⟩
theorem wt (T:Txt K mg):fb P w K mg base "_law_penned" 2 ["_law_cells","_law_k"] (A7 K):=by
 have wu:fb P w K mg base "_law_people" 1 ["_law_cells"] (A6 K):=wq T
 have nj:fb P w K mg base "_law_draw" 1 ["_law_number","_law_prime","_law_many"] IE:=A5 T
 refine T.wa.kN (k:=1) ni (fun _ _ _ _ _ _ us hl=>match us,hl with|[_,_],_=>rfl) (fun vs H Q E h=>?_) (fun f dh A outer s H vs Q E hr h=>?_)
 ·obtain⟨a,cs,i,rfl,_⟩:=h
  rfl
 ·obtain⟨a,cs,i,rfl,hS,hi,k⟩:=h
  have nd:=ni.nd
  refine⟨_,(ai (a9 (i:=2) nd rfl (Or.inl rfl) (aJ a6 (pv 0) (pv 1) (fun _ _=>rfl)))
(ai (a9 (i:=3) nd rfl (Or.inl rfl) (aX jw (pv 2) ah))
(ai (a9 (i:=4) nd rfl (Or.inl rfl) (cM wu (hr.mono (by decide)) rfl (aa (pv 0) aj)))
(ai (a9 (i:=5) nd rfl (Or.inl rfl) (aJ a6 (pv 4) (aX cE (aX dk (pv 3) (pv 1)) (bq bp (by rfl) T.en bo (aa (pv 4) aj))) (fun _ _=>rfl)))
(ai (a9 (i:=6) nd rfl (Or.inl rfl) (aX ff (cM nj (hr.mono (by decide)) rfl (aa (aX dk (pv 2) (aX lO ah (pv 1))) (aa ah (aa ah aj)))) ah))
(ai (a9 (i:=7) nd rfl (Or.inl rfl) (aX dk ah (cM nj (hr.mono (by decide)) rfl (aa (aX dk (pv 2) (aX lO ah (pv 1))) (aa ah (aa ah aj))))))
(iA (bX (aZ cX (aX cE (pv 2) ah) ah (ba _))
(au (a9 (i:=7) nd rfl (Or.inl rfl) (aX dk ah (aX lO (cM nj (hr.mono (by decide)) rfl (aa (aX dk (pv 2) (aX lO ah (pv 1))) (aa ah (aa ah aj)))) ah))))
bw)
(iA (bX (aZ cX (aX cE (pv 2) ah) ah (ba _))
(au (a9 (i:=7) nd rfl (Or.inl rfl) (aX dk ah (aX cE (pv 2) (aX ff (aX Kx (aX jn ah ah) (aX jn ah ah)) ah)))))
bw)
(iA (bX (aZ cX (aX cE (pv 2) ah) ah (ba _))
(au (a9 (i:=7) nd rfl (Or.inl rfl) (aJ a6 (cf (aa ah (aa (oG kM ah) (aa (aX jn ah ah) (aa (aX ff ah (aX cE (pv 2) (aX jn ah ah))) aj))))) (aX cE (pv 3) ah) (fun _ _=>rfl))))
bw)
(iA (bX (aZ cX (aX cE (pv 2) ah) ah (ba _))
(au (a9 (i:=6) nd rfl (Or.inl rfl) (aJ a6 (cf (aa (aX jn ah ah) (aa (oG kM (aX jn ah ah)) (aa (aX ff (aX cE (pv 2) ah) ah) aj)))) (aX cE (pv 3) ah) (fun _ _=>rfl))))
bw)
(iA (bX (aZ cX (aX cE (pv 2) ah) ah (ba _))
(au (a9 (i:=6) nd rfl (Or.inl rfl) (aX lO (aX cE (pv 2) (aX jn ah ah)) (aJ a6 (cf (aa ah (aa (oG kM ah) aj))) (aX cE (pv 1) ah) (fun _ _=>rfl)))))
bw)
(au (bf (dD (aa (pv 5) (aa (pv 6) (aa (pv 7) aj))))))))))))))))),?_⟩
  refine⟨_,rfl,_,rfl,a,_,_,.int (cs.getD i 0),rfl,rfl,hS,pJ hi,?_⟩
  generalize cs.getD i 0=cell
  refine⟨_,rfl,_,_,rfl,rfl,⟨by decide,by decide⟩,?_⟩
  refine⟨_,rfl,a,cs,rfl,hS,fun pn names H1 s1 NY hn0 hn6=>?_⟩
  have Tt:0 < names.length:=List.length_pos_iff.mpr hn0
  obtain⟨aL,_,Ro⟩:=kG (g:=V.str) (xs:=names) (m:=((names.map V.str).length:Int)) (x:=cell / 16 + (i:Int)) (by rw[ae]) (by rw[ae]; omega)
  refine⟨_,rfl,_,rfl,_,rfl,_,_,rfl,rfl,_,rfl,pn,_,rfl,.inl (bP.of NY),_,_,rfl,rfl,(by rw[ae]; show(0:Int) < _; omega),pn,_,_,.str aL,rfl,rfl,bP.of NY,Ro,?_⟩
  refine⟨_,rfl,_,rfl,_,_,rfl,rfl,.inl ⟨by decide,by decide⟩,_,_,rfl,rfl,_,_,_,rfl,by decide,by decide,fun r1 _ _=>⟨_,_,rfl,rfl,?_⟩⟩
  refine⟨_,rfl,_,rfl,_,_,rfl,rfl,.inl ⟨by decide,by decide⟩,_,_,rfl,rfl,_,_,_,rfl,by decide,by decide,fun r2 _ _=>⟨_,_,rfl,rfl,?_⟩⟩
  refine⟨fun σ' H'=> ∃day dO:Int,σ'=[some (.ref a),some (.int i),some (.int cell),some (.int (cell / 16)),some (.ref pn),some (.str aL),some (.int day),some (.int dO)]/\aD H H',?_,?_⟩
  ·refine⟨_,rfl,_,_,rfl,rfl,(by show(0:Int) < 7; decide),rfl,_,rfl,cL (fun c=>?_) (fun c=>⟨_,_,rfl,s1⟩)⟩
   refine⟨_,rfl,_,rfl,_,_,rfl,rfl,.inl ⟨by decide,by decide⟩,_,_,rfl,rfl,_,_,_,rfl,by decide,by decide,fun r3 _ _=>⟨_,_,rfl,rfl,.inr ⟨by decide,by decide⟩,_,_,rfl,rfl,?_⟩⟩
   exact⟨_,_,rfl,s1⟩
  rintro σ' H2 ⟨day,dO,rfl,s2⟩
  clear NY Ro s1
  refine⟨fun σ' H'=> ∃day dO:Int,σ'=[some (.ref a),some (.int i),some (.int cell),some (.int (cell / 16)),some (.ref pn),some (.str aL),some (.int day),some (.int dO)]/\aD H H',?_,?_⟩
  ·refine⟨_,rfl,_,_,rfl,rfl,(by show(0:Int) < 41; decide),rfl,_,rfl,cL (fun c=>?_) (fun c=>⟨_,_,rfl,s2⟩)⟩
   refine⟨_,rfl,_,_,rfl,rfl,⟨by decide,by decide,by decide⟩,_,_,rfl,rfl,⟨by decide,by decide,by decide⟩,_,_,rfl,rfl,⟨by decide +kernel,by decide +kernel⟩,_,_,rfl,rfl,_,_,rfl,rfl,(by show(0:Int) < _; decide +kernel),_,_,rfl,rfl,?_⟩
   exact⟨_,_,rfl,s2⟩
  rintro σ' H3 ⟨day,dO,rfl,s3⟩
  refine⟨fun σ' H'=> ∃day dO:Int,σ'=[some (.ref a),some (.int i),some (.int cell),some (.int (cell / 16)),some (.ref pn),some (.str aL),some (.int day),some (.int dO)]/\aD H H',?_,?_⟩
  ·refine⟨_,rfl,_,_,rfl,rfl,(by show(0:Int) < 41; decide),rfl,_,rfl,cL (fun c=>?_) (fun c=>⟨_,_,rfl,s3⟩)⟩
   refine⟨_,rfl,_,_,rfl,rfl,⟨by decide,by decide,by decide⟩,_,rfl,_,_,rfl,rfl,⟨by decide,by decide,by decide⟩,_,_,rfl,rfl,(by show(0:Int) < _; decide +kernel),_,_,rfl,rfl,(by show 4<=sizeLine; decide),fun p4 n4=>?_⟩
   obtain⟨y,hy⟩:=at4 0 (-1) (10 ^ (12:Int).toNat) (0 - cell % 10 ^ (60:Int).toNat) (cell / 16)
   refine⟨_,rfl,_,_,rfl,rfl,(by show(0:Int) < 4; decide),p4,_,_,.int y,rfl,rfl,bP.of ag,hy,?_⟩
   exact⟨_,_,rfl,s3.trans (aD.new n4)⟩
  rintro σ' H4 ⟨day,dO,rfl,s4⟩
  refine⟨fun σ' H'=> ∃day dO:Int,σ'=[some (.ref a),some (.int i),some (.int cell),some (.int (cell / 16)),some (.ref pn),some (.str aL),some (.int day),some (.int dO)]/\aD H H',?_,?_⟩
  ·refine⟨_,rfl,_,_,rfl,rfl,(by show(0:Int) < 43; decide),rfl,_,rfl,cL (fun c=>?_) (fun c=>⟨_,_,rfl,s4⟩)⟩
   refine⟨_,_,rfl,rfl,⟨by decide,by decide,by decide⟩,_,_,rfl,rfl,⟨by decide,by decide,by decide⟩,_,rfl,_,rfl,_,_,rfl,rfl,(by show(0:Int) < 2001; decide),_,_,rfl,rfl,(by show 3<=sizeLine; decide),fun p4 n4=>?_⟩
   obtain⟨y,hy⟩:=XZ (10 ^ (9:Int).toNat) (-(10 ^ (9:Int).toNat)) (cell % 2001 - 1000) (cell / 16)
   refine⟨_,rfl,_,_,rfl,rfl,(by show(0:Int) < 3; decide),p4,_,_,.int y,rfl,rfl,bP.of ag,hy,?_⟩
   exact⟨_,_,rfl,s4.trans (aD.new n4)⟩
  rintro σ' H5 ⟨day,dO,rfl,s5⟩
  refine⟨fun σ' H'=> ∃day dO:Int,σ'=[some (.ref a),some (.int i),some (.int cell),some (.int (cell / 16)),some (.ref pn),some (.str aL),some (.int day),some (.int dO)]/\aD H H',?_,?_⟩
  ·refine⟨_,rfl,_,_,rfl,rfl,(by show(0:Int) < 43; decide),rfl,_,rfl,cL (fun c=>?_) (fun c=>⟨_,_,rfl,s5⟩)⟩
   refine⟨_,rfl,_,_,rfl,rfl,⟨by decide,by decide,by decide⟩,_,_,rfl,rfl,(by show(0:Int) < _; decide +kernel),_,rfl,(by show 2<=sizeLine; decide),fun p4 n4=>?_⟩
   obtain⟨y,X0,hy⟩:=VG 1 (-1) (i:Int)
   refine⟨_,rfl,_,_,rfl,rfl,(by show(0:Int) < 2; decide),p4,_,_,.int y,rfl,rfl,bP.of ag,hy,_,_,rfl,rfl,.inr (by rcases X0 with rfl|rfl <;> exact⟨by decide,by decide⟩),?_⟩
   exact⟨_,_,rfl,s5.trans (aD.new n4)⟩
  rintro σ' H6 ⟨day,dO,rfl,s6⟩
  refine⟨_,rfl,_,rfl,_,rfl,(by show 3<=sizeLine; decide),fun p n=>?_⟩
  exact k p aL day dO _ (s6.trans (aD.new n)) ag
theorem gf {H:Hp}{a:Addr}{o o':HO}:upd (upd H a o) a o'=upd H a o':=by
 funext b
 by_cases h:b=a
 ·rw[h,ag,ag]
 ·rw[aA h,aA h,aA h]
theorem pl {f:Str}{v:V}{fs:List (Str×V)}{n:Nat}(h:fs.length<=n):(eJ f v fs).length<=n + 1:=a8 (mH f v fs) (Nat.add_le_add_right h 1)
theorem A8:([]:List (Str×V)).length<=0:=aC _
theorem lt1000 {fs:List (Str×V)}{n:Nat}(h:fs.length<=n)(k:n < 1000):fs.length < 1000:=pT h k
theorem IF (n:Nat)(r:Rw):eJ "amount" (.int r.c) (eJ "due" (.int r.b) (eJ "day" (.int r.a) (eJ "who" (.str r.aL) (eJ "number" (.int n) []))))=fF n r:=by rfl
theorem IG (n:Nat)(r:Rw):eJ "only" (sG r.c) (eJ "amount" (.int r.b) (eJ "day" (.int r.a) (eJ "who" (.str r.aL) (eJ "number" (.int n) []))))=fj n r:=by rfl
def D7 (A:ej):Sp:=fun vs H Q _=> ∃(x dx:Addr) (n:Nat) (r:Rw),vs=[.ref x,.int n,.str r.aL,.int r.a,.int r.b,.int r.c]/\H x=some (.ins A.d9 dx [])/\Q .eI (upd H x (.ins A.d9 dx (fF n r)))
theorem Lf:a0 ["self","number","who","day","due","amount"] ["self","number","who","day","due","amount"] (az (mem 13 0)):=⟨rfl,rfl,rfl,by decide +kernel,rfl,by decide +kernel,by decide +kernel⟩
theorem NZ {A:ej}(G:jy K mg A):tF P w K mg base "Bill" A.d9 1 ["self","number","who","day","due","amount"] (D7 A):=by
 refine Ld (k:=0) G.K7 G.K6 Lf (fun _ _ _ _ _ _ us hl=>match us,hl with|[_,_,_,_,_,_],_=>rfl) (fun vs H Q E h=>?_) (fun f dh A' outer s H vs Q E hr h=>?_)
 ·obtain⟨x,dx,n,r,rfl,_⟩:=h
  rfl
 ·obtain⟨x,dx,n,r,rfl,hx,k⟩:=h
  refine⟨_,(ai (fS (pv 0) (pv 1) rfl)
(ai (fS (pv 0) (pv 2) rfl)
(ai (fS (pv 0) (pv 3) rfl)
(ai (fS (pv 0) (pv 4) rfl)
(au (fS (pv 0) (pv 5) rfl)))))),?_⟩
  refine⟨_,rfl,_,rfl,x,_,dx,_,rfl,hx,G.eu,G.eU,lt1000 A8 (by decide),?_⟩
  refine⟨_,rfl,_,rfl,x,_,dx,_,rfl,ag,G.eu,G.kF,lt1000 (pl A8) (by decide),?_⟩
  refine⟨_,rfl,_,rfl,x,_,dx,_,rfl,ag,G.eu,G.mX,lt1000 (pl (pl A8)) (by decide),?_⟩
  refine⟨_,rfl,_,rfl,x,_,dx,_,rfl,ag,G.eu,G.mY,lt1000 (pl (pl (pl A8))) (by decide),?_⟩
  refine⟨_,rfl,_,rfl,x,_,dx,_,rfl,ag,G.eu,G.mZ,lt1000 (pl (pl (pl (pl A8)))) (by decide),?_⟩
  rw[gf,gf,gf,gf,IF]
  exact k
def D8 (A:ej):Sp:=fun vs H Q _=> ∃(x dx:Addr) (n:Nat) (r:Rw),vs=[.ref x,.int n,.str r.aL,.int r.a,.int r.b,sG r.c]/\H x=some (.ins A.eo dx [])/\Q .eI (upd H x (.ins A.eo dx (fj n r)))
theorem Ga:a0 ["self","number","who","day","amount","only"] ["self","number","who","day","amount","only"] (az (mem 14 0)):=⟨rfl,rfl,rfl,by decide +kernel,rfl,by decide +kernel,by decide +kernel⟩
theorem IH {A:ej}(G:jy K mg A):tF P w K mg base "Credit" A.eo 1 ["self","number","who","day","amount","only"] (D8 A):=by
 refine Ld (k:=0) G.FW G.FV Ga (fun _ _ _ _ _ _ us hl=>match us,hl with|[_,_,_,_,_,_],_=>rfl) (fun vs H Q E h=>?_) (fun f dh A' outer s H vs Q E hr h=>?_)
 ·obtain⟨x,dx,n,r,rfl,_⟩:=h
  rfl
 ·obtain⟨x,dx,n,r,rfl,hx,k⟩:=h
  refine⟨_,(ai (fS (pv 0) (pv 1) rfl)
(ai (fS (pv 0) (pv 2) rfl)
(ai (fS (pv 0) (pv 3) rfl)
(ai (fS (pv 0) (pv 4) rfl)
(au (fS (pv 0) (pv 5) rfl)))))),?_⟩
  refine⟨_,rfl,_,rfl,x,_,dx,_,rfl,hx,G.dv,G.eP,lt1000 A8 (by decide),?_⟩
  refine⟨_,rfl,_,rfl,x,_,dx,_,rfl,ag,G.dv,G.kQ,lt1000 (pl A8) (by decide),?_⟩
  refine⟨_,rfl,_,rfl,x,_,dx,_,rfl,ag,G.dv,G.jb,lt1000 (pl (pl A8)) (by decide),?_⟩
  refine⟨_,rfl,_,rfl,x,_,dx,_,rfl,ag,G.dv,G.lB,lt1000 (pl (pl (pl A8))) (by decide),?_⟩
  refine⟨_,rfl,_,rfl,x,_,dx,_,rfl,ag,G.dv,G.jZ,lt1000 (pl (pl (pl (pl A8)))) (by decide),?_⟩
  rw[gf,gf,gf,gf,IG]
  exact k
def CP (A:ej):Sp:=fun vs H Q _=> ∃(pw:Addr) (S:Bk) (f:eO) (c b:Nat) (x:Int),vs=[.ref pw,.int c,.int b,.int x]/\dP A H pw S f/\c < S.credits.length/\b < S.aH.length/\S.made.length < sizeLine/\ ∀H',Frame f.fp H H'->dP A H' pw (S.put c b x) f->Q .eI H'
theorem A9:a0 ["self","credit_number","bill_number","amount"] ["self","credit_number","bill_number","amount"] (az (mem 25 8)):=⟨rfl,rfl,rfl,by decide +kernel,rfl,by decide +kernel,by decide +kernel⟩
theorem Lg {rows:List Rw}{i:Nat}(h:i < rows.length):q0 (rows.map fun r=>V.int r.d) (i:Int)=some (.int (rows.getD i default).d):=cO (by
 rw[aB,ak,af h]; rfl)
theorem Mi {A:ej}(G:jy K mg A):gY sq P w K mg base A.work "put" 1 ["self","credit_number","bill_number","amount"] (CP A):=by
 refine Lc (k:=0) G.AY G.bO A9 (fun _ _ _ _ _ _ us hl=>match us,hl with|[_,_,_,_],_=>rfl) (fun vs H Q E h=>?_) (fun f dh A' outer s H vs Q E hr h=>?_)
 ·obtain⟨pw,S,g,c,b,x,rfl,_⟩:=h
  rfl
 ·obtain⟨pw,S,g,c,b,x,rfl,hW,hc,hb,hz,k⟩:=h
  obtain⟨dw,hw⟩:=hW.obj
  obtain⟨ms,m1,m2⟩:=hW.hm
  obtain⟨e1,e2,e3,e4,e5,e6,e7,e8,e9,Mh⟩:=eO.ne hW.nd
  have nw: ∀q∈g.fp,pw≠q:=fun q hq z=>hW.ins hW.obj (z▸hq)
  have w3:=nw g.pl (by simp[eO.fp])
  have w4:=nw g.pf (by simp[eO.fp])
  refine⟨_,(ai (lN (aX ff (aJ a6 (cu (pv 0) rfl) (pv 1) (fun _ _=>rfl)) (pv 3)) (o8 (cu (pv 0) rfl) (pv 1) set_list))
(ai (lN (aX ff (aJ a6 (cu (pv 0) rfl) (pv 2) (fun _ _=>rfl)) (pv 3)) (o8 (cu (pv 0) rfl) (pv 2) set_list))
(au (bU (fz aM aG aI b0 (cu (pv 0) rfl) (aa (dD (aa (pv 1) (aa (pv 2) (aa (pv 3) aj)))) aj)))))),?_⟩
  refine⟨_,rfl,pw,_,dw,_,_,rfl,hw,G.bO,G.fH,lA g,_,rfl,g.pf,_,_,_,rfl,rfl,bP.of hW.hf,Lg hc,_,rfl,_,_,rfl,rfl,?_⟩
  refine⟨_,rfl,pw,_,dw,_,_,rfl,hw,G.bO,G.fH,lA g,_,rfl,g.pf,_,_,c,rfl,rfl,hW.hf,qJ (by rw[ae]; exact hc),?_⟩
  have Rq:upd H g.pf (.lst ((S.credits.map fun r=>V.int r.d).set c (.int ((S.cr c).d - x)))) pw=some (.ins A.work dw (ly g)):=by rw[aA w4]; exact hw
  have Rt:upd H g.pf (.lst ((S.credits.map fun r=>V.int r.d).set c (.int ((S.cr c).d - x)))) g.pl=some (.lst (S.aH.map fun r=>V.int r.d)):=by rw[aA e8]; exact hW.hl
  refine⟨_,rfl,pw,_,dw,_,_,rfl,Rq,G.bO,G.fG,lz g,_,rfl,g.pl,_,_,_,rfl,rfl,bP.of Rt,Lg hb,_,rfl,_,_,rfl,rfl,?_⟩
  refine⟨_,rfl,pw,_,dw,_,_,rfl,Rq,G.bO,G.fG,lz g,_,rfl,g.pl,_,_,b,rfl,rfl,Rt,qJ (by rw[ae]; exact hb),?_⟩
  have Pg:upd (upd H g.pf (.lst ((S.credits.map fun r=>V.int r.d).set c (.int ((S.cr c).d - x))))) g.pl (.lst ((S.aH.map fun r=>V.int r.d).set b (.int ((S.bl b).d - x)))) pw=some (.ins A.work dw (ly g)):=by rw[aA w3]; exact Rq
  have VH:upd (upd H g.pf (.lst ((S.credits.map fun r=>V.int r.d).set c (.int ((S.cr c).d - x))))) g.pl (.lst ((S.aH.map fun r=>V.int r.d).set b (.int ((S.bl b).d - x)))) g.pm=some (.lst ms):=by rw[aA e9.symm,aA Mh.symm]; exact m1
  refine⟨_,rfl,pw,_,dw,_,_,rfl,Pg,G.bO,G.l6,D5 g,.inl ⟨rfl,_,bP.of VH⟩,_,rfl,_,rfl,_,rfl,(by show 3<=sizeLine; decide),fun p8 n8=>?_⟩
  have n8':H p8=none:=by
   by_cases z1:p8=g.pl
   ·rw[z1,ag] at n8; cases n8
   ·rw[aA z1] at n8
    by_cases z2:p8=g.pf
    ·rw[z2,ag] at n8; cases n8
    ·rw[aA z2] at n8; exact n8
  refine⟨g.pm,ms,_,rfl,rfl,aD.new n8 _ _ VH,by rw[← aQ m2]; exact hz,?_⟩
  obtain⟨W,F⟩:=hW.put (x:=x) hc hb m1 m2 n8'
  exact k _ F W
end
end eQ
namespace L2
open PySem PySem.Spec PySem.W PyProof.Rows
section
variable {A:ej}{H H':Hp}{pw x:Addr}{S:Bk}{f:eO}{r:Rw}
def eO.kr (f:eO)(p:Addr):eO:={f with iw:=f.iw ++ [p]}
def eO.iu (f:eO)(p:Addr):eO:={f with cps:=f.cps ++ [p]}
theorem dP.kr (h:dP A H pw S f)(hx:eF H x A.d9 (fF S.aH.length r)):
  dP A (upd (upd H f.pb (.lst (f.iw.map V.ref ++ [.ref x]))) f.pl (.lst ((S.aH.map fun r=>V.int r.d) ++ [.int r.d]))) pw (S.kr r) (f.kr x)/\Frame f.fp H (upd (upd H f.pb (.lst (f.iw.map V.ref ++ [.ref x]))) f.pl (.lst ((S.aH.map fun r=>V.int r.d) ++ [.int r.d]))):=by
 obtain⟨e1,e2,e3,e4,e5,e6,e7,e8,e9,Mh⟩:=eO.ne h.nd
 have F:Frame f.fp H (upd (upd H f.pb (.lst (f.iw.map V.ref ++ [.ref x]))) f.pl (.lst ((S.aH.map fun r=>V.int r.d) ++ [.int r.d]))):=(Frame.upd (by simp[eO.fp])).tr (Frame.upd (by simp[eO.fp]))
 refine⟨?_,F⟩
 obtain⟨o1,o2,o3⟩:=h.objs F
 have tk:=h.tk F
 obtain⟨ms,m1,m2⟩:=h.hm
 have t: ∀q,q≠f.pb->q≠f.pl->upd (upd H f.pb (.lst (f.iw.map V.ref ++ [.ref x]))) f.pl (.lst ((S.aH.map fun r=>V.int r.d) ++ [.int r.d])) q=H q:=fun q z1 z2=>by rw[aA z2,aA z1]
 refine⟨o1,?_,?_,?_,?_,⟨ms,?_,m2.mono tk⟩,o2.add (hx.frame F (h.ins hx)),o3,h.nd⟩
 ·show upd (upd H f.pb _) f.pl _ f.pb=some (.lst ((f.iw ++ [x]).map V.ref))
  rw[aA e2,ag,aR]; rfl
 ·exact(t f.pc e1.symm e5).trans h.hc
 ·show upd (upd H f.pb _) f.pl _ f.pl=some (.lst ((S.aH ++ [r]).map fun r=>V.int r.d))
  rw[ag,aR]; rfl
 ·exact(t f.pf e3.symm e8.symm).trans h.hf
 ·exact(t f.pm e4.symm e9.symm).trans m1
theorem dP.iu (h:dP A H pw S f)(hx:eF H x A.eo (fj S.credits.length r)):
  dP A (upd (upd H f.pc (.lst (f.cps.map V.ref ++ [.ref x]))) f.pf (.lst ((S.credits.map fun r=>V.int r.d) ++ [.int r.d]))) pw (S.iu r) (f.iu x)/\Frame f.fp H (upd (upd H f.pc (.lst (f.cps.map V.ref ++ [.ref x]))) f.pf (.lst ((S.credits.map fun r=>V.int r.d) ++ [.int r.d]))):=by
 obtain⟨e1,e2,e3,e4,e5,e6,e7,e8,e9,Mh⟩:=eO.ne h.nd
 have F:Frame f.fp H (upd (upd H f.pc (.lst (f.cps.map V.ref ++ [.ref x]))) f.pf (.lst ((S.credits.map fun r=>V.int r.d) ++ [.int r.d]))):=(Frame.upd (by simp[eO.fp])).tr (Frame.upd (by simp[eO.fp]))
 refine⟨?_,F⟩
 obtain⟨o1,o2,o3⟩:=h.objs F
 have tk:=h.tk F
 obtain⟨ms,m1,m2⟩:=h.hm
 have t: ∀q,q≠f.pc->q≠f.pf->upd (upd H f.pc (.lst (f.cps.map V.ref ++ [.ref x]))) f.pf (.lst ((S.credits.map fun r=>V.int r.d) ++ [.int r.d])) q=H q:=fun q z1 z2=>by rw[aA z2,aA z1]
 refine⟨o1,?_,?_,?_,?_,⟨ms,?_,m2.mono tk⟩,o2,o3.add (hx.frame F (h.ins hx)),h.nd⟩
 ·exact(t f.pb e1 e3).trans h.hb
 ·show upd (upd H f.pc _) f.pf _ f.pc=some (.lst ((f.cps ++ [x]).map V.ref))
  rw[aA e6,ag,aR]; rfl
 ·exact(t f.pl e5.symm e8).trans h.hl
 ·show upd (upd H f.pc _) f.pf _ f.pf=some (.lst ((S.credits ++ [r]).map fun r=>V.int r.d))
  rw[ag,aR]; rfl
 ·exact(t f.pm e7.symm Mh.symm).trans m1
end
end L2
namespace eQ
open PySem L2 PyProof.Rows KI
seal L2.pV L2.PS L2.PE L2.PT L2.PW L2.PA L2.PC L2.PG L2.Kc L2.PI L2.L4 L2.Ku L2.PO L2.oF L2.MW L2.je L2.JI L2.O5
section
variable {P:Program}{w:World}{K:PySem.W.Frag}{mg:Str->Option Value}{base:Heap}
def Lh (A:ej)(K:PySem.W.Frag)(E:XK)(t:Str)(H:Hp):Prop:= ∀C,gX K C A.refusal->(t="too much"->C=A.tooMuch)->EX E C t H
def Mj (A:ej)(K:PySem.W.Frag):Sp:=fun vs H Q E=> ∃(pw:Addr) (S:Bk) (f:eO) (n:Int),vs=[.ref pw,.int n]/\dP A H pw S f/\(pW n S.credits.length-> ∀p,eF H p A.eo (fj n.toNat (S.cr n.toNat))->Q (.ref p) H)/\(¬ pW n S.credits.length->Lh A K E "no credit" H)
def II (A:ej)(K:PySem.W.Frag):Sp:=fun vs H Q E=> ∃(pw:Addr) (S:Bk) (f:eO) (n:Int),vs=[.ref pw,.int n]/\dP A H pw S f/\(pW n S.aH.length-> ∀p,eF H p A.d9 (fF n.toNat (S.bl n.toNat))->Q (.ref p) H)/\(¬ pW n S.aH.length->Lh A K E "no bill" H)
theorem qK:a0 ["self","number"] ["self","number"] (az (mem 25 9)):=⟨rfl,rfl,rfl,by decide +kernel,rfl,by decide +kernel,by decide +kernel⟩
theorem Ba (T:Txt K mg){A:ej}(G:jy K mg A):gY (my P w mg) P w K mg base A.work "credit_at" 4 ["self","number"] (Mj A K):=by
 refine qI (k:=3) G.qH G.bO qK (fun _ _ _ _ _ _ us hl=>match us,hl with|[_,_],_=>rfl) (fun vs H Q E h=>?_) (fun f dh A' outer s H vs Q E hr mi h=>?_)
 ·obtain⟨pw,S,g,n,rfl,_⟩:=h
  rfl
 ·obtain⟨pw,S,g,n,rfl,hW,k1,k2⟩:=h
  obtain⟨dw,hw⟩:=hW.obj
  have hlen:(g.cps.map V.ref).length=S.credits.length:=by rw[ae]; exact hW.rc.1
  refine⟨_,(ai (bX (PW.pt (pw_or (aZ jN (pv 1) ah (ba _)) (pw_or1 (aZ He (pv 1) (bq bp (by rfl) T.en bo (aa (cu (pv 0) rfl) aj)) (ba _)))))
(au (jW mi (A0 T G) (hr.h.mono (by decide)) rfl rfl))
bw)
(au (bf (aJ a6 (cu (pv 0) rfl) (pv 1) (fun _ _=>rfl))))),?_⟩
  have no: ¬ pW n S.credits.length-> ∀dx,H dx=none->E (.ref A.jY) (some dx) (upd H dx (.xd [("text",.str "no credit")])):=fun z dx hd=>(k2 z A.jY G.sH (fun q=>absurd q (by decide +kernel))).at hd
  refine⟨_,rfl,_,_,rfl,rfl,_,rfl,cL (fun z=>fJ (no fun q=>?_)) (fun z=>?_)⟩
  ·have z':n < 0:=aS z
   have:=q.1
   omega
  have z1: ¬ n < 0:=fun q=>z (aE q)
  refine⟨_,rfl,_,rfl,pw,_,dw,_,_,rfl,hw,G.bO,G.cU,hX g,g.pc,_,rfl,.inl (bP.of hW.hc),_,_,rfl,rfl,_,rfl,cL (fun z=>no fun q=>?_) (fun z=>?_)⟩
  ·have z':((g.cps.map V.ref).length:Int)<=n:=aS z
   have:=q.2
   omega
  have z2: ¬ ((g.cps.map V.ref).length:Int)<=n:=fun q=>z (aE q)
  have jU:pW n S.credits.length:=⟨by omega,by omega⟩
  obtain⟨c,rfl⟩:=cJ jU.1
  have hc:c < S.credits.length:=by have:=jU.2; omega
  obtain⟨p,VI,sZ⟩:=hW.rc.get hc
  refine⟨_,rfl,pw,_,dw,_,_,rfl,hw,G.bO,G.cU,hX g,_,rfl,g.pc,_,_,.ref p,rfl,rfl,bP.of hW.hc,cO (by rw[aB,VI]; rfl),?_⟩
  exact k1 jU p sZ
theorem tH:a0 ["self","number"] ["self","number"] (az (mem 25 10)):=⟨rfl,rfl,rfl,by decide +kernel,rfl,by decide +kernel,by decide +kernel⟩
theorem xI (T:Txt K mg){A:ej}(G:jy K mg A):gY (my P w mg) P w K mg base A.work "bill_at" 4 ["self","number"] (II A K):=by
 refine qI (k:=3) G.tE G.bO tH (fun _ _ _ _ _ _ us hl=>match us,hl with|[_,_],_=>rfl) (fun vs H Q E h=>?_) (fun f dh A' outer s H vs Q E hr mi h=>?_)
 ·obtain⟨pw,S,g,n,rfl,_⟩:=h
  rfl
 ·obtain⟨pw,S,g,n,rfl,hW,k1,k2⟩:=h
  obtain⟨dw,hw⟩:=hW.obj
  have hlen:(g.iw.map V.ref).length=S.aH.length:=by rw[ae]; exact hW.rb.1
  refine⟨_,(ai (bX (PW.pt (pw_or (aZ jN (pv 1) ah (ba _)) (pw_or1 (aZ He (pv 1) (bq bp (by rfl) T.en bo (aa (cu (pv 0) rfl) aj)) (ba _)))))
(au (jW mi (FZ T G) (hr.h.mono (by decide)) rfl rfl))
bw)
(au (bf (aJ a6 (cu (pv 0) rfl) (pv 1) (fun _ _=>rfl))))),?_⟩
  have no: ¬ pW n S.aH.length-> ∀dx,H dx=none->E (.ref A.pH) (some dx) (upd H dx (.xd [("text",.str "no bill")])):=fun z dx hd=>(k2 z A.pH G.xF (fun q=>absurd q (by decide +kernel))).at hd
  refine⟨_,rfl,_,_,rfl,rfl,_,rfl,cL (fun z=>fJ (no fun q=>?_)) (fun z=>?_)⟩
  ·have z':n < 0:=aS z
   have:=q.1
   omega
  have z1: ¬ n < 0:=fun q=>z (aE q)
  refine⟨_,rfl,_,rfl,pw,_,dw,_,_,rfl,hw,G.bO,G.ee,ji g,g.pb,_,rfl,.inl (bP.of hW.hb),_,_,rfl,rfl,_,rfl,cL (fun z=>no fun q=>?_) (fun z=>?_)⟩
  ·have z':((g.iw.map V.ref).length:Int)<=n:=aS z
   have:=q.2
   omega
  have z2: ¬ ((g.iw.map V.ref).length:Int)<=n:=fun q=>z (aE q)
  have jU:pW n S.aH.length:=⟨by omega,by omega⟩
  obtain⟨c,rfl⟩:=cJ jU.1
  have hc:c < S.aH.length:=by have:=jU.2; omega
  obtain⟨p,VI,sZ⟩:=hW.rb.get hc
  refine⟨_,rfl,pw,_,dw,_,_,rfl,hw,G.bO,G.ee,ji g,_,rfl,g.pb,_,_,.ref p,rfl,rfl,bP.of hW.hb,cO (by rw[aB,VI]; rfl),?_⟩
  exact k1 jU p sZ
def Ru (A:ej)(Q:VK)(H:Hp)(pw:Addr)(f:eO)(S':Bk)(v:V):Prop:= ∀f' H',f'.fp=f.fp->Frame f.fp H H'->dP A H' pw S' f'->Q v H'
def y0 (A:ej)(K:PySem.W.Frag):Sp:=fun vs H Q E=> ∃(pw:Addr) (S:Bk) (f:eO) (aL:Str) (day dO only:Int),vs=[.ref pw,.str aL,.int day,.int dO,sG only]/\dP A H pw S f/\S.credits.length<=900/\
 (1<=dO->Ru A Q H pw f (S.iu ⟨aL,day,dO,only,dO⟩) (.int S.credits.length))/\(dO < 1->Lh A K E "no amount" H)
theorem js:a0 ["self","who","day","amount","only","number"] ["self","who","day","amount","only"] (az (mem 25 4)):=⟨rfl,rfl,rfl,by decide +kernel,rfl,by decide +kernel,by decide +kernel⟩
theorem lC {H:Hp}{x dx C:Addr}{fs:List (Str×V)}(nx:H x=none)(nd:H dx=none)(ne:dx≠x):aD H (upd (upd H dx (.own x)) x (.ins C dx fs)):=(aD.new nd).trans (aD.new (by rw[aA ne.symm]; exact nx))
theorem oK (T:Txt K mg){A:ej}(G:jy K mg A):gY (my P w mg) P w K mg base A.work "tell_credit" 5 ["self","who","day","amount","only"] (y0 A K):=by
 have gz:u0 P w K mg base "check_amount" 4 ["amount"] (tW A):=j7 T G
 have IJ:tF P w K mg base "Credit" A.eo 1 ["self","number","who","day","amount","only"] (D8 A):=IH G
 refine qI (k:=4) G.ox G.bO js (fun _ _ _ _ _ _ us hl=>match us,hl with|[_,_,_,_,_],_=>rfl) (fun vs H Q E h=>?_) (fun f dh A' outer s H vs Q E hr mi h=>?_)
 ·obtain⟨pw,S,g,aL,day,dO,only,rfl,_⟩:=h
  rfl
 ·obtain⟨pw,S,g,aL,day,dO,only,rfl,hW,hl,k1,k2⟩:=h
  have nd:=js.nd
  obtain⟨dw,hw⟩:=hW.obj
  have hlen:(g.cps.map V.ref).length=S.credits.length:=by rw[ae]; exact hW.rc.1
  refine⟨_,(ai (bU (rT gz (hr.mono (by decide)) rfl mi.pass (aa (pv 3) aj)))
(ai (a9 (i:=5) nd rfl (Or.inl rfl) (bq bp (by rfl) T.en bo (aa (cu (pv 0) rfl) aj)))
(ai (bU (fz aM aG aI b0 (cu (pv 0) rfl) (aa (Rl IJ (hr.mono (by decide)) rfl (aa (pv 5) (aa (pv 1) (aa (pv 2) (aa (pv 3) (aa (pv 4) aj)))))) aj)))
(ai (bU (fz aM aG aI b0 (cu (pv 0) rfl) (aa (pv 3) aj)))
(au (bf (pv 5))))))),?_⟩
  refine⟨_,rfl,dO,rfl,fun h1=>?_,fun h2=>k2 h2 A.iG G.kE (fun q=>absurd q (by decide +kernel))⟩
  refine⟨_,rfl,pw,_,dw,_,_,rfl,hw,G.bO,G.cU,hX g,g.pc,_,rfl,.inl (bP.of hW.hc),?_⟩
  refine⟨_,rfl,pw,_,dw,_,_,rfl,hw,G.bO,G.cU,hX g,.inl ⟨rfl,_,bP.of hW.hc⟩,_,rfl,_,rfl,_,rfl,_,rfl,_,rfl,fun x dx nx IB ne=>?_⟩
  refine⟨x,dx,(g.cps.map V.ref).length,⟨aL,day,dO,only,dO⟩,rfl,ag,rfl,?_⟩
  rw[gf,hlen]
  have s1:=lC (C:=A.eo) (fs:=fj S.credits.length ⟨aL,day,dO,only,dO⟩) nx IB ne
  have hx:eF (upd (upd H dx (.own x)) x (.ins A.eo dx (fj S.credits.length ⟨aL,day,dO,only,dO⟩))) x A.eo (fj S.credits.length ⟨aL,day,dO,only,dO⟩):=⟨dx,ag⟩
  generalize upd (upd H dx (.own x)) x (.ins A.eo dx (fj S.credits.length ⟨aL,day,dO,only,dO⟩))=H3 at s1 hx
  have y1:=hW.same s1
  obtain⟨W4,F4⟩:=y1.iu hx
  refine⟨g.pc,_,_,rfl,rfl,y1.hc,bB (by omega),?_⟩
  have ew:pw≠g.pc:=fun z=>y1.ins y1.obj (z▸(by simp[eO.fp]))
  obtain⟨e1,e2,e3,e4,e5,e6,e7,e8,e9,Mh⟩:=eO.ne y1.nd
  refine⟨_,rfl,pw,_,dw,_,_,rfl,(by rw[aA ew]; exact s1 _ _ hw),G.bO,G.fH,lA g,.inl ⟨rfl,_,bP.of (by rw[aA e6.symm]; exact y1.hf)⟩,_,rfl,g.pf,_,_,rfl,rfl,(by rw[aA e6.symm]; exact y1.hf),bB (by rw[ae]; omega),?_⟩
  refine⟨_,rfl,?_⟩
  exact k1 h1 (g.iu x) _ rfl (F4.l5 s1) W4
def D9 (A:ej)(K:PySem.W.Frag):Sp:=fun vs H Q E=> ∃(pw:Addr) (S:Bk) (f:eO) (aL:Str) (day yt dO:Int),vs=[.ref pw,.str aL,.int day,.int yt,.int dO]/\dP A H pw S f/\S.aH.length<=900/\
 (S.bar (.d9 aL day yt dO)=""->Ru A Q H pw f (S.enter (.d9 aL day yt dO)) (.int S.aH.length))/\(S.bar (.d9 aL day yt dO)≠""->Lh A K E (S.bar (.d9 aL day yt dO)) H)
theorem kH:a0 ["self","who","day","due","amount","number"] ["self","who","day","due","amount"] (az (mem 25 1)):=⟨rfl,rfl,rfl,by decide +kernel,rfl,by decide +kernel,by decide +kernel⟩
theorem Bb (T:Txt K mg){A:ej}(G:jy K mg A):gY (my P w mg) P w K mg base A.work "tell_bill" 5 ["self","who","day","due","amount"] (D9 A K):=by
 have gz:u0 P w K mg base "check_amount" 4 ["amount"] (tW A):=j7 T G
 have N0:tF P w K mg base "Bill" A.d9 1 ["self","number","who","day","due","amount"] (D7 A):=NZ G
 refine qI (k:=4) G.qE G.bO kH (fun _ _ _ _ _ _ us hl=>match us,hl with|[_,_,_,_,_],_=>rfl) (fun vs H Q E h=>?_) (fun f dh A' outer s H vs Q E hr mi h=>?_)
 ·obtain⟨pw,S,g,aL,day,yt,dO,rfl,_⟩:=h
  rfl
 ·obtain⟨pw,S,g,aL,day,yt,dO,rfl,hW,hl,k1,k2⟩:=h
  have nd:=kH.nd
  obtain⟨dw,hw⟩:=hW.obj
  have oz:S.bar (.d9 aL day yt dO)=(if dO < 1 then("no amount":Str) else if yt < day then("too early":Str) else("":Str)):=rfl
  rw[oz] at k1 k2
  have hlen:(g.iw.map V.ref).length=S.aH.length:=by rw[ae]; exact hW.rb.1
  refine⟨_,(ai (bU (rT gz (hr.mono (by decide)) rfl mi.pass (aa (pv 4) aj)))
(ai (bX (aZ jN (pv 3) (pv 2) (ba _))
(au (jW mi (A4 T G) (hr.h.mono (by decide)) rfl rfl))
bw)
(ai (a9 (i:=5) nd rfl (Or.inl rfl) (bq bp (by rfl) T.en bo (aa (cu (pv 0) rfl) aj)))
(ai (bU (fz aM aG aI b0 (cu (pv 0) rfl) (aa (Rl N0 (hr.mono (by decide)) rfl (aa (pv 5) (aa (pv 1) (aa (pv 2) (aa (pv 3) (aa (pv 4) aj)))))) aj)))
(ai (bU (fz aM aG aI b0 (cu (pv 0) rfl) (aa (pv 4) aj)))
(au (bf (pv 5)))))))),?_⟩
  refine⟨_,rfl,dO,rfl,fun h1=>?_,fun h2=>?_⟩
  ·have n1': ¬ dO < 1:=by omega
   rw[aV n1'] at k1 k2
   refine⟨_,rfl,_,rfl,_,_,rfl,rfl,_,rfl,cL (fun z=>?_) (fun z=>?_)⟩
   ·have z':yt < day:=aS z
    rw[bg z'] at k2
    exact fun dx n=>(k2 (by decide +kernel) A.tooEarly G.sI (fun q=>absurd q (by decide +kernel))).at n
   have z': ¬ yt < day:=fun q=>z (aE q)
   rw[aV z'] at k1
   refine⟨_,rfl,pw,_,dw,_,_,rfl,hw,G.bO,G.ee,ji g,g.pb,_,rfl,.inl (bP.of hW.hb),?_⟩
   refine⟨_,rfl,pw,_,dw,_,_,rfl,hw,G.bO,G.ee,ji g,.inl ⟨rfl,_,bP.of hW.hb⟩,_,rfl,_,rfl,_,rfl,_,rfl,_,rfl,fun x dx nx IB ne=>?_⟩
   refine⟨x,dx,(g.iw.map V.ref).length,⟨aL,day,yt,dO,dO⟩,rfl,ag,rfl,?_⟩
   rw[gf,hlen]
   have s1:=lC (C:=A.d9) (fs:=fF S.aH.length ⟨aL,day,yt,dO,dO⟩) nx IB ne
   have hx:eF (upd (upd H dx (.own x)) x (.ins A.d9 dx (fF S.aH.length ⟨aL,day,yt,dO,dO⟩))) x A.d9 (fF S.aH.length ⟨aL,day,yt,dO,dO⟩):=⟨dx,ag⟩
   generalize upd (upd H dx (.own x)) x (.ins A.d9 dx (fF S.aH.length ⟨aL,day,yt,dO,dO⟩))=H3 at s1 hx
   have y1:=hW.same s1
   obtain⟨W4,F4⟩:=y1.kr hx
   refine⟨g.pb,_,_,rfl,rfl,y1.hb,bB (by omega),?_⟩
   have ew:pw≠g.pb:=fun z=>y1.ins y1.obj (z▸(by simp[eO.fp]))
   obtain⟨e1,e2,e3,e4,e5,e6,e7,e8,e9,Mh⟩:=eO.ne y1.nd
   refine⟨_,rfl,pw,_,dw,_,_,rfl,(by rw[aA ew]; exact s1 _ _ hw),G.bO,G.fG,lz g,.inl ⟨rfl,_,bP.of (by rw[aA e2.symm]; exact y1.hl)⟩,_,rfl,g.pl,_,_,rfl,rfl,(by rw[aA e2.symm]; exact y1.hl),bB (by rw[ae]; omega),?_⟩
   refine⟨_,rfl,?_⟩
   exact k1 rfl (g.kr x) _ rfl (F4.l5 s1) W4
  ·rw[bg h2] at k2
   exact k2 (by decide +kernel) A.iG G.kE (fun q=>absurd q (by decide +kernel))
theorem nu (g:eO):(ly g).lookup ("tell_credit":Str)=none:=by rfl
theorem u6 (g:eO):(ly g).lookup ("bill_at":Str)=none:=by rfl
theorem y2 (g:eO):(ly g).lookup ("credit_at":Str)=none:=by rfl
theorem IK (g:eO):(ly g).lookup ("put":Str)=none:=by rfl
def Ea (A:ej)(K:PySem.W.Frag):Sp:=fun vs H Q E=> ∃(pw:Addr) (S:Bk) (f:eO) (aL:Str) (day dO:Int),vs=[.ref pw,.str aL,.int day,.int dO]/\dP A H pw S f/\S.credits.length<=900/\
 (S.bar (.ra aL day dO)=""->Ru A Q H pw f (S.enter (.ra aL day dO)) (.int S.credits.length))/\(S.bar (.ra aL day dO)≠""->Lh A K E (S.bar (.ra aL day dO)) H)
theorem nv:a0 ["self","who","day","amount"] ["self","who","day","amount"] (az (mem 25 2)):=⟨rfl,rfl,rfl,by decide +kernel,rfl,by decide +kernel,by decide +kernel⟩
theorem u9 (T:Txt K mg){A:ej}(G:jy K mg A):gY (my P w mg) P w K mg base A.work "tell_payment" 6 ["self","who","day","amount"] (Ea A K):=by
 have kW:gY (my P w mg) P w K mg base A.work "tell_credit" 5 ["self","who","day","amount","only"] (y0 A K):=oK T G
 refine qI (k:=5) G.m8 G.bO nv (fun _ _ _ _ _ _ us hl=>match us,hl with|[_,_,_,_],_=>rfl) (fun vs H Q E h=>?_) (fun f dh A' outer s H vs Q E hr mi h=>?_)
 ·obtain⟨pw,S,g,aL,day,dO,rfl,_⟩:=h
  rfl
 ·obtain⟨pw,S,g,aL,day,dO,rfl,hW,hl,k1,k2⟩:=h
  obtain⟨dw,hw⟩:=hW.obj
  have oz:S.bar (.ra aL day dO)=(if dO < 1 then("no amount":Str) else("":Str)):=rfl
  rw[oz] at k1 k2
  refine⟨_,(au (bf (m9 kW (hr.mono (by decide)) mi.pass (pv 0) (aa (pv 1) (aa (pv 2) (aa (pv 3) (aa B8 aj))))))),?_⟩
  refine⟨_,rfl,pw,dw,_,rfl,hw,nu g,_,rfl,_,rfl,_,rfl,pw,S,g,aL,day,dO,-1,rfl,hW,hl,fun h1=>?_,fun h2=>?_⟩
  ·rw[aV (by omega)] at k1
   exact k1 rfl
  ·rw[bg h2] at k2
   exact k2 (by decide +kernel)
def Eb (A:ej)(K:PySem.W.Frag):Sp:=fun vs H Q E=> ∃(pw:Addr) (S:Bk) (f:eO) (b day dO:Int),vs=[.ref pw,.int b,.int day,.int dO]/\dP A H pw S f/\S.credits.length<=900/\
 (S.bar (.note b day dO)=""->Ru A Q H pw f (S.enter (.note b day dO)) (.int S.credits.length))/\(S.bar (.note b day dO)≠""->Lh A K E (S.bar (.note b day dO)) H)
theorem kI:a0 ["self","bill_number","day","amount","bill"] ["self","bill_number","day","amount"] (az (mem 25 3)):=⟨rfl,rfl,rfl,by decide +kernel,rfl,by decide +kernel,by decide +kernel⟩
theorem Bc (T:Txt K mg){A:ej}(G:jy K mg A):gY (my P w mg) P w K mg base A.work "tell_note" 6 ["self","bill_number","day","amount"] (Eb A K):=by
 have kW:gY (my P w mg) P w K mg base A.work "tell_credit" 5 ["self","who","day","amount","only"] (y0 A K):=oK T G
 have rV:gY (my P w mg) P w K mg base A.work "bill_at" 4 ["self","number"] (II A K):=xI T G
 refine qI (k:=5) G.qF G.bO kI (fun _ _ _ _ _ _ us hl=>match us,hl with|[_,_,_,_],_=>rfl) (fun vs H Q E h=>?_) (fun f dh A' outer s H vs Q E hr mi h=>?_)
 ·obtain⟨pw,S,g,b,day,dO,rfl,_⟩:=h
  rfl
 ·obtain⟨pw,S,g,b,day,dO,rfl,hW,hl,k1,k2⟩:=h
  have nd:=kI.nd
  obtain⟨dw,hw⟩:=hW.obj
  rw[uL] at k1 k2
  refine⟨_,(ai (a9 (i:=4) nd rfl (Or.inl rfl) (m9 rV (hr.mono (by decide)) mi.pass (pv 0) (aa (pv 1) aj)))
(au (bf (m9 kW (hr.mono (by decide)) mi.pass (pv 0) (aa (cu (pv 4) rfl) (aa (pv 2) (aa (pv 3) (aa (pv 1) aj)))))))),?_⟩
  refine⟨_,rfl,pw,dw,_,rfl,hw,u6 g,_,rfl,pw,S,g,b,rfl,hW,fun jU p hp=>?_,fun hn=>?_⟩
  ·obtain⟨dp,Rv⟩:=hp
   have zb: ¬ ¬ pW b S.aH.length:=fun z=>z jU
   rw[aV zb] at k1 k2
   have ho:sG b=V.int b:=aV (fun z=>by have:=jU.1; omega)
   refine⟨_,rfl,pw,dw,_,rfl,hw,nu g,_,rfl,p,_,dp,_,_,rfl,Rv,G.eu,G.kF,CD _ _,_,rfl,_,rfl,_,rfl,pw,S,g,(S.bl b.toNat).aL,day,dO,b,(by rw[ho]; rfl),hW,hl,fun h1=>?_,fun h2=>?_⟩
   ·rw[aV (by omega)] at k1
    exact k1 rfl
   ·rw[bg h2] at k2
    exact k2 (by decide +kernel)
  ·rw[bg hn] at k2
   exact k2 (by decide +kernel)
theorem xJ {S:Bk}{n c b:Nat}(wf:WF S n)(hc:c < S.credits.length)(hb:b < S.aH.length):oJ (S.cr c) (S.bl b) b=S.eM c b:=by
 unfold oJ Bk.eM
 by_cases z:(S.cr c).c= -1
 ·rw[bg z,aE z,Bool.true_or,Bool.and_true]
 ·rw[aV z,bA z,Bool.false_or]
  rcases wf.o c hc with q|⟨b',e1,e2,e3⟩
  ·exact absurd q z
  ·by_cases y:(S.cr c).c=(b:Int)
   ·have:b'=b:=by omega
    subst this
    rw[aE y,aE e3]; rfl
   ·rw[bA y,lL]
def Ml (A:ej)(K:PySem.W.Frag):Sp:=fun vs H Q E=> ∃(pw:Addr) (S:Bk) (f:eO) (n:Nat) (ci bi dO:Int),vs=[.ref pw,.int ci,.int bi,.int dO]/\dP A H pw S f/\WF S n/\S.made.length < sizeLine/\
 (S.bar (.set ci bi dO)=""->Ru A Q H pw f (S.enter (.set ci bi dO)) (.int dO))/\(S.bar (.set ci bi dO)≠""->Lh A K E (S.bar (.set ci bi dO)) H)
theorem jt:a0 ["self","credit_number","bill_number","amount","credit","bill"] ["self","credit_number","bill_number","amount"] (az (mem 25 5)):=⟨rfl,rfl,rfl,by decide +kernel,rfl,by decide +kernel,by decide +kernel⟩
theorem wx (T:Txt K mg){A:ej}(G:jy K mg A):gY (my P w mg) P w K mg base A.work "set_by_hand" 5 ["self","credit_number","bill_number","amount"] (Ml A K):=by
 have Bd:gY (my P w mg) P w K mg base A.work "credit_at" 4 ["self","number"] (Mj A K):=Ba T G
 have rV:gY (my P w mg) P w K mg base A.work "bill_at" 4 ["self","number"] (II A K):=xI T G
 have IL:gY sq P w K mg base A.work "put" 1 ["self","credit_number","bill_number","amount"] (CP A):=Mi G
 have CQ:fb P w K mg base "fits" 1 ["credit","bill"] (CO A):=IC T G
 have gz:u0 P w K mg base "check_amount" 4 ["amount"] (tW A):=j7 T G
 refine qI (k:=4) G.oy G.bO jt (fun _ _ _ _ _ _ us hl=>match us,hl with|[_,_,_,_],_=>rfl) (fun vs H Q E h=>?_) (fun f dh A' outer s H vs Q E hr mi h=>?_)
 ·obtain⟨pw,S,g,n,ci,bi,dO,rfl,_⟩:=h
  rfl
 ·obtain⟨pw,S,g,n,ci,bi,dO,rfl,hW,wf,hz,k1,k2⟩:=h
  have nd:=jt.nd
  obtain⟨dw,hw⟩:=hW.obj
  rw[yy] at k1 k2
  refine⟨_,(ai (a9 (i:=4) nd rfl (Or.inl rfl) (m9 Bd (hr.mono (by decide)) mi.pass (pv 0) (aa (pv 1) aj)))
(ai (a9 (i:=5) nd rfl (Or.inl rfl) (m9 rV (hr.mono (by decide)) mi.pass (pv 0) (aa (pv 2) aj)))
(ai (bX (jL (gg (cM CQ (hr.mono (by decide)) rfl (aa (pv 4) (aa (pv 5) aj)))))
(au (jW mi (yV T G) (hr.h.mono (by decide)) rfl rfl))
bw)
(ai (bU (rT gz (hr.mono (by decide)) rfl mi.pass (aa (pv 3) aj)))
(ai (bX (PW.pt (pw_or (aZ iQ (pv 3) (aJ a6 (cu (pv 0) rfl) (pv 1) (fun _ _=>rfl)) (ba _)) (pw_or1 (aZ iQ (pv 3) (aJ a6 (cu (pv 0) rfl) (pv 2) (fun _ _=>rfl)) (ba _)))))
(au (jW mi (CM T G) (hr.h.mono (by decide)) rfl rfl))
bw)
(ai (bU (m9 IL (hr.mono (by decide)) mM (pv 0) (aa (pv 1) (aa (pv 2) (aa (pv 3) aj)))))
(au (bf (pv 3))))))))),?_⟩
  refine⟨_,rfl,pw,dw,_,rfl,hw,y2 g,_,rfl,pw,S,g,ci,rfl,hW,fun ic p hp=>?_,fun hn=>?_⟩
  case refine_2=>
   rw[bg hn] at k2
   exact k2 (by decide +kernel)
  have zc: ¬ ¬ pW ci S.credits.length:=fun z=>z ic
  rw[aV zc] at k1 k2
  refine⟨_,rfl,pw,dw,_,rfl,hw,u6 g,_,rfl,pw,S,g,bi,rfl,hW,fun ib q hq=>?_,fun hn=>?_⟩
  case refine_2=>
   rw[bg hn] at k2
   exact k2 (by decide +kernel)
  have zb: ¬ ¬ pW bi S.aH.length:=fun z=>z ib
  rw[aV zb] at k1 k2
  obtain⟨c,rfl⟩:=cJ ic.1
  obtain⟨b,rfl⟩:=cJ ib.1
  have hc:c < S.credits.length:=by have:=ic.2; omega
  have hb:b < S.aH.length:=by have:=ib.2; omega
  rw[dX] at hp hq k1 k2
  rw[dX] at k1 k2
  have hfg:=xJ wf hc hb
  refine⟨_,rfl,_,rfl,p,q,c,b,_,_,rfl,hp,hq,_,rfl,?_⟩
  rw[hfg]
  refine cL (fun z=>?_) (fun z=>?_)
  ·have z':S.eM c b=false:=by simpa using z
   rw[bg z'] at k2
   exact fun dx nn=>(k2 (by decide +kernel) A.jG G.qC (fun q=>absurd q (by decide +kernel))).at nn
  have zg: ¬ S.eM c b=false:=by simpa using z
  rw[aV zg] at k1 k2
  refine⟨_,rfl,dO,rfl,fun h1=>?_,fun h2=>?_⟩
  case refine_2=>
   rw[bg h2] at k2
   exact k2 (by decide +kernel) A.iG G.kE (fun q=>absurd q (by decide +kernel))
  rw[aV (by omega: ¬ dO < 1)] at k1 k2
  have Rx:iN (S.cr c).d (S.bl b).d < dO-> ∀dx,H dx=none->E (.ref A.tooMuch) (some dx) (upd H dx (.xd [("text",.str "too much")])):=fun z dx nn=>by
   rw[bg z] at k2
   exact(k2 (by decide +kernel) A.tooMuch G.pI (fun _=>rfl)).at nn
  refine⟨_,rfl,_,rfl,pw,_,dw,_,_,rfl,hw,G.bO,G.fH,lA g,_,rfl,g.pf,_,_,_,rfl,rfl,bP.of hW.hf,Lg hc,_,_,rfl,rfl,_,rfl,cL (fun z=>fJ (Rx ?_)) (fun z=>?_)⟩
  ·have z':(S.cr c).d < dO:=aS z
   unfold iN
   split <;> omega
  have z1: ¬ (S.cr c).d < dO:=fun q=>z (aE q)
  refine⟨_,rfl,_,rfl,pw,_,dw,_,_,rfl,hw,G.bO,G.fG,lz g,_,rfl,g.pl,_,_,_,rfl,rfl,bP.of hW.hl,Lg hb,_,_,rfl,rfl,_,rfl,cL (fun z=>Rx ?_) (fun z=>?_)⟩
  ·have z':(S.bl b).d < dO:=aS z
   unfold iN
   split <;> omega
  have z2: ¬ (S.bl b).d < dO:=fun q=>z (aE q)
  have zm: ¬ iN (S.cr c).d (S.bl b).d < dO:=by
   unfold iN
   split <;> omega
  rw[aV zm] at k1
  refine⟨_,rfl,pw,dw,_,rfl,hw,IK g,_,rfl,_,rfl,_,rfl,pw,S,g,c,b,dO,rfl,hW,hc,hb,hz,fun H2 F2 W2=>?_⟩
  exact⟨_,rfl,k1 rfl g H2 rfl F2 W2⟩
def Ec:Sp:=fun vs H Q _=>vs=[]/\ ∀(sd:Addr) (f:fN) (H':Hp),aD H H'->dI H' sd Bk.new f->H sd=none->(∀b∈f.fp,H b=none)->Q (.ref sd) H'
theorem wy:a0 [] [] (az (top 53)):=⟨rfl,rfl,rfl,by decide +kernel,rfl,by decide +kernel,by decide +kernel⟩
theorem qL (T:Txt K mg):fb P w K mg base "_law_begun" 1 [] Ec:=by
 refine T.yJ.kN (k:=0) wy (fun _ _ _ _ _ _ us hl=>match us,hl with|[],_=>rfl) (fun vs H Q E h=>?_) (fun f dh A outer s H vs Q E hr h=>?_)
 ·obtain⟨rfl,_⟩:=h
  rfl
 ·obtain⟨rfl,k⟩:=h
  refine⟨_,(au (bf (Ks (uv aW (cf aj) (uv aW (cf aj) (uv aW (cf aj) Kr))) (by rfl) rfl (by simp) (by decide)))),?_⟩
  intro sd K3
  refine⟨bF _,fun pb nb=>⟨bF _,fun pc nc=>⟨bF _,fun pm nm=>?_⟩⟩⟩
  have t0:=aD.new (o:= .dK []) K3
  have t1:=aD.new (o:= .lst []) nb
  have t2:=aD.new (o:= .lst []) nc
  have t3:=aD.new (o:= .lst []) nm
  have g0:=((t1.trans t2).trans t3) _ _ (ag (H:=H) (a:=sd) (o:= .dK []))
  have gb:=(t2.trans t3) _ _ (ag (H:=upd H sd (.dK [])) (a:=pb) (o:= .lst []))
  have gc:=t3 _ _ (ag (H:=upd (upd H sd (.dK [])) pb (.lst [])) (a:=pc) (o:= .lst []))
  have gm:=ag (H:=upd (upd (upd H sd (.dK [])) pb (.lst [])) pc (.lst [])) (a:=pm) (o:= .lst [])
  have nb0:=t0.free nb
  have nc0:=(t0.trans t1).free nc
  have nm0:=((t0.trans t1).trans t2).free nm
  have e1:sd≠pb:=aN ag nb
  have e2:sd≠pc:=aN (t1 _ _ ag) nc
  have e3:sd≠pm:=aN ((t1.trans t2) _ _ ag) nm
  have e4:pb≠pc:=aN ag nc
  have e5:pb≠pm:=aN (t2 _ _ ag) nm
  have e6:pc≠pm:=aN ag nm
  have s3:=((t0.trans t1).trans t2).trans t3
  generalize upd (upd (upd (upd H sd (.dK [])) pb (.lst [])) pc (.lst [])) pm (.lst [])=H3 at g0 gb gc gm s3 ⊢
  refine⟨g0,[(Sum.inr "bills",.ref pb),(Sum.inr "credits",.ref pc),(Sum.inr "made",.ref pm)],rfl,(by show 3<=15; omega),?_⟩
  refine k sd ⟨pb,pc,pm,[],[]⟩ _ (s3.dm K3) ⟨?_,by rw[aA e1.symm]; exact gb,by rw[aA e2.symm]; exact gc,⟨[],by rw[aA e3.symm]; exact gm,.nil⟩,.nil,.nil,?_,?_⟩ K3 ?_
  ·rw[ag,Nt]; rfl
  ·simp[fN.fp,e4,e5,e6]
  ·simp[fN.fp,e1,e2,e3]
  ·intro b hb
   simp only[fN.fp,List.append_nil,List.mem_cons,List.not_mem_nil,or_false] at hb
   rcases hb with rfl|rfl|rfl
   ·exact nb0
   ·exact nc0
   ·exact nm0
def CS:Sp:=fun vs H Q _=> ∃(sd:Addr) (S:Bk) (f:fN) (c b:Nat),vs=[.ref sd,.int c,.int b]/\dI H sd S f/\c < S.credits.length/\b < S.aH.length/\ ∀H',aD H H'->Q (.bl (S.eM c b)) H'
theorem qM:a0 ["_law_state","_law_credit","_law_bill","_law_one"] ["_law_state","_law_credit","_law_bill"] (az (top 54)):=⟨rfl,rfl,rfl,by decide +kernel,rfl,by decide +kernel,by decide +kernel⟩
theorem sJ (T:Txt K mg):fb P w K mg base "_law_goes" 1 ["_law_state","_law_credit","_law_bill"] CS:=by
 refine T.AH.kN (k:=0) qM (fun _ _ _ _ _ _ us hl=>match us,hl with|[_,_,_],_=>rfl) (fun vs H Q E h=>?_) (fun f dh A outer s H vs Q E hr h=>?_)
 ·obtain⟨sd,S,g,c,b,rfl,_⟩:=h
  rfl
 ·obtain⟨sd,S,g,c,b,rfl,hB,hc,hb,k⟩:=h
  have hu:=jO hr
  have nd:=qM.nd
  obtain⟨p,_,ap,hp⟩:=hB.lc hc
  obtain⟨q,_,aq,hq⟩:=hB.lb hb
  refine⟨_,(ai (a9 (i:=3) nd rfl (Or.inl rfl) (aJ a6 (cS hu (pv 0) aW (fun _ _=>rfl)) (pv 1) (fun _ _=>rfl)))
(au (bf (rC (fv cX (aJ a6 (pv 3) ah (fun _ _=>rfl)) (aJ a6 (aJ a6 (cS hu (pv 0) aW (fun _ _=>rfl)) (pv 2) (fun _ _=>rfl)) ah (fun _ _=>rfl)) (ba _)) (o7 (fv nS (aJ a6 (pv 3) ah (fun _ _=>rfl)) (cf (aa (oG kM ah) (aa (pv 2) aj))) (by rfl))))))),?_⟩
  refine⟨_,rfl,sd,_,rfl,hB.gC,_,rfl,g.pc,_,_,.ref p,rfl,rfl,bP.of hB.hc,ap,?_⟩
  refine⟨_,rfl,p,_,_,.str (S.cr c).aL,rfl,rfl,bP.of hp,rfl,_,rfl,sd,_,rfl,hB.gB,_,rfl,g.pb,_,_,.ref q,rfl,rfl,bP.of hB.hb,aq,q,_,_,.str (S.bl b).aL,rfl,rfl,bP.of hq,rfl,rfl,_,rfl,cL (fun d=>?_) (fun d=>?_)⟩
  ·have d':(S.cr c).aL=(S.bl b).aL:=by have:=aS d; injection this
   refine⟨_,rfl,p,_,_,.int (S.cr c).c,rfl,rfl,bP.of hp,rfl,_,rfl,_,rfl,(by show 2<=sizeLine; decide),fun p9 n9=>?_⟩
   refine⟨p9,_,rfl,.inl (bP.of ag),rfl,rfl,?_⟩
   have e:S.eM c b=vQ (V.int (S.cr c).c) [V.int (-1),V.int (b:Int)]:=by
    unfold Bk.eM
    rw[aE d',Bool.true_and]
    rw[oa]
    simp[vQ,Kl]
    omega
   have q9:=k _ (aD.new (o:= .lst [V.int (-1),V.int (b:Int)]) n9)
   rw[e] at q9
   exact q9
  ·have d': ¬ (S.cr c).aL=(S.bl b).aL:=fun z=>d (aE (by rw[z]))
   have e:S.eM c b=false:=by
    unfold Bk.eM
    rw[bA d',pZ]
   have q9:=k H (aD.refl _)
   rw[e] at q9
   exact q9
theorem jz {A:Hp->Prop}{H H':Hp}(e:H=H')(h:A H'):A H:=e▸h
def Ed:Sp:=fun vs H Q _=> ∃(sd:Addr) (S:Bk) (f:fN) (c b:Nat) (x:Int),vs=[.ref sd,.int c,.int b,.int x]/\dI H sd S f/\c < S.credits.length/\b < S.aH.length/\S.made.length < sizeLine/\ ∀H',Frame f.fp H H'->dI H' sd (S.put c b x) f->Q .eI H'
theorem sM:a0 ["_law_state","_law_credit","_law_bill","_law_amount"] ["_law_state","_law_credit","_law_bill","_law_amount"] (az (top 55)):=⟨rfl,rfl,rfl,by decide +kernel,rfl,by decide +kernel,by decide +kernel⟩
theorem va (T:Txt K mg):fb P w K mg base "_law_put" 1 ["_law_state","_law_credit","_law_bill","_law_amount"] Ed:=by
 refine T.CC.kN (k:=0) sM (fun _ _ _ _ _ _ us hl=>match us,hl with|[_,_,_,_],_=>rfl) (fun vs H Q E h=>?_) (fun f dh A outer s H vs Q E hr h=>?_)
 ·obtain⟨sd,S,g,c,b,x,rfl,_⟩:=h
  rfl
 ·obtain⟨sd,S,g,c,b,x,rfl,hB,hc,hb,hz,k⟩:=h
  have hu:=jO hr
  have nd:=sM.nd
  obtain⟨p,pi,ap,hp⟩:=hB.lc hc
  refine⟨_,(ai (lN (aX ff (aJ a6 (aJ a6 (cS hu (pv 0) aW (fun _ _=>rfl)) (pv 1) (fun _ _=>rfl)) ah (fun _ _=>rfl)) (pv 3)) (o8 (aJ a6 (cS hu (pv 0) aW (fun _ _=>rfl)) (pv 1) (fun _ _=>rfl)) ah set_list))
(ai (lN (aX ff (aJ a6 (aJ a6 (cS hu (pv 0) aW (fun _ _=>rfl)) (pv 2) (fun _ _=>rfl)) ah (fun _ _=>rfl)) (pv 3)) (o8 (aJ a6 (cS hu (pv 0) aW (fun _ _=>rfl)) (pv 2) (fun _ _=>rfl)) ah set_list))
(au (bU (fz aM aG aI b0 (cS hu (pv 0) aW (fun _ _=>rfl)) (aa (dD (aa (pv 1) (aa (pv 2) (aa (pv 3) aj)))) aj)))))),?_⟩
  refine⟨_,rfl,sd,_,rfl,hB.gC,_,rfl,g.pc,_,_,.ref p,rfl,rfl,bP.of hB.hc,ap,p,_,_,.int (S.cr c).d,rfl,rfl,bP.of hp,rfl,_,rfl,_,_,rfl,rfl,?_⟩
  refine⟨_,rfl,sd,_,rfl,hB.gC,_,rfl,g.pc,_,_,.ref p,rfl,rfl,bP.of hB.hc,ap,p,_,4,4,rfl,rfl,hp,rfl,?_⟩
  have B1:=hB.setC (r:=(S.cr c).less x) pi ⟨_,hp⟩
  have F1:Frame g.fp H (upd H p (.lst ((S.cr c).less x).vs)):=Frame.upd (by have:=List.mem_of_getElem? pi; simp[fN.fp,this])
  refine jz (H':=upd H p (.lst ((S.cr c).less x).vs)) rfl ?_
  generalize upd H p (.lst ((S.cr c).less x).vs)=H1 at B1 F1 ⊢
  obtain⟨q,qi,aq,hq⟩:=B1.lb (b:=b) hb
  change H1 q=some (.lst (S.bl b).vs) at hq
  refine⟨_,rfl,sd,_,rfl,B1.gB,_,rfl,g.pb,_,_,.ref q,rfl,rfl,bP.of B1.hb,aq,q,_,_,.int (S.bl b).d,rfl,rfl,bP.of hq,rfl,_,rfl,_,_,rfl,rfl,?_⟩
  refine⟨_,rfl,sd,_,rfl,B1.gB,_,rfl,g.pb,_,_,.ref q,rfl,rfl,bP.of B1.hb,aq,q,_,4,4,rfl,rfl,hq,rfl,?_⟩
  have B2:=B1.setB (r:=(S.bl b).less x) qi ⟨_,hq⟩
  have F2:Frame g.fp H1 (upd H1 q (.lst ((S.bl b).less x).vs)):=Frame.upd (by have:=List.mem_of_getElem? qi; simp[fN.fp,this])
  refine jz (H':=upd H1 q (.lst ((S.bl b).less x).vs)) rfl ?_
  generalize upd H1 q (.lst ((S.bl b).less x).vs)=H2 at B2 F2 ⊢
  obtain⟨ms,m1,m2⟩:=B2.hm
  refine⟨_,rfl,sd,_,rfl,B2.gM,.inl ⟨rfl,_,bP.of m1⟩,_,rfl,_,rfl,_,rfl,(by show 3<=sizeLine; decide),fun p8 n8=>?_⟩
  have t8:=aD.new (o:= .tup [V.int c,.int b,.int x]) n8
  refine⟨g.pm,ms,_,rfl,rfl,t8 _ _ m1,?_,?_⟩
  ·rw[← aQ m2]
   exact hz
  ·refine k _ ((F1.tr F2).tr ((t8.frame).tr (Frame.upd (by simp[fN.fp])))) ?_
   exact(B2.same t8).U5 (t:=(c,b,x)) (t8 _ _ m1) (m2.mono t8.tk) ag
def Ee (x:Int×Nat):List Int:=[x.1,(x.2:Int)]
def Be (rows:List Rw)(aL:Str)(key:Rw->Int)(i:Nat):List (Int×Nat):=
 ((List.range i).filter fun k=>decide ((rows.getD k default).aL=aL) && decide (0 < (rows.getD k default).d)).map fun k=>(key (rows.getD k default),k)
theorem Li {rows:List Rw}{aL:Str}{key:Rw->Int}{i:Nat}(h:(rows.getD i default).aL=aL)(h2:0 < (rows.getD i default).d):Be rows aL key (i + 1)=Be rows aL key i ++ [(key (rows.getD i default),i)]:=by
 unfold Be
 rw[oo,ko,aR]
 congr 1
 rw[cI (by rw[aE h,aE h2]; rfl)]
 rfl
theorem N1 {rows:List Rw}{aL:Str}{key:Rw->Int}{i:Nat}(h: ¬ ((rows.getD i default).aL=aL/\0 < (rows.getD i default).d)):Be rows aL key (i + 1)=Be rows aL key i:=by
 unfold Be
 rw[List.range_succ,List.filter_append,List.map_append,List.filter_cons_of_neg (by simpa using h)]
 simp
theorem N2 {rows:List Rw}{aL:Str}{key:Rw->Int}{i:Nat}: ∀x∈Be rows aL key i,x.2 < i:=by
 intro x hx
 obtain⟨k,hk,rfl⟩:=bN.mp hx
 exact dC.mp (eX.mp hk).1
theorem N3 {rows:List Rw}{aL:Str}{key:Rw->Int}{i:Nat}:((Be rows aL key i).map (·.2)).Nodup:=by
 unfold Be
 rw[eZ]
 have e:((fun x:Int×Nat=>x.2) ∘ fun k=>(key (rows.getD k default),k))=id:=rfl
 rw[e,zY]
 exact mv.filter _
theorem y3 {rows:List Rw}{aL:Str}{key:Rw->Int}{i:Nat}:(Be rows aL key i).length<=i:=by
 unfold Be
 rw[ae]
 exact a8 (a7 _ _) (by rw[dF]; exact aC _)
theorem tX {x y:Str}(d:decide (V.str x=V.str y)=true):x=y:=by
 have:=aS d
 injection this
theorem qN {x y:Str}(d: ¬ decide (V.str x=V.str y)=true): ¬ x=y:=fun z=>d (aE (by rw[z]))
theorem lD: ∀{l:List (Int×Nat)} {x y:Int×Nat},(l.map (·.2)).Nodup->x∈l->y∈l->x.2=y.2->x=y
 |[],_,_,_,h,_,_=>by cases h
 |z :: l,x,y,nd,hx,hy,e=>by
  rw[di,fP] at nd
  rcases aw.mp hx with xA|xA
  ·rcases aw.mp hy with y4|y4
   ·rw[xA,y4]
   ·exact absurd (bN.mpr ⟨y,y4,by rw[← e,xA]⟩) nd.1
  ·rcases aw.mp hy with y4|y4
   ·exact absurd (bN.mpr ⟨x,xA,by rw[e,y4]⟩) nd.1
   ·exact lD nd.2 xA y4 e
def Bf:Sp:=fun vs H Q _=> ∃(p:Addr) (ps:List Addr) (rows:List Rw) (aL:Str) (CU:Int) (key:Rw->Int),vs=[.ref p,.str aL,.int CU]/\H p=some (.lst (ps.map V.ref))/\fh H rows ps/\rows.length < 64/\(∀r:Rw,q0 r.vs CU=some (.int (key r)))/\
 ∀D H',aD H H'->H D=none->H' D=some (.lst ((inTurn rows aL key).map fun(k:Nat)=>V.int (k:Int)))->Q (.ref D) H'
theorem mj:a0 ["_law_rows","_law_who","_law_spot","_law_keys","_law_k"] ["_law_rows","_law_who","_law_spot"] (az (top 56)):=⟨rfl,rfl,rfl,by decide +kernel,rfl,by decide +kernel,by decide +kernel⟩
theorem vb (T:Txt K mg):fb P w K mg base "_law_in_turn" 1 ["_law_rows","_law_who","_law_spot"] Bf:=by
 refine T.uX.kN (k:=0) mj (fun _ _ _ _ _ _ us hl=>match us,hl with|[_,_,_],_=>rfl) (fun vs H Q E h=>?_) (fun f dh A outer s H vs Q E hr h=>?_)
 ·obtain⟨p,ps,rows,aL,CU,key,rfl,_⟩:=h
  rfl
 ·obtain⟨p,ps,rows,aL,CU,key,rfl,hp,hR,hl,hk,k⟩:=h
  have nd:=mj.nd
  have hlen:=hR.length
  refine⟨_,(ai (a9 (i:=3) nd rfl (Or.inl rfl) (cf aj))
(ai (fe bS rfl (iX rfl T.l4 (aa (bq bp (by rfl) T.en bo (aa (pv 0) aj)) aj)) (bD (i:=4) nd rfl (Or.inl rfl))
(au (bX (PW.pt (pw_and (aZ cX (aJ a6 (aJ a6 (pv 0) (pv 4) (fun _ _=>rfl)) ah (fun _ _=>rfl)) (pv 1) (ba _)) (pw_and1 (aZ iQ (aJ a6 (aJ a6 (pv 0) (pv 4) (fun _ _=>rfl)) ah (fun _ _=>rfl)) ah (ba _)))))
(au (bU (fz aM aG aI b0 (pv 3) (aa (dD (aa (aJ a6 (aJ a6 (pv 0) (pv 4) (fun _ _=>rfl)) (pv 2) (fun _ _=>rfl)) (aa (pv 4) aj))) aj))))
bw)))
(au (bf (gU (tn:=["_law_key"]) (cn:=[]) (cj:=[]) rfl (DG (by decide +kernel) (by decide +kernel) rfl (by decide +kernel)) (dG (bq qv (by rfl) T.qA boot_sorted (aa (pv 3) aj))) (fun _ _ _ _=>(bD (i:=0) (show(["_law_key"]:List Str).Nodup by decide +kernel) rfl (Or.inl rfl))) (fun _ _ _ _=>mN) (fun _ _ _ _=>(aJ (nU (K:=K) rfl) (pv 0) ah (fun _ _=>rfl)))))))),?_⟩
  refine⟨bF _,fun pk nk=>?_⟩
  have s1:aD H (upd H pk (.lst [])):=aD.new nk
  refine⟨_,rfl,p,_,rfl,.inl (bP.of (s1 _ _ hp)),((ps.map V.ref).length:Int),rfl,by omega,by rw[ae]; omega,?_⟩
  rw[dX]
  refine jB (lo:=0) (n:=(ps.map V.ref).length) (fun i σ H2=> ∃(xs:List V) (x4:Option V),σ=[some (.ref p),some (.str aL),some (.int CU),some (.ref pk),x4]/\aD H H2/\H2 pk=some (.lst xs)/\gr H2 ((Be rows aL key i).map Ee) xs)
   ⟨[],none,rfl,s1,ag,.nil⟩ ?_ ?_
  ·rintro i σ H2 hi ⟨xs,x4,rfl,s2,hx,hT⟩
   rw[jA]
   have vD:i < rows.length:=by rw[ae] at hi; omega
   obtain⟨r,ri,Lj⟩:=hR.at vD
   have ar:q0 (ps.map V.ref) (i:Int)=some (.ref r):=cO (by rw[aB,ri]; rfl)
   have sZ:=s2 _ _ hp
   have xK:=s2 _ _ Lj
   have N4:xs.length<=i:=by
    have:=aQ hT
    rw[ae] at this
    have:=y3 (rows:=rows) (aL:=aL) (key:=key) (i:=i)
    omega
   have no: ¬ ((rows.getD i default).aL=aL/\0 < (rows.getD i default).d)-> ∃(xs:List V) (x4:Option V),[some (V.ref p),some (.str aL),some (.int CU),some (.ref pk),some (.int (i:Int))]=[some (.ref p),some (.str aL),some (.int CU),some (.ref pk),x4]/\aD H H2/\H2 pk=some (.lst xs)/\gr H2 ((Be rows aL key (i + 1)).map Ee) xs:=fun n=>
    ⟨xs,_,rfl,s2,hx,by rw[N1 n]; exact hT⟩
   generalize Gb:rows.getD i default=row at xK no
   refine⟨_,rfl,_,rfl,p,_,_,.ref r,rfl,rfl,bP.of sZ,ar,r,_,_,.str row.aL,rfl,rfl,bP.of xK,rfl,_,rfl,rfl,_,rfl,cL (fun d1=>?_) (fun d1=>cg (no fun z=>qN d1 z.1))⟩
   refine⟨_,rfl,_,rfl,p,_,_,.ref r,rfl,rfl,bP.of sZ,ar,r,_,_,.int row.d,rfl,rfl,bP.of xK,rfl,_,_,rfl,rfl,_,rfl,cL (fun d2=>?_) (fun d2=>no fun z=>d2 (aE z.2))⟩
   have Ry:=tX d1
   have VJ:0 < row.d:=aS d2
   refine⟨_,rfl,.inl ⟨rfl,_,bP.of hx⟩,_,rfl,_,rfl,p,_,_,.ref r,rfl,rfl,bP.of sZ,ar,_,rfl,r,_,_,.int (key row),rfl,rfl,bP.of xK,hk row,_,rfl,(by show 2<=sizeLine; decide),fun p8 n8=>?_⟩
   have t8:=aD.new (o:= .tup [V.int (key row),.int (i:Int)]) n8
   refine⟨pk,xs,_,rfl,rfl,t8 _ _ hx,bB (by omega),xs ++ [.ref p8],_,rfl,(s2.trans t8).dm nk,ag,?_⟩
   rw[Li (by rw[Gb]; exact Ry) (by rw[Gb]; exact VJ),aR,Gb]
   exact gr.snoc (hT.mono (t8.tk.trans (fT (t8 _ _ hx)))) (dN (t8 _ _ hx) _ _ ag)
  ·rintro σ H2 ⟨xs,x4,rfl,s2,hx,hT⟩
   have N4:=aQ hT
   have Tu:=y3 (rows:=rows) (aL:=aL) (key:=key) (i:=(ps.map V.ref).length)
   have Ef:=N2 (rows:=rows) (aL:=aL) (key:=key) (i:=(ps.map V.ref).length)
   have mh:(ps.map V.ref).length=rows.length:=by rw[ae]; omega
   have hle: ∀x∈Be rows aL key (ps.map V.ref).length,x.2 < 1000:=fun x hx=>by have:=Ef x hx; omega
   have jU:inTurn rows aL key=(eE (Be rows aL key (ps.map V.ref).length)).map (·.2):=by rw[mh]; rfl
   have hnd:=N3 (rows:=rows) (aL:=aL) (key:=key) (i:=(ps.map V.ref).length)
   generalize Be rows aL key (ps.map V.ref).length=ks at hT N4 Tu hle jU hnd
   rw[ae] at N4
   refine⟨_,rfl,pk,xs,_,tw,rfl,bP.of hx,(by omega),hT,(fun t ht=>?_),(fun t ht u hu=>?_),fun D ys us nD JO perm le=>?_⟩
   ·obtain⟨x,_,rfl⟩:=bN.mp ht
    simp[Ee]
   ·obtain⟨x,xA,rfl⟩:=bN.mp ht
    obtain⟨y,y4,rfl⟩:=bN.mp hu
    refine qB (hle x xA) (hle y y4) (fun e=>⟨rfl,?_⟩) rfl
    exact lD hnd xA y4 e
   ·have Ql:=sF hle hnd (fun x _=>rfl) perm le
    subst Ql
    have tD:=aD.new (o:= .lst ys) nD
    refine⟨D,rfl,⟨_,bP.of ag⟩,?_⟩
    have Eg:=JO.mono tD.tk
    generalize Lk:upd H2 D (.lst ys)=H3 at tD Eg
    have Ph:H3 D=some (.lst ys):=by rw[← Lk]; exact ag
    have s3:=s2.trans tD
    clear Lk JO perm le hT
    have Rz:=aQ Eg
    refine eN (K:=K) (a:=D) (xs:=ys) (fun D' i σ H6=>H3 D'=none/\ ∃v,σ=[v]/\aD H3 H6/\H6 D'=some (.lst (((eE ks).take i).map fun x=>V.int (x.2:Int)))) (fun D' pK=>⟨pK,none,rfl,aD.new pK,ag⟩) (fun D' i σ H6 _ ⟨_,_,_,t3,_⟩=>bP.of (t3 _ _ Ph)) ?_ ?_
    ·rintro D' i x σ H6 Eh ⟨pK,v,rfl,t3,gA⟩
     have hi:i < (eE ks).length:=by
      have:=(av.mp Eh).1
      rw[ae] at Rz
      omega
     have g0:((eE ks).map Ee)[i]? =some (Ee (eE ks)[i]):=by rw[aB,af hi]; rfl
     obtain⟨v',hv,pp,e1,GU⟩:=bR Eg g0
     rw[Eh] at hv
     obtain rfl:x=v':=aF hv
     subst e1
     have nR:=oE hi
     have Gd:=t3 _ _ GU
     generalize (eE ks)[i]=z at Gd nR
     have CV:((eE ks).take i).length<=100:=by
      rw[bC]
      have:=(dr ks).length_eq
      omega
     refine⟨_,rfl,pp,_,_,.int (z.2:Int),rfl,rfl,cG.of Gd,rfl,_,gA,bB (by rw[ae]; omega),pK,_,rfl,t3.dm pK,?_⟩
     rw[ag,nR,aR]
     rfl
    ·rintro D' σ H6 pK ⟨_,v,rfl,t3,gA⟩
     refine k D' H6 (s3.trans t3) (s3.free pK) ?_
     rw[gA,jU,eZ,Rz.symm,ae,bh]
     rfl
theorem sN {α β:Type}{F:α->β->Prop}: ∀{l₁:List α} {l₂:List β} (n:Nat),Paired F l₁ l₂->Paired F (l₁.drop n) (l₂.drop n)
 |_,_,0,h=>by rwa [List.drop_zero,List.drop_zero]
 |_,_,_ + 1,.nil=> .nil
 |_,_,n + 1,.cons _ t=>by rw[List.drop_succ_cons,List.drop_succ_cons]; exact sN n t
theorem Ge (xs:List V)(n:Nat)(h:n<=xs.length):ql xs (some (n:Int)) none=xs.drop n:=by
 unfold ql
 rw[HT.Hs,HT.yi,Nat.min_eq_left h,List.take_of_length_le]
 rw[mr]
 exact aC _
structure zd (H0:Hp)(sd:Addr)(S:Bk)(f:fN)(H2:Hp)(S2:Bk)(m:Nat):Prop where
 fr:Frame f.fp H0 H2
 bk:dI H2 sd S2 f
 bl:S2.aH.length=S.aH.length
 cl:S2.credits.length=S.credits.length
 ml:S2.made.length<=S.made.length + m
theorem zd.put {H0:Hp}{sd:Addr}{S:Bk}{f:fN}{H2 H':Hp}{S2:Bk}{m c b:Nat}{x:Int}(I:zd H0 sd S f H2 S2 m)(fr:Frame f.fp H2 H')(bk:dI H' sd (S2.put c b x) f):zd H0 sd S f H' (S2.put c b x) (m + 1):=by
 refine⟨I.fr.tr fr,bk,?_,?_,?_⟩
 ·show(S2.aH.set _ _).length=_
  rw[eA]; exact I.bl
 ·show(S2.credits.set _ _).length=_
  rw[eA]; exact I.cl
 ·show(S2.made ++ [_]).length<=_
  rw[aK]
  have:=I.ml
  simp
  omega
theorem zd.up {H0:Hp}{sd:Addr}{S:Bk}{f:fN}{H2:Hp}{S2:Bk}{m n:Nat}(I:zd H0 sd S f H2 S2 m)(h:m<=n):zd H0 sd S f H2 S2 n:=⟨I.fr,I.bk,I.bl,I.cl,a8 I.ml (by omega)⟩
theorem zd.from {H0 H1:Hp}{sd:Addr}{S:Bk}{f:fN}{H2:Hp}{S2:Bk}{m:Nat}(I:zd H0 sd S f H2 S2 m)(s:aD H2 H1):zd H1 sd S f H1 S2 m:=⟨Frame.refl,I.bk.same s,I.bl,I.cl,I.ml⟩
theorem zd.back {H0 H1:Hp}{sd:Addr}{S:Bk}{f:fN}{H2 H3:Hp}{S2 S3:Bk}{m n:Nat}(I:zd H0 sd S f H2 S2 m)(s:aD H2 H1)(J:zd H1 sd S f H3 S3 n):zd H0 sd S f H3 S3 n:=⟨(I.fr.dE s).tr J.fr,J.bk,J.bl,J.cl,J.ml⟩
theorem _root_.L2.dI.tY {H:Hp}{sd D:Addr}{S:Bk}{f:fN}(h:dI H sd S f)(n:H D=none):D∉f.fp:=fun z=>by
 obtain⟨ms,m1,_⟩:=h.hm
 have rows: ∀(rs:List Rw) (ps:List Addr),fh H rs ps->D∈ps->False:=fun rs ps hr hp=>by
  obtain⟨i,hi⟩:=yd hp
  have iY:i < rs.length:=by
   rw[hr.length]
   exact(av.mp hi).1
  obtain⟨q,e1,e2⟩:=hr.at iY
  rw[e1] at hi
  cases hi
  rw[n] at e2
  cases e2
 unfold fN.fp at z
 rcases aw.mp z with rfl|z
 ·have:=h.hb; rw[n] at this; cases this
 rcases aw.mp z with rfl|z
 ·have:=h.hc; rw[n] at this; cases this
 rcases aw.mp z with rfl|z
 ·rw[n] at m1; cases m1
 rcases bL.mp z with z|z
 ·exact rows _ _ h.rb z
 ·exact rows _ _ h.rc z
theorem jT (rows:List Rw)(aL:Str)(key:Rw->Int):(inTurn rows aL key).length<=rows.length:=by
 have e:inTurn rows aL key=(eE (Be rows aL key rows.length)).map (·.2):=rfl
 rw[e,ae,(dr _).length_eq]
 exact y3
theorem jI {α β:Type}(g:β->α->β)(l:List α)(s:β){i:Nat}{x:α}(h:l[i]? =some x):(l.take (i + 1)).foldl g s=g ((l.take i).foldl g s) x:=by
 rw[EO,h,rz]
 rfl
theorem _root_.L2.Frame.free {fp:List Addr}{H H':Hp}{p:Addr}(a:Frame fp H H')(h:p∉fp)(n:H' p=none):H p=none:=by
 cases e:H p with
 |none=>rfl
 |some o=>have:=a p o h e; rw[n] at this; cases this
def Ei:Sp:=fun vs H Q _=> ∃(sd:Addr) (S:Bk) (f:fN) (aL:Str),vs=[.ref sd,.str aL]/\dI H sd S f/\S.credits.length < 64/\S.aH.length < 64/\S.made.length + 10000 < sizeLine/\
 ∀D ms H',Frame f.fp H H'->dI H' sd (S.jR aL) f->H D=none->H' D=some (.lst ms)->il H' ((S.jR aL).made.drop S.made.length) ms->Q (.ref D) H'
theorem oM:a0 ["_law_state","_law_who","_law_many","_law_exact","_law_credit","_law_bill","_law_free","_law_left"] ["_law_state","_law_who"] (az (top 57)):=⟨rfl,rfl,rfl,by decide +kernel,rfl,by decide +kernel,by decide +kernel⟩
theorem ze (T:Txt K mg):fb P w K mg base "_law_swept" 2 ["_law_state","_law_who"] Ei:=by
 have ny:fb P w K mg base "_law_in_turn" 1 ["_law_rows","_law_who","_law_spot"] Bf:=vb T
 have nz:fb P w K mg base "_law_goes" 1 ["_law_state","_law_credit","_law_bill"] CS:=sJ T
 have pL:fb P w K mg base "_law_put" 1 ["_law_state","_law_credit","_law_bill","_law_amount"] Ed:=va T
 refine T.yK.kN (k:=1) oM (fun _ _ _ _ _ _ us hl=>match us,hl with|[_,_],_=>rfl) (fun vs H Q E h=>?_) (fun f dh A outer s H vs Q E hr h=>?_)
 ·obtain⟨sd,S,g,aL,rfl,_⟩:=h
  rfl
 ·obtain⟨sd,S,g,aL,rfl,hB,qz,Ll,GV,k⟩:=h
  have hu:=jO hr
  have nd:=oM.nd
  obtain⟨ms,m1,m2⟩:=hB.hm
  have VL:S.made.length=ms.length:=aQ m2
  refine⟨_,(ai (a9 (i:=2) nd rfl (Or.inl rfl) (bq bp (by rfl) T.en bo (aa (cS hu (pv 0) aW (fun _ _=>rfl)) aj)))
(ai (fe bS rfl (dG (cf (aa k8 (aa k8 aj)))) (bD (i:=3) nd rfl (Or.inl rfl))
(au (fe bS rfl (dG (cM ny (hr.mono (by decide)) rfl (aa (cS hu (pv 0) aW (fun _ _=>rfl)) (aa (pv 1) (aa ah aj))))) (bD (i:=4) nd rfl (Or.inl rfl))
(au (fe bS rfl (dG (cM ny (hr.mono (by decide)) rfl (aa (cS hu (pv 0) aW (fun _ _=>rfl)) (aa (pv 1) (aa ah aj))))) (bD (i:=5) nd rfl (Or.inl rfl))
(ai (a9 (i:=6) nd rfl (Or.inl rfl) (aJ a6 (aJ a6 (cS hu (pv 0) aW (fun _ _=>rfl)) (pv 4) (fun _ _=>rfl)) ah (fun _ _=>rfl)))
(ai (a9 (i:=7) nd rfl (Or.inl rfl) (aJ a6 (aJ a6 (cS hu (pv 0) aW (fun _ _=>rfl)) (pv 5) (fun _ _=>rfl)) ah (fun _ _=>rfl)))
(au (bX (PW.pt (pw_and (aZ iQ (pv 6) ah (ba _)) (pw_and1 (gg (cM nz (hr.mono (by decide)) rfl (aa (pv 0) (aa (pv 4) (aa (pv 5) aj))))))))
(au (bX (PW.pt (pw_or (aZ cX (pv 6) (pv 7) (ba _)) (pw_or1 (jL (gg (pv 3))))))
(au (bU (cM pL (hr.mono (by decide)) rfl (aa (pv 0) (aa (pv 4) (aa (pv 5) (aa (bq (rE rfl) (by rfl) T.Io boot_min (aa (pv 6) (aa (pv 7) aj))) aj)))))))
bw))
bw)))))))))
(au (bf (qk tT (cS hu (pv 0) aW (fun _ _=>rfl)) (qj (pv 2)) yj))))),?_⟩
  refine⟨_,rfl,sd,_,rfl,hB.gM,g.pm,_,rfl,.inl (bP.of m1),?_⟩
  refine⟨(by show 2<=sizeLine; decide),fun pl nl=>⟨pl,rfl,⟨_,bP.of ag⟩,?_⟩⟩
  have s1:aD H (upd H pl (.lst ([true,false].map V.bl))):=aD.new nl
  have nlf:=hB.tY nl
  have iL:upd H pl (.lst ([true,false].map V.bl)) pl=some (.lst ([true,false].map V.bl)):=ag
  have Mm:=hB.same s1
  refine jz (H':=upd H pl (.lst ([true,false].map V.bl))) rfl ?_
  generalize upd H pl (.lst ([true,false].map V.bl))=H1 at s1 iL Mm
  refine gj (K:=K) (a:=pl) (xs:=[true,false].map V.bl) (fun i σ H2=> ∃x3 x4 x5 x6 x7:Option V,σ=[some (.ref sd),some (.str aL),some (.int (ms.length:Int)),x3,x4,x5,x6,x7]/\zd H1 sd S g H2 (([true,false].take i).foldl (bY aL) S) (i * 4096))
   ⟨none,none,none,none,none,rfl,Frame.refl,Mm,rfl,rfl,Nat.le_add_right _ _⟩ (fun i σ H2 _ ⟨_,_,_,_,_,_,I⟩=>bP.of (I.fr _ _ nlf iL)) ?_ ?_
  ·rintro i x σ H2 hx ⟨x3,x4,x5,x6,x7,rfl,I⟩
   rw[aB] at hx
   obtain⟨ex,hex,rfl⟩:=bG.mp hx
   have hi:i < 2:=(av.mp hex).1
   rw[jI (bY aL) [true,false] S hex]
   generalize ([true,false].take i).foldl (bY aL) S=S1 at I ⊢
   have c1:=I.cl
   have b1:=I.bl
   refine⟨_,rfl,sd,_,rfl,I.bk.gC,_,rfl,g.pc,g.cps,S1.credits,aL,1,(·.a),rfl,I.bk.hc,I.bk.rc,by omega,(fun _=>rfl),fun D1 H3 t3 n3 Gf=>?_⟩
   have D1f:=I.bk.tY n3
   have I3:=I.from t3
   refine⟨D1,rfl,⟨_,bP.of Gf⟩,?_⟩
   have hcs:(inTurn S1.credits aL (·.a)).length<=63:=by have:=jT S1.credits aL (·.a); omega
   have X1: ∀c∈inTurn S1.credits aL (·.a),c < S.credits.length:=fun c hc=>by have:=(eT.mp hc).1; omega
   have Xl:bY aL S1 ex=(inTurn S1.credits aL (·.a)).foldl (cZ aL ex) S1:=rfl
   rw[Xl]
   generalize inTurn S1.credits aL (·.a)=cs at Gf hcs X1
   refine gj (K:=K) (a:=D1) (xs:=cs.map fun(k:Nat)=>V.int (k:Int)) (fun j σ H4=> ∃x4 x5 x6 x7:Option V,σ=[some (.ref sd),some (.str aL),some (.int (ms.length:Int)),some (.bl ex),x4,x5,x6,x7]/\zd H3 sd S g H4 ((cs.take j).foldl (cZ aL ex) S1) (i * 4096 + j * 64))
    ⟨_,_,_,_,rfl,I3.up (by omega)⟩ (fun j σ H4 _ ⟨_,_,_,_,_,J⟩=>bP.of (J.fr _ _ D1f Gf)) ?_ ?_
   ·rintro j x σ H4 hx ⟨x4,x5,x6,x7,rfl,J⟩
    rw[aB] at hx
    obtain⟨c,hc,rfl⟩:=bG.mp hx
    have aaq:=X1 c (gE hc)
    have hj:j < cs.length:=(av.mp hc).1
    rw[jI (cZ aL ex) cs S1 hc]
    generalize (cs.take j).foldl (cZ aL ex) S1=S2 at J ⊢
    have b2:=J.bl
    refine⟨_,rfl,sd,_,rfl,J.bk.gB,_,rfl,g.pb,g.iw,S2.aH,aL,2,(·.b),rfl,J.bk.hb,J.bk.rb,by omega,(fun _=>rfl),fun D2 H5 t5 n5 Gg=>?_⟩
    have D2f:=J.bk.tY n5
    have J5:=J.from t5
    refine⟨D2,rfl,⟨_,bP.of Gg⟩,?_⟩
    have hbs:(inTurn S2.aH aL (·.b)).length<=63:=by have:=jT S2.aH aL (·.b); omega
    have Ky: ∀b∈inTurn S2.aH aL (·.b),b < S.aH.length:=fun b hb=>by have:=(eT.mp hb).1; omega
    have qZ:cZ aL ex S2 c=(inTurn S2.aH aL (·.b)).foldl (cH ex c) S2:=rfl
    rw[qZ]
    generalize inTurn S2.aH aL (·.b)=bs at Gg hbs Ky
    refine gj (K:=K) (a:=D2) (xs:=bs.map fun(k:Nat)=>V.int (k:Int)) (fun l σ H6=> ∃x5 x6 x7:Option V,σ=[some (.ref sd),some (.str aL),some (.int (ms.length:Int)),some (.bl ex),some (.int (c:Int)),x5,x6,x7]/\zd H5 sd S g H6 ((bs.take l).foldl (cH ex c) S2) (i * 4096 + j * 64 + l))
     ⟨_,_,_,rfl,J5.up (by omega)⟩ (fun l σ H6 _ ⟨_,_,_,_,L⟩=>bP.of (L.fr _ _ D2f Gg)) ?_ ?_
    ·rintro l x σ H6 hx ⟨x5,x6,x7,rfl,L⟩
     rw[aB] at hx
     obtain⟨b,hb,rfl⟩:=bG.mp hx
     have aat:=Ky b (gE hb)
     have hl:l < bs.length:=(av.mp hb).1
     rw[jI (cH ex c) bs S2 hb]
     generalize (bs.take l).foldl (cH ex c) S2=S3 at L ⊢
     have b3:=L.bl
     have c3:=L.cl
     have m3:=L.ml
     obtain⟨p,_,ap,hp⟩:=L.bk.lc (b:=c) (by omega)
     obtain⟨q,_,aq,hq⟩:=L.bk.lb (b:=b) (by omega)
     have no: ¬ (0 < (S3.cr c).d/\S3.eM c b=true/\((S3.cr c).d=(S3.bl b).d∨ex=false))-> ∀H7,aD H6 H7-> ∃x5 x6 x7:Option V,[some (V.ref sd),some (.str aL),some (.int (ms.length:Int)),some (.bl ex),some (.int (c:Int)),some (.int (b:Int)),some (.int (S3.cr c).d),some (.int (S3.bl b).d)]=[some (.ref sd),some (.str aL),some (.int (ms.length:Int)),some (.bl ex),some (.int (c:Int)),x5,x6,x7]/\zd H5 sd S g H7 (cH ex c S3 b) (i * 4096 + j * 64 + (l + 1)):=fun n H7 t7=>by
      refine⟨_,_,_,rfl,?_⟩
      unfold cH
      rw[aV n]
      exact(L.back t7 (L.from t7)).up (by omega)
     refine⟨_,rfl,sd,_,rfl,L.bk.gC,_,rfl,g.pc,_,_,.ref p,rfl,rfl,bP.of L.bk.hc,ap,p,_,_,.int (S3.cr c).d,rfl,rfl,bP.of hp,rfl,?_⟩
     refine⟨_,rfl,sd,_,rfl,L.bk.gB,_,rfl,g.pb,_,_,.ref q,rfl,rfl,bP.of L.bk.hb,aq,q,_,_,.int (S3.bl b).d,rfl,rfl,bP.of hq,rfl,?_⟩
     refine⟨_,rfl,_,_,rfl,rfl,_,rfl,cL (fun d1=>?_) (fun d1=>cg (no (fun z=>d1 (aE z.1)) _ (aD.refl _)))⟩
     have Ry:0 < (S3.cr c).d:=aS d1
     refine⟨_,rfl,_,rfl,_,rfl,sd,S3,g,c,b,rfl,L.bk,by omega,by omega,fun H7 t7=>⟨_,rfl,cL (fun d2=>?_) (fun d2=>no (fun z=>d2 z.2.1) _ t7)⟩⟩
     have L7:=L.bk.same t7
     have RA:((S3.cr c).d=(S3.bl b).d∨ex=false)-> ∀H',Frame g.fp H7 H'->dI H' sd (S3.put c b (iN (S3.cr c).d (S3.bl b).d)) g-> ∃x5 x6 x7:Option V,[some (V.ref sd),some (.str aL),some (.int (ms.length:Int)),some (.bl ex),some (.int (c:Int)),some (.int (b:Int)),some (.int (S3.cr c).d),some (.int (S3.bl b).d)]=[some (.ref sd),some (.str aL),some (.int (ms.length:Int)),some (.bl ex),some (.int (c:Int)),x5,x6,x7]/\zd H5 sd S g H' (cH ex c S3 b) (i * 4096 + j * 64 + (l + 1)):=fun z H' O9 VM=>by
      refine⟨_,_,_,rfl,?_⟩
      unfold cH
      rw[bg ⟨Ry,d2,z⟩]
      exact(L.put (t7.frame.tr O9) VM).up (by omega)
     have Ej:((S3.cr c).d=(S3.bl b).d∨ex=false)->Ed [.ref sd,.int (c:Int),.int (b:Int),.int (if(S3.bl b).d < (S3.cr c).d then(S3.bl b).d else(S3.cr c).d)] H7 (fun _ H'=> ∃x5 x6 x7:Option V,[some (V.ref sd),some (.str aL),some (.int (ms.length:Int)),some (.bl ex),some (.int (c:Int)),some (.int (b:Int)),some (.int (S3.cr c).d),some (.int (S3.bl b).d)]=[some (.ref sd),some (.str aL),some (.int (ms.length:Int)),some (.bl ex),some (.int (c:Int)),x5,x6,x7]/\zd H5 sd S g H' (cH ex c S3 b) (i * 4096 + j * 64 + (l + 1))) (fun _ _ _=>False):=fun z=>
      ⟨sd,S3,g,c,b,_,rfl,L7,by omega,by omega,by omega,fun H' O9 VM=>RA z H' O9 VM⟩
     refine⟨_,rfl,_,rfl,rfl,_,rfl,cL (fun d3=>fJ ?_) (fun d3=>?_)⟩
     ·have d3':(S3.cr c).d=(S3.bl b).d:=by have:=aS d3; injection this
      exact⟨_,rfl,_,rfl,_,rfl,_,rfl,_,rfl,_,_,rfl,Ej (.inl d3')⟩
     ·refine⟨_,rfl,_,rfl,cL (fun d4=>?_) (fun d4=>no (fun z=>?_) _ t7)⟩
      ·have d4':ex=false:=by simpa using d4
       exact⟨_,rfl,_,rfl,_,rfl,_,rfl,_,rfl,_,_,rfl,Ej (.inr d4')⟩
      ·rcases z.2.2 with z|z
       ·exact d3 (aE (by rw[z]))
       ·exact d4 (by rw[z]; rfl)
    ·rintro σ H6 ⟨x5,x6,x7,rfl,L⟩
     rw[ae,bh] at L
     exact⟨_,_,_,_,rfl,(J.back t5 L).up (by omega)⟩
   ·rintro σ H4 ⟨x4,x5,x6,x7,rfl,J⟩
    rw[ae,bh] at J
    exact⟨_,_,_,_,_,rfl,(I.back t3 J).up (by omega)⟩
  ·rintro σ H2 ⟨x3,x4,x5,x6,x7,rfl,I⟩
   have UP:([true,false].take ([true,false].map V.bl).length).foldl (bY aL) S=S.jR aL:=rfl
   rw[UP] at I
   obtain⟨Mn,k1,k2⟩:=I.bk.hm
   refine⟨_,rfl,sd,_,rfl,I.bk.gM,_,rfl,_,rfl,g.pm,Mn,rfl,bP.of k1,fun p np=>?_⟩
   have tp:=aD.new (o:= .lst (ql Mn (some (ms.length:Int)) none)) np
   have hle:ms.length<=Mn.length:=by
    have e0:=aQ k2
    obtain⟨_,l,e1,_⟩:=mS S aL
    rw[e1,aK] at e0
    omega
   refine k p (Mn.drop ms.length) _ ((s1.frame.tr I.fr).dE tp) (I.bk.same tp) ?_ ?_ ?_
   ·exact s1.free (Frame.free I.fr (I.bk.tY np) np)
   ·rw[ag,Ge _ _ hle]
   ·rw[VL]
    exact sN _ (k2.mono tp.tk)
def zf (A:ej):Sp:=fun vs H Q _=> ∃(x dx:Addr),vs=[.ref x]/\H x=some (.ins A.work dx [])/\ ∀f H',Frame [x] H H'->dP A H' x Bk.new f->(∀b∈f.fp,H b=none)->Q .eI H'
theorem IM (f:eO):eJ "made" (.ref f.pm) (eJ "frees" (.ref f.pf) (eJ "lefts" (.ref f.pl) (eJ "all_credits" (.ref f.pc) (eJ "bills" (.ref f.pb) []))))=ly f:=by rfl
theorem Bg {H Hk:Hp}{x dx p C:Addr}{fs:List (Str×V)}{f:Str}(F:Frame [x] H Hk)(hx:Hk x=some (.ins C dx fs))(n:Hk p=none):p≠x/\H p=none/\Frame [x] H (upd (upd Hk p (.lst [])) x (.ins C dx (eJ f (.ref p) fs)))/\
  upd (upd Hk p (.lst [])) x (.ins C dx (eJ f (.ref p) fs)) x=some (.ins C dx (eJ f (.ref p) fs))/\upd (upd Hk p (.lst [])) x (.ins C dx (eJ f (.ref p) fs)) p=some (.lst [])/\
  (∀q o,q≠x->Hk q=some o->upd (upd Hk p (.lst [])) x (.ins C dx (eJ f (.ref p) fs)) q=some o/\q≠p):=by
 have ne:p≠x:=(aN hx n).symm
 refine⟨ne,F.free (by simpa using ne) n,(F.tr (aD.new n).frame).tr (Frame.upd (by simp)),ag,by rw[aA ne,ag],fun q o hq e=>⟨?_,aN e n⟩⟩
 rw[aA hq]
 exact aD.new n _ _ e
theorem Lm:a0 ["self"] ["self"] (az (mem 25 0)):=⟨rfl,rfl,rfl,by decide +kernel,rfl,by decide +kernel,by decide +kernel⟩
theorem IP {A:ej}(G:jy K mg A):tF P w K mg base "Work" A.work 1 ["self"] (zf A):=by
 refine Ld (k:=0) G.K9 G.K8 Lm (fun _ _ _ _ _ _ us hl=>match us,hl with|[_],_=>rfl) (fun vs H Q E h=>?_) (fun f dh A' outer s H vs Q E hr h=>?_)
 ·obtain⟨x,dx,rfl,_⟩:=h
  rfl
 ·obtain⟨x,dx,rfl,hx,k⟩:=h
  refine⟨_,(ai (fS (pv 0) (cf aj) rfl)
(ai (fS (pv 0) (cf aj) rfl)
(ai (fS (pv 0) (cf aj) rfl)
(ai (fS (pv 0) (cf aj) rfl)
(au (fS (pv 0) (cf aj) rfl)))))),?_⟩
  have F0:Frame [x] H H:=Frame.refl
  refine⟨bF _,fun p1 n1=>⟨_,rfl,x,_,dx,_,rfl,aD.new n1 _ _ hx,G.bO,G.ee,lt1000 A8 (by decide),?_⟩⟩
  obtain⟨ne1,f1,F1,x1,g1,t1⟩:=Bg (f:="bills") F0 hx n1
  generalize hH1:upd (upd H p1 (.lst [])) x (.ins A.work dx (eJ "bills" (.ref p1) _))=H1 at F1 x1 g1
  clear hH1 t1
  refine⟨bF _,fun p2 n2=>⟨_,rfl,x,_,dx,_,rfl,aD.new n2 _ _ x1,G.bO,G.cU,lt1000 (pl A8) (by decide),?_⟩⟩
  obtain⟨ne2,f2,F2,x2,g2,t2⟩:=Bg (f:="all_credits") F1 x1 n2
  obtain⟨g1,RB⟩:=t2 p1 _ ne1 g1
  generalize S4:upd (upd H1 p2 (.lst [])) x (.ins A.work dx (eJ "all_credits" (.ref p2) _))=H2 at F2 x2 g1 g2
  clear S4 t2
  refine⟨bF _,fun p3 n3=>⟨_,rfl,x,_,dx,_,rfl,aD.new n3 _ _ x2,G.bO,G.fG,lt1000 (pl (pl A8)) (by decide),?_⟩⟩
  obtain⟨ne3,f3,F3,x3,g3,t3⟩:=Bg (f:="lefts") F2 x2 n3
  obtain⟨g1,RC⟩:=t3 p1 _ ne1 g1
  obtain⟨g2,RD⟩:=t3 p2 _ ne2 g2
  generalize Lk:upd (upd H2 p3 (.lst [])) x (.ins A.work dx (eJ "lefts" (.ref p3) _))=H3 at F3 x3 g1 g2 g3
  clear Lk t3
  refine⟨bF _,fun p4 n4=>⟨_,rfl,x,_,dx,_,rfl,aD.new n4 _ _ x3,G.bO,G.fH,lt1000 (pl (pl (pl A8))) (by decide),?_⟩⟩
  obtain⟨ne4,f4,F4,x4,g4,t4⟩:=Bg (f:="frees") F3 x3 n4
  obtain⟨g1,RE⟩:=t4 p1 _ ne1 g1
  obtain⟨g2,RF⟩:=t4 p2 _ ne2 g2
  obtain⟨g3,RG⟩:=t4 p3 _ ne3 g3
  generalize hH4:upd (upd H3 p4 (.lst [])) x (.ins A.work dx (eJ "frees" (.ref p4) _))=H4 at F4 x4 g1 g2 g3 g4
  clear hH4 t4
  refine⟨bF _,fun p5 n5=>⟨_,rfl,x,_,dx,_,rfl,aD.new n5 _ _ x4,G.bO,G.l6,lt1000 (pl (pl (pl (pl A8)))) (by decide),?_⟩⟩
  obtain⟨ne5,f5,F5,x5,g5,t5⟩:=Bg (f:="made") F4 x4 n5
  obtain⟨g1,RH⟩:=t5 p1 _ ne1 g1
  obtain⟨g2,RI⟩:=t5 p2 _ ne2 g2
  obtain⟨g3,RJ⟩:=t5 p3 _ ne3 g3
  obtain⟨g4,RK⟩:=t5 p4 _ ne4 g4
  refine k ⟨p1,p2,p3,p4,p5,[],[]⟩ _ F5 ⟨⟨dx,?_⟩,g1,g2,g3,g4,⟨[],g5,.nil⟩,⟨rfl,fun i p e=>by simp at e⟩,⟨rfl,fun i p e=>by simp at e⟩,?_⟩ ?_
  ·rw[x5]
   exact c8 (fun z=>some (HO.ins A.work dx z)) (IM ⟨p1,p2,p3,p4,p5,[],[]⟩)
  ·simp[eO.fp,RB,RC,RE,RH,RD,RF,RI,RG,RJ,RK]
  ·intro b hb
   simp only[eO.fp,List.mem_cons,List.not_mem_nil,or_false] at hb
   rcases hb with rfl|rfl|rfl|rfl|rfl
   ·exact f1
   ·exact f2
   ·exact f3
   ·exact f4
   ·exact f5
def iH (A:ej)(H:Hp)(S:Bk)(bs:List Nat)(qs:List Addr):Prop:=Paired (fun(b:Nat) q=>eF H q A.d9 (fF b (S.bl b))) bs qs
def gK (A:ej)(H:Hp)(S:Bk)(cs:List Nat)(qs:List Addr):Prop:=Paired (fun(c:Nat) q=>eF H q A.eo (fj c (S.cr c))) cs qs
theorem iH.same {A:ej}{H H':Hp}{S:Bk}{bs:List Nat}{qs:List Addr}(h:iH A H S bs qs)(s:aD H H'):iH A H' S bs qs:=Paired.ir h fun _ _ z=>z.same s
theorem gK.same {A:ej}{H H':Hp}{S:Bk}{bs:List Nat}{qs:List Addr}(h:gK A H S bs qs)(s:aD H H'):gK A H' S bs qs:=Paired.ir h fun _ _ z=>z.same s
def Mo (A:ej):Sp:=fun vs H Q _=> ∃(p pt:Addr) (S:Bk) (c:Nat) (bs:List Nat) (qs:List Addr),vs=[.ref p,.ref pt]/\eF H p A.eo (fj c (S.cr c))/\H pt=some (.lst (qs.map V.ref))/\iH A H S bs qs/\bs.length<=100/\
 ∀D H',aD H H'->H D=none->H' D=some (.lst ((bs.map fun b=>oJ (S.cr c) (S.bl b) b).map V.bl))->Q (.ref D) H'
theorem vc:a0 ["credit","bills"] ["credit","bills"] (az (top 27)):=⟨rfl,rfl,rfl,by decide +kernel,rfl,by decide +kernel,by decide +kernel⟩
theorem wz (T:Txt K mg){A:ej}(G:jy K mg A):fb P w K mg base "row_of_fits" 2 ["credit","bills"] (Mo A):=by
 have CQ:fb P w K mg base "fits" 1 ["credit","bill"] (CO A):=IC T G
 refine T.v7.kN (k:=1) vc (fun _ _ _ _ _ _ us hl=>match us,hl with|[_,_],_=>rfl) (fun vs H Q E h=>?_) (fun f dh A' outer s H vs Q E hr h=>?_)
 ·obtain⟨p,pt,S,c,bs,qs,rfl,_⟩:=h
  rfl
 ·obtain⟨p,pt,S,c,bs,qs,rfl,hp,xM,hB,hl,k⟩:=h
  have hlen:=aQ hB
  refine⟨_,(au (bf (gU (tn:=["bill"]) (cn:=["credit"]) (cj:=[0]) rfl (iz (by rfl) (by decide +kernel) rfl (by decide +kernel) (by rfl) [(".0",.local),("bill",.local),("fits",.globalImplicit),("credit",.cell)] (by rfl) (by decide +kernel) rfl (Or.inl rfl) (Or.inl rfl)) (dG (pv 1)) (fun _ _ _ _=>(bD (i:=0) (show(["bill","credit"]:List Str).Nodup by decide +kernel) rfl (Or.inl rfl))) (fun _ _ _ _=>mN) (fun _ _ _ _=>(cM CQ (hr.mono (by decide)) rfl (aa (pv 1) (aa (pv 0) aj))))))),?_⟩
  refine⟨_,rfl,pt,rfl,⟨_,bP.of xM⟩,?_⟩
  refine eN (K:=K) (a:=pt) (xs:=qs.map V.ref) (fun D i σ H6=>H D=none/\ ∃v,σ=[v,some (.ref p)]/\aD H H6/\H6 D=some (.lst (((bs.take i).map fun b=>oJ (S.cr c) (S.bl b) b).map V.bl))) (fun D hD=>⟨hD,none,rfl,aD.new hD,ag⟩) (fun D i σ H6 _ ⟨_,_,_,t3,_⟩=>bP.of (t3 _ _ xM)) ?_ ?_
  ·rintro D i x σ H6 hx ⟨hD,v,rfl,t3,gA⟩
   rw[aB] at hx
   obtain⟨q,hq,rfl⟩:=bG.mp hx
   have hi:i < bs.length:=by have:=(av.mp hq).1; omega
   obtain⟨q',sk,lE⟩:=bR hB (af hi)
   rw[hq] at sk
   obtain rfl:q=q':=aF sk
   have nR:=oE hi
   generalize bs[i]=b at lE nR
   refine⟨_,rfl,_,rfl,p,q,c,b,_,_,rfl,hp.same t3,lE.same t3,_,gA,bB (by rw[ae,ae,bC]; omega),hD,_,rfl,t3.dm hD,?_⟩
   rw[ag,nR,aR,aR]
   rfl
  ·rintro D σ H6 hD ⟨_,v,rfl,t3,gA⟩
   refine k D H6 t3 hD ?_
   rw[gA,ae,← hlen,bh]
def bI.vs:bI->List V
 | .d9 w d u a=>[.str "bill",.str w,.int d,.int u,.int a]
 | .ra w d a=>[.str "pay",.str w,.int d,.int a]
 | .note b d a=>[.str "note",.int b,.int d,.int a]
 | .set c b a=>[.str "set",.int c,.int b,.int a]
 | .fI w=>[.str "sweep",.str w]
 | .i6 n=>[.str "undo",.int n]
 | .ask o w d=>[.str (if o then "owed" else "free"),.str w,.int d]
 | .iM _ _ _=>[]
theorem jq {x y:Str}(h:x≠y):V.bl (decide (V.str x=V.str y))=V.bl false:=c8 V.bl (bA fun z=>h (by injection z))
theorem xN (x:Str):V.bl (decide (V.str x=V.str x))=V.bl true:=c8 V.bl (aE rfl)
theorem RL {x y:Str}(h:x≠y):V.bl (!decide (V.str x=V.str y))=V.bl true:=by rw[show decide (V.str x=V.str y)=false from bA fun z=>h (by injection z)]; rfl
theorem X2 (x:Str):V.bl (!decide (V.str x=V.str x))=V.bl false:=by rw[show decide (V.str x=V.str x)=true from aE rfl]; rfl
theorem vd {x:Int}{n:Nat}{ta tc:TE}{σ:L2.St}{H:Hp}{Q:Bool->Hp->Prop}(ha: ∀R:VK,R (.int x) H->ta σ H R)(hc: ∀R:VK,R (.int (n:Int)) H->tc σ H R)(q:Q (decide (pW x n)) H):
  Hf (Hg (JH fun i j=> .bl (decide (i<=j))) (JH fun i j=> .bl (decide (i < j))) (tC (.int 0)) ta tc) σ H Q:=by
 refine ha _ ⟨_,_,rfl,rfl,_,rfl,cL (fun d=>hc _ ⟨_,_,rfl,rfl,_,rfl,?_⟩) (fun d=>⟨_,rfl,?_⟩)⟩
 ·have d':(0:Int)<=x:=aS d
  have e:decide (pW x n)=decide (x < (n:Int)):=mw.mpr ⟨fun z=>z.2,fun z=>⟨d',z⟩⟩
  rw[e] at q
  exact q
 ·have d': ¬ (0:Int)<=x:=fun z=>d (aE z)
  have e:decide (pW x n)=false:=bA fun z=>d' z.1
  rw[e] at q
  exact q
def Bh:Sp:=fun vs H Q _=> ∃(sd pd:Addr) (S:Bk) (f:fN) (d:bI),vs=[.ref sd,.ref pd]/\dI H sd S f/\H pd=some (.tup (bI.vs d))/\d.tells=true/\ ∀H',aD H H'->Q (.str (S.bar d)) H'
theorem nA:a0 ["_law_state","_law_deed","_law_word","_law_spot"] ["_law_state","_law_deed"] (az (top 58)):=⟨rfl,rfl,rfl,by decide +kernel,rfl,by decide +kernel,by decide +kernel⟩
theorem wA (T:Txt K mg):fb P w K mg base "_law_barred" 2 ["_law_state","_law_deed"] Bh:=by
 have nz:fb P w K mg base "_law_goes" 1 ["_law_state","_law_credit","_law_bill"] CS:=sJ T
 refine T.we.kN (k:=1) nA (fun _ _ _ _ _ _ us hl=>match us,hl with|[_,_],_=>rfl) (fun vs H Q E h=>?_) (fun f dh A outer s H vs Q E hr h=>?_)
 ·obtain⟨sd,pd,S,g,d,rfl,_⟩:=h
  rfl
 ·obtain⟨sd,pd,S,g,d,rfl,hB,hd,ht,k⟩:=h
  have hu:=jO hr
  have nd:=nA.nd
  refine⟨_,(ai (a9 (i:=2) nd rfl (Or.inl rfl) (aJ bb (pv 1) ah (fun _ _=>rfl)))
(ai (a9 (i:=3) nd rfl (Or.inl rfl) (f7 jC (by rfl) T.uY boot_int (aa (fv cX (pv 2) aW (ba _)) aj)))
(ai (bX (PW.pt (pw_and (aZ cX (pv 3) ah (ba _)) (pw_and1 (jL (Ae sh jN ah (aJ bb (pv 1) ah (fun _ _=>rfl)) (bq bp (by rfl) T.en bo (aa (cS hu (pv 0) aW (fun _ _=>rfl)) aj)))))))
(au (bf aW))
bw)
(ai (bX (PW.pt (pw_and (aZ nS (pv 2) (cf (aa aW (aa aW aj))) (by rfl)) (pw_and1 (jL (Ae sh jN ah (aJ bb (pv 1) (aX dk ah (pv 3)) (fun _ _=>rfl)) (bq bp (by rfl) T.en bo (aa (cS hu (pv 0) aW (fun _ _=>rfl)) aj)))))))
(au (bf aW))
bw)
(ai (bX (PW.pt (pw_and (aZ cX (pv 2) aW (ba _)) (pw_and1 (jL (gg (cM nz (hr.mono (by decide)) rfl (aa (pv 0) (aa (aJ bb (pv 1) ah (fun _ _=>rfl)) (aa (aJ bb (pv 1) ah (fun _ _=>rfl)) aj)))))))))
(au (bf aW))
bw)
(ai (bX (PW.pt (pw_and (aZ qf (pv 2) aW (ba _)) (pw_and1 (aZ jN (aJ bb (pv 1) (oG kM ah) (fun _ _=>rfl)) ah (ba _)))))
(au (bf aW))
bw)
(ai (bX (PW.pt (pw_and (aZ cX (pv 2) aW (ba _)) (pw_and1 (aZ jN (aJ bb (pv 1) ah (fun _ _=>rfl)) (aJ bb (pv 1) ah (fun _ _=>rfl)) (ba _)))))
(au (bf aW))
bw)
(ai (bX (aZ cX (pv 2) aW (ba _))
(au (bX (aZ iQ (aJ bb (pv 1) ah (fun _ _=>rfl)) (bq (rE rfl) (by rfl) T.Io boot_min (aa (aJ a6 (aJ a6 (cS hu (pv 0) aW (fun _ _=>rfl)) (aJ bb (pv 1) ah (fun _ _=>rfl)) (fun _ _=>rfl)) ah (fun _ _=>rfl)) (aa (aJ a6 (aJ a6 (cS hu (pv 0) aW (fun _ _=>rfl)) (aJ bb (pv 1) ah (fun _ _=>rfl)) (fun _ _=>rfl)) ah (fun _ _=>rfl)) aj))) (ba _))
(au (bf aW))
bw))
bw)
(au (bf aW)))))))))),?_⟩
  have kk: ∀(t:Str) (H':Hp),S.bar d=t->aD H H'->Q (.str t) H':=fun t H' e z=>e▸k H' z
  clear k
  cases d with
  |i6 n=>cases ht
  |ask o w d=>cases ht
  |iM w d l=>cases ht
  |d9 wh dy du am=>
   refine⟨_,rfl,pd,_,_,.str "bill",rfl,rfl,cG.of hd,rfl,_,rfl,rfl,.inr ⟨false,(by rw[jq (show("bill":Str)≠"set" by decide +kernel)]),?_⟩⟩
   refine⟨_,rfl,rfl,false,c8 V.bl (by decide +kernel),cg (cg ?_)⟩
   refine⟨_,rfl,(by show 2<=sizeLine; decide),fun p9 n9=>⟨p9,_,rfl,.inl (bP.of ag),rfl,rfl,false,c8 V.bl (by decide +kernel),cg (cg ?_)⟩⟩
   have s9:=aD.new (o:= .lst [V.str "set",.str "note"]) n9
   have Bi:=s9 _ _ hd
   refine jz (H':=upd H p9 (.lst [V.str "set",.str "note"])) rfl ?_
   generalize upd H p9 (.lst [V.str "set",.str "note"])=H9 at s9 Bi
   refine⟨_,rfl,rfl,false,jq (show("bill":Str)≠"set" by decide +kernel),cg (cg ?_)⟩
   refine⟨_,rfl,rfl,true,RL (show("bill":Str)≠"sweep" by decide +kernel),fJ ⟨_,rfl,_,rfl,pd,_,_,.int am,rfl,rfl,cG.of Bi,rfl,_,_,rfl,rfl,_,rfl,cL (fun z=>?_) (fun z=>?_)⟩⟩
   ·have z':am < 1:=aS z
    exact kk _ _ (bg z') s9
   have z1: ¬ am < 1:=fun q=>z (aE q)
   refine⟨_,rfl,rfl,true,xN _,fJ ⟨_,rfl,pd,_,_,.int du,rfl,rfl,cG.of Bi,rfl,_,rfl,pd,_,_,.int dy,rfl,rfl,cG.of Bi,rfl,_,_,rfl,rfl,_,rfl,cL (fun z=>?_) (fun z=>?_)⟩⟩
   ·have z':du < dy:=aS z
    exact kk _ _ ((aV z1).trans (bg z')) s9
   have z2: ¬ du < dy:=fun q=>z (aE q)
   refine⟨_,rfl,rfl,false,jq (show("bill":Str)≠"set" by decide +kernel),cg ?_⟩
   exact kk _ _ ((aV z1).trans (aV z2)) s9
  |ra wh dy am=>
   refine⟨_,rfl,pd,_,_,.str "pay",rfl,rfl,cG.of hd,rfl,_,rfl,rfl,.inr ⟨false,(by rw[jq (show("pay":Str)≠"set" by decide +kernel)]),?_⟩⟩
   refine⟨_,rfl,rfl,false,c8 V.bl (by decide +kernel),cg (cg ?_)⟩
   refine⟨_,rfl,(by show 2<=sizeLine; decide),fun p9 n9=>⟨p9,_,rfl,.inl (bP.of ag),rfl,rfl,false,c8 V.bl (by decide +kernel),cg (cg ?_)⟩⟩
   have s9:=aD.new (o:= .lst [V.str "set",.str "note"]) n9
   have Bi:=s9 _ _ hd
   refine jz (H':=upd H p9 (.lst [V.str "set",.str "note"])) rfl ?_
   generalize upd H p9 (.lst [V.str "set",.str "note"])=H9 at s9 Bi
   refine⟨_,rfl,rfl,false,jq (show("pay":Str)≠"set" by decide +kernel),cg (cg ?_)⟩
   refine⟨_,rfl,rfl,true,RL (show("pay":Str)≠"sweep" by decide +kernel),fJ ⟨_,rfl,_,rfl,pd,_,_,.int am,rfl,rfl,cG.of Bi,rfl,_,_,rfl,rfl,_,rfl,cL (fun z=>?_) (fun z=>?_)⟩⟩
   ·have z':am < 1:=aS z
    exact kk _ _ (bg z') s9
   have z1: ¬ am < 1:=fun q=>z (aE q)
   refine⟨_,rfl,rfl,false,jq (show("pay":Str)≠"bill" by decide +kernel),cg (cg ?_)⟩
   refine⟨_,rfl,rfl,false,jq (show("pay":Str)≠"set" by decide +kernel),cg ?_⟩
   exact kk _ _ (aV z1) s9
  |fI wh=>
   refine⟨_,rfl,pd,_,_,.str "sweep",rfl,rfl,cG.of hd,rfl,_,rfl,rfl,.inr ⟨false,(by rw[jq (show("sweep":Str)≠"set" by decide +kernel)]),?_⟩⟩
   refine⟨_,rfl,rfl,false,c8 V.bl (by decide +kernel),cg (cg ?_)⟩
   refine⟨_,rfl,(by show 2<=sizeLine; decide),fun p9 n9=>⟨p9,_,rfl,.inl (bP.of ag),rfl,rfl,false,c8 V.bl (by decide +kernel),cg (cg ?_)⟩⟩
   have s9:=aD.new (o:= .lst [V.str "set",.str "note"]) n9
   refine jz (H':=upd H p9 (.lst [V.str "set",.str "note"])) rfl ?_
   generalize upd H p9 (.lst [V.str "set",.str "note"])=H9 at s9
   refine⟨_,rfl,rfl,false,jq (show("sweep":Str)≠"set" by decide +kernel),cg (cg ?_)⟩
   refine⟨_,rfl,rfl,false,X2 _,cg (cg ?_)⟩
   refine⟨_,rfl,rfl,false,jq (show("sweep":Str)≠"bill" by decide +kernel),cg (cg ?_)⟩
   refine⟨_,rfl,rfl,false,jq (show("sweep":Str)≠"set" by decide +kernel),cg ?_⟩
   exact kk _ _ rfl s9
  |note bi dy am=>
   refine⟨_,rfl,pd,_,_,.str "note",rfl,rfl,cG.of hd,rfl,_,rfl,rfl,.inr ⟨false,(by rw[jq (show("note":Str)≠"set" by decide +kernel)]),?_⟩⟩
   refine⟨_,rfl,rfl,false,c8 V.bl (by decide +kernel),cg (cg ?_)⟩
   refine⟨_,rfl,(by show 2<=sizeLine; decide),fun p9 n9=>⟨p9,_,rfl,.inl (bP.of ag),rfl,rfl,true,c8 V.bl (by decide +kernel),fJ ?_⟩⟩
   have s9:=aD.new (o:= .lst [V.str "set",.str "note"]) n9
   have Bi:=s9 _ _ hd
   have B9:=hB.same s9
   generalize upd H p9 (.lst [V.str "set",.str "note"])=H9 at s9 Bi B9
   have hlen:g.iw.length=S.aH.length:=B9.rb.length.symm
   refine vd (x:=bi) (n:=S.aH.length) (fun R q=>⟨_,rfl,_,rfl,_,_,rfl,rfl,pd,_,_,.int bi,rfl,rfl,cG.of Bi,rfl,q⟩) (fun R q=>⟨_,rfl,sd,_,rfl,B9.gB,g.pb,_,rfl,.inl (bP.of B9.hb),by rw[ae,hlen]; exact q⟩) (cL (fun z=>?_) (fun z=>?_))
   ·have z': ¬ pW bi S.aH.length:=by simpa using z
    exact kk _ _ (bg z') s9
   have z0: ¬ ¬ pW bi S.aH.length:=by simpa using z
   refine⟨_,rfl,rfl,false,jq (show("note":Str)≠"set" by decide +kernel),cg (cg ?_)⟩
   refine⟨_,rfl,rfl,true,RL (show("note":Str)≠"sweep" by decide +kernel),fJ ⟨_,rfl,_,rfl,pd,_,_,.int am,rfl,rfl,cG.of Bi,rfl,_,_,rfl,rfl,_,rfl,cL (fun z=>?_) (fun z=>?_)⟩⟩
   ·have z':am < 1:=aS z
    exact kk _ _ ((aV z0).trans (bg z')) s9
   have z1: ¬ am < 1:=fun q=>z (aE q)
   refine⟨_,rfl,rfl,false,jq (show("note":Str)≠"bill" by decide +kernel),cg (cg ?_)⟩
   refine⟨_,rfl,rfl,false,jq (show("note":Str)≠"set" by decide +kernel),cg ?_⟩
   exact kk _ _ ((aV z0).trans (aV z1)) s9
  |set ci bi am=>
   have X3:g.cps.length=S.credits.length:=hB.rc.length.symm
   refine⟨_,rfl,pd,_,_,.str "set",rfl,rfl,cG.of hd,rfl,_,rfl,rfl,.inr ⟨true,(by rw[xN]),?_⟩⟩
   refine⟨_,rfl,rfl,true,c8 V.bl (by decide +kernel),fJ ?_⟩
   refine vd (x:=ci) (n:=S.credits.length) (fun R q=>⟨_,rfl,pd,_,_,.int ci,rfl,rfl,cG.of hd,rfl,q⟩) (fun R q=>⟨_,rfl,sd,_,rfl,hB.gC,g.pc,_,rfl,.inl (bP.of hB.hc),by rw[ae,X3]; exact q⟩) (cL (fun z=>?_) (fun z=>?_))
   ·have z': ¬ pW ci S.credits.length:=by simpa using z
    exact kk _ _ (bg z') (aD.refl _)
   have zc: ¬ ¬ pW ci S.credits.length:=by simpa using z
   refine⟨_,rfl,(by show 2<=sizeLine; decide),fun p9 n9=>⟨p9,_,rfl,.inl (bP.of ag),rfl,rfl,true,c8 V.bl (by decide +kernel),fJ ?_⟩⟩
   have s9:=aD.new (o:= .lst [V.str "set",.str "note"]) n9
   have Bi:=s9 _ _ hd
   have B9:=hB.same s9
   generalize upd H p9 (.lst [V.str "set",.str "note"])=H9 at s9 Bi B9
   have hlen:g.iw.length=S.aH.length:=B9.rb.length.symm
   refine vd (x:=bi) (n:=S.aH.length) (fun R q=>⟨_,rfl,_,rfl,_,_,rfl,rfl,pd,_,_,.int bi,rfl,rfl,cG.of Bi,rfl,q⟩) (fun R q=>⟨_,rfl,sd,_,rfl,B9.gB,g.pb,_,rfl,.inl (bP.of B9.hb),by rw[ae,hlen]; exact q⟩) (cL (fun z=>?_) (fun z=>?_))
   ·have z': ¬ pW bi S.aH.length:=by simpa using z
    exact kk _ _ ((aV zc).trans (bg z')) s9
   have zb: ¬ ¬ pW bi S.aH.length:=by simpa using z
   have ic:=ER.mp zc
   have ib:=ER.mp zb
   obtain⟨c,rfl⟩:=cJ ic.1
   obtain⟨b,rfl⟩:=cJ ib.1
   have hc:c < S.credits.length:=by have:=ic.2; omega
   have hb:b < S.aH.length:=by have:=ib.2; omega
   refine⟨_,rfl,rfl,true,xN _,fJ ⟨_,rfl,_,rfl,pd,_,_,.int (c:Int),rfl,rfl,cG.of Bi,rfl,_,rfl,pd,_,_,.int (b:Int),rfl,rfl,cG.of Bi,rfl,sd,S,g,c,b,rfl,B9,hc,hb,fun H10 CW=>⟨_,rfl,cL (fun z=>?_) (fun z=>?_)⟩⟩⟩
   ·have z':S.eM c b=false:=by simpa using z
    exact kk _ _ ((if_neg zc).trans ((if_neg zb).trans (if_pos (by simpa using z')))) (s9.trans CW)
   have zg: ¬ S.eM (c:Int).toNat (b:Int).toNat=false:=by simpa using z
   have Ln:=CW _ _ Bi
   have Pj:=B9.same CW
   have zh:=s9.trans CW
   refine⟨_,rfl,rfl,true,RL (show("set":Str)≠"sweep" by decide +kernel),fJ ⟨_,rfl,_,rfl,pd,_,_,.int am,rfl,rfl,cG.of Ln,rfl,_,_,rfl,rfl,_,rfl,cL (fun z=>?_) (fun z=>?_)⟩⟩
   ·have z':am < 1:=aS z
    exact kk _ _ ((aV zc).trans ((aV zb).trans ((aV zg).trans (bg z')))) zh
   have z1: ¬ am < 1:=fun q=>z (aE q)
   refine⟨_,rfl,rfl,false,jq (show("set":Str)≠"bill" by decide +kernel),cg (cg ?_)⟩
   obtain⟨p,_,ap,hp⟩:=Pj.lc hc
   obtain⟨q,_,aq,hq⟩:=Pj.lb hb
   refine⟨_,rfl,rfl,true,xN _,fJ ?_⟩
   refine⟨_,rfl,pd,_,_,.int am,rfl,rfl,cG.of Ln,rfl,_,rfl,sd,_,rfl,Pj.gC,_,rfl,pd,_,_,.int (c:Int),rfl,rfl,cG.of Ln,rfl,g.pc,_,_,.ref p,rfl,rfl,bP.of Pj.hc,ap,p,_,_,.int (S.cr c).d,rfl,rfl,bP.of hp,rfl,?_⟩
   refine⟨_,rfl,sd,_,rfl,Pj.gB,_,rfl,pd,_,_,.int (b:Int),rfl,rfl,cG.of Ln,rfl,g.pb,_,_,.ref q,rfl,rfl,bP.of Pj.hb,aq,q,_,_,.int (S.bl b).d,rfl,rfl,bP.of hq,rfl,_,_,rfl,_,_,rfl,rfl,_,rfl,cL (fun z=>?_) (fun z=>?_)⟩
   ·have z':iN (S.cr (c:Int).toNat).d (S.bl (b:Int).toNat).d < am:=aS z
    exact kk _ _ ((aV zc).trans ((aV zb).trans ((aV zg).trans ((aV z1).trans (bg z'))))) zh
   ·have z': ¬ iN (S.cr (c:Int).toNat).d (S.bl (b:Int).toNat).d < am:=fun q=>z (aE q)
    exact kk _ _ ((aV zc).trans ((aV zb).trans ((aV zg).trans ((aV z1).trans (aV z'))))) zh
def N5 (H:Hp)(f f':fN):Prop:= ∀x∈f'.fp,x∈f.fp∨H x=none
def VN (Q:VK)(H:Hp)(sd:Addr)(S:Bk)(f:fN)(d:bI):Prop:=
 ∀v f' H',Frame f.fp H H'->dI H' sd (S.enter d) f'->N5 H f f'->Rp H' (S.GS d).dt v->Q v H'
def zi:Sp:=fun vs H Q _=> ∃(sd pd:Addr) (S:Bk) (f:fN) (d:bI),vs=[.ref sd,.ref pd]/\dI H sd S f/\H pd=some (.tup (bI.vs d))/\d.tells=true/\S.credits.length < 64/\S.aH.length < 64/\S.made.length + 10000 < sizeLine/\
 (S.bar d≠""-> ∀H',aD H H'->Q (.str (S.bar d)) H')/\(S.bar d=""->VN Q H sd S f d)
theorem oN:a0 ["_law_state","_law_deed","_law_text","_law_who"] ["_law_state","_law_deed"] (az (top 59)):=⟨rfl,rfl,rfl,by decide +kernel,rfl,by decide +kernel,by decide +kernel⟩
theorem qO (T:Txt K mg):fb P w K mg base "_law_enter" 3 ["_law_state","_law_deed"] zi:=by
 have wB:fb P w K mg base "_law_barred" 2 ["_law_state","_law_deed"] Bh:=wA T
 have pL:fb P w K mg base "_law_put" 1 ["_law_state","_law_credit","_law_bill","_law_amount"] Ed:=va T
 have zj:fb P w K mg base "_law_swept" 2 ["_law_state","_law_who"] Ei:=ze T
 refine T.yL.kN (k:=2) oN (fun _ _ _ _ _ _ us hl=>match us,hl with|[_,_],_=>rfl) (fun vs H Q E h=>?_) (fun f dh A outer s H vs Q E hr h=>?_)
 ·obtain⟨sd,pd,S,g,d,rfl,_⟩:=h
  rfl
 ·obtain⟨sd,pd,S,g,d,rfl,hB,hd,ht,qz,Ll,GV,kn,ky⟩:=h
  have hu:=jO hr
  have nd:=oN.nd
  refine⟨_,(ai (a9 (i:=2) nd rfl (Or.inl rfl) (cM wB (hr.mono (by decide)) rfl (aa (pv 0) (aa (pv 1) aj))))
(ai (bX (aZ qf (pv 2) aW (ba _))
(au (bf (pv 2)))
bw)
(ai (bX (aZ cX (aJ bb (pv 1) ah (fun _ _=>rfl)) aW (ba _))
(ai (bU (fz aM aG aI b0 (cS hu (pv 0) aW (fun _ _=>rfl)) (aa (cf (aa (aJ bb (pv 1) ah (fun _ _=>rfl)) (aa (aJ bb (pv 1) ah (fun _ _=>rfl)) (aa (aJ bb (pv 1) ah (fun _ _=>rfl)) (aa (aJ bb (pv 1) ah (fun _ _=>rfl)) (aa (aJ bb (pv 1) ah (fun _ _=>rfl)) aj)))))) aj)))
(au (bf (aX ff (bq bp (by rfl) T.en bo (aa (cS hu (pv 0) aW (fun _ _=>rfl)) aj)) ah))))
bw)
(ai (bX (aZ cX (aJ bb (pv 1) ah (fun _ _=>rfl)) aW (ba _))
(ai (bU (fz aM aG aI b0 (cS hu (pv 0) aW (fun _ _=>rfl)) (aa (cf (aa (aJ bb (pv 1) ah (fun _ _=>rfl)) (aa (aJ bb (pv 1) ah (fun _ _=>rfl)) (aa (aJ bb (pv 1) ah (fun _ _=>rfl)) (aa (oG kM ah) (aa (aJ bb (pv 1) ah (fun _ _=>rfl)) aj)))))) aj)))
(au (bf (aX ff (bq bp (by rfl) T.en bo (aa (cS hu (pv 0) aW (fun _ _=>rfl)) aj)) ah))))
bw)
(ai (bX (aZ cX (aJ bb (pv 1) ah (fun _ _=>rfl)) aW (ba _))
(ai (a9 (i:=3) nd rfl (Or.inl rfl) (aJ a6 (aJ a6 (cS hu (pv 0) aW (fun _ _=>rfl)) (aJ bb (pv 1) ah (fun _ _=>rfl)) (fun _ _=>rfl)) ah (fun _ _=>rfl)))
(ai (bU (fz aM aG aI b0 (cS hu (pv 0) aW (fun _ _=>rfl)) (aa (cf (aa (pv 3) (aa (aJ bb (pv 1) ah (fun _ _=>rfl)) (aa (aJ bb (pv 1) ah (fun _ _=>rfl)) (aa (aJ bb (pv 1) ah (fun _ _=>rfl)) (aa (aJ bb (pv 1) ah (fun _ _=>rfl)) aj)))))) aj)))
(au (bf (aX ff (bq bp (by rfl) T.en bo (aa (cS hu (pv 0) aW (fun _ _=>rfl)) aj)) ah)))))
bw)
(ai (bX (aZ cX (aJ bb (pv 1) ah (fun _ _=>rfl)) aW (ba _))
(ai (bU (cM pL (hr.mono (by decide)) rfl (aa (pv 0) (aa (aJ bb (pv 1) ah (fun _ _=>rfl)) (aa (aJ bb (pv 1) ah (fun _ _=>rfl)) (aa (aJ bb (pv 1) ah (fun _ _=>rfl)) aj))))))
(au (bf (aJ bb (pv 1) ah (fun _ _=>rfl)))))
bw)
(au (bf (cM zj (hr.mono (by decide)) rfl (aa (pv 0) (aa (aJ bb (pv 1) ah (fun _ _=>rfl)) aj))))))))))),?_⟩
  refine⟨_,rfl,_,rfl,sd,pd,S,g,d,rfl,hB,hd,ht,fun H1 s1=>?_⟩
  by_cases oz:S.bar d=""
  case neg=>exact⟨_,rfl,rfl,true,RL oz,fJ ⟨_,rfl,kn oz H1 s1⟩⟩
  refine⟨_,rfl,rfl,false,(by rw[oz]; exact X2 _),cg ?_⟩
  have B1:=hB.same s1
  have lU:=s1 _ _ hd
  have RM: ∀v f' H',Frame g.fp H1 H'->dI H' sd (S.enter d) f'->N5 H1 g f'->Rp H' (S.GS d).dt v->Q v H':=fun v f' H' fr b fi r=>ky oz v f' H' (fr.l5 s1) b (fun x hx=>(fi x hx).elim .inl fun z=> .inr (s1.free z)) r
  clear ky kn
  have lb:=B1.rb.length
  have lc:=B1.rc.length
  cases d with
  |i6 n=>cases ht
  |ask o w d=>cases ht
  |iM w d l=>cases ht
  |d9 wh dy du am=>
   refine⟨_,rfl,pd,_,_,.str "bill",rfl,rfl,cG.of lU,rfl,rfl,true,xN _,fJ ?_⟩
   refine⟨_,rfl,sd,_,rfl,B1.gB,.inl ⟨rfl,_,bP.of B1.hb⟩,_,rfl,pd,_,_,.str wh,rfl,rfl,cG.of lU,rfl,_,rfl,pd,_,_,.int dy,rfl,rfl,cG.of lU,rfl,_,rfl,pd,_,_,.int du,rfl,rfl,cG.of lU,rfl,_,rfl,pd,_,_,.int am,rfl,rfl,cG.of lU,rfl,_,rfl,pd,_,_,.int am,rfl,rfl,cG.of lU,rfl,(by show 5<=sizeLine; decide),fun pr nr=>?_⟩
   have t1:=aD.new (o:= .lst (Rw.vs ⟨wh,dy,du,am,am⟩)) nr
   refine⟨g.pb,_,_,rfl,rfl,t1 _ _ B1.hb,bB (by rw[ae]; omega),?_⟩
   have B2:=B1.kr (r:=⟨wh,dy,du,am,am⟩) nr
   have F2:Frame g.fp H1 (upd (upd H1 pr (.lst (Rw.vs ⟨wh,dy,du,am,am⟩))) g.pb (.lst (g.iw.map V.ref ++ [.ref pr]))):=t1.frame.tr (Frame.upd (by simp[fN.fp]))
   refine jz (H':=upd (upd H1 pr (.lst (Rw.vs ⟨wh,dy,du,am,am⟩))) g.pb (.lst (g.iw.map V.ref ++ [.ref pr]))) rfl ?_
   generalize upd (upd H1 pr (.lst (Rw.vs ⟨wh,dy,du,am,am⟩))) g.pb (.lst (g.iw.map V.ref ++ [.ref pr]))=H2 at B2 F2
   refine⟨_,rfl,sd,_,rfl,B2.gB,_,_,rfl,.inl (bP.of B2.hb),_,_,rfl,rfl,?_⟩
   refine RM _ (g.kr pr) H2 F2 B2 (fun x hx=>?_) (dM.mpr ?_)
   ·rcases aw.mp ((g.Iv pr).mem_iff.mp hx) with rfl|hx
    ·exact .inr nr
    ·exact .inl hx
   ·show V.int _ =V.int (S.aH.length:Int)
    congr 1
    rw[ae]
    show((g.iw ++ [pr]).length:Int) - 1=_
    rw[aK,lb]
    simp
  |ra wh dy am=>
   refine⟨_,rfl,pd,_,_,.str "pay",rfl,rfl,cG.of lU,rfl,rfl,false,jq (show("pay":Str)≠"bill" by decide +kernel),cg ?_⟩
   refine⟨_,rfl,pd,_,_,.str "pay",rfl,rfl,cG.of lU,rfl,rfl,true,xN _,fJ ?_⟩
   refine⟨_,rfl,sd,_,rfl,B1.gC,.inl ⟨rfl,_,bP.of B1.hc⟩,_,rfl,pd,_,_,.str wh,rfl,rfl,cG.of lU,rfl,_,rfl,pd,_,_,.int dy,rfl,rfl,cG.of lU,rfl,_,rfl,pd,_,_,.int am,rfl,rfl,cG.of lU,rfl,_,rfl,_,rfl,pd,_,_,.int am,rfl,rfl,cG.of lU,rfl,(by show 5<=sizeLine; decide),fun pr nr=>?_⟩
   have t1:=aD.new (o:= .lst (Rw.vs ⟨wh,dy,am,-1,am⟩)) nr
   refine⟨g.pc,_,_,rfl,rfl,t1 _ _ B1.hc,bB (by rw[ae]; omega),?_⟩
   have B2:=B1.iu (r:=⟨wh,dy,am,-1,am⟩) nr
   have F2:Frame g.fp H1 (upd (upd H1 pr (.lst (Rw.vs ⟨wh,dy,am,-1,am⟩))) g.pc (.lst (g.cps.map V.ref ++ [.ref pr]))):=t1.frame.tr (Frame.upd (by simp[fN.fp]))
   refine jz (H':=upd (upd H1 pr (.lst (Rw.vs ⟨wh,dy,am,-1,am⟩))) g.pc (.lst (g.cps.map V.ref ++ [.ref pr]))) rfl ?_
   generalize upd (upd H1 pr (.lst (Rw.vs ⟨wh,dy,am,-1,am⟩))) g.pc (.lst (g.cps.map V.ref ++ [.ref pr]))=H2 at B2 F2
   refine⟨_,rfl,sd,_,rfl,B2.gC,_,_,rfl,.inl (bP.of B2.hc),_,_,rfl,rfl,?_⟩
   refine RM _ (g.iu pr) H2 F2 B2 (fun x hx=>?_) (dM.mpr ?_)
   ·rcases aw.mp ((g.D4 pr).mem_iff.mp hx) with rfl|hx
    ·exact .inr nr
    ·exact .inl hx
   ·show V.int _ =V.int (S.credits.length:Int)
    congr 1
    rw[ae]
    show((g.cps ++ [pr]).length:Int) - 1=_
    rw[aK,lc]
    simp
  |note bi dy am=>
   obtain⟨ib,ia⟩:=rN oz
   obtain⟨b,rfl⟩:=cJ ib.1
   have hb:b < S.aH.length:=by have:=ib.2; omega
   obtain⟨q,_,aq,hq⟩:=B1.lb hb
   refine⟨_,rfl,pd,_,_,.str "note",rfl,rfl,cG.of lU,rfl,rfl,false,jq (show("note":Str)≠"bill" by decide +kernel),cg ?_⟩
   refine⟨_,rfl,pd,_,_,.str "note",rfl,rfl,cG.of lU,rfl,rfl,false,jq (show("note":Str)≠"pay" by decide +kernel),cg ?_⟩
   refine⟨_,rfl,pd,_,_,.str "note",rfl,rfl,cG.of lU,rfl,rfl,true,xN _,fJ ?_⟩
   refine⟨_,rfl,sd,_,rfl,B1.gB,_,rfl,pd,_,_,.int (b:Int),rfl,rfl,cG.of lU,rfl,g.pb,_,_,.ref q,rfl,rfl,bP.of B1.hb,aq,q,_,_,.str (S.bl b).aL,rfl,rfl,bP.of hq,rfl,?_⟩
   refine⟨_,rfl,sd,_,rfl,B1.gC,.inl ⟨rfl,_,bP.of B1.hc⟩,_,rfl,_,rfl,pd,_,_,.int dy,rfl,rfl,cG.of lU,rfl,_,rfl,pd,_,_,.int am,rfl,rfl,cG.of lU,rfl,_,rfl,pd,_,_,.int (b:Int),rfl,rfl,cG.of lU,rfl,_,rfl,pd,_,_,.int am,rfl,rfl,cG.of lU,rfl,(by show 5<=sizeLine; decide),fun pr nr=>?_⟩
   have t1:=aD.new (o:= .lst (Rw.vs ⟨(S.bl b).aL,dy,am,b,am⟩)) nr
   refine⟨g.pc,_,_,rfl,rfl,t1 _ _ B1.hc,bB (by rw[ae]; omega),?_⟩
   have B2:=B1.iu (r:=⟨(S.bl b).aL,dy,am,b,am⟩) nr
   have F2:Frame g.fp H1 (upd (upd H1 pr (.lst (Rw.vs ⟨(S.bl b).aL,dy,am,b,am⟩))) g.pc (.lst (g.cps.map V.ref ++ [.ref pr]))):=t1.frame.tr (Frame.upd (by simp[fN.fp]))
   refine jz (H':=upd (upd H1 pr (.lst (Rw.vs ⟨(S.bl b).aL,dy,am,b,am⟩))) g.pc (.lst (g.cps.map V.ref ++ [.ref pr]))) rfl ?_
   generalize upd (upd H1 pr (.lst (Rw.vs ⟨(S.bl b).aL,dy,am,b,am⟩))) g.pc (.lst (g.cps.map V.ref ++ [.ref pr]))=H2 at B2 F2
   refine⟨_,rfl,sd,_,rfl,B2.gC,_,_,rfl,.inl (bP.of B2.hc),_,_,rfl,rfl,?_⟩
   refine RM _ (g.iu pr) H2 F2 B2 (fun x hx=>?_) (dM.mpr ?_)
   ·rcases aw.mp ((g.D4 pr).mem_iff.mp hx) with rfl|hx
    ·exact .inr nr
    ·exact .inl hx
   ·show V.int _ =V.int (S.credits.length:Int)
    congr 1
    rw[ae]
    show((g.cps ++ [pr]).length:Int) - 1=_
    rw[aK,lc]
    simp
  |set ci bi am=>
   obtain⟨ic,ib,_,_,_,_⟩:=qw oz
   obtain⟨c,rfl⟩:=cJ ic.1
   obtain⟨b,rfl⟩:=cJ ib.1
   have hc:c < S.credits.length:=by have:=ic.2; omega
   have hb:b < S.aH.length:=by have:=ib.2; omega
   refine⟨_,rfl,pd,_,_,.str "set",rfl,rfl,cG.of lU,rfl,rfl,false,jq (show("set":Str)≠"bill" by decide +kernel),cg ?_⟩
   refine⟨_,rfl,pd,_,_,.str "set",rfl,rfl,cG.of lU,rfl,rfl,false,jq (show("set":Str)≠"pay" by decide +kernel),cg ?_⟩
   refine⟨_,rfl,pd,_,_,.str "set",rfl,rfl,cG.of lU,rfl,rfl,false,jq (show("set":Str)≠"note" by decide +kernel),cg ?_⟩
   refine⟨_,rfl,pd,_,_,.str "set",rfl,rfl,cG.of lU,rfl,rfl,true,xN _,fJ ?_⟩
   refine⟨_,rfl,_,rfl,pd,_,_,.int (c:Int),rfl,rfl,cG.of lU,rfl,_,rfl,pd,_,_,.int (b:Int),rfl,rfl,cG.of lU,rfl,_,rfl,pd,_,_,.int am,rfl,rfl,cG.of lU,rfl,sd,S,g,c,b,am,rfl,B1,hc,hb,by omega,fun H2 F2 B2=>?_⟩
   have hd2:=B1.tk F2 _ _ lU
   refine⟨_,rfl,pd,_,_,.int am,rfl,rfl,cG.of hd2,rfl,?_⟩
   exact RM _ g H2 F2 B2 (fun x hx=> .inl hx) (dM.mpr rfl)
  |fI wh=>
   refine⟨_,rfl,pd,_,_,.str "sweep",rfl,rfl,cG.of lU,rfl,rfl,false,jq (show("sweep":Str)≠"bill" by decide +kernel),cg ?_⟩
   refine⟨_,rfl,pd,_,_,.str "sweep",rfl,rfl,cG.of lU,rfl,rfl,false,jq (show("sweep":Str)≠"pay" by decide +kernel),cg ?_⟩
   refine⟨_,rfl,pd,_,_,.str "sweep",rfl,rfl,cG.of lU,rfl,rfl,false,jq (show("sweep":Str)≠"note" by decide +kernel),cg ?_⟩
   refine⟨_,rfl,pd,_,_,.str "sweep",rfl,rfl,cG.of lU,rfl,rfl,false,jq (show("sweep":Str)≠"set" by decide +kernel),cg ?_⟩
   refine⟨_,rfl,_,rfl,pd,_,_,.str wh,rfl,rfl,cG.of lU,rfl,sd,S,g,wh,rfl,B1,qz,Ll,GV,fun D ms H2 F2 B2 nD hD hT=>?_⟩
   exact RM _ g H2 F2 B2 (fun x hx=> .inl hx) (iZ.mpr ⟨D,ms,rfl,hD,hT.NT⟩)
def bI.word:bI->Str
 | .d9 _ _ _ _=>"bill"
 | .ra _ _ _=>"pay"
 | .note _ _ _=>"note"
 | .set _ _ _=>"set"
 | .fI _=>"sweep"
 | .i6 _=>"undo"
 | .ask o _ _=>if o then "owed" else "free"
 | .iM _ _ _=>"ages"
theorem tZ {d:bI}(h:d.tells=true∨ ∃m,d= .i6 m): ∃r,bI.vs d= .str (bI.word d) :: r:=by
 cases d with
 |iM w d l=>rcases h with h|⟨m,h⟩ <;> cases h
 |_=>exact⟨_,rfl⟩
theorem Ek {d:bI}(h:d.tells=true):vQ (.str (bI.word d)) [.str "set",.str "sweep"]=d.isSet:=by
 cases d with
 |d9 _ _ _ _=>show vQ (.str "bill") _ =false; decide +kernel
 |ra _ _ _=>show vQ (.str "pay") _ =false; decide +kernel
 |note _ _ _=>show vQ (.str "note") _ =false; decide +kernel
 |set _ _ _=>show vQ (.str "set") _ =true; decide +kernel
 |fI _=>show vQ (.str "sweep") _ =true; decide +kernel
 |i6 _=>cases h
 |ask _ _ _=>cases h
 |iM _ _ _=>cases h
def gN (H:Hp)(ss:List (Int×bI))(vs:List V):Prop:=Paired (fun(st:Int×bI) v=> ∃p pd,v= .ref p/\H p=some (.tup [.int st.1,.ref pd])/\H pd=some (.tup (bI.vs st.2))/\st.2.tells=true) ss vs
theorem gN.mono {H H':Hp}{ss:List (Int×bI)}{vs:List V}(h:gN H ss vs)(k:cW H H'):gN H' ss vs:=
 Paired.ir h fun _ _ ⟨p,pd,e,q1,q2,t⟩=>⟨p,pd,e,k _ _ q1,k _ _ q2,t⟩
def Bj:Sp:=fun vs H Q _=> ∃(ps:Addr) (ss:List (Int×bI)) (us:List V),vs=[.ref ps]/\H ps=some (.lst us)/\gN H ss us/\ss.length<=59/\
 (cV ss Bk.new=none-> ∀H',aD H H'->Q .eI H')/\(∀S,cV ss Bk.new=some S-> ∀sd f H',aD H H'->dI H' sd S f->(∀b∈f.fp,H b=none)->Q (.ref sd) H')
theorem nE:a0 ["_law_steps","_law_state","_law_number","_law_deed"] ["_law_steps"] (az (top 60)):=⟨rfl,rfl,rfl,by decide +kernel,rfl,by decide +kernel,by decide +kernel⟩
theorem wC (T:Txt K mg):fb P w K mg base "_law_worked" 4 ["_law_steps"] Bj:=by
 have l7:fb P w K mg base "_law_begun" 1 [] Ec:=qL T
 have l8:fb P w K mg base "_law_enter" 3 ["_law_state","_law_deed"] zi:=qO T
 refine T.wg.kN (k:=3) nE (fun _ _ _ _ _ _ us hl=>match us,hl with|[_],_=>rfl) (fun vs H Q E h=>?_) (fun f dh A outer s H vs Q E hr h=>?_)
 ·obtain⟨ps,ss,us,rfl,_⟩:=h
  rfl
 ·obtain⟨ps,ss,us,rfl,mh,Lo,hl,kn,ky⟩:=h
  have nd:=nE.nd
  have hlen:=aQ Lo
  refine⟨_,(ai (a9 (i:=1) nd rfl (Or.inl rfl) (HF l7 (hr.mono (by decide)) rfl))
(ai (fe bS rfl (dG (pv 0)) (iW rfl (cw (bD (i:=2) nd rfl (Or.inl rfl)) (cw (bD (i:=3) nd rfl (Or.inl rfl)) gH)))
(au (bX (gg (bq eR (by rfl) T.dB eD (aa (cM l8 (hr.mono (by decide)) rfl (aa (pv 1) (aa (pv 3) aj))) (aa (gG (v:= .ty "str") (by rfl) T.D0 boot_str rfl) aj))))
(au (bf B8))
bw)))
(au (bf (pv 1))))),?_⟩
  refine⟨rfl,fun sd f0 H1 s1 B1 K3 nf=>?_⟩
  refine⟨_,rfl,ps,rfl,⟨_,bP.of (s1 _ _ mh)⟩,?_⟩
  refine gj (K:=K) (a:=ps) (xs:=us) (fun i σ H2=> ∃(S:Bk) (f:fN) (x2 x3:Option V),σ=[some (.ref ps),some (.ref sd),x2,x3]/\aD H H2/\dI H2 sd S f/\(∀b∈f.fp,H b=none)/\WF S i/\cV ss Bk.new=cV (ss.drop i) S)
   ⟨Bk.new,f0,none,none,rfl,s1,B1,nf,WF.new,rfl⟩ (fun i σ H2 _ ⟨_,_,_,_,_,s2,_⟩=>bP.of (s2 _ _ mh)) ?_ ?_
  ·rintro i x σ H2 hx ⟨S,f2,x2,x3,rfl,s2,B2,Tv,wf,hw⟩
   have hi:i < ss.length:=by have:=(av.mp hx).1; omega
   obtain⟨v,hv,p,pd,rfl,hp,GW,ht⟩:=bR Lo (af hi)
   rw[hx] at hv
   obtain rfl:x= .ref p:=aF hv
   have hdr:=MI hi
   rw[hdr] at hw
   generalize ss[i]=st at hp GW ht hw
   obtain⟨n,d⟩:=st
   have sZ:=s2 _ _ hp
   have N6:=s2 _ _ GW
   refine⟨p,_,rfl,cG.of sZ,rfl,_,_,rfl,_,_,rfl,rfl,?_⟩
   refine⟨_,rfl,_,rfl,sd,pd,S,f2,d,rfl,B2,N6,ht,by have:=wf.lc; omega,by have:=wf.lb; omega,by have:=wf.lm; rw[eK]; omega,fun hb H3 s3=>?_,fun hb v f3 H3 F3 B3 fi r=>?_⟩
   ·refine⟨_,_,_,true,rfl,.str _,xr (.str (S.bar d)),_,rfl,fJ ?_⟩
    refine kn ?_ _ (s2.trans s3)
    rw[hw]
    show(if S.bar d="" then _ else none)=none
    rw[aV hb]
   ·have hS:S7 (S.GS d).dt=false:=by cases d <;> first|rfl|cases ht
    refine⟨_,_,_,false,rfl,r.ty,(xr _).trans (c8 some hS),_,rfl,cg ?_⟩
    refine⟨S.enter d,f3,_,_,rfl,F3.same s2 Tv,B3,fun b DF=>?_,wf.enter (by omega) hb,?_⟩
    ·rcases fi b DF with z|z
     ·exact Tv b z
     ·exact s2.free z
    ·rw[hw]
     show(if S.bar d="" then _ else none)=_
     rw[bg hb]
  ·rintro σ H2 ⟨S,f2,x2,x3,rfl,s2,B2,Tv,wf,hw⟩
   rw[← hlen,List.drop_length] at hw
   exact⟨_,rfl,ky S hw sd f2 H2 s2 B2 Tv⟩
def Lp:Sp:=fun vs H Q _=> ∃(pd:Addr) (wd:Str) (r:List V),vs=[.ref pd]/\H pd=some (.tup (.str wd :: r))/\ ∀H',aD H H'->Q (.bl (vQ (.str wd) [.str "bill",.str "pay",.str "note",.str "set",.str "sweep"])) H'
theorem wD:a0 ["_law_deed"] ["_law_deed"] (az (top 61)):=⟨rfl,rfl,rfl,by decide +kernel,rfl,by decide +kernel,by decide +kernel⟩
theorem zk (T:Txt K mg):fb P w K mg base "_law_tells" 1 ["_law_deed"] Lp:=by
 refine T.yM.kN (k:=0) wD (fun _ _ _ _ _ _ us hl=>match us,hl with|[_],_=>rfl) (fun vs H Q E h=>?_) (fun f dh A outer s H vs Q E hr h=>?_)
 ·obtain⟨pd,wd,r,rfl,_⟩:=h
  rfl
 ·obtain⟨pd,wd,r,rfl,hd,k⟩:=h
  refine⟨_,(au (bf (fv nS (aJ bb (pv 0) ah (fun _ _=>rfl)) (cf (aa aW (aa aW (aa aW (aa aW (aa aW aj)))))) (by rfl)))),?_⟩
  refine⟨_,rfl,pd,_,_,.str wd,rfl,rfl,cG.of hd,cO (j:=0) rfl,(by show 5<=sizeLine; decide),fun p9 n9=>⟨p9,_,rfl,.inl (bP.of ag),rfl,rfl,?_⟩⟩
  exact k _ (aD.new n9)
def Mp (Q:VK)(H:Hp)(ps:Addr)(f:fN)(r:xy×jl):Prop:=
 ∀(t:Addr) (v:V) (tI zl:Addr) (f':fN) (zo:List V) (H':Hp),H' t=some (.tup [v,.ref tI,.ref zl])->Rp H' r.1.dt v->H' tI=some (.lst zo)->gN H' r.2.steps zo->dI H' zl r.2.bk f'->Frame f.fp H H'->N5 H f f'->tI∉f'.fp->(∀a o,a∉f.fp->H a=some o->tI=a->tI=ps)->Q (.ref t) H'
def N7:Sp:=fun vs H Q _=> ∃(ps sd pd:Addr) (n:Nat) (T:jl) (us:List V) (f:fN) (d:bI),vs=[.ref ps,.ref sd,.int n,.ref pd]/\H ps=some (.lst us)/\gN H T.steps us/\dI H sd T.bk f/\ps∉f.fp/\H pd=some (.tup (bI.vs d))/\(d.tells=true∨ ∃m,d= .i6 m)/\Good T n/\n<=59/\Mp Q H ps f (dY T n d)
theorem pM {T:jl}{n:Int}{d:bI}(h:d.tells=true):dY T n d=if T.bk.bar d="" then(T.bk.GS d,(⟨T.steps ++ [(n,d)],T.bk.enter d⟩:jl)) else(.txt (T.bk.bar d),T):=by
 cases d <;> first|rfl|cases h
theorem qP:a0 ["_law_steps","_law_state","_law_number","_law_deed","_law_rest","_law_step","_law_later","_law_answer"] ["_law_steps","_law_state","_law_number","_law_deed"] (az (top 62)):=⟨rfl,rfl,rfl,by decide +kernel,rfl,by decide +kernel,by decide +kernel⟩
theorem fB {α:Type}(p:α->Bool){l:List α}{i:Nat}{x:α}(h:l[i]? =some x):(l.take (i + 1)).filter p=(l.take i).filter p ++ (if p x=true then[x] else[]):=by
 rw[EO,h,ko]
 congr 1
 show[x].filter p=_
 by_cases c:p x=true
 ·rw[bg c,cI c]; rfl
 ·rw[aV c,gT c]; rfl
theorem Bl (T:Txt K mg):fb P w K mg base "_law_done" 5 ["_law_steps","_law_state","_law_number","_law_deed"] N7:=by
 have wF:fb P w K mg base "_law_worked" 4 ["_law_steps"] Bj:=wC T
 have l8:fb P w K mg base "_law_enter" 3 ["_law_state","_law_deed"] zi:=qO T
 refine T.AI.kN (k:=4) qP (fun _ _ _ _ _ _ us hl=>match us,hl with|[_,_,_,_],_=>rfl) (fun vs H Q E h=>?_) (fun f dh A outer s H vs Q E hr h=>?_)
 ·obtain⟨ps,sd,pd,n,T,us,f,d,rfl,_⟩:=h
  rfl
 ·obtain⟨ps,sd,pd,n,T0,us,g,d,rfl,mh,Lo,hB,Mq,hd,hk,good,hn,k⟩:=h
  have nd:=qP.nd
  have hlen:=aQ Lo
  have hT:=good.len
  obtain⟨rr,X4⟩:=tZ hk
  have Tw:H pd=some (.tup (.str (bI.word d) :: rr)):=X4▸hd
  refine⟨_,(ai (bX (aZ cX (aJ bb (pv 3) ah (fun _ _=>rfl)) aW (ba _))
(ai (a9 (i:=4) nd rfl (Or.inl rfl) (cf aj))
(ai (fe bS rfl (dG (pv 0)) (bD (i:=5) nd rfl (Or.inl rfl))
(au (bX (PW.pt (pw_or (aZ qf (aJ bb (pv 5) ah (fun _ _=>rfl)) (aJ bb (pv 3) ah (fun _ _=>rfl)) (ba _)) (pw_or1 (aZ yl (aJ bb (aJ bb (pv 5) ah (fun _ _=>rfl)) ah (fun _ _=>rfl)) (cf (aa aW (aa aW aj))) (by rfl)))))
(au (bU (fz aM aG aI b0 (pv 4) (aa (pv 5) aj))))
bw)))
(ai (bX (aZ cX (bq bp (by rfl) T.en bo (aa (pv 4) aj)) (bq bp (by rfl) T.en bo (aa (pv 0) aj)) (ba _))
(au (bf (dD (aa aW (aa (pv 0) (aa (pv 1) aj))))))
bw)
(ai (a9 (i:=6) nd rfl (Or.inl rfl) (cM wF (hr.mono (by decide)) rfl (aa (pv 4) aj)))
(ai (bX (ye (G7 (pv 6)))
(au (bf (dD (aa aW (aa (pv 0) (aa (pv 1) aj))))))
bw)
(au (bf (dD (aa aW (aa (pv 4) (aa (pv 6) aj)))))))))))
bw)
(ai (a9 (i:=7) nd rfl (Or.inl rfl) (cM l8 (hr.mono (by decide)) rfl (aa (pv 1) (aa (pv 3) aj))))
(ai (bX (gg (bq eR (by rfl) T.dB eD (aa (pv 7) (aa (gG (v:= .ty "str") (by rfl) T.D0 boot_str rfl) aj))))
(au (bf (dD (aa (pv 7) (aa (pv 0) (aa (pv 1) aj))))))
bw)
(au (bf (dD (aa (pv 7) (aa (aX pj (pv 0) (cf (aa (dD (aa (pv 2) (aa (pv 3) aj))) aj))) (aa (pv 1) aj))))))))),?_⟩
  refine⟨_,rfl,pd,_,_,.str (bI.word d),rfl,rfl,cG.of Tw,cO (j:=0) rfl,rfl,?_⟩
  clear Tw X4 rr
  by_cases ht:d.tells=true
  ·
   have hw:bI.word d≠"undo":=by
    cases d with
    |i6 m=>cases ht
    |ask _ _ _=>cases ht
    |iM _ _ _=>cases ht
    |d9 _ _ _ _=>show("bill":Str)≠"undo"; decide +kernel
    |ra _ _ _=>show("pay":Str)≠"undo"; decide +kernel
    |note _ _ _=>show("note":Str)≠"undo"; decide +kernel
    |set _ _ _=>show("set":Str)≠"undo"; decide +kernel
    |fI _=>show("sweep":Str)≠"undo"; decide +kernel
   refine⟨false,jq hw,cg ?_⟩
   have wf:=good.wf (by omega)
   rw[pM ht] at k
   refine⟨_,rfl,_,rfl,sd,pd,T0.bk,g,d,rfl,hB,hd,ht,by have:=wf.lc; omega,by have:=wf.lb; omega,by have:=wf.lm; rw[eK]; omega,fun hb H3 s3=>?_,fun hb v f3 H3 F3 B3 fi r=>?_⟩
   ·rw[aV hb] at k
    refine⟨_,rfl,_,_,_,true,rfl,.str _,xr (.str (T0.bk.bar d)),_,rfl,fJ ?_⟩
    refine⟨_,rfl,_,rfl,_,rfl,(by show 3<=sizeLine; decide),fun t nt=>?_⟩
    have s4:=s3.trans (aD.new (o:= .tup [V.str (T0.bk.bar d),.ref ps,.ref sd]) nt)
    exact k t _ ps sd g us _ ag (gQ.mpr rfl) (s4 _ _ mh) (Lo.mono s4.tk) (hB.same s4) s4.frame (fun x hx=> .inl hx) Mq (fun _ _ _ _ _=>rfl)
   ·rw[bg hb] at k
    have hS:S7 (T0.bk.GS d).dt=false:=by cases d <;> first|rfl|cases ht
    refine⟨_,rfl,_,_,_,false,rfl,r.ty,(xr _).trans (c8 some hS),_,rfl,cg ?_⟩
    have X5:=hB.tk F3
    have IQ:=F3 _ _ Mq mh
    have VO:=Lo.mono X5
    have GX:=X5 _ _ hd
    refine⟨_,rfl,_,rfl,_,rfl,_,rfl,(by show 2<=sizeLine; decide),fun p1 n1=>⟨(by show 1<=sizeLine; decide),fun p2 n2=>?_⟩⟩
    have t1:=aD.new (o:= .tup [V.int (n:Int),.ref pd]) n1
    have t2:=aD.new (o:= .lst [V.ref p1]) n2
    have g1:upd (upd H3 p1 (.tup [V.int (n:Int),.ref pd])) p2 (.lst [V.ref p1]) p1=some (.tup [V.int (n:Int),.ref pd]):=t2 _ _ ag
    have g2:upd (upd H3 p1 (.tup [V.int (n:Int),.ref pd])) p2 (.lst [V.ref p1]) p2=some (.lst [V.ref p1]):=ag
    have sO:=t1.trans t2
    refine⟨ps,p2,_,_,rfl,rfl,sO _ _ IQ,g2,?_,fun p4 n4=>?_⟩
    ·refine dU (bB ?_)
     show us.length + 1<=1000
     omega
    generalize upd (upd H3 p1 (.tup [V.int (n:Int),.ref pd])) p2 (.lst [V.ref p1])=H4 at sO g1 g2 n4
    have t4:=aD.new (o:= .lst (us ++ [V.ref p1])) n4
    refine⟨_,rfl,(by show 3<=sizeLine; decide),fun t nt=>?_⟩
    have t5:=aD.new (o:= .tup [v,V.ref p4,.ref sd]) nt
    have RN:=(sO.trans t4).trans t5
    have B5:=B3.same RN
    refine k t v p4 sd f3 (us ++ [.ref p1]) _ ag (Rp.mono RN _ r) (t5 _ _ ag) ?_ B5 (F3.dE RN) fi (B3.off ?_) (fun a o ha e q=>absurd q.symm (aN (sO _ _ (F3 _ _ ha e)) n4))
    ·exact cQ (VO.mono RN.tk) ⟨p1,pd,rfl,(t4.trans t5) _ _ g1,RN _ _ GX,ht⟩
    ·exact sO.free n4
  ·
   obtain⟨m,rfl⟩: ∃m,d= .i6 m:=hk.resolve_left ht
   refine⟨true,xN _,fJ ?_⟩
   refine⟨bF _,fun pr nr=>?_⟩
   have s1:aD H (upd H pr (.lst [])):=aD.new nr
   refine⟨_,rfl,ps,rfl,⟨_,bP.of (s1 _ _ mh)⟩,?_⟩
   refine gj (K:=K) (a:=ps) (xs:=us) (fun i σ H2=> ∃(rs:List V) (x5:Option V),σ=[some (.ref ps),some (.ref sd),some (.int (n:Int)),some (.ref pd),some (.ref pr),x5,none,none]/\aD H H2/\H2 pr=some (.lst rs)/\gN H2 ((T0.steps.take i).filter (cv m)) rs)
    ⟨[],none,rfl,s1,ag,.nil⟩ (fun i σ H2 _ ⟨_,_,_,s2,_⟩=>bP.of (s2 _ _ mh)) ?_ ?_
   ·rintro i x σ H2 hx ⟨rs,x5,rfl,s2,JP,JQ⟩
    have hi:i < T0.steps.length:=by have:=(av.mp hx).1; omega
    have oA:=af hi
    obtain⟨v,hv,p,pe,rfl,hp,X6,Tx⟩:=bR Lo oA
    rw[hx] at hv
    obtain rfl:x= .ref p:=aF hv
    have kX:=fB (cv m) oA
    generalize T0.steps[i]=st at hp X6 Tx kX
    obtain⟨n0,e⟩:=st
    have sZ:=s2 _ _ hp
    have N8:=s2 _ _ X6
    have hd2:=s2 _ _ hd
    have As:rs.length<=100:=by
     have:=aQ JQ
     have:=a7 (cv m) (T0.steps.take i)
     rw[bC] at this
     omega
    have yes:cv m (n0,e)=true-> ∀H3,aD H2 H3->(∃(l:Addr) (xs:List V) (y:V),V.ref pr= .ref l/\[V.ref p]=[y]/\H3 l=some (.lst xs)/\xs.length < sizeLine/\ ∃(rs:List V) (x5:Option V),[some (V.ref ps),some (.ref sd),some (.int (n:Int)),some (.ref pd),some (.ref pr),some (.ref p),none,none]=[some (.ref ps),some (.ref sd),some (.int (n:Int)),some (.ref pd),some (.ref pr),x5,none,none]/\aD H (upd H3 l (.lst (xs ++ [y])))/\upd H3 l (.lst (xs ++ [y])) pr=some (.lst rs)/\gN (upd H3 l (.lst (xs ++ [y]))) ((T0.steps.take (i + 1)).filter (cv m)) rs):=fun z H3 s3=>by
     refine⟨pr,rs,_,rfl,rfl,s3 _ _ JP,bB (by omega),rs ++ [.ref p],_,rfl,(s2.trans s3).dm nr,ag,?_⟩
     rw[kX,bg z]
     have tk:=s3.tk.trans (fT (o:= .lst (rs ++ [.ref p])) (s3 _ _ JP))
     exact cQ (JQ.mono tk) ⟨p,pe,rfl,tk _ _ sZ,tk _ _ N8,Tx⟩
    refine⟨_,rfl,p,_,_,.int n0,rfl,rfl,cG.of sZ,rfl,_,rfl,pd,_,_,.int m,rfl,rfl,cG.of hd2,rfl,rfl,_,rfl,cL (fun z=>fJ ?_) (fun z=>?_)⟩
    ·have z':n0≠m:=fun q=>by rw[q] at z; simp at z
     refine⟨_,rfl,.inl ⟨rfl,_,bP.of JP⟩,_,rfl,yes ?_ H2 (aD.refl _)⟩
     show(!(decide (n0=m) && e.isSet))=true
     rw[bA z']; rfl
    ·have z':n0=m:=by
      by_cases q:n0=m
      ·exact q
      ·exact absurd (by rw[bA (fun w=>q (by injection w))]; rfl) z
     obtain⟨re,hev⟩:=tZ (d:=e) (.inl Tx)
     rw[hev] at N8
     refine⟨_,rfl,p,_,_,.ref pe,rfl,rfl,cG.of sZ,rfl,pe,_,_,.str (bI.word e),rfl,rfl,cG.of N8,cO (j:=0) rfl,(by show 2<=sizeLine; decide),fun p9 n9=>⟨p9,_,rfl,.inl (bP.of ag),rfl,rfl,!e.isSet,c8 V.bl (by rw[bg rfl,Ek Tx]),cL (fun q=>?_) (fun q=>?_)⟩⟩
     ·have t9:=aD.new (o:= .lst [V.str "set",.str "sweep"]) n9
      refine⟨_,rfl,.inl ⟨rfl,_,bP.of (t9 _ _ JP)⟩,_,rfl,yes ?_ _ t9⟩
      show(!(decide (n0=m) && e.isSet))=true
      rw[aE z',Bool.true_and]; exact q
     ·have t9:=aD.new (o:= .lst [V.str "set",.str "sweep"]) n9
      refine⟨rs,_,rfl,s2.trans t9,t9 _ _ JP,?_⟩
      have no: ¬ cv m (n0,e)=true:=by
       show ¬ (!(decide (n0=m) && e.isSet))=true
       rw[aE z',Bool.true_and]; exact q
      rw[kX,aV no,b9]
      exact JQ.mono t9.tk
   ·rintro σ H2 ⟨rs,x5,rfl,s2,JP,JQ⟩
    rw[← hlen,bh] at JQ
    have As:=aQ JQ
    have Tz:=a7 (cv m) T0.steps
    have oO:dY T0 n (.i6 m)=if(T0.steps.filter (cv m)).length=T0.steps.length then(.txt "no setting",T0) else
      match cV (T0.steps.filter (cv m)) Bk.new with
      |none=>(.txt "needed",T0)
      |some S=>(.txt "undone",⟨T0.steps.filter (cv m),S⟩):=rfl
    have JR:=hB.same s2
    refine⟨_,rfl,pr,_,rfl,.inl (bP.of JP),_,rfl,ps,_,rfl,.inl (bP.of (s2 _ _ mh)),rfl,_,rfl,cL (fun z=>?_) (fun z=>?_)⟩
    ·have z':(T0.steps.filter (cv m)).length=T0.steps.length:=by
      have:=aS z
      injection this with this
      omega
     rw[oO,bg z'] at k
     refine⟨_,rfl,_,rfl,(by show 3<=sizeLine; decide),fun t nt=>?_⟩
     have s4:=s2.trans (aD.new (o:= .tup [V.str "no setting",.ref ps,.ref sd]) nt)
     exact k t _ ps sd g us _ ag (gQ.mpr rfl) (s4 _ _ mh) (Lo.mono s4.tk) (hB.same s4) s4.frame (fun x hx=> .inl hx) Mq (fun _ _ _ _ _=>rfl)
    have z': ¬ (T0.steps.filter (cv m)).length=T0.steps.length:=fun q=>z (aE (by congr 1; omega))
    rw[oO,aV z'] at k
    refine⟨_,rfl,pr,T0.steps.filter (cv m),rs,rfl,JP,JQ,by omega,fun hw H3 s3=>?_,fun S hw X7 f3 H3 s3 B3 nf=>?_⟩
    ·rw[hw] at k
     refine⟨_,rfl,true,rfl,fJ ⟨_,rfl,_,rfl,(by show 3<=sizeLine; decide),fun t nt=>?_⟩⟩
     have s4:=(s2.trans s3).trans (aD.new (o:= .tup [V.str "needed",.ref ps,.ref sd]) nt)
     exact k t _ ps sd g us _ ag (gQ.mpr rfl) (s4 _ _ mh) (Lo.mono s4.tk) (hB.same s4) s4.frame (fun x hx=> .inl hx) Mq (fun _ _ _ _ _=>rfl)
    ·rw[hw] at k
     refine⟨_,rfl,false,rfl,cg ⟨_,rfl,_,rfl,(by show 3<=sizeLine; decide),fun t nt=>?_⟩⟩
     have t4:=aD.new (o:= .tup [V.str "undone",.ref pr,.ref X7]) nt
     have s4:=(s2.trans s3).trans t4
     refine k t _ pr X7 f3 rs _ ag (gQ.mpr rfl) ((s3.trans t4) _ _ JP) (JQ.mono (s3.trans t4).tk) (B3.same t4) s4.frame (fun x hx=> .inr (s2.free (nf x hx))) (fun q=>?_) (fun a o ha e q=>absurd q.symm (aN e nr))
     have:=nf pr q
     rw[JP] at this
     cases this
end
end eQ
namespace L2
open PySem PySem.Spec PyProof.Rows
theorem zp {X:Cx}{scope:Scope}{x y:Str}{c d:Addr}{j k:Nat}(Fn:closureFor scope X.env=pure [(x,c),(y,d)])(mf: ∀z∈scope.names,z.2≠ .cell)(mJ:scope.kind= .function)(uz: ∀x∈scope.names,x.2= .local->scope.names.lookup x.1=some .local)
  (hx:X.env.cells.lookup x=some c) (hy:X.env.cells.lookup y=some d) (QD:List (Str×NameKind)) (QE:(relabel scope X.env).names=QD) (As: ∀z∈QD,(z.2= .cell∨z.2= .free)->z.1=x∨z.1=y)
  (hN:X.N[j]? =some x) (hN2:X.N[k]? =some y) (hk:X.env.kindOf x=some .cell∨X.env.kindOf x=some .free) (JJ:X.env.kindOf y=some .cell∨X.env.kindOf y=some .free)
  (L5:(relabel scope X.env).names.lookup x=some .cell∨(relabel scope X.env).names.lookup x=some .free) (VP:(relabel scope X.env).names.lookup y=some .cell∨(relabel scope X.env).names.lookup y=some .free):rH X scope [(x,c),(y,d)] [x,y] [j,k]:=by
 refine⟨Fn,mf,mJ,uz,fun z c' h=>?_,fun z h=>?_,.cons ⟨hN,hk,L5⟩ (.cons ⟨hN2,JJ,VP⟩ .nil)⟩
 ·rcases aw.mp (cB h) with e|e
  ·cases e; exact hx
  ·rcases aw.mp e with e|e
   ·cases e; exact hy
   ·cases e
 ·have e:z=x∨z=y:=by
   rcases h with h|h
   ·rw[QE] at h
    exact As _ (cB h) (.inl rfl)
   ·rw[QE] at h
    exact As _ (cB h) (.inr rfl)
  by_cases q:z=x
  ·exact⟨c,by rw[q]; simp[List.lookup]⟩
  ·have q2:z=y:=e.resolve_left q
   have q3:(z == x)=false:=by simpa using q
   exact⟨d,by rw[List.lookup,q3,q2]; simp[List.lookup]⟩
end L2
namespace eQ
open PySem L2 PyProof.Rows KI
seal L2.pV L2.PS L2.PE L2.PT L2.PW L2.PA L2.PC L2.PG L2.Kc L2.PI L2.L4 L2.Ku L2.PO L2.oF L2.MW L2.je L2.JI L2.O5
section
variable {P:Program}{w:World}{K:PySem.W.Frag}{mg:Str->Option Value}{base:Heap}
def ve (A:ej):Sp:=fun vs H Q _=> ∃(pw p:Addr) (S:Bk) (f:eO) (t:Nat×Nat×Int) (day:Int),vs=[.ref pw,.ref p,.int day]/\dP A H pw S f/\H p=some (.tup [.int t.1,.int t.2.1,.int t.2.2])/\t.1 < S.credits.length/\t.2.1 < S.aH.length/\Q (.bl (decide (S.fX t<=day))) H
theorem zq:a0 ["work","setting","day"] ["work","setting","day"] (az (top 40)):=⟨rfl,rfl,rfl,by decide +kernel,rfl,by decide +kernel,by decide +kernel⟩
theorem Bm (T:Txt K mg){A:ej}(G:jy K mg A):fb P w K mg base "counts_at" 2 ["work","setting","day"] (ve A):=by
 have wG:fb P w K mg base "counts_from" 1 ["credit","bill"] (ID A):=wo T G
 refine T.AE.kN (k:=1) zq (fun _ _ _ _ _ _ us hl=>match us,hl with|[_,_,_],_=>rfl) (fun vs H Q E h=>?_) (fun f dh A' outer s H vs Q E hr h=>?_)
 ·obtain⟨pw,p,S,g,t,day,rfl,_⟩:=h
  rfl
 ·obtain⟨pw,p,S,g,t,day,rfl,hW,hp,hc,hb,k⟩:=h
  obtain⟨dw,hw⟩:=hW.obj
  obtain⟨pc,c1,c2⟩:=hW.rc.get hc
  obtain⟨pb,b1,b2⟩:=hW.rb.get hb
  refine⟨_,(au (bf (fv sh (cM wG (hr.mono (by decide)) rfl (aa (aJ a6 (cu (pv 0) rfl) (aJ bb (pv 1) ah (fun _ _=>rfl)) (fun _ _=>rfl)) (aa (aJ a6 (cu (pv 0) rfl) (aJ bb (pv 1) ah (fun _ _=>rfl)) (fun _ _=>rfl)) aj))) (pv 2) (ba _)))),?_⟩
  refine⟨_,rfl,pw,_,dw,_,_,rfl,hw,G.bO,G.cU,hX g,_,rfl,p,_,_,.int t.1,rfl,rfl,cG.of hp,rfl,g.pc,_,_,.ref pc,rfl,rfl,bP.of hW.hc,cO (by rw[aB,c1]; rfl),?_⟩
  refine⟨_,rfl,pw,_,dw,_,_,rfl,hw,G.bO,G.ee,ji g,_,rfl,p,_,_,.int t.2.1,rfl,rfl,cG.of hp,rfl,g.pb,_,_,.ref pb,rfl,rfl,bP.of hW.hb,cO (by rw[aB,b1]; rfl),?_⟩
  exact⟨pc,pb,t.1,t.2.1,S.cr t.1,S.bl t.2.1,rfl,c2,b2,_,rfl,_,_,rfl,rfl,k⟩
def vf (A:ej):Sp:=fun vs H Q _=> ∃(pw:Addr) (S:Bk) (f:eO) (n:Nat) (day:Int),vs=[.ref pw,.int day]/\dP A H pw S f/\WF S n/\S.made.length<=1000000/\
 ∀D ms H',aD H H'->H D=none->H' D=some (.lst ms)->il H' (S.made.filter fun t=>decide (S.fX t<=day)) ms->Q (.ref D) H'
theorem vg:a0 ["work","day"] ["work","day"] (az (top 39)):=⟨rfl,rfl,rfl,by decide +kernel,rfl,by decide +kernel,by decide +kernel⟩
theorem wH (T:Txt K mg){A:ej}(G:jy K mg A):fb P w K mg base "counting_at" 3 ["work","day"] (vf A):=by
 have Bn:fb P w K mg base "counts_at" 2 ["work","setting","day"] (ve A):=Bm T G
 refine T.v8.kN (k:=2) vg (fun _ _ _ _ _ _ us hl=>match us,hl with|[_,_],_=>rfl) (fun vs H Q E h=>?_) (fun f dh A' outer s H vs Q E hr h=>?_)
 ·obtain⟨pw,S,g,n,day,rfl,_⟩:=h
  rfl
 ·obtain⟨pw,S,g,n,day,rfl,hW,wf,hz,k⟩:=h
  obtain⟨dw,hw⟩:=hW.obj
  obtain⟨ms,m1,m2⟩:=hW.hm
  have hlen:=aQ m2
  refine⟨_,(au (bf (gU (tn:=["setting"]) (cn:=["work","day"]) (cj:=[0,1]) rfl (zp (by rfl) (by decide +kernel) rfl (by decide +kernel) (by rfl) (by rfl) [(".0",.local),("setting",.local),("counts_at",.globalImplicit),("day",.cell),("work",.cell)] (by rfl) (by decide +kernel) rfl rfl (Or.inl rfl) (Or.inl rfl) (Or.inl rfl) (Or.inl rfl)) (dG (cu (pv 0) rfl)) (fun _ _ _ _=>(bD (i:=0) (show(["setting","work","day"]:List Str).Nodup by decide +kernel) rfl (Or.inl rfl))) (fun _ _ _ _=>(mO (gg (cM Bn (hr.mono (by decide)) rfl (aa (pv 1) (aa (pv 0) (aa (pv 2) aj))))))) (fun _ _ _ _=>(pv 0))))),?_⟩
  refine⟨_,rfl,pw,_,dw,_,_,rfl,hw,G.bO,G.l6,D5 g,g.pm,rfl,⟨_,bP.of m1⟩,?_⟩
  refine eN (K:=K) (a:=g.pm) (xs:=ms) (fun D i σ H6=>H D=none/\ ∃v rs,σ=[v,some (.ref pw),some (.int day)]/\aD H H6/\H6 D=some (.lst rs)/\il H6 ((S.made.take i).filter fun t=>decide (S.fX t<=day)) rs) (fun D hD=>⟨hD,none,[],rfl,aD.new hD,ag,.nil⟩) (fun D i σ H6 _ ⟨_,_,_,_,t3,_⟩=>bP.of (t3 _ _ m1)) ?_ ?_
  ·rintro D i x σ H6 hx ⟨hD,v,rs,rfl,t3,gA,hT⟩
   have hi:i < S.made.length:=by have:=(av.mp hx).1; omega
   have oA:=af hi
   obtain⟨v',hv,p,rfl,hp⟩:=bR m2 oA
   rw[hx] at hv
   obtain rfl:x= .ref p:=aF hv
   have hm:=wf.m _ (bQ hi)
   have kX:=fB (fun t=>decide (S.fX t<=day)) oA
   generalize S.made[i]=t at hp hm kX
   have JQ:rs.length<=1000000:=by
    have:=aQ hT
    have:=a7 (fun t=>decide (S.fX t<=day)) (S.made.take i)
    rw[bC] at this
    omega
   refine⟨_,rfl,_,rfl,_,rfl,pw,p,S,g,t,day,rfl,hW.same t3,t3 _ _ hp,hm.1,hm.2,_,rfl,cL (fun z=>?_) (fun z=>?_)⟩
   ·rw[bg z] at kX
    refine⟨_,rfl,_,gA,ja JQ,hD,_,rs ++ [.ref p],rfl,t3.dm hD,ag,?_⟩
    rw[kX]
    have tk:=fT (o:= .lst (rs ++ [.ref p])) gA
    exact cQ (hT.mono tk) ⟨p,rfl,tk _ _ (t3 _ _ hp)⟩
   ·rw[aV z,b9] at kX
    refine⟨hD,_,rs,rfl,t3,gA,?_⟩
    rw[kX]
    exact hT
  ·rintro D σ H6 hD ⟨_,v,rs,rfl,t3,gA,hT⟩
   rw[← hlen,bh] at hT
   exact k D rs H6 t3 hD gA hT
def iR (H:Hp)(l:List (Nat×Int))(vs:List V):Prop:=Paired (fun(t:Nat×Int) v=> ∃p,v= .ref p/\H p=some (.tup [.int t.1,.int t.2])) l vs
theorem iR.mono {H H':Hp}{l:List (Nat×Int)}{vs:List V}(h:iR H l vs)(k:cW H H'):iR H' l vs:=Paired.ir h fun _ _ ⟨p,e,q⟩=>⟨p,e,k _ _ q⟩
theorem iR.NT {H:Hp}: ∀{l:List (Nat×Int)} {vs:List V},iR H l vs->g8 H (l.map fun t=> .tup [.int t.1,.int t.2]) vs
 |_,_,.nil=>dA.mpr rfl
 |_,_,.cons ⟨p,e,q⟩ t=>by
  subst e
  exact bW.mpr ⟨_,_,rfl,fM q (bW.mpr ⟨_,_,rfl,dM.mpr rfl,bW.mpr ⟨_,_,rfl,dM.mpr rfl,dA.mpr rfl⟩⟩),iR.NT t⟩
section
variable (S:Bk)(aU:Bool)(aL:Str)(day:Int)
def pD (k:Nat):Bool:=decide (((S.rows aU).getD k default).aL=aL) && (decide (((S.rows aU).getD k default).a<=day) && decide (0 < S.rest aU k day))
def kD (i:Nat):List (Int×Nat):=((List.range i).filter (pD S aU aL day)).map fun k=>(keyOf aU ((S.rows aU).getD k default),k)
def gD (x:Int×Nat):List Int:=[x.1,(x.2:Int),S.rest aU x.2 day]
end
section
variable {S:Bk}{aU:Bool}{aL:Str}{day:Int}{i:Nat}
theorem El:kD S aU aL day (i + 1)=kD S aU aL day i ++ (if pD S aU aL day i=true then[(keyOf aU ((S.rows aU).getD i default),i)] else[]):=by
 unfold kD
 rw[oo,ko,aR]
 congr 1
 by_cases c:pD S aU aL day i=true
 ·rw[bg c,cI c]; rfl
 ·rw[aV c,gT c]; rfl
theorem RO: ∀x∈kD S aU aL day i,x.2 < i:=by
 intro x hx
 obtain⟨k,hk,rfl⟩:=bN.mp hx
 exact dC.mp (eX.mp hk).1
theorem RP:((kD S aU aL day i).map (·.2)).Nodup:=by
 unfold kD
 rw[eZ]
 have e:((fun x:Int×Nat=>x.2) ∘ fun k=>(keyOf aU ((S.rows aU).getD k default),k))=id:=rfl
 rw[e,zY]
 exact mv.filter _
theorem CY:(kD S aU aL day i).length<=i:=by
 unfold kD
 rw[ae]
 exact a8 (a7 _ _) (by rw[dF]; exact aC _)
theorem Bo:S.gW aU aL day=(eE (kD S aU aL day (S.rows aU).length)).map fun x=>(x.2,S.rest aU x.2 day):=by
 have e:kD S aU aL day (S.rows aU).length=(gu (S.rows aU) aL (keyOf aU)).filter fun x=>decide (((S.rows aU).getD x.2 default).a<=day) && decide (0 < S.rest aU x.2 day):=by
  unfold kD gu
  rw[JX,pU]
  congr 1
  apply rq
  intro k _
  show pD S aU aL day k=_
  unfold pD
  rw[Bool.and_comm]
  rfl
 rw[e,lV]
 unfold Bk.gW inOrder
 rw[← sy (fun x:Int×Nat=>x.2) (fun k=>decide (((S.rows aU).getD k default).a<=day) && decide (0 < S.rest aU k day)),eZ]
 rfl
end
def zr:Sp:=fun vs H Q _=> ∃(sd:Addr) (S:Bk) (f:fN) (n:Nat) (aU:Bool) (aL:Str) (day:Int),vs=[.ref sd,.str aL,.int day,.int (if aU=true then 1 else 0)]/\dI H sd S f/\WF S n/\n<=60/\
 ∀D ms H',aD H H'->H D=none->H' D=some (.lst ms)->iR H' (S.gW aU aL day) ms->Q (.ref D) H'
theorem N9 (aU:Bool)(r:Rw):q0 r.vs (2 + (if aU=true then(1:Int) else 0))=some (.int (sD aU r)):=by cases aU <;> rfl
theorem Oa (aU:Bool)(r:Rw):q0 r.vs (1 + (if aU=true then(1:Int) else 0))=some (.int (keyOf aU r)):=by cases aU <;> rfl
theorem Em (aU:Bool)(t:Nat×Nat×Int):q0 [V.int t.1,.int t.2.1,.int t.2.2] (if aU=true then(1:Int) else 0)=some (.int (spotOf aU t:Int)):=by cases aU <;> rfl
theorem nF:a0 ["_law_state","_law_who","_law_day","_law_spot","_law_rows","_law_keys","_law_k","_law_amount","_law_setting","_law_late"] ["_law_state","_law_who","_law_day","_law_spot"] (az (top 63)):=⟨rfl,rfl,rfl,by decide +kernel,rfl,by decide +kernel,by decide +kernel⟩
theorem oP (T:Txt K mg):fb P w K mg base "_law_at_day" 1 ["_law_state","_law_who","_law_day","_law_spot"] zr:=by
 refine T.wj.kN (k:=0) nF (fun _ _ _ _ _ _ us hl=>match us,hl with|[_,_,_,_],_=>rfl) (fun vs H Q E h=>?_) (fun f dh A outer s H vs Q E hr h=>?_)
 ·obtain⟨sd,S,g,n,aU,aL,day,rfl,_⟩:=h
  rfl
 ·obtain⟨sd,S,g,n,aU,aL,day,rfl,hB,wf,hn,k⟩:=h
  have hu:=jO hr
  have nd:=nF.nd
  refine⟨_,(iA (a9 (i:=4) nd rfl (Or.inl rfl) (cS hu (pv 0) (aJ a6 (cf (aa aW (aa aW aj))) (pv 3) (fun _ _=>rfl)) (fun _ _=>rfl)))
(ai (a9 (i:=5) nd rfl (Or.inl rfl) (cf aj))
(ai (fe bS rfl (iX rfl T.l4 (aa (bq bp (by rfl) T.en bo (aa (pv 4) aj)) aj)) (bD (i:=6) nd rfl (Or.inl rfl))
(ai (a9 (i:=7) nd rfl (Or.inl rfl) (aJ a6 (aJ a6 (pv 4) (pv 6) (fun _ _=>rfl)) (aX dk ah (pv 3)) (fun _ _=>rfl)))
(ai (fe bS rfl (dG (cS hu (pv 0) aW (fun _ _=>rfl))) (bD (i:=8) nd rfl (Or.inl rfl))
(ai (a9 (i:=9) nd rfl (Or.inl rfl) (bq (w9 rfl) (by rfl) T.Mg boot_max (aa (aJ a6 (aJ a6 (cS hu (pv 0) aW (fun _ _=>rfl)) (aJ bb (pv 8) ah (fun _ _=>rfl)) (fun _ _=>rfl)) ah (fun _ _=>rfl)) (aa (aJ a6 (aJ a6 (cS hu (pv 0) aW (fun _ _=>rfl)) (aJ bb (pv 8) ah (fun _ _=>rfl)) (fun _ _=>rfl)) ah (fun _ _=>rfl)) aj))))
(au (bX (PW.pt (pw_and (aZ cX (aJ bb (pv 8) (pv 3) (fun _ _=>rfl)) (pv 6) (ba _)) (pw_and1 (aZ sh (pv 9) (pv 2) (ba _)))))
(au (a9 (i:=7) nd rfl (Or.inl rfl) (aX ff (pv 7) (aJ bb (pv 8) ah (fun _ _=>rfl)))))
bw))))
(au (bX (PW.pt (pw_and (aZ cX (aJ a6 (aJ a6 (pv 4) (pv 6) (fun _ _=>rfl)) ah (fun _ _=>rfl)) (pv 1) (ba _)) (pw_and (aZ sh (aJ a6 (aJ a6 (pv 4) (pv 6) (fun _ _=>rfl)) ah (fun _ _=>rfl)) (pv 2) (ba _)) (pw_and1 (aZ iQ (pv 7) ah (ba _))))))
(au (bU (fz aM aG aI b0 (pv 5) (aa (dD (aa (aJ a6 (aJ a6 (pv 4) (pv 6) (fun _ _=>rfl)) (aX dk ah (pv 3)) (fun _ _=>rfl)) (aa (pv 6) (aa (pv 7) aj)))) aj))))
bw)))))
(au (bf (gU (tn:=["_law_key"]) (cn:=[]) (cj:=[]) rfl (DG (by decide +kernel) (by decide +kernel) rfl (by decide +kernel)) (dG (bq qv (by rfl) T.qA boot_sorted (aa (pv 5) aj))) (fun _ _ _ _=>(bD (i:=0) (show(["_law_key"]:List Str).Nodup by decide +kernel) rfl (Or.inl rfl))) (fun _ _ _ _=>mN) (fun _ _ _ _=>(dD (aa (aJ (nU (K:=K) rfl) (pv 0) ah (fun _ _=>rfl)) (aa (aJ (nU (K:=K) rfl) (pv 0) ah (fun _ _=>rfl)) aj)))))))))),?_⟩
  refine⟨fun σ' H'=> ∃(pR:Addr) (Gh:List Addr),σ'=[some (.ref sd),some (.str aL),some (.int day),some (.int (if aU=true then 1 else 0)),some (.ref pR),none,none,none,none,none]/\aD H H'/\H' pR=some (.lst (Gh.map V.ref))/\fh H' (S.rows aU) Gh,?_,?_⟩
  ·refine⟨_,rfl,(by show 2<=sizeLine; decide),fun p9 n9=>⟨_,rfl,?_⟩⟩
   have t9:=aD.new (o:= .lst [V.str "credits",.str "bills"]) n9
   have B9:=hB.same t9
   cases aU with
   |true=>exact⟨p9,_,_,.str "bills",rfl,rfl,bP.of ag,rfl,sd,_,rfl,B9.gB,g.pb,g.iw,rfl,t9,B9.hb,B9.rb⟩
   |false=>exact⟨p9,_,_,.str "credits",rfl,rfl,bP.of ag,rfl,sd,_,rfl,B9.gC,g.pc,g.cps,rfl,t9,B9.hc,B9.rc⟩
  rintro σ H1 ⟨pR,Gh,rfl,s1,X8,X9⟩
  refine⟨bF _,fun pk nk=>?_⟩
  have Ya:=s1.free nk
  have s1k:aD H (upd H1 pk (.lst [])):=(s1.trans (aD.new nk))
  have hlR:=X9.length
  have As:(S.rows aU).length<=60:=by
   cases aU with
   |true=>exact a8 wf.lb hn
   |false=>exact a8 wf.lc hn
  refine⟨_,rfl,pR,_,rfl,.inl (bP.of (aD.new nk _ _ X8)),((Gh.map V.ref).length:Int),rfl,by omega,by rw[ae]; omega,?_⟩
  rw[dX]
  refine jB (lo:=0) (n:=(Gh.map V.ref).length) (fun i σ H2=> ∃(xs:List V) (x6 x7 x8 x9:Option V),σ=[some (.ref sd),some (.str aL),some (.int day),some (.int (if aU=true then 1 else 0)),some (.ref pR),some (.ref pk),x6,x7,x8,x9]/\aD H1 H2/\H2 pk=some (.lst xs)/\gr H2 ((kD S aU aL day i).map (gD S aU day)) xs)
   ⟨[],none,none,none,none,rfl,aD.new nk,ag,.nil⟩ ?_ ?_
  ·rintro i σ H2 hi ⟨xs,x6,x7,x8,x9,rfl,s2,hx,hT⟩
   rw[jA]
   have vD:i < (S.rows aU).length:=by rw[ae] at hi; omega
   obtain⟨r,ri,Lj⟩:=X9.at vD
   have ar:q0 (Gh.map V.ref) (i:Int)=some (.ref r):=cO (by rw[aB,ri]; rfl)
   have sZ:=s2 _ _ X8
   have xK:=s2 _ _ Lj
   have B2:=hB.same (s1.trans s2)
   obtain⟨ms,m1,m2⟩:=B2.hm
   have N4:xs.length<=i:=by
    have:=aQ hT
    rw[ae] at this
    have:=CY (S:=S) (aU:=aU) (aL:=aL) (day:=day) (i:=i)
    omega
   refine⟨_,rfl,_,rfl,pR,_,_,.ref r,rfl,rfl,bP.of sZ,ar,_,rfl,_,_,rfl,rfl,r,_,_,_,rfl,rfl,bP.of xK,N9 aU _,?_⟩
   refine⟨_,rfl,sd,_,rfl,B2.gM,g.pm,rfl,⟨_,bP.of m1⟩,?_⟩
   refine gj (K:=K) (a:=g.pm) (xs:=ms) (fun j σ H3=> ∃(x8 x9:Option V),σ=[some (.ref sd),some (.str aL),some (.int day),some (.int (if aU=true then 1 else 0)),some (.ref pR),some (.ref pk),some (.int (i:Int)),some (.int (sD aU ((S.rows aU).getD i default) - (((S.made.take j).filter (S.cnt aU i day)).map (·.2.2)).sum)),x8,x9]/\H3=H2)
    ⟨x8,x9,by simp[List.take_zero],rfl⟩ (fun j σ H3 _ ⟨_,_,_,e⟩=>by rw[e]; exact bP.of m1) ?_ ?_
   ·rintro j x σ H3 Yb ⟨x8,x9,rfl,rfl⟩
    have hj:j < S.made.length:=by have:=(av.mp Yb).1; have:=aQ m2; omega
    have RQ:=af hj
    obtain⟨v,hv,p8,rfl,RS⟩:=bR m2 RQ
    rw[Yb] at hv
    obtain rfl:x= .ref p8:=aF hv
    have tJ:=wf.m _ (bQ hj)
    have kX:=fB (S.cnt aU i day) RQ
    generalize S.made[j]=t at RS tJ kX
    obtain⟨qc,_,ac,hqc⟩:=B2.lc tJ.1
    obtain⟨qb,_,ab,hqb⟩:=B2.lb tJ.2
    refine⟨_,rfl,sd,_,rfl,B2.gC,_,rfl,p8,_,_,.int t.1,rfl,rfl,cG.of RS,rfl,g.pc,_,_,.ref qc,rfl,rfl,bP.of B2.hc,ac,qc,_,_,.int (S.cr t.1).a,rfl,rfl,bP.of hqc,rfl,?_⟩
    refine⟨_,rfl,sd,_,rfl,B2.gB,_,rfl,p8,_,_,.int t.2.1,rfl,rfl,cG.of RS,rfl,g.pb,_,_,.ref qb,rfl,rfl,bP.of B2.hb,ab,qb,_,_,.int (S.bl t.2.1).a,rfl,rfl,bP.of hqb,rfl,_,_,rfl,?_⟩
    have no:S.cnt aU i day t=false-> ∃(y8 y9:Option V),[some (V.ref sd),some (.str aL),some (.int day),some (.int (if aU=true then 1 else 0)),some (.ref pR),some (.ref pk),some (.int (i:Int)),some (.int (sD aU ((S.rows aU).getD i default) - (((S.made.take j).filter (S.cnt aU i day)).map (·.2.2)).sum)),some (.ref p8),some (.int (if(S.cr t.1).a < (S.bl t.2.1).a then(S.bl t.2.1).a else(S.cr t.1).a))]=[some (.ref sd),some (.str aL),some (.int day),some (.int (if aU=true then 1 else 0)),some (.ref pR),some (.ref pk),some (.int (i:Int)),some (.int (sD aU ((S.rows aU).getD i default) - (((S.made.take (j + 1)).filter (S.cnt aU i day)).map (·.2.2)).sum)),y8,y9]/\H3=H3:=fun z=>by
     refine⟨some (.ref p8),some (.int (if(S.cr t.1).a < (S.bl t.2.1).a then(S.bl t.2.1).a else(S.cr t.1).a)),?_,rfl⟩
     rw[aV (by rw[z]; exact aY),b9] at kX
     rw[kX]
    refine⟨_,rfl,_,rfl,p8,_,_,_,rfl,rfl,cG.of RS,Em aU t,_,rfl,rfl,_,rfl,cL (fun z1=>?_) (fun z1=>cg (no ?_))⟩
    ·refine⟨_,rfl,_,rfl,_,_,rfl,rfl,_,rfl,cL (fun z2=>?_) (fun z2=>no ?_)⟩
     ·refine⟨_,rfl,_,rfl,p8,_,_,.int t.2.2,rfl,rfl,cG.of RS,rfl,_,_,rfl,rfl,some (.ref p8),some (.int (if(S.cr t.1).a < (S.bl t.2.1).a then(S.bl t.2.1).a else(S.cr t.1).a)),?_,rfl⟩
      have e1:spotOf aU t=i:=by
       have:=aS z1
       injection this with this
       omega
      have e2:S.fX t<=day:=aS z2
      have yes:S.cnt aU i day t=true:=by
       unfold Bk.cnt
       rw[aE e1,aE e2]; rfl
      rw[bg yes] at kX
      rw[kX,aR,List.sum_append]
      show[_,_,_,_,_,_,_,some (V.int (_ - _ - t.2.2)),_,_]=_
      simp only[List.map_cons,List.map_nil,List.sum_cons,List.sum_nil,Int.add_zero,Int.sub_sub]
     ·unfold Bk.cnt
      have e2: ¬ S.fX t<=day:=fun q=>z2 (aE q)
      rw[bA e2,lL]
    ·unfold Bk.cnt
     have e1: ¬ spotOf aU t=i:=fun q=>z1 (aE (by rw[q]))
     rw[bA e1,pZ]
   ·rintro σ H3 ⟨x8,x9,rfl,rfl⟩
    have GV:ms.length=S.made.length:=(aQ m2).symm
    have DZ:sD aU ((S.rows aU).getD i default) - (((S.made.take ms.length).filter (S.cnt aU i day)).map (·.2.2)).sum=S.rest aU i day:=by
     rw[GV,bh]; rfl
    rw[DZ]
    have no:pD S aU aL day i=false-> ∃(ys:List V) (y6 y7 y8 y9:Option V),[some (V.ref sd),some (.str aL),some (.int day),some (.int (if aU=true then 1 else 0)),some (.ref pR),some (.ref pk),some (.int (i:Int)),some (.int (S.rest aU i day)),x8,x9]=[some (.ref sd),some (.str aL),some (.int day),some (.int (if aU=true then 1 else 0)),some (.ref pR),some (.ref pk),y6,y7,y8,y9]/\aD H1 H3/\H3 pk=some (.lst ys)/\gr H3 ((kD S aU aL day (i + 1)).map (gD S aU day)) ys:=fun z=>
     ⟨xs,_,_,_,_,rfl,s2,hx,by rw[El,aV (by rw[z]; exact aY),b9]; exact hT⟩
    generalize Gb:(S.rows aU).getD i default=row at xK
    have Ob:pD S aU aL day i=(decide (row.aL=aL) && (decide (row.a<=day) && decide (0 < S.rest aU i day))):=by unfold pD; rw[Gb]
    refine⟨_,rfl,_,rfl,pR,_,_,.ref r,rfl,rfl,bP.of sZ,ar,r,_,_,.str row.aL,rfl,rfl,bP.of xK,rfl,_,rfl,rfl,_,rfl,cL (fun d1=>?_) (fun d1=>cg (no (by rw[Ob,bA (qN d1)]; rfl)))⟩
    refine⟨_,rfl,_,rfl,pR,_,_,.ref r,rfl,rfl,bP.of sZ,ar,r,_,_,.int row.a,rfl,rfl,bP.of xK,rfl,_,rfl,_,_,rfl,rfl,_,rfl,cL (fun d2=>?_) (fun d2=>cg (no (by rw[Ob,bA (fun q=>d2 (aE q)),pZ,lL])))⟩
    refine⟨_,rfl,_,_,rfl,rfl,_,rfl,cL (fun d3=>?_) (fun d3=>no (by rw[Ob,bA (fun q=>d3 (aE q)),lL,lL]))⟩
    have yes:pD S aU aL day i=true:=by
     rw[Ob,aE (tX d1),aE (aS d2),aE (aS d3)]; rfl
    refine⟨_,rfl,.inl ⟨rfl,_,bP.of hx⟩,_,rfl,_,rfl,pR,_,_,.ref r,rfl,rfl,bP.of sZ,ar,_,rfl,_,_,rfl,rfl,r,_,_,_,rfl,rfl,bP.of xK,Oa aU row,_,rfl,_,rfl,(by show 3<=sizeLine; decide),fun p8 n8=>?_⟩
    have t8:=aD.new (o:= .tup [V.int (keyOf aU row),.int (i:Int),.int (S.rest aU i day)]) n8
    refine⟨pk,xs,_,rfl,rfl,t8 _ _ hx,bB (by omega),xs ++ [.ref p8],_,_,_,_,rfl,(s2.trans t8).dm nk,ag,?_⟩
    rw[El,bg yes,aR,Gb]
    exact gr.snoc (hT.mono (t8.tk.trans (fT (t8 _ _ hx)))) (dN (t8 _ _ hx) _ _ ag)
  ·rintro σ H2 ⟨xs,x6,x7,x8,x9,rfl,s2,hx,hT⟩
   have N4:=aQ hT
   have Tu:=CY (S:=S) (aU:=aU) (aL:=aL) (day:=day) (i:=(Gh.map V.ref).length)
   have Ef:=RO (S:=S) (aU:=aU) (aL:=aL) (day:=day) (i:=(Gh.map V.ref).length)
   have mh:(Gh.map V.ref).length=(S.rows aU).length:=by rw[ae]; omega
   have hle: ∀x∈kD S aU aL day (Gh.map V.ref).length,x.2 < 1000:=fun x hx=>by have:=Ef x hx; omega
   have jU:S.gW aU aL day=(eE (kD S aU aL day (Gh.map V.ref).length)).map fun x=>(x.2,S.rest aU x.2 day):=by rw[mh]; exact Bo
   have hnd:=RP (S:=S) (aU:=aU) (aL:=aL) (day:=day) (i:=(Gh.map V.ref).length)
   generalize kD S aU aL day (Gh.map V.ref).length=ks at hT N4 Tu hle jU hnd
   rw[ae] at N4
   refine⟨_,rfl,pk,xs,_,tw,rfl,bP.of hx,(by omega),hT,(fun t ht=>?_),(fun t ht u hu=>?_),fun D ys us nD JO perm le=>?_⟩
   ·obtain⟨x,_,rfl⟩:=bN.mp ht
    simp[gD]
   ·obtain⟨x,xA,rfl⟩:=bN.mp ht
    obtain⟨y,y4,rfl⟩:=bN.mp hu
    refine qB (u:=[S.rest aU x.2 day]) (v:=[S.rest aU y.2 day]) (hle x xA) (hle y y4) (fun e=>⟨by rw[e],lD hnd xA y4 e⟩) ?_
    rw[HT.lR,bg rfl]; rfl
   ·have Ql:=sF hle hnd (fun x _=>rfl) perm le
    subst Ql
    have tD:=aD.new (o:= .lst ys) nD
    refine⟨D,rfl,⟨_,bP.of ag⟩,?_⟩
    have Eg:=JO.mono tD.tk
    generalize Lk:upd H2 D (.lst ys)=H3 at tD Eg
    have Ph:H3 D=some (.lst ys):=by rw[← Lk]; exact ag
    have s3:=(s1.trans s2).trans tD
    clear Lk JO perm le hT
    have Rz:=aQ Eg
    refine eN (K:=K) (a:=D) (xs:=ys) (fun D' i σ H6=>H3 D'=none/\ ∃v rs,σ=[v]/\aD H3 H6/\H6 D'=some (.lst rs)/\iR H6 (((eE ks).take i).map fun x=>(x.2,S.rest aU x.2 day)) rs) (fun D' pK=>⟨pK,none,[],rfl,aD.new pK,ag,.nil⟩) (fun D' i σ H6 _ ⟨_,_,_,_,t3,_⟩=>bP.of (t3 _ _ Ph)) ?_ ?_
    ·rintro D' i x σ H6 Eh ⟨pK,v,rs,rfl,t3,gA,hP⟩
     have hi:i < (eE ks).length:=by
      have:=(av.mp Eh).1
      rw[ae] at Rz
      omega
     have g0:((eE ks).map (gD S aU day))[i]? =some (gD S aU day (eE ks)[i]):=by rw[aB,af hi]; rfl
     obtain⟨v',hv,pp,e1,GU⟩:=bR Eg g0
     rw[Eh] at hv
     obtain rfl:x=v':=aF hv
     subst e1
     have nR:=oE hi
     have Gd:=t3 _ _ GU
     generalize (eE ks)[i]=z at Gd nR
     have CV:rs.length<=100:=by
      have:=aQ hP
      rw[ae,bC] at this
      have:=(dr ks).length_eq
      omega
     refine⟨_,rfl,pp,_,_,.int (z.2:Int),rfl,rfl,cG.of Gd,rfl,_,rfl,pp,_,_,.int (S.rest aU z.2 day),rfl,rfl,cG.of Gd,rfl,(by show 2<=sizeLine; decide),fun r6 m6=>?_⟩
     have t6:=aD.new (o:= .tup [V.int (z.2:Int),.int (S.rest aU z.2 day)]) m6
     refine⟨rs,t6 _ _ gA,bB (by omega),pK,_,rs ++ [.ref r6],rfl,(t3.trans t6).dm pK,ag,?_⟩
     rw[nR,aR]
     have tk:=t6.tk.trans (fT (o:= .lst (rs ++ [.ref r6])) (t6 _ _ gA))
     exact cQ (hP.mono tk) ⟨r6,rfl,fT (o:= .lst (rs ++ [.ref r6])) (t6 _ _ gA) _ _ ag⟩
    ·rintro D' σ H6 pK ⟨_,v,rs,rfl,t3,gA,hP⟩
     refine k D' rs H6 (s3.trans t3) (s3.free pK) gA ?_
     rw[jU]
     rw[← Rz,ae,bh] at hP
     exact hP
theorem xO {S:Bk}{aU:Bool}{aL:Str}{day:Int}{t:Nat×Int}(h:t∈S.gW aU aL day):t.1 < (S.rows aU).length:=by
 unfold Bk.gW at h
 obtain⟨k,hk,rfl⟩:=bN.mp h
 exact(kB.mp (eX.mp hk).1).1
theorem Gi {S:Bk}{aU:Bool}{aL:Str}{day:Int}:(S.gW aU aL day).length<=(S.rows aU).length:=by
 rw[Bo,ae,(dr _).length_eq]
 exact CY
theorem vh (fX:Int)(bZ:List Int):L2.placeOf fX bZ < bZ.length + 2:=by
 unfold L2.placeOf
 split
 ·omega
 ·have:=a7 (fun l=>decide (l < fX)) bZ
  omega
theorem xP (l:List Int)(i:Nat)(x:Int):(kC l i x).length=l.length:=by unfold kC; rw[List.length_set]
theorem En (n:Nat)(b:Int):(List.replicate n [V.int b]).flatten=(List.replicate n b).map V.int:=by
 induction n with
 |zero=>rfl
 |succ n ih=>rw[dz,iU,ih,dz]; rfl
def IS:Sp:=fun vs H Q _=> ∃(sd pl:Addr) (S:Bk) (f:fN) (n:Nat) (aL:Str) (day:Int) (bZ:List Int),vs=[.ref sd,.str aL,.int day,.ref pl]/\dI H sd S f/\WF S n/\n<=60/\H pl=some (.tup (bZ.map V.int))/\bZ.length<=11/\
 ∀D H',aD H H'->H D=none->H' D=some (.lst ((S.vU aL day bZ).map V.int))->Q (.ref D) H'
theorem qQ:a0 ["_law_state","_law_who","_law_day","_law_limits","_law_sums","_law_bill","_law_left","_law_late","_law_place"] ["_law_state","_law_who","_law_day","_law_limits"] (az (top 64)):=⟨rfl,rfl,rfl,by decide +kernel,rfl,by decide +kernel,by decide +kernel⟩
theorem Bp (T:Txt K mg):fb P w K mg base "_law_aged" 2 ["_law_state","_law_who","_law_day","_law_limits"] IS:=by
 have kY:fb P w K mg base "_law_at_day" 1 ["_law_state","_law_who","_law_day","_law_spot"] zr:=oP T
 refine T.AJ.kN (k:=1) qQ (fun _ _ _ _ _ _ us hl=>match us,hl with|[_,_,_,_],_=>rfl) (fun vs H Q E h=>?_) (fun f dh A outer s H vs Q E hr h=>?_)
 ·obtain⟨sd,pl,S,g,n,aL,day,bZ,rfl,_⟩:=h
  rfl
 ·obtain⟨sd,pl,S,g,n,aL,day,bZ,rfl,hB,wf,hn,iL,CV,k⟩:=h
  have hu:=jO hr
  have nd:=qQ.nd
  refine⟨_,(ai (a9 (i:=4) nd rfl (Or.inl rfl) (aX ym (cf (aa ah aj)) (aX dk (bq bp (by rfl) T.en bo (aa (pv 3) aj)) ah)))
(ai (fe bS rfl (dG (cM kY (hr.mono (by decide)) rfl (aa (pv 0) (aa (pv 1) (aa (pv 2) (aa ah aj)))))) (iW rfl (cw (bD (i:=5) nd rfl (Or.inl rfl)) (cw (bD (i:=6) nd rfl (Or.inl rfl)) gH)))
(ai (a9 (i:=7) nd rfl (Or.inr rfl) (aX ff (pv 2) (aJ a6 (aJ a6 (cS hu (pv 0) aW (fun _ _=>rfl)) (pv 5) (fun _ _=>rfl)) ah (fun _ _=>rfl))))
(ai (a9 (i:=8) nd rfl (Or.inl rfl) ah)
(iA (bX (aZ iQ (pv 7) ah (ba _))
(au (a9 (i:=8) nd rfl (Or.inl rfl) (aX dk ah (bq bp (by rfl) T.en bo (aa (gU (tn:=["_law_limit"]) (cn:=["_law_late"]) (cj:=[7]) rfl (iz (by rfl) (by decide +kernel) rfl (by decide +kernel) (by rfl) [(".0",.local),("_law_limit",.local),("_law_late",.cell)] (by rfl) (by decide +kernel) rfl (Or.inl rfl) (Or.inl rfl)) (Hb (pv 3)) (fun _ _ _ _=>(bD (i:=0) (show(["_law_limit","_law_late"]:List Str).Nodup by decide +kernel) rfl (Or.inl rfl))) (fun _ _ _ _=>(mO (aZ jN (pv 0) (pv 1) (ba _)))) (fun _ _ _ _=>(pv 0))) aj)))))
bw)
(au (lN (aX dk (aJ a6 (pv 4) (pv 8) (fun _ _=>rfl)) (pv 6)) (o8 (pv 4) (pv 8) set_list)))))))
(au (bf (pv 4))))),?_⟩
  refine⟨(by show 1<=sizeLine; decide),fun p9 n9=>?_⟩
  have t9:=aD.new (o:= .lst [V.int 0]) n9
  have IT:(bZ.map V.int).length=bZ.length:=ae _
  refine⟨_,rfl,pl,_,rfl,.inr (cG.of (t9 _ _ iL)),_,_,rfl,rfl,p9,_,_,rfl,rfl,ag,by omega,by omega,?_,fun ps Gj=>?_⟩
  ·show 1 * _<=sizeLine
   rw[IT,eK]
   omega
  have e2:(((bZ.map V.int).length:Int) + 2).toNat=bZ.length + 2:=by rw[IT]; omega
  rw[e2,En]
  have zh:=aD.new (o:= .lst ((List.replicate (bZ.length + 2) (0:Int)).map V.int)) Gj
  have CW:=t9.trans zh
  have mh:upd (upd H p9 (.lst [V.int 0])) ps (.lst ((List.replicate (bZ.length + 2) (0:Int)).map V.int)) ps=some (.lst ((List.replicate (bZ.length + 2) (0:Int)).map V.int)):=ag
  have Gk:H ps=none:=t9.free Gj
  generalize upd (upd H p9 (.lst [V.int 0])) ps (.lst ((List.replicate (bZ.length + 2) (0:Int)).map V.int))=H1 at CW mh
  refine⟨_,rfl,_,rfl,_,rfl,sd,S,g,n,true,aL,day,rfl,hB.same CW,wf,hn,fun D ms H2 s2 nD hD hP=>?_⟩
  refine⟨D,rfl,⟨_,bP.of hD⟩,?_⟩
  have O7:=CW.trans s2
  have tJ: ∀t∈S.gW true aL day,t.1 < S.aH.length:=fun t ht=>xO (aU:=true) ht
  have VQ:S.vU aL day bZ=(S.gW true aL day).foldl (fun l t=>kC l (L2.placeOf (day - (S.bl t.1).b) bZ) t.2) (List.replicate (bZ.length + 2) 0):=rfl
  rw[VQ] at k
  generalize S.gW true aL day=ts at hP tJ k
  have VR:D≠ps:=fun e=>by rw[e,mh] at nD; cases nD
  refine gj (K:=K) (a:=D) (xs:=ms) (fun i σ H3=> ∃(l:List Int) (x5 x6 x7 x8:Option V),σ=[some (.ref sd),some (.str aL),some (.int day),some (.ref pl),some (.ref ps),x5,x6,x7,x8]/\aD H H3/\H3 D=some (.lst ms)/\iR H3 ts ms/\H3 ps=some (.lst (l.map V.int))/\l.length=bZ.length + 2/\l=(ts.take i).foldl (fun l t=>kC l (L2.placeOf (day - (S.bl t.1).b) bZ) t.2) (List.replicate (bZ.length + 2) 0))
   ⟨_,none,none,none,none,rfl,O7,hD,hP,s2 _ _ mh,eY,rfl⟩ (fun i σ H3 _ ⟨_,_,_,_,_,_,_,h,_⟩=>bP.of h) ?_ ?_
  ·rintro i x σ H3 hx ⟨l,x5,x6,x7,x8,rfl,s3,Ph,Lq,HE,IU,he⟩
   have hi:i < ts.length:=by have:=(av.mp hx).1; have:=aQ Lq; omega
   have oA:=af hi
   obtain⟨v,hv,p,rfl,hp⟩:=bR Lq oA
   rw[hx] at hv
   obtain rfl:x= .ref p:=aF hv
   have hm:=tJ _ (bQ hi)
   rw[jI (fun l t=>kC l (L2.placeOf (day - (S.bl t.1).b) bZ) t.2) ts _ oA,← he]
   generalize ts[i]=t at hp hm
   have B3:=hB.same s3
   obtain⟨q,_,aq,hq⟩:=B3.lb hm
   refine⟨p,_,rfl,cG.of hp,rfl,_,_,rfl,_,_,rfl,rfl,?_⟩
   refine⟨_,rfl,_,rfl,sd,_,rfl,B3.gB,_,rfl,g.pb,_,_,.ref q,rfl,rfl,bP.of B3.hb,aq,q,_,_,.int (S.bl t.1).b,rfl,rfl,bP.of hq,rfl,_,_,rfl,rfl,?_⟩
   refine⟨fun σ' H'=>σ'=[some (.ref sd),some (.str aL),some (.int day),some (.ref pl),some (.ref ps),some (.int (t.1:Int)),some (.int t.2),some (.int (day - (S.bl t.1).b)),some (.int (L2.placeOf (day - (S.bl t.1).b) bZ:Int))]/\aD H3 H',?_,?_⟩
   ·refine⟨_,rfl,_,_,rfl,rfl,_,rfl,cL (fun z=>?_) (fun z=>?_)⟩
    ·have z':0 < (day - (S.bl t.1).b):=aS z
     refine⟨_,rfl,pl,rfl,⟨_,cG.of (s3 _ _ iL)⟩,?_⟩
     refine Ar (K:=K) (a:=pl) (xs:=bZ.map V.int) (fun D' j σ H6=>H3 D'=none/\ ∃v,σ=[v,some (.int (day - (S.bl t.1).b))]/\aD H3 H6/\H6 D'=some (.lst (((bZ.take j).filter fun l=>decide (l < (day - (S.bl t.1).b))).map V.int))) (fun D' pK=>⟨pK,none,rfl,aD.new pK,ag⟩) (fun D' j σ H6 _ ⟨_,_,_,t3,_⟩=>cG.of (t3 _ _ (s3 _ _ iL))) ?_ ?_
     ·rintro D' j x σ H6 Eh ⟨pK,v,rfl,t3,gA⟩
      rw[aB] at Eh
      obtain⟨y,hy,rfl⟩:=bG.mp Eh
      have kX:=fB (fun l=>decide (l < (day - (S.bl t.1).b))) hy
      have hlen:((bZ.take j).filter fun l=>decide (l < (day - (S.bl t.1).b))).length<=100:=by
       have:=a7 (fun l=>decide (l < (day - (S.bl t.1).b))) (bZ.take j)
       rw[bC] at this
       omega
      refine⟨_,rfl,_,rfl,_,_,rfl,rfl,_,rfl,cL (fun q=>?_) (fun q=>?_)⟩
      ·rw[bg q] at kX
       refine⟨_,rfl,_,gA,bB (by rw[ae]; omega),pK,_,rfl,t3.dm pK,?_⟩
       rw[ag,kX,aR]
       rfl
      ·rw[aV q,b9] at kX
       refine⟨pK,_,rfl,t3,?_⟩
       rw[kX]
       exact gA
     ·rintro D' σ H6 pK ⟨_,v,rfl,t3,gA⟩
      refine⟨D',_,rfl,.inl (bP.of gA),_,_,rfl,rfl,?_,t3⟩
      have e:L2.placeOf (day - (S.bl t.1).b) bZ=1 + (bZ.filter fun l=>decide (l < (day - (S.bl t.1).b))).length:=by
       unfold L2.placeOf
       rw[aV (by omega)]
      rw[e,ae,ae,bh]
      simp
    ·have z': ¬ 0 < (day - (S.bl t.1).b):=fun q=>z (aE q)
     have e:L2.placeOf (day - (S.bl t.1).b) bZ=0:=by
      unfold L2.placeOf
      rw[bg (by omega)]
     rw[e]
     exact⟨rfl,aD.refl _⟩
   ·rintro σ' H4 ⟨rfl,s4⟩
    have Yc:=vh (day - (S.bl t.1).b) bZ
    generalize L2.placeOf (day - (S.bl t.1).b) bZ=j at Yc
    have Pk:=s4 _ _ HE
    refine⟨_,rfl,_,rfl,ps,_,_,.int (l.getD j 0),rfl,rfl,bP.of Pk,pJ (by omega),_,rfl,_,_,rfl,rfl,?_⟩
    refine⟨_,rfl,_,rfl,ps,_,_,j,rfl,rfl,Pk,qJ (by rw[ae]; omega),?_⟩
    have tk:=fT (o:= .lst ((l.map V.int).set j (.int (l.getD j 0 + t.2)))) Pk
    refine⟨kC l j t.2,_,_,_,_,rfl,(s3.trans s4).dm Gk,?_,(Lq.mono s4.tk).mono tk,?_,?_,rfl⟩
    ·rw[aA VR]; exact s4 _ _ Ph
    ·rw[ag]
     unfold kC
     rw[GK]
    ·rw[xP]; exact IU
  ·rintro σ H3 ⟨l,x5,x6,x7,x8,rfl,s3,Ph,Lq,HE,IU,he⟩
   rw[← aQ Lq,bh] at he
   rw[he] at HE
   exact⟨_,rfl,k ps H3 s3 Gk HE⟩
def CZ:Sp:=fun vs H Q _=> ∃(sd pd:Addr) (S:Bk) (f:fN) (n:Nat),vs=[.ref sd,.ref pd]/\dI H sd S f/\WF S n/\n<=60/\
 ((∃(o:Bool) (aL:Str) (day:Int),H pd=some (.tup (bI.vs (.ask o aL day)))/\ ∀v H',aD H H'->Rp H' (xy.pairs (S.gW o aL day)).dt v->Q v H')∨
  (∃(aL:Str) (day:Int) (bZ:List Int) (pl:Addr),H pd=some (.tup [.str "ages",.str aL,.int day,.ref pl])/\H pl=some (.tup (bZ.map V.int))/\bZ.length<=11/\ ∀v H',aD H H'->Rp H' (xy.ints (S.vU aL day bZ)).dt v->Q v H'))
theorem rW:a0 ["_law_state","_law_deed"] ["_law_state","_law_deed"] (az (top 65)):=⟨rfl,rfl,rfl,by decide +kernel,rfl,by decide +kernel,by decide +kernel⟩
theorem vi {H:Hp}: ∀l:List Int,g8 H (l.map Dt.int) (l.map V.int)
 |[]=>dA.mpr rfl
 |x :: l=>bW.mpr ⟨_,_,rfl,dM.mpr rfl,vi l⟩
theorem tK (T:Txt K mg):fb P w K mg base "_law_reported" 3 ["_law_state","_law_deed"] CZ:=by
 have kY:fb P w K mg base "_law_at_day" 1 ["_law_state","_law_who","_law_day","_law_spot"] zr:=oP T
 have Bq:fb P w K mg base "_law_aged" 2 ["_law_state","_law_who","_law_day","_law_limits"] IS:=Bp T
 refine T.tu.kN (k:=2) rW (fun _ _ _ _ _ _ us hl=>match us,hl with|[_,_],_=>rfl) (fun vs H Q E h=>?_) (fun f dh A outer s H vs Q E hr h=>?_)
 ·obtain⟨sd,pd,S,g,n,rfl,_⟩:=h
  rfl
 ·obtain⟨sd,pd,S,g,n,rfl,hB,wf,hn,hk⟩:=h
  refine⟨_,(ai (bX (aZ cX (aJ bb (pv 1) ah (fun _ _=>rfl)) aW (ba _))
(au (bf (cM Bq (hr.mono (by decide)) rfl (aa (pv 0) (aa (aJ bb (pv 1) ah (fun _ _=>rfl)) (aa (aJ bb (pv 1) ah (fun _ _=>rfl)) (aa (aJ bb (pv 1) ah (fun _ _=>rfl)) aj)))))))
bw)
(au (bf (cM kY (hr.mono (by decide)) rfl (aa (pv 0) (aa (aJ bb (pv 1) ah (fun _ _=>rfl)) (aa (aJ bb (pv 1) ah (fun _ _=>rfl)) (aa (f7 jC (by rfl) T.uY boot_int (aa (fv cX (aJ bb (pv 1) ah (fun _ _=>rfl)) aW (ba _)) aj)) aj)))))))),?_⟩
  rcases hk with⟨o,aL,day,hd,k⟩|⟨aL,day,bZ,pl,hd,iL,CV,k⟩
  ·have jf:(if o=true then("owed":Str) else "free")≠"ages":=by cases o <;> decide +kernel
   refine⟨_,rfl,pd,_,_,.str (if o=true then "owed" else "free"),rfl,rfl,cG.of hd,rfl,rfl,false,jq jf,cg ?_⟩
   refine⟨_,rfl,_,rfl,pd,_,_,.str aL,rfl,rfl,cG.of hd,rfl,_,rfl,pd,_,_,.int day,rfl,rfl,cG.of hd,rfl,_,rfl,pd,_,_,.str (if o=true then "owed" else "free"),rfl,rfl,cG.of hd,rfl,rfl,.inr ⟨o,?_,sd,S,g,n,o,aL,day,rfl,hB,wf,hn,fun D ms H2 s2 nD hD hP=>?_⟩⟩
   ·cases o with
    |true=>exact c8 (fun x=>[x]) (xN _)
    |false=>exact c8 (fun x=>[x]) (jq (by decide +kernel))
   ·exact k _ _ s2 (iZ.mpr ⟨D,ms,rfl,hD,hP.NT⟩)
  ·refine⟨_,rfl,pd,_,_,.str "ages",rfl,rfl,cG.of hd,rfl,rfl,true,xN _,fJ ?_⟩
   refine⟨_,rfl,_,rfl,pd,_,_,.str aL,rfl,rfl,cG.of hd,rfl,_,rfl,pd,_,_,.int day,rfl,rfl,cG.of hd,rfl,_,rfl,pd,_,_,.ref pl,rfl,rfl,cG.of hd,rfl,sd,pl,S,g,n,aL,day,bZ,rfl,hB,wf,hn,iL,CV,fun D H2 s2 nD hD=>?_⟩
   exact k _ _ s2 (iZ.mpr ⟨D,_,rfl,hD,vi _⟩)
theorem fC {X:Cx}{K:PySem.W.Frag}{e:Expr}{f:Str}{pos:Pos}{ta:TE}(h:X.K=K)(he:PE X e ta)(hb:attributeBase e f X.env (eval e X.env)=eval e X.env):PE X (.Attribute e f pos) (Qd K ta f):=by subst h; exact cu he hb
def Br (A:ej)(aU:Bool):Addr:=if aU=true then A.d9 else A.eo
def zt (aU:Bool)(k:Nat)(r:Rw):List (Str×V):=if aU=true then fF k r else fj k r
theorem xQ (aU:Bool)(k:Nat)(r:Rw):(zt aU k r).lookup ("number":Str)=some (V.int k):=by cases aU <;> rfl
theorem Oc (aU:Bool)(k:Nat)(r:Rw):(zt aU k r).lookup ("day":Str)=some (V.int r.a):=by cases aU <;> rfl
theorem Gm (aU:Bool)(k:Nat)(r:Rw):(zt aU k r).lookup ("amount":Str)=some (V.int (sD aU r)):=by cases aU <;> rfl
theorem zu {A:ej}(G:jy K mg A)(aU:Bool):vO K (Br A aU):=by cases aU; exact G.dv; exact G.eu
theorem xR {A:ej}(G:jy K mg A)(aU:Bool):cA K (Br A aU) "number":=by cases aU; exact G.eP; exact G.eU
theorem Od {A:ej}(G:jy K mg A)(aU:Bool):cA K (Br A aU) "day":=by cases aU; exact G.jb; exact G.mX
theorem Gn {A:ej}(G:jy K mg A)(aU:Bool):cA K (Br A aU) "amount":=by cases aU; exact G.lB; exact G.mZ
def Lr (A:ej)(H:Hp)(S:Bk)(aU:Bool)(ks:List Nat)(qs:List Addr):Prop:=Paired (fun(k:Nat) q=>eF H q (Br A aU) (zt aU k ((S.rows aU).getD k default))) ks qs
def pR (S:Bk)(aU:Bool)(day:Int)(k:Nat):Bool:=decide (((S.rows aU).getD k default).a<=day) && decide (0 < S.rest aU k day)
def vj (A:ej):Sp:=fun vs H Q _=> ∃(pw pt:Addr) (S:Bk) (f:eO) (n:Nat) (aU:Bool) (day:Int) (ks:List Nat) (qs:List Addr),vs=[.ref pw,.ref pt,.int (if aU=true then 1 else 0),.int day]/\dP A H pw S f/\WF S n/\S.made.length<=1000000/\
 H pt=some (.lst (qs.map V.ref))/\Lr A H S aU ks qs/\ks.length<=100/\ ∀D ms H',aD H H'->H D=none->H' D=some (.lst ms)->iR H' ((ks.filter (pR S aU day)).map fun k=>(k,S.rest aU k day)) ms->Q (.ref D) H'
theorem mm:a0 ["work","told","place","day","counting","remaining","item","rest"] ["work","told","place","day"] (az (top 38)):=⟨rfl,rfl,rfl,by decide +kernel,rfl,by decide +kernel,by decide +kernel⟩
theorem nG (T:Txt K mg){A:ej}(G:jy K mg A):fb P w K mg base "remaining_at" 4 ["work","told","place","day"] (vj A):=by
 have wI:fb P w K mg base "counting_at" 3 ["work","day"] (vf A):=wH T G
 refine T.uW.kN (k:=3) mm (fun _ _ _ _ _ _ us hl=>match us,hl with|[_,_,_,_],_=>rfl) (fun vs H Q E h=>?_) (fun f dh A' outer s H vs Q E hr h=>?_)
 ·obtain⟨pw,pt,S,g,n,aU,day,ks,qs,rfl,_⟩:=h
  rfl
 ·obtain⟨pw,pt,S,g,n,aU,day,ks,qs,rfl,hW,wf,hz,xM,hI,Ef,k⟩:=h
  have nd:=mm.nd
  have hlen:=aQ hI
  refine⟨_,(ai (a9 (i:=4) nd rfl (Or.inl rfl) (cM wI (hr.mono (by decide)) rfl (aa (pv 0) (aa (pv 3) aj))))
(ai (a9 (i:=5) nd rfl (Or.inl rfl) (cf aj))
(ai (fe bS rfl (dG (pv 1)) (bD (i:=6) nd rfl (Or.inr rfl))
(ai (a9 (i:=7) nd rfl (Or.inl rfl) (aX ff (cu (pv 6) rfl) (bq (rL rfl) (by rfl) T.Iq boot_sum (aa (gU (tn:=["setting"]) (cn:=["place","item"]) (cj:=[2,6]) rfl (zp (by rfl) (by decide +kernel) rfl (by decide +kernel) (by rfl) (by rfl) [(".0",.local),("setting",.local),("item",.cell),("place",.cell)] (by rfl) (by decide +kernel) rfl rfl (Or.inl rfl) (Or.inl rfl) (Or.inl rfl) (Or.inl rfl)) (dG (pv 4)) (fun _ _ _ _=>(bD (i:=0) (show(["setting","place","item"]:List Str).Nodup by decide +kernel) rfl (Or.inl rfl))) (fun _ _ _ _=>(mO (aZ cX (aJ (nU (K:=K) rfl) (pv 0) (pv 1) (fun _ _=>rfl)) (fC (K:=K) rfl (pv 2) rfl) (ba _)))) (fun _ _ _ _=>(aJ (nU (K:=K) rfl) (pv 0) ah (fun _ _=>rfl)))) aj))))
(au (bX (PW.pt (pw_and (aZ sh (cu (pv 6) rfl) (pv 3) (ba _)) (pw_and1 (aZ iQ (pv 7) ah (ba _)))))
(au (bU (fz aM aG aI b0 (pv 5) (aa (dD (aa (cu (pv 6) rfl) (aa (pv 7) aj))) aj))))
bw))))
(au (bf (pv 5)))))),?_⟩
  refine⟨_,rfl,_,rfl,pw,S,g,n,day,rfl,hW,wf,hz,fun pc cs H1 s1 nc hc hT=>?_⟩
  refine⟨bF _,fun pr nr=>?_⟩
  have nr0:=s1.free nr
  have sr:=aD.new (o:= .lst []) nr
  refine⟨_,rfl,pt,rfl,⟨_,bP.of ((s1.trans sr) _ _ xM)⟩,?_⟩
  refine gj (K:=K) (a:=pt) (xs:=qs.map V.ref) (fun i σ H2=> ∃(rs:List V) (x6 x7:Option V),σ=[some (.ref pw),some (.ref pt),some (.int (if aU=true then 1 else 0)),some (.int day),some (.ref pc),some (.ref pr),x6,x7]/\aD H1 H2/\H2 pr=some (.lst rs)/\iR H2 (((ks.take i).filter (pR S aU day)).map fun k=>(k,S.rest aU k day)) rs)
   ⟨[],none,none,rfl,sr,ag,.nil⟩ (fun i σ H2 _ ⟨_,_,_,_,s2,_⟩=>bP.of ((s1.trans s2) _ _ xM)) ?_ ?_
  ·rintro i x σ H2 hx ⟨rs,x6,x7,rfl,s2,xK,hP⟩
   rw[aB] at hx
   obtain⟨q,hq,rfl⟩:=bG.mp hx
   have hi:i < ks.length:=by have:=(av.mp hq).1; omega
   have oA:=af hi
   obtain⟨q',sk,lE⟩:=bR hI oA
   rw[hq] at sk
   obtain rfl:q=q':=aF sk
   have kX:=fB (pR S aU day) oA
   generalize ks[i]=kk at lE kX
   have s02:=s1.trans s2
   obtain⟨dq,zU⟩:=lE.same s02
   have KA:=s2 _ _ hc
   have Fq:=hT.mono s2.tk
   have qz:=aQ Fq
   have Tz:=a7 (fun t=>decide (S.fX t<=day)) S.made
   have As:rs.length<=100:=by
    have e1:=aQ hP
    have e2:=a7 (pR S aU day) (ks.take i)
    rw[ae] at e1
    rw[bC] at e2
    omega
   refine⟨_,rfl,q,_,dq,_,_,rfl,zU,zu G aU,Gn G aU,Gm aU _ _,_,rfl,pc,rfl,⟨_,bP.of KA⟩,?_⟩
   refine eN (K:=K) (a:=pc) (xs:=cs) (fun D j σ H6=>H2 D=none/\ ∃v,σ=[v,some (.int (if aU=true then 1 else 0)),some (.ref q)]/\aD H2 H6/\H6 D=some (.lst (((((S.made.filter fun t=>decide (S.fX t<=day)).take j).filter fun t=>decide (spotOf aU t=kk)).map (·.2.2)).map V.int))) (fun D hD=>⟨hD,none,rfl,aD.new hD,ag⟩) (fun D j σ H6 _ ⟨_,_,_,t3,_⟩=>bP.of (t3 _ _ KA)) ?_ ?_
   ·rintro D j x σ H6 Eh ⟨hD,v,rfl,t3,gA⟩
    have hj:j < (S.made.filter fun t=>decide (S.fX t<=day)).length:=by have:=(av.mp Eh).1; omega
    have RQ:=af hj
    obtain⟨v',hv,p,rfl,hp⟩:=bR Fq RQ
    rw[Eh] at hv
    obtain rfl:x= .ref p:=aF hv
    have IV:=fB (fun t=>decide (spotOf aU t=kk)) RQ
    generalize (S.made.filter fun t=>decide (S.fX t<=day))[j]=t at hp IV
    have hsz:((((S.made.filter fun t=>decide (S.fX t<=day)).take j).filter fun t=>decide (spotOf aU t=kk)).map (·.2.2)).length<=1000000:=by
     rw[ae]
     have e1:=a7 (fun t=>decide (spotOf aU t=kk)) ((S.made.filter fun t=>decide (S.fX t<=day)).take j)
     rw[bC] at e1
     omega
    have Mr:=t3 _ _ hp
    refine⟨_,rfl,_,rfl,p,_,_,_,rfl,rfl,cG.of Mr,Em aU t,_,rfl,q,_,dq,_,_,rfl,t3 _ _ zU,zu G aU,xR G aU,xQ aU _ _,rfl,_,rfl,cL (fun z=>?_) (fun z=>?_)⟩
    ·have z':spotOf aU t=kk:=by
      have:=aS z
      injection this with this
      omega
     rw[bg (aE z')] at IV
     refine⟨_,rfl,p,_,_,.int t.2.2,rfl,rfl,cG.of Mr,rfl,_,gA,ja (by rw[ae]; exact hsz),hD,_,rfl,t3.dm hD,?_⟩
     rw[ag,IV,aR,aR]
     rfl
    ·have z': ¬ spotOf aU t=kk:=fun e=>z (aE (by rw[e]))
     rw[aV (by rw[bA z']; exact aY),b9] at IV
     refine⟨hD,_,rfl,t3,?_⟩
     rw[IV]
     exact gA
   ·rintro D σ H6 hD ⟨_,v,rfl,t3,gA⟩
    rw[← qz,bh,pU] at gA
    refine⟨D,_,rfl,bP.of gA,_,_,rfl,rfl,?_⟩
    have DZ:sD aU ((S.rows aU).getD kk default) - ((S.made.filter fun t=>decide (spotOf aU t=kk) && decide (S.fX t<=day)).map (·.2.2)).sum=S.rest aU kk day:=rfl
    have Ms:=t3 _ _ xK
    have Pl:=hP.mono t3.tk
    have s6:=s2.trans t3
    have no:pR S aU day kk=false-> ∃(rs:List V) (x6 x7:Option V),[some (V.ref pw),some (.ref pt),some (.int (if aU=true then 1 else 0)),some (.int day),some (.ref pc),some (.ref pr),some (.ref q),some (.int (S.rest aU kk day))]=[some (.ref pw),some (.ref pt),some (.int (if aU=true then 1 else 0)),some (.int day),some (.ref pc),some (.ref pr),x6,x7]/\aD H1 H6/\H6 pr=some (.lst rs)/\iR H6 (((ks.take (i + 1)).filter (pR S aU day)).map fun k=>(k,S.rest aU k day)) rs:=fun z=>by
     rw[aV (by rw[z]; exact aY),b9] at kX
     exact⟨rs,some (.ref q),some (.int (S.rest aU kk day)),rfl,s6,Ms,by rw[kX]; exact Pl⟩
    refine⟨_,rfl,q,_,dq,_,_,rfl,t3 _ _ zU,zu G aU,Od G aU,Oc aU _ _,_,rfl,_,_,rfl,rfl,_,rfl,cL (fun z1=>?_) (fun z1=>cg (no ?_))⟩
    ·refine⟨_,rfl,_,_,rfl,rfl,_,rfl,cL (fun z2=>?_) (fun z2=>no ?_)⟩
     ·have yes:pR S aU day kk=true:=by
       unfold pR
       rw[aE (aS z1),aE (show 0 < S.rest aU kk day from aS z2)]; rfl
      rw[bg yes] at kX
      refine⟨_,rfl,.inl ⟨rfl,_,bP.of Ms⟩,_,rfl,q,_,dq,_,_,rfl,t3 _ _ zU,zu G aU,xR G aU,xQ aU _ _,_,rfl,(by show 2<=sizeLine; decide),fun p8 n8=>?_⟩
      have t8:=aD.new (o:= .tup [V.int (kk:Int),.int (S.rest aU kk day)]) n8
      refine⟨pr,rs,_,rfl,rfl,t8 _ _ Ms,bB (by omega),rs ++ [.ref p8],some (.ref q),some (.int (S.rest aU kk day)),rfl,(s6.trans t8).dm nr,ag,?_⟩
      rw[kX,aR]
      have tk:=t8.tk.trans (fT (o:= .lst (rs ++ [.ref p8])) (t8 _ _ Ms))
      have fin:iR (upd (upd H6 p8 (.tup [V.int (kk:Int),.int (S.rest aU kk day)])) pr (.lst (rs ++ [.ref p8]))) ((((ks.take i).filter (pR S aU day)).map fun k=>(k,S.rest aU k day)) ++ [(kk,S.rest aU kk day)]) (rs ++ [.ref p8]):=cQ (Pl.mono tk) ⟨p8,rfl,fT (o:= .lst (rs ++ [.ref p8])) (t8 _ _ Ms) _ _ ag⟩
      exact fin
     ·unfold pR
      rw[bA (show ¬ 0 < S.rest aU kk day from fun e=>z2 (aE e)),lL]
    ·unfold pR
     rw[bA (fun e=>z1 (aE e)),pZ]
  ·rintro σ H2 ⟨rs,x6,x7,rfl,s2,xK,hP⟩
   rw[ae,← hlen,bh] at hP
   exact⟨_,rfl,k pr rs H2 (s1.trans s2) nr0 xK hP⟩
structure pX (K:PySem.W.Frag)(mg:Str->Option Value)(x:Str)(st:Stmt)(tb:Addr):Prop where
 ex: ∃(f c:Addr) (oc:Value) (od:Option Addr) (kV doc pm:Value) (an:Option Addr) (ct:Value) (Fb:Array (Option Value)),K.lookup f=some ⟨oc,od,.func (PySem.W.fnOf x x (g6 st) (d8 st) (az st) .none kV doc pm an (.ref c) ct),Fb⟩/\PySem.W.codeIn K (.ref c) x=true/\
  PySem.W.keepIn K (.ref f)=true/\mg x=some (.ref f)/\PySem.W.codeHdIn K c tb=true
theorem pX.kN {x:Str}{st:Stmt}{tb:Addr}{N ps:List Str}{k:Nat}{sp:Sp}(D:pX K mg x st tb)(KB:K.In base)(S:a0 N ps (az st))
  (hb: ∀(kV doc pm:Value) (an:Option Addr) (dh ct:Value) (us:List Value),us.length=ps.length->bindArgs (PySem.W.fnOf x x (g6 st) (d8 st) (az st) .none kV doc pm an dh ct) ⟨us,[]⟩=pure (ps.zip us))
  (len: ∀vs H Q E,sp vs H Q E->vs.length=ps.length)
  (gp: ∀(f c:Addr) (A:Around) (outer:List Env) (s:Shared) (H:Hp) (vs:List V) (Q:VK) (E:XK),PySem.W.CodeHd base c tb->fE k (A.deeper (envOfC x (az st) s.heap.objs.size f (.ref c)))->sp vs H Q E->
   ∃t,pV (lQ sq P w K mg base N x (az st) f (.ref c) A outer s H E).E2 (d8 st) t/\t {nx:=fun _ H'=>Q .eI H',rt:=Q} (L2.start N vs) H):fb P w K mg base x (k + 1) ps sp:=by
 obtain⟨f,c,oc,od,kV,doc,pm,an,ct,Fb,lk,qZ,hk,hm,hh⟩:=D.ex
 have F:gq K x x st f _:=px lk qZ hk
 refine⟨f,_,Hr lk qZ S len fun A outer s H vs Q E hr yh=>?_,hm,hk,F.binds hb⟩
 obtain⟨t,h,q⟩:=gp f c A outer s H vs Q E (PySem.W.codeHd_of_K KB hh) hr yh
 exact⟨t,h.E2,q⟩
theorem qR {th:List (Int×Nat)}{i:Nat}(h:i < th.length):(th.map Ee).getD i []=Ee (th.getD i (0,0)):=getD_map Ee th i (0,0) [] h
theorem vk {th:List (Int×Nat)}{p:List Nat}(h1: ∀x∈th,x.2 < 1000)(nd:(th.map (·.2)).Nodup)(hp:p.Perm (List.range th.length))(le:p.Pairwise (fun i j=>tw ((th.map Ee).getD i [])<=tw ((th.map Ee).getD j []))):p.map (fun i=>th.getD i (0,0))=eE th:=by
 have hr:(List.range th.length).map (fun i=>th.getD i (0,0))=th:=xx th (0,0)
 refine mW tq _ _ ((hp.map _).trans ((List.Perm.of_eq hr).trans (dr th).symm)) ?_ (AM h1 nd)
 rw[rn]
 refine le.imp_of_mem fun{a b} ha hb z=>?_
 have la:a < th.length:=dC.mp (hp.mem_iff.mp ha)
 have lb:b < th.length:=dC.mp (hp.mem_iff.mp hb)
 rw[qR la,qR lb] at z
 exact z
theorem nH {α β:Type}{F:α->β->Prop}{l₁:List α}{l₂:List β}(h:Paired F l₁ l₂)(d:α)(e:β): ∀p:List Nat,(∀i∈p,i < l₁.length)->Paired F (p.map fun i=>l₁.getD i d) (p.map fun i=>l₂.getD i e)
 |[],_=> .nil
 |i :: p,hi=>by
  have hl:=hi i bT
  obtain⟨b,e1,e2⟩:=bR h (af hl)
  refine .cons ?_ (nH h d e p fun j hj=>hi j (bz _ hj))
  show F (l₁.getD i d) (l₂.getD i e)
  rw[ak,ak,af hl,e1]
  exact e2
theorem cm {H H':Hp}{tb:Addr}{pos:Pos}{qual:Str}(t:Tb H tb pos qual)(s:aD H H'):Tb H' tb pos qual:=by
 obtain⟨ps,h1,h2,h3⟩:=t
 refine⟨ps,s _ _ h1,h2,?_⟩
 rcases h3 with h3|⟨c',h3,h4⟩
 ·exact .inl h3
 ·exact .inr ⟨c',h3,s _ _ h4⟩
theorem vm {H:Hp}{tb q C:Addr}{pos:Pos}{qual:Str}{fs:List (Str×V)}(t:Tb H tb pos qual)(h:eF H q C fs):q∉[tb]:=fun z=>by
 obtain⟨ps,h1,_⟩:=t
 obtain⟨dx,e⟩:=h
 rw[ao.mp z,h1] at e
 cases e
def Oe:Pos:=⟨69,30,69,66⟩
def fk (rows:List Rw)(aL:Str)(i:Nat):List Nat:=(List.range i).filter fun k=>decide ((rows.getD k default).aL=aL)
def zv (A:ej)(tb:Addr):Sp:=fun vs H Q _=> ∃(pb:Addr) (iw:List Addr) (S:Bk) (aL:Str),vs=[.ref pb,.str aL]/\H pb=some (.lst (iw.map V.ref))/\gw H A.d9 fF S.aH iw/\S.aH.length < 64/\Tb H tb Oe ((("bills_in_order":Str) ++ ".<locals>.") ++ "<lambda>")/\
 ∀D qs H',Frame [tb] H H'->Tb H' tb Oe ((("bills_in_order":Str) ++ ".<locals>.") ++ "<lambda>")->H D=none->H' D=some (.lst (qs.map V.ref))->iH A H' S (inOrder S.aH aL (·.b)) qs->Q (.ref D) H'
theorem kJ:a0 ["bills","who","theirs"] ["bills","who"] (az (top 17)):=⟨rfl,rfl,rfl,by decide +kernel,rfl,by decide +kernel,by decide +kernel⟩
theorem lF (T:Txt K mg){A:ej}{tb:Addr}(G:jy K mg A)(DL:pX K mg "bills_in_order" (top 17) tb)(KB:K.In base)(BM:BMain mg base):fb P w K mg base "bills_in_order" 2 ["bills","who"] (zv A tb):=by
 refine DL.kN (k:=1) KB kJ (fun _ _ _ _ _ _ us hl=>match us,hl with|[_,_],_=>rfl) (fun vs H Q E h=>?_) (fun f c A' outer s H vs Q E CH hr h=>?_)
 ·obtain⟨pb,iw,S,aL,rfl,_⟩:=h
  rfl
 ·obtain⟨pb,iw,S,aL,rfl,RT,hO,hl,VS,k⟩:=h
  have nd:=kJ.nd
  refine⟨_,(ai (lh (i:=2) nd rfl (Or.inl rfl) (tn:=["bill"]) (cn:=["who"]) (cj:=[1]) rfl (iz (by rfl) (by decide +kernel) rfl (by decide +kernel) (by rfl) [(".0",.local),("bill",.local),("who",.cell)] (by rfl) (by decide +kernel) rfl (Or.inl rfl) (Or.inl rfl)) (dG (pv 0)) (fun _ _ _ _=>(bD (i:=0) (show(["bill","who"]:List Str).Nodup by decide +kernel) rfl (Or.inl rfl))) (fun _ _ _ _=>(mO (aZ cX (fC (K:=K) rfl (pv 0) rfl) (pv 1) (ba _)))) (fun _ _ _ _=>(pv 0)))
(au (bf (uU (N:=["bill"]) (y:="bill") rfl T.qA BM rfl CH (hr.mono (by decide)) ⟨rfl,rfl,rfl,by decide +kernel,rfl,by decide +kernel,by decide +kernel⟩ (fun _ _ _ _ _=>(dD (aa (fC (K:=K) rfl (pv 0) rfl) (aa (fC (K:=K) rfl (pv 0) rfl) aj)))) (pv 2))))),?_⟩
  refine⟨_,rfl,pb,rfl,⟨_,bP.of RT⟩,?_⟩
  refine eN (K:=K) (a:=pb) (xs:=iw.map V.ref) (fun D i σ H6=>H D=none/\ ∃(v:Option V) (qs:List Addr),σ=[v,some (.str aL)]/\aD H H6/\H6 D=some (.lst (qs.map V.ref))/\iH A H6 S (fk S.aH aL i) qs) (fun D hD=>⟨hD,none,[],rfl,aD.new hD,ag,.nil⟩) (fun D i σ H6 _ ⟨_,_,_,_,t3,_⟩=>bP.of (t3 _ _ RT)) ?_ ?_
  ·rintro D i x σ H6 hx ⟨hD,v,qs,rfl,t3,gA,hB⟩
   rw[aB] at hx
   obtain⟨q,hq,rfl⟩:=bG.mp hx
   have hi:i < S.aH.length:=by have:=(av.mp hq).1; have:=hO.1; omega
   obtain⟨dq,zU⟩:=(hO.2 i q hq).same t3
   have hql:qs.length<=100:=by
    have e1:=aQ hB
    have e2:(fk S.aH aL i).length<=i:=a8 (a7 _ _) (by rw[dF]; exact aC _)
    omega
   have qS:fk S.aH aL (i + 1)=fk S.aH aL i ++ (if decide ((S.aH.getD i default).aL=aL)=true then[i] else[]):=by
    unfold fk
    rw[oo,ko]
    congr 1
    by_cases z:decide ((S.aH.getD i default).aL=aL)=true
    ·rw[bg z,cI (p:=fun k=>decide ((S.aH.getD k default).aL=aL)) z]; rfl
    ·rw[aV z,gT (p:=fun k=>decide ((S.aH.getD k default).aL=aL)) z]; rfl
   refine⟨_,rfl,q,_,dq,_,_,rfl,zU,G.eu,G.kF,CD _ _,_,rfl,rfl,_,rfl,cL (fun z=>?_) (fun z=>?_)⟩
   ·rw[bg (aE (tX z))] at qS
    refine⟨_,rfl,_,gA,bB (by rw[ae]; omega),hD,_,qs ++ [q],rfl,t3.dm hD,by rw[ag,aR]; rfl,?_⟩
    rw[qS]
    have kp: ∀{y C:Addr} {gs:List (Str×V)},eF H6 y C gs->eF (upd H6 D (.lst (qs.map V.ref ++ [V.ref q]))) y C gs:=fun{y C gs} ⟨dy,ey⟩=>⟨dy,by rw[aA (mF ey gA (by intro w; cases w))]; exact ey⟩
    exact cQ (Paired.ir hB fun _ _ w=>kp w) (kp ⟨dq,zU⟩)
   ·rw[aV (by rw[bA (qN z)]; exact aY),b9] at qS
    refine⟨hD,_,qs,rfl,t3,gA,?_⟩
    rw[qS]
    exact hB
  ·rintro D σ H6 hD ⟨_,v,qs,rfl,t3,gA,hB⟩
   have Ll:(iw.map V.ref).length=S.aH.length:=by rw[ae]; exact hO.1
   rw[Ll] at hB
   have Gp:=cm VS t3
   have hth:gu S.aH aL (·.b)=(fk S.aH aL S.aH.length).map fun k=>((S.bl k).b,k):=rfl
   have Ef: ∀x∈fk S.aH aL S.aH.length,x < S.aH.length:=fun x hx=>dC.mp (eX.mp hx).1
   have KY:(fk S.aH aL S.aH.length).Nodup:=mv.filter _
   have VT:(fk S.aH aL S.aH.length).length<=S.aH.length:=a8 (a7 _ _) (by rw[dF]; exact aC _)
   have jU:inOrder S.aH aL (·.b)=(eE ((fk S.aH aL S.aH.length).map fun k=>((S.bl k).b,k))).map (·.2):=rfl
   generalize fk S.aH aL S.aH.length=ks at hB Ef KY VT jU
   have VU:=aQ hB
   have IW:((ks.map fun k=>((S.bl k).b,k)):List (Int×Nat)).length=ks.length:=ae _
   have qT: ∀x∈(ks.map fun k=>((S.bl k).b,k)),x.2 < 1000:=fun x hx=>by
    obtain⟨k0,O8,rfl⟩:=bN.mp hx
    have:=Ef k0 O8
    show k0 < 1000
    omega
   have hnd:((ks.map fun k=>((S.bl k).b,k)).map (·.2)).Nodup:=by
    rw[eZ]
    have e:((fun x:Int×Nat=>x.2) ∘ fun k=>((S.bl k).b,k))=id:=rfl
    rw[e,zY]
    exact KY
   have tL: ∀i,i < ks.length->(ks.map fun k=>((S.bl k).b,k)).getD i (0,0)=((S.bl (ks.getD i 0)).b,ks.getD i 0):=fun i hi=>getD_map (fun k=>((S.bl k).b,k)) ks i 0 (0,0) hi
   generalize VW:(ks.map fun k=>((S.bl k).b,k))=th at IW qT hnd tL jU
   refine⟨_,rfl,D,qs.map V.ref,th.map Ee,tw,rfl,bP.of gA,by rw[ae]; omega,by rw[ae,ae]; omega,Gp,(fun t ht=>?_),(fun t ht u hu=>?_),fun i hi H2 fr R hR=>?_,fun D2 p H2 hp le fr Fq GY Gg=>?_⟩
   ·obtain⟨x,_,rfl⟩:=bN.mp ht
    simp[Ee]
   ·obtain⟨x,xA,rfl⟩:=bN.mp ht
    obtain⟨y,y4,rfl⟩:=bN.mp hu
    exact qB (qT x xA) (qT y y4) (fun e=>⟨rfl,lD hnd xA y4 e⟩) rfl
   ·rw[ae] at hi
    have vD:i < ks.length:=by omega
    obtain⟨q,e1,e2⟩:=bR hB (af vD)
    have VX:(qs.map V.ref).getD i .eI= .ref q:=by rw[ak,aB,e1]; rfl
    have VY:ks.getD i 0=ks[i]:=by rw[ak,af vD]; rfl
    obtain⟨dq,zU⟩:=e2.frame fr (vm Gp e2)
    rw[qR (by omega),tL i vD,VY] at hR
    rw[VX]
    exact⟨_,rfl,q,_,dq,_,_,rfl,zU,G.eu,G.mY,Iw _ _,_,rfl,q,_,dq,_,_,rfl,zU,G.eu,G.eU,lx _ _,(by show 2<=sizeLine; decide),fun p np=>hR p np⟩
   ·rw[ae] at hp
    have iL: ∀i∈p,i < ks.length:=fun i hi=>by have:=dC.mp (hp.mem_iff.mp hi); omega
    have Of:=vk qT hnd (by rw[IW,VU]; exact hp) le
    have JR:iH A H2 S ks qs:=Paired.ir hB fun _ _ w=>w.frame fr (vm Gp w)
    refine k D2 (p.map fun i=>qs.getD i tb) H2 ((t3.frame).tr fr) Fq (t3.free GY) ?_ ?_
    ·rw[Gg,eZ]
     congr 2
     apply gS
     intro i hi
     exact getD_map V.ref qs i tb .eI (by have:=iL i hi; omega)
    ·rw[jU,← Of,eZ]
     have e:p.map ((fun x:Int×Nat=>x.2) ∘ fun i=>th.getD i (0,0))=p.map fun i=>ks.getD i 0:=gS fun i hi=>by
      show(th.getD i (0,0)).2=_
      rw[tL i (iL i hi)]
     rw[e]
     exact nH JR 0 tb p iL
def Og:Pos:=⟨72,30,72,72⟩
def zw (A:ej)(tb:Addr):Sp:=fun vs H Q _=> ∃(pb:Addr) (iw:List Addr) (S:Bk) (aL:Str),vs=[.ref pb,.str aL]/\H pb=some (.lst (iw.map V.ref))/\gw H A.eo fj S.credits iw/\S.credits.length < 64/\Tb H tb Og ((("credits_in_order":Str) ++ ".<locals>.") ++ "<lambda>")/\
 ∀D qs H',Frame [tb] H H'->Tb H' tb Og ((("credits_in_order":Str) ++ ".<locals>.") ++ "<lambda>")->H D=none->H' D=some (.lst (qs.map V.ref))->gK A H' S (inOrder S.credits aL (·.a)) qs->Q (.ref D) H'
theorem ju:a0 ["all_credits","who","theirs"] ["all_credits","who"] (az (top 18)):=⟨rfl,rfl,rfl,by decide +kernel,rfl,by decide +kernel,by decide +kernel⟩
theorem j8 (T:Txt K mg){A:ej}{tb:Addr}(G:jy K mg A)(DL:pX K mg "credits_in_order" (top 18) tb)(KB:K.In base)(BM:BMain mg base):fb P w K mg base "credits_in_order" 2 ["all_credits","who"] (zw A tb):=by
 refine DL.kN (k:=1) KB ju (fun _ _ _ _ _ _ us hl=>match us,hl with|[_,_],_=>rfl) (fun vs H Q E h=>?_) (fun f c A' outer s H vs Q E CH hr h=>?_)
 ·obtain⟨pb,iw,S,aL,rfl,_⟩:=h
  rfl
 ·obtain⟨pb,iw,S,aL,rfl,RT,hO,hl,VS,k⟩:=h
  have nd:=ju.nd
  refine⟨_,(ai (lh (i:=2) nd rfl (Or.inl rfl) (tn:=["credit"]) (cn:=["who"]) (cj:=[1]) rfl (iz (by rfl) (by decide +kernel) rfl (by decide +kernel) (by rfl) [(".0",.local),("credit",.local),("who",.cell)] (by rfl) (by decide +kernel) rfl (Or.inl rfl) (Or.inl rfl)) (dG (pv 0)) (fun _ _ _ _=>(bD (i:=0) (show(["credit","who"]:List Str).Nodup by decide +kernel) rfl (Or.inl rfl))) (fun _ _ _ _=>(mO (aZ cX (fC (K:=K) rfl (pv 0) rfl) (pv 1) (ba _)))) (fun _ _ _ _=>(pv 0)))
(au (bf (uU (N:=["credit"]) (y:="credit") rfl T.qA BM rfl CH (hr.mono (by decide)) ⟨rfl,rfl,rfl,by decide +kernel,rfl,by decide +kernel,by decide +kernel⟩ (fun _ _ _ _ _=>(dD (aa (fC (K:=K) rfl (pv 0) rfl) (aa (fC (K:=K) rfl (pv 0) rfl) aj)))) (pv 2))))),?_⟩
  refine⟨_,rfl,pb,rfl,⟨_,bP.of RT⟩,?_⟩
  refine eN (K:=K) (a:=pb) (xs:=iw.map V.ref) (fun D i σ H6=>H D=none/\ ∃(v:Option V) (qs:List Addr),σ=[v,some (.str aL)]/\aD H H6/\H6 D=some (.lst (qs.map V.ref))/\gK A H6 S (fk S.credits aL i) qs) (fun D hD=>⟨hD,none,[],rfl,aD.new hD,ag,.nil⟩) (fun D i σ H6 _ ⟨_,_,_,_,t3,_⟩=>bP.of (t3 _ _ RT)) ?_ ?_
  ·rintro D i x σ H6 hx ⟨hD,v,qs,rfl,t3,gA,hB⟩
   rw[aB] at hx
   obtain⟨q,hq,rfl⟩:=bG.mp hx
   have hi:i < S.credits.length:=by have:=(av.mp hq).1; have:=hO.1; omega
   obtain⟨dq,zU⟩:=(hO.2 i q hq).same t3
   have hql:qs.length<=100:=by
    have e1:=aQ hB
    have e2:(fk S.credits aL i).length<=i:=a8 (a7 _ _) (by rw[dF]; exact aC _)
    omega
   have qS:fk S.credits aL (i + 1)=fk S.credits aL i ++ (if decide ((S.credits.getD i default).aL=aL)=true then[i] else[]):=by
    unfold fk
    rw[oo,ko]
    congr 1
    by_cases z:decide ((S.credits.getD i default).aL=aL)=true
    ·rw[bg z,cI (p:=fun k=>decide ((S.credits.getD k default).aL=aL)) z]; rfl
    ·rw[aV z,gT (p:=fun k=>decide ((S.credits.getD k default).aL=aL)) z]; rfl
   refine⟨_,rfl,q,_,dq,_,_,rfl,zU,G.dv,G.kQ,Iy _ _,_,rfl,rfl,_,rfl,cL (fun z=>?_) (fun z=>?_)⟩
   ·rw[bg (aE (tX z))] at qS
    refine⟨_,rfl,_,gA,bB (by rw[ae]; omega),hD,_,qs ++ [q],rfl,t3.dm hD,by rw[ag,aR]; rfl,?_⟩
    rw[qS]
    have kp: ∀{y C:Addr} {gs:List (Str×V)},eF H6 y C gs->eF (upd H6 D (.lst (qs.map V.ref ++ [V.ref q]))) y C gs:=fun{y C gs} ⟨dy,ey⟩=>⟨dy,by rw[aA (mF ey gA (by intro w; cases w))]; exact ey⟩
    exact cQ (Paired.ir hB fun _ _ w=>kp w) (kp ⟨dq,zU⟩)
   ·rw[aV (by rw[bA (qN z)]; exact aY),b9] at qS
    refine⟨hD,_,qs,rfl,t3,gA,?_⟩
    rw[qS]
    exact hB
  ·rintro D σ H6 hD ⟨_,v,qs,rfl,t3,gA,hB⟩
   have Ll:(iw.map V.ref).length=S.credits.length:=by rw[ae]; exact hO.1
   rw[Ll] at hB
   have Gp:=cm VS t3
   have hth:gu S.credits aL (·.a)=(fk S.credits aL S.credits.length).map fun k=>((S.cr k).a,k):=rfl
   have Ef: ∀x∈fk S.credits aL S.credits.length,x < S.credits.length:=fun x hx=>dC.mp (eX.mp hx).1
   have KY:(fk S.credits aL S.credits.length).Nodup:=mv.filter _
   have VT:(fk S.credits aL S.credits.length).length<=S.credits.length:=a8 (a7 _ _) (by rw[dF]; exact aC _)
   have jU:inOrder S.credits aL (·.a)=(eE ((fk S.credits aL S.credits.length).map fun k=>((S.cr k).a,k))).map (·.2):=rfl
   generalize fk S.credits aL S.credits.length=ks at hB Ef KY VT jU
   have VU:=aQ hB
   have IW:((ks.map fun k=>((S.cr k).a,k)):List (Int×Nat)).length=ks.length:=ae _
   have qT: ∀x∈(ks.map fun k=>((S.cr k).a,k)),x.2 < 1000:=fun x hx=>by
    obtain⟨k0,O8,rfl⟩:=bN.mp hx
    have:=Ef k0 O8
    show k0 < 1000
    omega
   have hnd:((ks.map fun k=>((S.cr k).a,k)).map (·.2)).Nodup:=by
    rw[eZ]
    have e:((fun x:Int×Nat=>x.2) ∘ fun k=>((S.cr k).a,k))=id:=rfl
    rw[e,zY]
    exact KY
   have tL: ∀i,i < ks.length->(ks.map fun k=>((S.cr k).a,k)).getD i (0,0)=((S.cr (ks.getD i 0)).a,ks.getD i 0):=fun i hi=>getD_map (fun k=>((S.cr k).a,k)) ks i 0 (0,0) hi
   generalize VW:(ks.map fun k=>((S.cr k).a,k))=th at IW qT hnd tL jU
   refine⟨_,rfl,D,qs.map V.ref,th.map Ee,tw,rfl,bP.of gA,by rw[ae]; omega,by rw[ae,ae]; omega,Gp,(fun t ht=>?_),(fun t ht u hu=>?_),fun i hi H2 fr R hR=>?_,fun D2 p H2 hp le fr Fq GY Gg=>?_⟩
   ·obtain⟨x,_,rfl⟩:=bN.mp ht
    simp[Ee]
   ·obtain⟨x,xA,rfl⟩:=bN.mp ht
    obtain⟨y,y4,rfl⟩:=bN.mp hu
    exact qB (qT x xA) (qT y y4) (fun e=>⟨rfl,lD hnd xA y4 e⟩) rfl
   ·rw[ae] at hi
    have vD:i < ks.length:=by omega
    obtain⟨q,e1,e2⟩:=bR hB (af vD)
    have VX:(qs.map V.ref).getD i .eI= .ref q:=by rw[ak,aB,e1]; rfl
    have VY:ks.getD i 0=ks[i]:=by rw[ak,af vD]; rfl
    obtain⟨dq,zU⟩:=e2.frame fr (vm Gp e2)
    rw[qR (by omega),tL i vD,VY] at hR
    rw[VX]
    exact⟨_,rfl,q,_,dq,_,_,rfl,zU,G.dv,G.jb,Iz _ _,_,rfl,q,_,dq,_,_,rfl,zU,G.dv,G.eP,nW _ _,(by show 2<=sizeLine; decide),fun p np=>hR p np⟩
   ·rw[ae] at hp
    have iL: ∀i∈p,i < ks.length:=fun i hi=>by have:=dC.mp (hp.mem_iff.mp hi); omega
    have Of:=vk qT hnd (by rw[IW,VU]; exact hp) le
    have JR:gK A H2 S ks qs:=Paired.ir hB fun _ _ w=>w.frame fr (vm Gp w)
    refine k D2 (p.map fun i=>qs.getD i tb) H2 ((t3.frame).tr fr) Fq (t3.free GY) ?_ ?_
    ·rw[Gg,eZ]
     congr 2
     apply gS
     intro i hi
     exact getD_map V.ref qs i tb .eI (by have:=iL i hi; omega)
    ·rw[jU,← Of,eZ]
     have e:p.map ((fun x:Int×Nat=>x.2) ∘ fun i=>th.getD i (0,0))=p.map fun i=>ks.getD i 0:=gS fun i hi=>by
      show(th.getD i (0,0)).2=_
      rw[tL i (iL i hi)]
     rw[e]
     exact nH JR 0 tb p iL
theorem vn {A:ej}{H H':Hp}{pw tb:Addr}{S:Bk}{f:eO}(h:dP A H pw S f)(ht: ∃ps,H tb=some (.nQ ps))(fr:Frame [tb] H H'):dP A H' pw S f:=by
 obtain⟨ps,ht⟩:=ht
 have kl: ∀{a:Addr} {xs:List V},H a=some (.lst xs)->H' a=some (.lst xs):=fun{a xs} e=>fr _ _ (fun z=>by rw[ao.mp z,ht] at e; cases e) e
 have ki: ∀{a C dx:Addr} {gs:List (Str×V)},H a=some (.ins C dx gs)->H' a=some (.ins C dx gs):=fun{a C dx gs} e=>fr _ _ (fun z=>by rw[ao.mp z,ht] at e; cases e) e
 have kt:cW H H':=fun a xs e=>fr _ _ (fun z=>by rw[ao.mp z,ht] at e; cases e) e
 obtain⟨dw,hw⟩:=h.obj
 obtain⟨ms,m1,m2⟩:=h.hm
 exact⟨⟨dw,ki hw⟩,kl h.hb,kl h.hc,kl h.hl,kl h.hf,⟨ms,kl m1,m2.mono kt⟩,h.rb.keep fun _ _ _ e=>ki e,h.rc.keep fun _ _ _ e=>ki e,h.nd⟩
def l9 (H:Hp)(tb:Addr):Prop:=Tb H tb Oe ((("bills_in_order":Str) ++ ".<locals>.") ++ "<lambda>")
def mz (H:Hp)(tb:Addr):Prop:=Tb H tb Og ((("credits_in_order":Str) ++ ".<locals>.") ++ "<lambda>")
def C0 (A:ej)(tb:Addr):Sp:=fun vs H Q _=> ∃(pw:Addr) (S:Bk) (f:eO) (n:Nat) (aL:Str) (day:Int),vs=[.ref pw,.str aL,.int day]/\dP A H pw S f/\WF S n/\n<=60/\l9 H tb/\
 ∀D ms H',Frame [tb] H H'->l9 H' tb->H D=none->H' D=some (.lst ms)->iR H' (S.gW true aL day) ms->Q (.ref D) H'
def IX (A:ej)(tb:Addr):Sp:=fun vs H Q _=> ∃(pw:Addr) (S:Bk) (f:eO) (n:Nat) (aL:Str) (day:Int),vs=[.ref pw,.str aL,.int day]/\dP A H pw S f/\WF S n/\n<=60/\mz H tb/\
 ∀D ms H',Frame [tb] H H'->mz H' tb->H D=none->H' D=some (.lst ms)->iR H' (S.gW false aL day) ms->Q (.ref D) H'
theorem C1:a0 ["work","who","day"] ["work","who","day"] (az (top 36)):=⟨rfl,rfl,rfl,by decide +kernel,rfl,by decide +kernel,by decide +kernel⟩
theorem xS (T:Txt K mg){A:ej}{tb:Addr}(G:jy K mg A)(DL:pX K mg "bills_in_order" (top 17) tb)(KB:K.In base)(BM:BMain mg base):fb P w K mg base "owed_at" 5 ["work","who","day"] (C0 A tb):=by
 have i9:fb P w K mg base "bills_in_order" 2 ["bills","who"] (zv A tb):=lF T G DL KB BM
 have j9:fb P w K mg base "remaining_at" 4 ["work","told","place","day"] (vj A):=nG T G
 refine T.FL.kN (k:=4) C1 (fun _ _ _ _ _ _ us hl=>match us,hl with|[_,_,_],_=>rfl) (fun vs H Q E h=>?_) (fun f dh A' outer s H vs Q E hr h=>?_)
 ·obtain⟨pw,S,g,n,aL,day,rfl,_⟩:=h
  rfl
 ·obtain⟨pw,S,g,n,aL,day,rfl,hW,wf,hn,hT,k⟩:=h
  obtain⟨dw,hw⟩:=hW.obj
  refine⟨_,(au (bf (cM j9 (hr.mono (by decide)) rfl (aa (pv 0) (aa (cM i9 (hr.mono (by decide)) rfl (aa (cu (pv 0) rfl) (aa (pv 1) aj))) (aa ah (aa (pv 2) aj))))))),?_⟩
  refine⟨_,rfl,_,rfl,pw,_,dw,_,_,rfl,hw,G.bO,G.ee,ji g,_,rfl,g.pb,g.iw,S,aL,rfl,hW.hb,hW.rb,(by have:=wf.lb; omega),hT,fun D qs H1 fr GZ nD hD hB=>?_⟩
  have BW:=vn hW (let⟨ps,e,_⟩:=hT; ⟨ps,e⟩) fr
  have Ls:(inOrder S.aH aL (·.b)).length<=100:=by
   have e:(inOrder S.aH aL (·.b)).length=((List.range S.aH.length).filter fun k=>decide ((S.aH.getD k default).aL=aL)).length:=by
    unfold inOrder gu
    rw[ae,(dr _).length_eq,ae]
   have:=a7 (fun k=>decide ((S.aH.getD k default).aL=aL)) (List.range S.aH.length)
   rw[dF] at this
   have:=wf.lb
   omega
  refine⟨_,rfl,pw,D,S,g,n,true,day,inOrder S.aH aL (·.b),qs,rfl,BW,wf,(by have:=wf.lm; omega),hD,hB,Ls,fun D2 ms H2 s2 GY Gg hP=>?_⟩
  exact k D2 ms H2 (fr.dE s2) (cm GZ s2) (fr.free (fun z=>by
   obtain⟨ps,e,_⟩:=GZ
   rw[ao.mp z,e] at GY
   cases GY) GY) Gg hP
theorem C2:a0 ["work","who","day"] ["work","who","day"] (az (top 37)):=⟨rfl,rfl,rfl,by decide +kernel,rfl,by decide +kernel,by decide +kernel⟩
theorem Gq (T:Txt K mg){A:ej}{tb:Addr}(G:jy K mg A)(DL:pX K mg "credits_in_order" (top 18) tb)(KB:K.In base)(BM:BMain mg base):fb P w K mg base "free_at" 5 ["work","who","day"] (IX A tb):=by
 have hZ:fb P w K mg base "credits_in_order" 2 ["all_credits","who"] (zw A tb):=j8 T G DL KB BM
 have j9:fb P w K mg base "remaining_at" 4 ["work","told","place","day"] (vj A):=nG T G
 refine T.FN.kN (k:=4) C2 (fun _ _ _ _ _ _ us hl=>match us,hl with|[_,_,_],_=>rfl) (fun vs H Q E h=>?_) (fun f dh A' outer s H vs Q E hr h=>?_)
 ·obtain⟨pw,S,g,n,aL,day,rfl,_⟩:=h
  rfl
 ·obtain⟨pw,S,g,n,aL,day,rfl,hW,wf,hn,hT,k⟩:=h
  obtain⟨dw,hw⟩:=hW.obj
  refine⟨_,(au (bf (cM j9 (hr.mono (by decide)) rfl (aa (pv 0) (aa (cM hZ (hr.mono (by decide)) rfl (aa (cu (pv 0) rfl) (aa (pv 1) aj))) (aa ah (aa (pv 2) aj))))))),?_⟩
  refine⟨_,rfl,_,rfl,pw,_,dw,_,_,rfl,hw,G.bO,G.cU,hX g,_,rfl,g.pc,g.cps,S,aL,rfl,hW.hc,hW.rc,(by have:=wf.lc; omega),hT,fun D qs H1 fr GZ nD hD hB=>?_⟩
  have BW:=vn hW (let⟨ps,e,_⟩:=hT; ⟨ps,e⟩) fr
  have Ls:(inOrder S.credits aL (·.a)).length<=100:=by
   have e:(inOrder S.credits aL (·.a)).length=((List.range S.credits.length).filter fun k=>decide ((S.credits.getD k default).aL=aL)).length:=by
    unfold inOrder gu
    rw[ae,(dr _).length_eq,ae]
   have:=a7 (fun k=>decide ((S.credits.getD k default).aL=aL)) (List.range S.credits.length)
   rw[dF] at this
   have:=wf.lc
   omega
  refine⟨_,rfl,pw,D,S,g,n,false,day,inOrder S.credits aL (·.a),qs,rfl,BW,wf,(by have:=wf.lm; omega),hD,hB,Ls,fun D2 ms H2 s2 GY Gg hP=>?_⟩
  exact k D2 ms H2 (fr.dE s2) (cm GZ s2) (fr.free (fun z=>by
   obtain⟨ps,e,_⟩:=GZ
   rw[ao.mp z,e] at GY
   cases GY) GY) Gg hP
def Eo:Sp:=fun vs H Q _=> ∃(fX:Int) (pl:Addr) (bZ:List Int),vs=[.int fX,.ref pl]/\H pl=some (.tup (bZ.map V.int))/\bZ.length<=11/\ ∀H',aD H H'->Q (.int (L2.placeOf fX bZ:Int)) H'
theorem Bs:a0 ["late","limits"] ["late","limits"] (az (top 1)):=⟨rfl,rfl,rfl,by decide +kernel,rfl,by decide +kernel,by decide +kernel⟩
theorem C3 (T:Txt K mg):fb P w K mg base "place_of" 1 ["late","limits"] Eo:=by
 refine T.Cz.kN (k:=0) Bs (fun _ _ _ _ _ _ us hl=>match us,hl with|[_,_],_=>rfl) (fun vs H Q E h=>?_) (fun f dh A' outer s H vs Q E hr h=>?_)
 ·obtain⟨fX,pl,bZ,rfl,_⟩:=h
  rfl
 ·obtain⟨fX,pl,bZ,rfl,iL,CV,k⟩:=h
  refine⟨_,(ai (bX (aZ sh (pv 0) ah (ba _))
(au (bf ah))
bw)
(au (bf (aX dk ah (bq bp (by rfl) T.en bo (aa (gU (tn:=["limit"]) (cn:=["late"]) (cj:=[0]) rfl (iz (by rfl) (by decide +kernel) rfl (by decide +kernel) (by rfl) [(".0",.local),("limit",.local),("late",.cell)] (by rfl) (by decide +kernel) rfl (Or.inl rfl) (Or.inl rfl)) (Hb (pv 1)) (fun _ _ _ _=>(bD (i:=0) (show(["limit","late"]:List Str).Nodup by decide +kernel) rfl (Or.inl rfl))) (fun _ _ _ _=>(mO (aZ jN (pv 0) (pv 1) (ba _)))) (fun _ _ _ _=>(pv 0))) aj)))))),?_⟩
  refine⟨_,rfl,_,_,rfl,rfl,_,rfl,cL (fun z=>?_) (fun z=>?_)⟩
  ·have z':fX<=0:=aS z
   have e:L2.placeOf fX bZ=0:=bg z'
   have q:=k H (aD.refl _)
   rw[e] at q
   exact q
  have z': ¬ fX<=0:=fun q=>z (aE q)
  have e:L2.placeOf fX bZ=1 + (bZ.filter fun l=>decide (l < fX)).length:=aV z'
  refine⟨_,rfl,pl,rfl,⟨_,cG.of iL⟩,?_⟩
  refine Ar (K:=K) (a:=pl) (xs:=bZ.map V.int) (fun D' j σ H6=>H D'=none/\ ∃v,σ=[v,some (.int fX)]/\aD H H6/\H6 D'=some (.lst (((bZ.take j).filter fun l=>decide (l < fX)).map V.int))) (fun D' pK=>⟨pK,none,rfl,aD.new pK,ag⟩) (fun D' j σ H6 _ ⟨_,_,_,t3,_⟩=>cG.of (t3 _ _ iL)) ?_ ?_
  ·rintro D' j x σ H6 Eh ⟨pK,v,rfl,t3,gA⟩
   rw[aB] at Eh
   obtain⟨y,hy,rfl⟩:=bG.mp Eh
   have kX:=fB (fun l=>decide (l < fX)) hy
   have hlen:((bZ.take j).filter fun l=>decide (l < fX)).length<=100:=by
    have:=a7 (fun l=>decide (l < fX)) (bZ.take j)
    rw[bC] at this
    omega
   refine⟨_,rfl,_,rfl,_,_,rfl,rfl,_,rfl,cL (fun q=>?_) (fun q=>?_)⟩
   ·rw[bg q] at kX
    refine⟨_,rfl,_,gA,bB (by rw[ae]; omega),pK,_,rfl,t3.dm pK,?_⟩
    rw[ag,kX,aR]
    rfl
   ·rw[aV q,b9] at kX
    refine⟨pK,_,rfl,t3,?_⟩
    rw[kX]
    exact gA
  ·rintro D' σ H6 pK ⟨_,v,rfl,t3,gA⟩
   refine⟨D',_,rfl,.inl (bP.of gA),_,_,rfl,rfl,?_⟩
   have q:=k H6 t3
   rw[e] at q
   have e2:(1:Int) + ((((bZ.take (bZ.map V.int).length).filter fun l=>decide (l < fX)).map V.int).length:Int)=((1 + (bZ.filter fun l=>decide (l < fX)).length:Nat):Int):=by
    rw[ae,ae,bh]
    simp
   rw[← e2] at q
   exact q
def IZ (A:ej)(tb:Addr):Sp:=fun vs H Q _=> ∃(pw pl:Addr) (S:Bk) (f:eO) (n:Nat) (aL:Str) (day:Int) (bZ:List Int),vs=[.ref pw,.str aL,.int day,.ref pl]/\dP A H pw S f/\WF S n/\n<=60/\l9 H tb/\H pl=some (.tup (bZ.map V.int))/\bZ.length<=11/\
 ∀D H',Frame [tb] H H'->l9 H' tb->H D=none->H' D=some (.lst ((S.vU aL day bZ).map V.int))->Q (.ref D) H'
theorem vo:a0 ["work","who","day","limits","sums","number","left","place"] ["work","who","day","limits"] (az (top 41)):=⟨rfl,rfl,rfl,by decide +kernel,rfl,by decide +kernel,by decide +kernel⟩
theorem Gr (T:Txt K mg){A:ej}{tb:Addr}(G:jy K mg A)(DL:pX K mg "bills_in_order" (top 17) tb)(KB:K.In base)(BM:BMain mg base):fb P w K mg base "ages_at" 6 ["work","who","day","limits"] (IZ A tb):=by
 have rX:fb P w K mg base "owed_at" 5 ["work","who","day"] (C0 A tb):=xS T G DL KB BM
 have C4:fb P w K mg base "place_of" 1 ["late","limits"] Eo:=C3 T
 refine T.FO.kN (k:=5) vo (fun _ _ _ _ _ _ us hl=>match us,hl with|[_,_,_,_],_=>rfl) (fun vs H Q E h=>?_) (fun f dh A' outer s H vs Q E hr h=>?_)
 ·obtain⟨pw,pl,S,g,n,aL,day,bZ,rfl,_⟩:=h
  rfl
 ·obtain⟨pw,pl,S,g,n,aL,day,bZ,rfl,hW,wf,hn,hT,iL,CV,k⟩:=h
  have nd:=vo.nd
  refine⟨_,(ai (a9 (i:=4) nd rfl (Or.inl rfl) (aX ym (cf (aa ah aj)) (aX dk (bq bp (by rfl) T.en bo (aa (pv 3) aj)) ah)))
(ai (fe bS rfl (dG (cM rX (hr.mono (by decide)) rfl (aa (pv 0) (aa (pv 1) (aa (pv 2) aj))))) (iW rfl (cw (bD (i:=5) nd rfl (Or.inl rfl)) (cw (bD (i:=6) nd rfl (Or.inl rfl)) gH)))
(ai (a9 (i:=7) nd rfl (Or.inl rfl) (cM C4 (hr.mono (by decide)) rfl (aa (aX ff (pv 2) (cu (aJ a6 (cu (pv 0) rfl) (pv 5) (fun _ _=>rfl)) rfl)) (aa (pv 3) aj))))
(au (lN (aX dk (aJ a6 (pv 4) (pv 7) (fun _ _=>rfl)) (pv 6)) (o8 (pv 4) (pv 7) set_list)))))
(au (bf (pv 4))))),?_⟩
  refine⟨(by show 1<=sizeLine; decide),fun p9 n9=>?_⟩
  have t9:=aD.new (o:= .lst [V.int 0]) n9
  have IT:(bZ.map V.int).length=bZ.length:=ae _
  refine⟨_,rfl,pl,_,rfl,.inr (cG.of (t9 _ _ iL)),_,_,rfl,rfl,p9,_,_,rfl,rfl,ag,by omega,by omega,?_,fun ps Gj=>?_⟩
  ·show 1 * _<=sizeLine
   rw[IT,eK]
   omega
  have e2:(((bZ.map V.int).length:Int) + 2).toNat=bZ.length + 2:=by rw[IT]; omega
  rw[e2,En]
  have zh:=aD.new (o:= .lst ((List.replicate (bZ.length + 2) (0:Int)).map V.int)) Gj
  have CW:=t9.trans zh
  have mh:upd (upd H p9 (.lst [V.int 0])) ps (.lst ((List.replicate (bZ.length + 2) (0:Int)).map V.int)) ps=some (.lst ((List.replicate (bZ.length + 2) (0:Int)).map V.int)):=ag
  have Gk:H ps=none:=t9.free Gj
  generalize upd (upd H p9 (.lst [V.int 0])) ps (.lst ((List.replicate (bZ.length + 2) (0:Int)).map V.int))=H1 at CW mh
  have GZ:=cm hT CW
  refine⟨_,rfl,_,rfl,_,rfl,pw,S,g,n,aL,day,rfl,hW.same CW,wf,hn,GZ,fun D ms H2 fr Fq nD hD hP=>?_⟩
  refine⟨D,rfl,⟨_,bP.of hD⟩,?_⟩
  have nQ: ∃q,H1 tb=some (.nQ q):=let⟨q,e,_⟩:=GZ; ⟨q,e⟩
  have off: ∀{a:Addr} {o:HO},H1 a=some o->(∀q,o≠ .nQ q)->H2 a=some o:=fun{a o} e hq=>fr _ _ (fun z=>by
   obtain⟨q,eq⟩:=nQ
   rw[ao.mp z,eq] at e
   exact hq q (aF e).symm) e
  have zx:=vn (hW.same CW) nQ fr
  have Oh:=off mh (fun _ z=>by cases z)
  have Oi:=off (CW _ _ iL) (fun _ z=>by cases z)
  have fr0:Frame [tb] H H2:=fr.l5 CW
  have tJ: ∀t∈S.gW true aL day,t.1 < S.aH.length:=fun t ht=>xO (aU:=true) ht
  have VQ:S.vU aL day bZ=(S.gW true aL day).foldl (fun l t=>kC l (L2.placeOf (day - (S.bl t.1).b) bZ) t.2) (List.replicate (bZ.length + 2) 0):=rfl
  rw[VQ] at k
  generalize S.gW true aL day=ts at hP tJ k
  have VR:D≠ps:=fun e=>by rw[e,mh] at nD; cases nD
  refine gj (K:=K) (a:=D) (xs:=ms) (fun i σ H3=> ∃(l:List Int) (x5 x6 x7:Option V),σ=[some (.ref pw),some (.str aL),some (.int day),some (.ref pl),some (.ref ps),x5,x6,x7]/\Frame [ps] H2 H3/\H3 ps=some (.lst (l.map V.int))/\l.length=bZ.length + 2/\l=(ts.take i).foldl (fun l t=>kC l (L2.placeOf (day - (S.bl t.1).b) bZ) t.2) (List.replicate (bZ.length + 2) 0))
   ⟨_,none,none,none,rfl,Frame.refl,Oh,List.length_replicate,rfl⟩ (fun i σ H3 _ ⟨_,_,_,_,_,f3,_⟩=>bP.of (f3 _ _ (by simpa using VR) hD)) ?_ ?_
  ·rintro i x σ H3 hx ⟨l,x5,x6,x7,rfl,f3,HE,IU,he⟩
   have TB: ∀{a:Addr} {o:HO},H2 a=some o->(∀q,o≠ .lst q)->H3 a=some o:=fun{a o} e hq=>f3 _ _ (fun z=>by
    rw[ao.mp z,Oh] at e
    exact hq _ (aF e).symm) e
   have hi:i < ts.length:=by have:=(av.mp hx).1; have:=aQ hP; omega
   have oA:=af hi
   obtain⟨v,hv,p,rfl,hp⟩:=bR hP oA
   rw[hx] at hv
   obtain rfl:x= .ref p:=aF hv
   have hm:=tJ _ (bQ hi)
   rw[jI (fun l t=>kC l (L2.placeOf (day - (S.bl t.1).b) bZ) t.2) ts _ oA,← he]
   generalize ts[i]=t at hp hm
   obtain⟨dw,hw⟩:=zx.obj
   obtain⟨q,q1,dq,q2⟩:=zx.rb.get hm
   have VZ:g.pb∉[ps]:=fun z=>by
    have e:=hW.hb
    rw[ao.mp z,Gk] at e
    cases e
   have Pm:=TB hp (fun _ z=>by cases z)
   have hw3:=TB hw (fun _ z=>by cases z)
   have hq3:=TB q2 (fun _ z=>by cases z)
   have V0:=TB Oi (fun _ z=>by cases z)
   refine⟨p,_,rfl,cG.of Pm,rfl,_,_,rfl,_,_,rfl,rfl,?_⟩
   refine⟨_,rfl,_,rfl,pw,_,dw,_,_,rfl,hw3,G.bO,G.ee,ji g,_,rfl,g.pb,_,_,.ref q,rfl,rfl,bP.of (f3 _ _ VZ zx.hb),cO (by rw[aB,q1]; rfl),q,_,dq,_,_,rfl,hq3,G.eu,G.mY,Iw _ _,_,_,rfl,rfl,_,rfl,_,pl,bZ,rfl,V0,CV,fun H4 s4=>?_⟩
   have Yc:=vh (day - (S.bl t.1).b) bZ
   have Pk:=s4 _ _ HE
   refine⟨_,rfl,_,rfl,ps,_,_,.int (l.getD (L2.placeOf (day - (S.bl t.1).b) bZ) 0),rfl,rfl,bP.of Pk,pJ (by show L2.placeOf (day - (S.bl t.1).b) bZ < _; omega),_,rfl,_,_,rfl,rfl,?_⟩
   refine⟨_,rfl,_,rfl,ps,_,_,L2.placeOf (day - (S.bl t.1).b) bZ,rfl,rfl,Pk,qJ (by rw[ae]; show L2.placeOf (day - (S.bl t.1).b) bZ < _; omega),?_⟩
   refine⟨kC l (L2.placeOf (day - (S.bl t.1).b) bZ) t.2,_,_,_,rfl,(f3.dE s4).tr (Frame.upd (by simp)),?_,?_,rfl⟩
   ·rw[ag]
    unfold kC
    rw[GK]
   ·rw[xP]; exact IU
  ·rintro σ H3 ⟨l,x5,x6,x7,rfl,f3,HE,IU,he⟩
   rw[← aQ hP,bh] at he
   rw[he] at HE
   refine⟨_,rfl,k ps H3 (fun b o hb e=>f3 b o (fun z=>by rw[ao.mp z,Gk] at e; cases e) (fr0 b o hb e)) ?_ Gk HE⟩
   obtain⟨q,e1,Qz,e3⟩:=Fq
   have kx: ∀{a:Addr} {o:HO},H2 a=some o->(∀q,o≠ .lst q)->H3 a=some o:=fun{a o} e hq=>f3 _ _ (fun z=>by
    rw[ao.mp z,Oh] at e
    exact hq _ (aF e).symm) e
   refine⟨q,kx e1 (fun _ z=>by cases z),Qz,?_⟩
   rcases e3 with e3|⟨c',e3,e4⟩
   ·exact .inl e3
   ·exact .inr ⟨c',e3,kx e4 (fun _ z=>by cases z)⟩
def eW (pk pw:Addr):List (Str×V):=[("kept",.ref pk),("work",.ref pw)]
theorem ua (pk pw:Addr):(eW pk pw).lookup ("kept":Str)=some (V.ref pk):=by rfl
theorem ub (pk pw:Addr):(eW pk pw).lookup ("work":Str)=some (V.ref pw):=by rfl
theorem I9 (pk pw:Addr):eJ "work" (.ref pw) (eJ "kept" (.ref pk) [])=eW pk pw:=by rfl
def Ep (A:ej):Sp:=fun vs H Q _=> ∃(x dx:Addr),vs=[.ref x]/\H x=some (.ins A.book dx [])/\ ∀pk pw f H',Frame [x] H H'->H' x=some (.ins A.book dx (eW pk pw))->H' pk=some (.dK [])->dP A H' pw Bk.new f->H pk=none->H pw=none->(∀b∈f.fp,H b=none)->pk∉f.fp->Q .eI H'
theorem Lu:a0 ["self"] ["self"] (az (mem 29 0)):=⟨rfl,rfl,rfl,by decide +kernel,rfl,by decide +kernel,by decide +kernel⟩
theorem Oj {A:ej}(G:jy K mg A):tF P w K mg base "Book" A.book 3 ["self"] (Ep A):=by
 have C5:tF P w K mg base "Work" A.work 1 ["self"] (zf A):=IP G
 refine Ld (k:=2) G.Lb G.La Lu (fun _ _ _ _ _ _ us hl=>match us,hl with|[_],_=>rfl) (fun vs H Q E h=>?_) (fun f dh A' outer s H vs Q E hr h=>?_)
 ·obtain⟨x,dx,rfl,_⟩:=h
  rfl
 ·obtain⟨x,dx,rfl,hx,k⟩:=h
  refine⟨_,(ai (fS (pv 0) An rfl) (au (fS (pv 0) (IA C5 (hr.mono (by decide)) rfl) rfl))),?_⟩
  intro pk nk
  have ne1:pk≠x:=(aN hx nk).symm
  refine⟨_,rfl,x,_,dx,_,rfl,aD.new nk _ _ hx,G.eV,G.gI,lt1000 A8 (by decide),?_⟩
  have F1:Frame [x] H (upd (upd H pk (.dK [])) x (.ins A.book dx (eJ "kept" (.ref pk) []))):=(aD.new nk).frame.tr (Frame.upd (by simp))
  have g1:upd (upd H pk (.dK [])) x (.ins A.book dx (eJ "kept" (.ref pk) [])) x=some (.ins A.book dx (eJ "kept" (.ref pk) [])):=ag
  have k1:upd (upd H pk (.dK [])) x (.ins A.book dx (eJ "kept" (.ref pk) [])) pk=some (.dK []):=by rw[aA ne1,ag]
  generalize upd (upd H pk (.dK [])) x (.ins A.book dx (eJ "kept" (.ref pk) []))=H1 at F1 g1 k1 ⊢
  intro xw V3 Lv Ol ne
  have s2:=lC (C:=A.work) (fs:=[]) Lv Ol ne
  refine⟨xw,V3,rfl,ag,fun g H3 Kd W3 nf=>⟨rfl,?_⟩⟩
  have V4:x≠xw:=aN g1 Lv
  have nek:pk≠xw:=aN k1 Lv
  have g3:=Kd _ _ (by simpa using V4) (s2 _ _ g1)
  have k3:=Kd _ _ (by simpa using nek) (s2 _ _ k1)
  refine⟨_,rfl,x,_,dx,_,rfl,g3,G.eV,G.gJ,lt1000 (pl A8) (by decide),?_⟩
  rw[I9]
  have fw: ∀b∈g.fp,H1 b=none:=fun b hb=>s2.free (nf b hb)
  have off: ∀b,H1 b=none->b≠x->H b=none:=fun b e n=>F1.free (by simpa using n) e
  have xf:x∉g.fp:=fun z=>by have:=fw x z; rw[g1] at this; cases this
  have RU:dP A (upd H3 x (.ins A.book dx (eW pk xw))) xw Bk.new g:=by
   obtain⟨dw,hw⟩:=W3.obj
   obtain⟨ms,m1,m2⟩:=W3.hm
   have nx: ∀p∈g.fp,p≠x:=fun p hp z=>xf (z▸hp)
   refine⟨⟨dw,by rw[aA V4.symm]; exact hw⟩,by rw[aA (nx _ (by simp[eO.fp]))]; exact W3.hb,by rw[aA (nx _ (by simp[eO.fp]))]; exact W3.hc,by rw[aA (nx _ (by simp[eO.fp]))]; exact W3.hl,by rw[aA (nx _ (by simp[eO.fp]))]; exact W3.hf,⟨ms,by rw[aA (nx _ (by simp[eO.fp]))]; exact m1,?_⟩,?_,?_,W3.nd⟩
   ·cases m2
    exact .nil
   ·exact⟨W3.rb.1,fun i p e=>by have:=(av.mp e).1; have h0:=W3.rb.1; rw[h0] at this; exact absurd this (iK _)⟩
   ·exact⟨W3.rc.1,fun i p e=>by have:=(av.mp e).1; have h0:=W3.rc.1; rw[h0] at this; exact absurd this (iK _)⟩
  refine k pk xw g _ ?_ ag (by rw[aA ne1]; exact k3) RU nk (off xw Lv V4.symm) (fun b hb=>off b (fw b hb) (fun z=>xf (z▸hb))) (fun z=>by have:=fw pk z; rw[k1] at this; cases this)
  intro b o hb e
  have bx:b≠x:=by simpa using hb
  rw[aA bx]
  have e1:=F1 b o hb e
  exact Kd b o (by simpa using aN e1 Lv) (s2 b o e1)
def zy (r:List Bool):Dt:= .lst (r.map Dt.bl)
def Ja (t:Nat×Nat×Int):Dt:= .tup [.int t.1,.int t.2.1,.int t.2.2]
theorem ig (fs ls:List Int)(al:List (List Bool)): ∀i,(ck fs ls al i).2.length<=i
 |0=>aC _
 |i + 1=>by
  have:=ig fs ls al i
  unfold ck
  split
  ·omega
  ·rw[aK]; show _ + 1<=_; omega
def V5:Option Nat->V
 |none=> .eI
 |some j=> .int j
def pN (br:List (Key×V))(j:Nat):Bool:=(gi br (Sum.inl (j:Int):Key)).isSome
def Er (K:PySem.W.Frag):Sp:=fun vs H Q _=> ∃(f:Int) (pl:Addr) (ls:List Int) (pr:Addr) (row:List Bool) (pt:Addr) (br:List (Key×V)),vs=[.int f,.ref pl,.ref pr,.ref pt]/\bP K H pl (ls.map V.int)/\bP K H pr (row.map V.bl)/\row.length=ls.length/\H pt=some (.dK br)/\
 ∀H',aD H H'->Q (V5 (hJ f ls row (pN br))) H'
def nI (H:Hp)(ms:List (Nat×Nat×Int))(vs:List V):Prop:=Paired (fun(t:Nat×Nat×Int) v=> ∃p,v= .ref p/\H p=some (.tup [.int t.1,.int t.2.1,.int t.2.2])) ms vs
theorem nI.mono {H H':Hp}{ms:List (Nat×Nat×Int)}{vs:List V}(h:nI H ms vs)(k: ∀b xs,H b=some (.tup xs)->H' b=some (.tup xs)):nI H' ms vs:=
 Paired.ir h fun _ _ ⟨p,e,q⟩=>⟨p,e,k _ _ q⟩
theorem nI.rp {H:Hp}: ∀{ms:List (Nat×Nat×Int)} {vs:List V},nI H ms vs->g8 H (ms.map Ja) vs
 |_,_,.nil=>dA.mpr rfl
 |_,_,.cons ⟨p,e,q⟩ t=>bW.mpr ⟨_,_,rfl,e▸fM q (bW.mpr ⟨_,_,rfl,dM.mpr rfl,bW.mpr ⟨_,_,rfl,dM.mpr rfl,bW.mpr ⟨_,_,rfl,dM.mpr rfl,dA.mpr rfl⟩⟩⟩),nI.rp t⟩
theorem Lw {H:Hp}{p:Addr}{o:HO}{br:List (Key×V)}(h:H p=some (.dK br)): ∀b xs,H b=some (.tup xs)->upd H p o b=some (.tup xs):=fun b xs e=>by
 rw[aA (mF e h (by intro z; cases z))]; exact e
theorem nJ:a0 ["free","lefts","fitting","taken","bill","left"] ["free","lefts","fitting","taken"] (az (top 21)):=⟨rfl,rfl,rfl,by decide +kernel,rfl,by decide +kernel,by decide +kernel⟩
theorem wJ (T:Txt K mg):fb P w K mg base "first_alike" 1 ["free","lefts","fitting","taken"] (Er K):=by
 refine T.vZ.kN (k:=0) nJ (fun _ _ _ _ _ _ us hl=>match us,hl with|[_,_,_,_],_=>rfl) (fun vs H Q E h=>?_) (fun f dh A outer s H vs Q E hr h=>?_)
 ·obtain⟨f,pl,ls,pr,row,pt,br,rfl,_⟩:=h
  rfl
 ·obtain⟨fr,pl,ls,pr,row,pt,br,rfl,hL,hR,As,hT,k⟩:=h
  have hu:=jO hr
  have nd:=nJ.nd
  refine⟨_,(ai (fe bS rfl (qp rfl T.jh (aa (pv 1) aj)) (iW rfl (cw (bD (i:=4) nd rfl (Or.inl rfl)) (cw (bD (i:=5) nd rfl (Or.inl rfl)) gH)))
(au (bX (PW.pt (pw_and (gg (aJ a6 (pv 2) (pv 4) (fun _ _=>rfl))) (pw_and (aZ cX (pv 5) (pv 0) (ba _)) (pw_and1 (ye (Fh hu (pv 4) (pv 3)))))))
(au (bf (pv 4)))
bw)))
(au (bf B8))),?_⟩
  refine⟨_,rfl,pl,rfl,⟨_,hL⟩,?_⟩
  refine mP (K:=K) (a:=pl) (xs:=ls.map V.int) (fun i σ H2=> ∃x4 x5,σ=[some (.int fr),some (.ref pl),some (.ref pr),some (.ref pt),x4,x5]/\aD H H2/\ ∀j,j < i->(row.getD j false && decide (ls.getD j 0=fr) && !pN br j)=false)
   ⟨none,none,rfl,aD.refl _,fun j hj=>absurd hj (iK _)⟩ (fun i σ H2 _ ⟨_,_,_,s2,_⟩=>s2.seq hL) ?_ ?_
  ·rintro i x p σ H2 hx hp ⟨x4,x5,rfl,s2,RV⟩
   have hi:i < ls.length:=by have:=(av.mp hx).1; rwa [ae] at this
   rw[aB,af hi] at hx
   obtain rfl:V.int ls[i]=x:=aF hx
   have s3:aD H2 (upd H2 p (.tup [.int i,.int ls[i]])):=aD.new hp
   refine⟨p,_,rfl,cG.of ag,rfl,_,_,rfl,_,_,rfl,rfl,?_⟩
   have s4:=s2.trans s3
   generalize upd H2 p (.tup [.int i,.int ls[i]])=H3 at s4 ⊢
   have RW:i < row.length:=by omega
   have Om:ls.getD i 0=ls[i]:=by rw[ak,af hi]; rfl
   have RX:row.getD i false=row[i]:=by rw[ak,af RW]; rfl
   have next:(row.getD i false && decide (ls.getD i 0=fr) && !pN br i)=false-> ∀j,j < i + 1->(row.getD j false && decide (ls.getD j 0=fr) && !pN br j)=false:=fun e j hj=>by
    rcases Nat.lt_succ_iff_lt_or_eq.mp hj with h|h
    ·exact RV j h
    ·rw[h]; exact e
   refine⟨_,rfl,_,rfl,pr,_,_,.bl row[i],rfl,rfl,s4.seq hR,cO (by rw[aB,af RW]; rfl),_,rfl,?_⟩
   refine cL (fun c1=>?_) (fun c1=>cg ?_)
   ·refine⟨_,rfl,_,rfl,rfl,_,rfl,cL (fun c2=>?_) (fun c2=>cg ?_)⟩
    ·have RY:ls[i]=fr:=by have:=aS c2; injection this
     refine⟨_,rfl,_,rfl,pt,_,rfl,mx.k (k:=Sum.inl (i:Int)) (s4 _ _ hT),_,rfl,cL (fun c3=>?_) (fun c3=>?_)⟩
     ·
      refine⟨_,rfl,?_⟩
      have e:hJ fr ls row (pN br)=some i:=by
       unfold hJ
       refine List.find?_range_eq_some.mpr ⟨?_,dC.mpr hi,fun j hj=>?_⟩
       ·rw[RX,Om,c1,RY]
        simpa[pN] using c3
       ·rw[RV j hj]; rfl
      have q:=k H3 s4
      rw[e] at q
      exact q
     ·refine⟨_,_,rfl,s4,next ?_⟩
      have c3':pN br i=true:=by
       unfold pN
       cases h:(gi br (Sum.inl (i:Int):Key)).isSome with
       |true=>rfl
       |false=>rw[h] at c3; exact absurd rfl c3
      rw[c3']; simp
    ·have RY: ¬ ls[i]=fr:=fun z=>c2 (aE (by rw[z]))
     refine⟨_,_,rfl,s4,next ?_⟩
     rw[Om,decide_eq_false RY]; simp
   ·refine⟨_,_,rfl,s4,next ?_⟩
    rw[RX,Bool.eq_false_iff.mpr c1]; rfl
  ·rintro σ H2 ⟨x4,x5,rfl,s2,RV⟩
   rw[ae] at RV
   have e:hJ fr ls row (pN br)=none:=by
    unfold hJ
    refine List.find?_eq_none.mpr fun j hj=>?_
    rw[RV j (dC.mp hj)]
    exact aY
   have q:=k H2 s2
   rw[e] at q
   exact q
def Bt (K:PySem.W.Frag):Sp:=fun vs H Q _=> ∃(pf pl pa:Addr) (fs ls:List Int) (al:List (List Bool)),vs=[.ref pf,.ref pl,.ref pa]/\bP K H pf (fs.map V.int)/\bP K H pl (ls.map V.int)/\Rp H (.lst (al.map zy)) (.ref pa)/\
 fs.length<=1000/\al.length=fs.length/\(∀r∈al,r.length=ls.length)/\ ∀v H',aD H H'->Rp H' (.lst ((ck fs ls al fs.length).2.map Ja)) v->Q v H'
theorem Bu:a0 ["frees","lefts","allowed","taken","made","credit","free","bill"] ["frees","lefts","allowed"] (az (top 20)):=⟨rfl,rfl,rfl,by decide +kernel,rfl,by decide +kernel,by decide +kernel⟩
theorem Lx (T:Txt K mg):fb P w K mg base "alike" 2 ["frees","lefts","allowed"] (Bt K):=by
 have wK:fb P w K mg base "first_alike" 1 ["free","lefts","fitting","taken"] (Er K):=wJ T
 refine T.KZ.kN (k:=1) Bu (fun _ _ _ _ _ _ us hl=>match us,hl with|[_,_,_],_=>rfl) (fun vs H Q E h=>?_) (fun f dh A outer s H vs Q E hr h=>?_)
 ·obtain⟨pf,pl,pa,fs,ls,al,rfl,_⟩:=h
  rfl
 ·obtain⟨pf,pl,pa,fs,ls,al,rfl,hF,hL,hA,hf1,UY,Jb,k⟩:=h
  have hu:=jO hr
  have nd:=Bu.nd
  obtain⟨pa',refs,e0,V6,Ly⟩:=iZ.mp hA
  cases e0
  refine⟨_,(ai (a9 (i:=3) nd rfl (Or.inl rfl) An)
(ai (a9 (i:=4) nd rfl (Or.inl rfl) (cf aj))
(ai (fe bS rfl (qp rfl T.jh (aa (pv 0) aj)) (iW rfl (cw (bD (i:=5) nd rfl (Or.inl rfl)) (cw (bD (i:=6) nd rfl (Or.inl rfl)) gH)))
(ai (a9 (i:=7) nd rfl (Or.inl rfl) (cM wK (hr.mono (by decide)) rfl (aa (pv 6) (aa (pv 1) (aa (aJ a6 (pv 2) (pv 5) (fun _ _=>rfl)) (aa (pv 3) aj))))))
(au (bX (ye (Kb (pv 7)))
(ai (DE hu (pv 3) (pv 7) k8 rfl)
(au (bU (fz aM aG aI b0 (pv 4) (aa (dD (aa (pv 5) (aa (pv 7) (aa (pv 6) aj)))) aj)))))
bw))))
(au (bf (pv 4)))))),?_⟩
  intro pt nt
  refine⟨bF _,fun pm nm=>?_⟩
  have s1:aD H (upd H pt (.dK [])):=aD.new nt
  have s2:aD H (upd (upd H pt (.dK [])) pm (.lst [])):=s1.trans (aD.new nm)
  have V7:H pm=none:=s1.free nm
  have Mt:pt≠pm:=aN ag nm
  refine⟨_,rfl,pf,rfl,⟨_,s2.seq hF⟩,?_⟩
  refine mP (K:=K) (a:=pf) (xs:=fs.map V.int) (fun i σ H2=> ∃x5 x6 x7 br ms,σ=[some (.ref pf),some (.ref pl),some (.ref pa),some (.ref pt),some (.ref pm),x5,x6,x7]/\aD H H2/\H2 pt=some (.dK br)/\(∀j:Nat,pN br j=(ck fs ls al i).1 j)/\br.length<=i/\H2 pm=some (.lst ms)/\nI H2 (ck fs ls al i).2 ms)
   ⟨none,none,none,[],[],rfl,s2,by rw[aA Mt]; exact ag,fun j=>rfl,aC _,ag,.nil⟩ (fun i σ H2 _ ⟨_,_,_,_,_,_,s3,_⟩=>s3.seq hF) ?_ ?_
  ·rintro i x p σ H2 hx hp ⟨x5,x6,x7,br,ms,rfl,s3,hT,nR,Ef,hM,Es⟩
   have hi:i < fs.length:=by have:=(av.mp hx).1; rwa [ae] at this
   rw[aB,af hi] at hx
   obtain rfl:V.int fs[i]=x:=aF hx
   have s4:aD H2 (upd H2 p (.tup [.int i,.int fs[i]])):=aD.new hp
   refine⟨p,_,rfl,cG.of ag,rfl,_,_,rfl,_,_,rfl,rfl,?_⟩
   have s5:=s3.trans s4
   have Mu:=s4 _ _ hT
   have qU:=s4 _ _ hM
   have C6:=Es.mono (f9 s4)
   generalize upd H2 p (.tup [.int i,.int fs[i]])=H3 at s5 Mu qU C6 ⊢
   clear s4 hp
   have RZ:i < al.length:=by omega
   have g0:(al.map zy)[i]? =some (zy al[i]):=by rw[aB,af RZ]; rfl
   obtain⟨rv,TC,TF⟩:=Ly.get g0
   obtain⟨pr,V8,e1,Lj,xK⟩:=iZ.mp TF
   subst e1
   have hrx:V8=al[i].map V.bl:=by
    clear Lj TC TF
    generalize al[i]=r at xK
    induction r generalizing V8 with
    |nil=>exact dA.mp xK
    |cons b r ih=>
     obtain⟨v,rest,e,h1,h2⟩:=bW.mp xK
     rw[e,qr.mp h1,ih rest h2]; rfl
   subst hrx
   have V9:fs.getD i 0=fs[i]:=by rw[ak,af hi]; rfl
   have Wa:al.getD i []=al[i]:=by rw[ak,af RZ]; rfl
   refine⟨_,rfl,_,rfl,_,rfl,_,rfl,pa,_,_,.ref pr,rfl,rfl,bP.of (s5 _ _ V6),cO TC,_,rfl,fs[i],pl,ls,pr,al[i],pt,br,rfl,s5.seq hL,bP.of (s5 _ _ Lj),Jb _ (bQ _),Mu,fun H4 s6=>?_⟩
   have etk:pN br=(ck fs ls al i).1:=funext nR
   have sf:ck fs ls al (i + 1)=match hJ fs[i] ls al[i] (pN br) with
     |none=>ck fs ls al i
     |some j=>(fun x=>x == j || (ck fs ls al i).1 x,(ck fs ls al i).2 ++ [(i,j,fs[i])]):=by
    rw[etk,← V9,← Wa]; rfl
   cases hb:hJ fs[i] ls al[i] (pN br) with
   |none=>
    rw[hb] at sf
    refine⟨_,rfl,_,rfl,cg ?_⟩
    refine⟨_,_,_,br,ms,rfl,s5.trans s6,s6 _ _ Mu,?_,by omega,s6 _ _ qU,?_⟩
    ·intro j; rw[sf]; exact nR j
    ·rw[sf]; exact C6.mono (f9 s6)
   |some j=>
    rw[hb] at sf
    refine⟨_,rfl,_,rfl,fJ ?_⟩
    have Pn:=s6 _ _ Mu
    have vp:=s6 _ _ qU
    refine⟨_,rfl,_,rfl,pt,_,rfl,Fe.k (k:=Sum.inl (j:Int)) Pn (bB (by omega)),?_⟩
    have Jc:upd H4 pt (.dK (putK br (Sum.inl (j:Int):Key) (.bl true))) pm=some (.lst ms):=by rw[aA Mt.symm]; exact vp
    have GV:=(C6.length)
    have Pp:=ig fs ls al i
    have s7:aD H (upd H4 pt (.dK (putK br (Sum.inl (j:Int):Key) (.bl true)))):=(s5.trans s6).dm nt
    have C7:nI (upd H4 pt (.dK (putK br (Sum.inl (j:Int):Key) (.bl true)))) (ck fs ls al i).2 ms:=(C6.mono (f9 s6)).mono (Lw Pn)
    have Gp:upd H4 pt (.dK (putK br (Sum.inl (j:Int):Key) (.bl true))) pt=some (.dK (putK br (Sum.inl (j:Int):Key) (.bl true))):=ag
    generalize upd H4 pt (.dK (putK br (Sum.inl (j:Int):Key) (.bl true)))=H5 at Jc s7 C7 Gp ⊢
    refine⟨_,rfl,.inl ⟨rfl,_,bP.of Jc⟩,_,rfl,_,rfl,_,rfl,(by show 3<=sizeLine; decide),fun p8 n8=>?_⟩
    have s8:aD H5 (upd H5 p8 (.tup [.int i,.int j,.int fs[i]])):=aD.new n8
    refine⟨pm,ms,_,rfl,rfl,s8 _ _ Jc,bB (by omega),?_⟩
    refine⟨_,_,_,putK br (Sum.inl (j:Int):Key) (.bl true),ms ++ [.ref p8],rfl,(s7.trans s8).dm V7,?_,fun x=>?_,?_,ag,?_⟩
    ·rw[aA Mt]; exact s8 _ _ Gp
    ·rw[sf]
     unfold pN
     rw[Hx]
     by_cases hx:x=j
     ·subst hx; simp
     ·have: ¬ (Sum.inl (x:Int):Key)=Sum.inl (j:Int):=fun z=>hx (by injection z with z; omega)
      rw[aV this]
      have h2:=nR x
      unfold pN at h2
      rw[h2]
      simp[hx]
    ·have:=kA br (Sum.inl (j:Int):Key) (.bl true)
     omega
    ·rw[sf]
     exact cQ ((C7.mono (f9 s8)).mono (dN (s8 _ _ Jc))) ⟨p8,rfl,dN (s8 _ _ Jc) _ _ ag⟩
  ·rintro σ H2 ⟨x5,x6,x7,br,ms,rfl,s3,hT,nR,Ef,hM,Es⟩
   rw[ae] at Es
   refine⟨_,rfl,?_⟩
   exact k _ _ s3 (jx hM Es.rp)
def cY (fs ls:List Int)(al:List (List Bool))(i:Nat):List (Nat×Int):=(bK (fs.getD i 0) (cF fs ls al i).1 (al.getD i []) (cF fs ls al i).1.length).2
theorem Bv (fs ls:List Int)(al:List (List Bool))(i:Nat):(cF fs ls al (i + 1)).1=dR (cF fs ls al i).1 (cY fs ls al i):=rfl
theorem sP (fs ls:List Int)(al:List (List Bool))(i:Nat):(cF fs ls al (i + 1)).2=(cF fs ls al i).2 ++ (cY fs ls al i).map fun x=>(i,x.1,x.2):=rfl
def Oo (H:Hp)(ps:List (Nat×Int))(vs:List V):Prop:=Paired (fun(t:Nat×Int) v=> ∃p,v= .ref p/\H p=some (.tup [.int t.1,.int t.2])) ps vs
theorem Oo.mono {H H':Hp}{ps:List (Nat×Int)}{vs:List V}(h:Oo H ps vs)(k: ∀b xs,H b=some (.tup xs)->H' b=some (.tup xs)):Oo H' ps vs:=
 Paired.ir h fun _ _ ⟨p,e,q⟩=>⟨p,e,k _ _ q⟩
theorem gv (f:Int)(l:List Int)(row:List Bool): ∀j,(bK f l row j).2.length<=j
 |0=>aC _
 |j + 1=>by
  have:=gv f l row j
  rw[bK]
  split
  ·rw[aK]; show _ + 1<=_; omega
  ·omega
def Et (K:PySem.W.Frag):Sp:=fun vs H Q _=> ∃(f:Int) (pl:Addr) (ls:List Int) (pr:Addr) (row:List Bool),vs=[.int f,.ref pl,.ref pr]/\bP K H pl (ls.map V.int)/\bP K H pr (row.map V.bl)/\row.length=ls.length/\ls.length<=100/\
 ∀(q:Addr) (ms:List V) (H':Hp),aD H H'->H q=none->H' q=some (.lst ms)->Oo H' (bK f ls row ls.length).2 ms->Q (.ref q) H'
theorem sQ:a0 ["free","lefts","fitting","still_free","parts","bill","left","amount"] ["free","lefts","fitting"] (az (top 23)):=⟨rfl,rfl,rfl,by decide +kernel,rfl,by decide +kernel,by decide +kernel⟩
theorem C8 (T:Txt K mg):fb P w K mg base "parts_of" 1 ["free","lefts","fitting"] (Et K):=by
 refine T.CB.kN (k:=0) sQ (fun _ _ _ _ _ _ us hl=>match us,hl with|[_,_,_],_=>rfl) (fun vs H Q E h=>?_) (fun f dh A outer s H vs Q E hr h=>?_)
 ·obtain⟨f,pl,ls,pr,row,rfl,_⟩:=h
  rfl
 ·obtain⟨fr,pl,ls,pr,row,rfl,hL,hR,As,Rt,k⟩:=h
  have hu:=jO hr
  have nd:=sQ.nd
  refine⟨_,(ai (a9 (i:=3) nd rfl (Or.inl rfl) (pv 0))
(ai (a9 (i:=4) nd rfl (Or.inl rfl) (cf aj))
(ai (fe bS rfl (qp rfl T.jh (aa (pv 1) aj)) (iW rfl (cw (bD (i:=5) nd rfl (Or.inl rfl)) (cw (bD (i:=6) nd rfl (Or.inl rfl)) gH)))
(ai (a9 (i:=7) nd rfl (Or.inl rfl) (bq (rE rfl) (by rfl) T.Io boot_min (aa (pv 3) (aa (pv 6) aj))))
(au (bX (PW.pt (pw_and (gg (aJ a6 (pv 2) (pv 5) (fun _ _=>rfl))) (pw_and1 (aZ iQ (pv 7) ah (ba _)))))
(ai (bU (fz aM aG aI b0 (pv 4) (aa (dD (aa (pv 5) (aa (pv 7) aj))) aj)))
(au (a9 (i:=3) nd rfl (Or.inl rfl) (aX ff (pv 3) (pv 7)))))
bw))))
(au (bf (pv 4)))))),?_⟩
  refine⟨_,rfl,?_⟩
  refine⟨bF _,fun q nq=>?_⟩
  have s1:aD H (upd H q (.lst [])):=aD.new nq
  refine⟨_,rfl,pl,rfl,⟨_,s1.seq hL⟩,?_⟩
  refine mP (K:=K) (a:=pl) (xs:=ls.map V.int) (fun i σ H2=> ∃(x5 x6 x7:Option V) (ms:List V),σ=[some (.int fr),some (.ref pl),some (.ref pr),some (.int (bK fr ls row i).1),some (.ref q),x5,x6,x7]/\aD H H2/\H2 q=some (.lst ms)/\Oo H2 (bK fr ls row i).2 ms)
   ⟨none,none,none,[],rfl,s1,ag,.nil⟩ (fun i σ H2 _ ⟨_,_,_,_,_,s2,_⟩=>s2.seq hL) ?_ ?_
  ·rintro i x p σ H2 hx hp ⟨x5,x6,x7,ms,rfl,s2,hM,hP⟩
   have hi:i < ls.length:=by have:=(av.mp hx).1; rwa [ae] at this
   rw[aB,af hi] at hx
   obtain rfl:V.int ls[i]=x:=aF hx
   have s3:aD H2 (upd H2 p (.tup [.int i,.int ls[i]])):=aD.new hp
   refine⟨p,_,rfl,cG.of ag,rfl,_,_,rfl,_,_,rfl,rfl,?_⟩
   have s4:=s2.trans s3
   have Pq:=s3 _ _ hM
   have Lq:=hP.mono (f9 s3)
   generalize upd H2 p (.tup [.int i,.int ls[i]])=H3 at s4 Pq Lq ⊢
   have RW:i < row.length:=by omega
   have Om:ls.getD i 0=ls[i]:=getD_at hi
   have RX:row.getD i false=row[i]:=getD_at RW
   have hlen:ms.length<=i:=by have:=hP.length; have:=gv fr ls row i; omega
   refine⟨_,rfl,_,rfl,_,_,rfl,?_⟩
   have em:(if ls[i] < (bK fr ls row i).1 then ls[i] else(bK fr ls row i).1)=iN (bK fr ls row i).1 (ls.getD i 0):=by rw[Om]; rfl
   rw[em]
   have sf:bK fr ls row (i + 1)=if row.getD i false=true/\0 < iN (bK fr ls row i).1 (ls.getD i 0) then((bK fr ls row i).1 - iN (bK fr ls row i).1 (ls.getD i 0),(bK fr ls row i).2 ++ [(i,iN (bK fr ls row i).1 (ls.getD i 0))]) else bK fr ls row i:=by rw[bK]
   generalize iN (bK fr ls row i).1 (ls.getD i 0)=am at sf ⊢
   have no: ¬ (row.getD i false=true/\0 < am)-> ∃(x5 x6 x7:Option V) (ms:List V),[some (.int fr),some (.ref pl),some (.ref pr),some (.int (bK fr ls row i).1),some (.ref q),some (V.int i),some (V.int ls[i]),some (V.int am)]=[some (.int fr),some (.ref pl),some (.ref pr),some (.int (bK fr ls row (i + 1)).1),some (.ref q),x5,x6,x7]/\aD H H3/\H3 q=some (.lst ms)/\Oo H3 (bK fr ls row (i + 1)).2 ms:=fun c=>by
    rw[sf,aV c]
    exact⟨_,_,_,ms,rfl,s4,Pq,Lq⟩
   refine⟨_,rfl,_,rfl,pr,_,_,.bl row[i],rfl,rfl,s4.seq hR,cO (by rw[aB,af RW]; rfl),_,rfl,?_⟩
   refine cL (fun c1=>?_) (fun c1=>cg ?_)
   ·refine⟨_,rfl,_,_,rfl,rfl,_,rfl,cL (fun c2=>?_) (fun c2=>?_)⟩
    ·have RY:0 < am:=aS c2
     rw[bg ⟨by rw[RX]; exact c1,RY⟩] at sf
     refine⟨_,rfl,.inl ⟨rfl,_,bP.of Pq⟩,_,rfl,_,rfl,(by show 2<=sizeLine; decide),fun p8 n8=>?_⟩
     have s8:aD H3 (upd H3 p8 (.tup [.int i,.int am])):=aD.new n8
     refine⟨q,ms,_,rfl,rfl,s8 _ _ Pq,bB (by omega),?_⟩
     refine⟨_,rfl,_,rfl,_,_,rfl,rfl,?_⟩
     refine⟨_,_,_,ms ++ [.ref p8],by rw[sf]; rfl,(s4.trans s8).dm nq,ag,?_⟩
     rw[sf]
     exact cQ ((Lq.mono (f9 s8)).mono (dN (s8 _ _ Pq))) ⟨p8,rfl,dN (s8 _ _ Pq) _ _ ag⟩
    ·exact no fun z=>c2 (aE z.2)
   ·exact no fun z=>c1 (by rw[← RX]; exact z.1)
  ·rintro σ H2 ⟨x5,x6,x7,ms,rfl,s2,hM,hP⟩
   rw[ae] at hP
   refine⟨_,rfl,?_⟩
   exact k _ _ _ s2 nq hM hP
theorem pO (f:Int)(l:List Int)(row:List Bool): ∀j,∀x∈(bK f l row j).2,x.1 < j
 |0,x,hx=>by cases hx
 |j + 1,x,hx=>by
  rw[bK] at hx
  split at hx
  ·rcases bL.mp hx with hx|hx
   ·have:=pO f l row j x hx; omega
   ·rw[ao] at hx; subst hx; exact fZ _
  ·have:=pO f l row j x hx; omega
theorem Bw (fs ls:List Int)(al:List (List Bool)): ∀i,(cF fs ls al i).2.length<=i * ls.length
 |0=>by show 0<=_; omega
 |i + 1=>by
  have:=Bw fs ls al i
  have h2:=gv (fs.getD i 0) (cF fs ls al i).1 (al.getD i []) (cF fs ls al i).1.length
  rw[sP,aK,ae,vH]
  unfold cY
  rw[jF] at h2 ⊢
  omega
def Bx (K:PySem.W.Frag):Sp:=fun vs H Q _=> ∃(pf pl pa:Addr) (fs ls:List Int) (al:List (List Bool)),vs=[.ref pf,.ref pl,.ref pa]/\bP K H pf (fs.map V.int)/\bP K H pl (ls.map V.int)/\Rp H (.lst (al.map zy)) (.ref pa)/\
 fs.length<=63/\ls.length<=63/\al.length=fs.length/\(∀r∈al,r.length=ls.length)/\ ∀(pm:Addr) (ms:List V) (H':Hp),aD H H'->H' pm=some (.lst ms)->nI H' (cF fs ls al fs.length).2 ms->Q (.ref pm) H'
theorem Eu {H:Hp}: ∀(r:List Bool) {xs:List V},g8 H (r.map Dt.bl) xs->xs=r.map V.bl
 |[],_,h=>dA.mp h
 |b :: r,_,h=>by
  obtain⟨v,rest,e,h1,h2⟩:=bW.mp h
  rw[e,qr.mp h1,Eu r h2]; rfl
theorem Oq {H:Hp}{al:List (List Bool)}{refs:List V}(h:g8 H (al.map zy) refs){i:Nat}(hi:i < al.length): ∃pr,refs[i]? =some (.ref pr)/\H pr=some (.lst (al[i].map V.bl)):=by
 have g0:(al.map zy)[i]? =some (zy al[i]):=by rw[aB,af hi]; rfl
 obtain⟨rv,TC,TF⟩:=h.get g0
 obtain⟨pr,V8,e1,Lj,xK⟩:=iZ.mp TF
 rw[Eu _ xK] at Lj
 exact⟨pr,by rw[TC,e1],Lj⟩
theorem oQ:a0 ["frees","lefts","allowed","still_left","made","credit","free","parts","bill","amount"] ["frees","lefts","allowed"] (az (top 22)):=⟨rfl,rfl,rfl,by decide +kernel,rfl,by decide +kernel,by decide +kernel⟩
theorem zz (T:Txt K mg):fb P w K mg base "shared_out" 2 ["frees","lefts","allowed"] (Bx K):=by
 have C9:fb P w K mg base "parts_of" 1 ["free","lefts","fitting"] (Et K):=C8 T
 refine T.yC.kN (k:=1) oQ (fun _ _ _ _ _ _ us hl=>match us,hl with|[_,_,_],_=>rfl) (fun vs H Q E h=>?_) (fun f dh A outer s H vs Q E hr h=>?_)
 ·obtain⟨pf,pl,pa,fs,ls,al,rfl,_⟩:=h
  rfl
 ·obtain⟨pf,pl,pa,fs,ls,al,rfl,hF,hL,hA,hf1,Rt,UY,Jb,k⟩:=h
  have hu:=jO hr
  have nd:=oQ.nd
  obtain⟨pa',refs,e0,V6,Ly⟩:=iZ.mp hA
  cases e0
  refine⟨_,(ai (a9 (i:=3) nd rfl (Or.inl rfl) (f7 qo (by rfl) T.rQ boot_list (aa (pv 1) aj)))
(ai (a9 (i:=4) nd rfl (Or.inl rfl) (cf aj))
(ai (fe bS rfl (qp rfl T.jh (aa (pv 0) aj)) (iW rfl (cw (bD (i:=5) nd rfl (Or.inl rfl)) (cw (bD (i:=6) nd rfl (Or.inl rfl)) gH)))
(ai (a9 (i:=7) nd rfl (Or.inl rfl) (cM C9 (hr.mono (by decide)) rfl (aa (pv 6) (aa (pv 3) (aa (aJ a6 (pv 2) (pv 5) (fun _ _=>rfl)) aj)))))
(au (fe bS rfl (dG (pv 7)) (iW rfl (cw (bD (i:=8) nd rfl (Or.inl rfl)) (cw (bD (i:=9) nd rfl (Or.inl rfl)) gH)))
(ai (lN (aX ff (aJ a6 (pv 3) (pv 8) (fun _ _=>rfl)) (pv 9)) (o8 (pv 3) (pv 8) set_list))
(au (bU (fz aM aG aI b0 (pv 4) (aa (dD (aa (pv 5) (aa (pv 8) (aa (pv 9) aj)))) aj)))))))))
(au (bf (pv 4)))))),?_⟩
  refine⟨_,rfl,pl,_,rfl,.inl hL,fun q nq=>?_⟩
  refine⟨bF _,fun pm nm=>?_⟩
  have s1:aD H (upd H q (.lst (ls.map V.int))):=aD.new nq
  have s2:aD H (upd (upd H q (.lst (ls.map V.int))) pm (.lst [])):=s1.trans (aD.new nm)
  have V7:H pm=none:=s1.free nm
  have Wb:q≠pm:=aN ag nm
  refine⟨_,rfl,pf,rfl,⟨_,s2.seq hF⟩,?_⟩
  refine mP (K:=K) (a:=pf) (xs:=fs.map V.int) (fun i σ H2=> ∃(x5 x6 x7 x8 x9:Option V) (ms:List V),σ=[some (.ref pf),some (.ref pl),some (.ref pa),some (.ref q),some (.ref pm),x5,x6,x7,x8,x9]/\aD H H2/\H2 q=some (.lst ((cF fs ls al i).1.map V.int))/\H2 pm=some (.lst ms)/\nI H2 (cF fs ls al i).2 ms)
   ⟨none,none,none,none,none,[],rfl,s2,by rw[aA Wb]; exact ag,ag,.nil⟩ (fun i σ H2 _ ⟨_,_,_,_,_,_,_,s3,_⟩=>s3.seq hF) ?_ ?_
  ·rintro i x p σ H2 hx hp ⟨x5,x6,x7,x8,x9,ms,rfl,s3,hQ,hM,Es⟩
   have hi:i < fs.length:=by have:=(av.mp hx).1; rwa [ae] at this
   rw[aB,af hi] at hx
   obtain rfl:V.int fs[i]=x:=aF hx
   have s4:aD H2 (upd H2 p (.tup [.int i,.int fs[i]])):=aD.new hp
   refine⟨p,_,rfl,cG.of ag,rfl,_,_,rfl,_,_,rfl,rfl,?_⟩
   have s5:=s3.trans s4
   have TH:=s4 _ _ hQ
   have qU:=s4 _ _ hM
   have C6:=Es.mono (f9 s4)
   generalize upd H2 p (.tup [.int i,.int fs[i]])=H3 at s5 TH qU C6 ⊢
   clear s4 hp
   have RZ:i < al.length:=by omega
   obtain⟨pr,Wc,Wd⟩:=Oq Ly RZ
   have V9:fs.getD i 0=fs[i]:=getD_at hi
   have Wa:al.getD i []=al[i]:=getD_at RZ
   have CV:=jF fs ls al i
   have Ot:cY fs ls al i=(bK fs[i] (cF fs ls al i).1 al[i] (cF fs ls al i).1.length).2:=by unfold cY; rw[V9,Wa]
   have Yd:(cY fs ls al i).length<=ls.length:=by rw[Ot,CV]; exact gv _ _ _ _
   have We: ∀x∈cY fs ls al i,x.1 < ls.length:=by rw[Ot,CV]; exact pO _ _ _ _
   have Pp:=Bw fs ls al i
   have aaQ:(cF fs ls al i).2.length<=3969:=a8 Pp (lK (show i<=63 by omega) Rt)
   refine⟨_,rfl,_,rfl,_,rfl,_,rfl,pa,_,_,.ref pr,rfl,rfl,bP.of (s5 _ _ V6),cO Wc,fs[i],q,(cF fs ls al i).1,pr,al[i],rfl,bP.of TH,bP.of (s5 _ _ Wd),by rw[CV]; exact Jb _ (bQ _),by rw[CV]; omega,fun r R0 H4 s6 R3 VE hP=>?_⟩
   rw[← Ot] at hP
   have hQ5:=s6 _ _ TH
   have vp:=s6 _ _ qU
   have Wf:=C6.mono (f9 s6)
   have hrq:r≠q:=(aN TH R3).symm
   have QH:r≠pm:=(aN qU R3).symm
   have s7:=s5.trans s6
   have Oi:R0.length=(cY fs ls al i).length:=hP.length.symm
   refine⟨_,rfl,r,rfl,⟨_,bP.of VE⟩,?_⟩
   refine gj (K:=K) (a:=r) (xs:=R0) (fun m σ H5=> ∃(x8 x9:Option V) (ms:List V),σ=[some (.ref pf),some (.ref pl),some (.ref pa),some (.ref q),some (.ref pm),some (.int i),some (.int fs[i]),some (.ref r),x8,x9]/\aD H H5/\H5 q=some (.lst ((dR (cF fs ls al i).1 ((cY fs ls al i).take m)).map V.int))/\H5 pm=some (.lst ms)/\nI H5 ((cF fs ls al i).2 ++ ((cY fs ls al i).take m).map fun x=>(i,x.1,x.2)) ms/\H5 r=some (.lst R0)/\Oo H5 (cY fs ls al i) R0)
    ⟨_,_,ms,rfl,s7,hQ5,vp,by simpa using Wf,VE,hP⟩ (fun m σ H5 _ ⟨_,_,_,_,_,_,_,_,h,_⟩=>bP.of h) ?_ ?_
   ·rintro m x σ H5 hx ⟨y8,y9,R4,rfl,t5,Ou,Jc,C7,Ms,Pl⟩
    have hm:m < (cY fs ls al i).length:=by have:=(av.mp hx).1; omega
    have g0:(cY fs ls al i)[m]? =some (cY fs ls al i)[m]:=af hm
    obtain⟨v,hv,pp,e1,GU⟩:=bR Pl g0
    rw[hx] at hv
    obtain rfl:x=v:=aF hv
    subst e1
    have hb:(cY fs ls al i)[m].1 < ls.length:=We _ (bQ _)
    have nR:=oE hm
    have Ta:(dR (cF fs ls al i).1 ((cY fs ls al i).take m)).length=ls.length:=by rw[pC,CV]
    generalize (cY fs ls al i)[m]=pt at GU hb nR g0
    obtain⟨b,am⟩:=pt
    dsimp only at GU hb
    refine⟨pp,_,rfl,cG.of GU,rfl,_,_,rfl,_,_,rfl,rfl,?_⟩
    refine⟨_,rfl,_,rfl,q,_,_,_,rfl,rfl,bP.of Ou,pJ (by rw[Ta]; exact hb),_,rfl,_,_,rfl,rfl,_,rfl,_,rfl,q,_,_,b,rfl,rfl,Ou,qJ (by rw[ae,Ta]; exact hb),?_⟩
    rw[← GK]
    have hap:dR (cF fs ls al i).1 ((cY fs ls al i).take (m + 1))=(dR (cF fs ls al i).1 ((cY fs ls al i).take m)).set b ((dR (cF fs ls al i).1 ((cY fs ls al i).take m)).getD b 0 - am):=by rw[nR,sC]
    rw[← hap]
    have t6:aD H (upd H5 q (.lst ((dR (cF fs ls al i).1 ((cY fs ls al i).take (m + 1))).map V.int))):=t5.dm nq
    have Gs:upd H5 q (.lst ((dR (cF fs ls al i).1 ((cY fs ls al i).take (m + 1))).map V.int)) pm=some (.lst R4):=by rw[aA Wb.symm]; exact Jc
    have Ye:upd H5 q (.lst ((dR (cF fs ls al i).1 ((cY fs ls al i).take (m + 1))).map V.int)) q=some (.lst ((dR (cF fs ls al i).1 ((cY fs ls al i).take (m + 1))).map V.int)):=ag
    have Yf:upd H5 q (.lst ((dR (cF fs ls al i).1 ((cY fs ls al i).take (m + 1))).map V.int)) r=some (.lst R0):=by rw[aA hrq]; exact Ms
    have Ov:=C7.mono (dN (o:= .lst ((dR (cF fs ls al i).1 ((cY fs ls al i).take (m + 1))).map V.int)) Ou)
    have Yg:=Pl.mono (dN (o:= .lst ((dR (cF fs ls al i).1 ((cY fs ls al i).take (m + 1))).map V.int)) Ou)
    generalize upd H5 q (.lst ((dR (cF fs ls al i).1 ((cY fs ls al i).take (m + 1))).map V.int))=H6 at t6 Gs Ye Yf Ov Yg ⊢
    have GV:=Ov.length
    rw[aK,ae,bC] at GV
    refine⟨_,rfl,.inl ⟨rfl,_,bP.of Gs⟩,_,rfl,_,rfl,_,rfl,(by show 3<=sizeLine; decide),fun p8 n8=>?_⟩
    have s8:aD H6 (upd H6 p8 (.tup [.int i,.int b,.int am])):=aD.new n8
    refine⟨pm,R4,_,rfl,rfl,s8 _ _ Gs,ja (by omega),?_⟩
    refine⟨_,_,R4 ++ [.ref p8],rfl,(t6.trans s8).dm V7,?_,ag,?_,?_,?_⟩
    ·rw[aA Wb]; exact s8 _ _ Ye
    ·rw[nR,aR,← gF]
     exact cQ ((Ov.mono (f9 s8)).mono (dN (s8 _ _ Gs))) ⟨p8,rfl,dN (s8 _ _ Gs) _ _ ag⟩
    ·rw[aA QH]; exact s8 _ _ Yf
    ·exact(Yg.mono (f9 s8)).mono (dN (s8 _ _ Gs))
   ·rintro σ H5 ⟨y8,y9,R4,rfl,t5,Ou,Jc,C7,Ms,Pl⟩
    rw[Oi,bh] at Ou C7
    exact⟨_,_,_,_,_,R4,rfl,t5,by rw[Bv]; exact Ou,Jc,by rw[sP]; exact C7⟩
  ·rintro σ H2 ⟨x5,x6,x7,x8,x9,ms,rfl,s3,hQ,hM,Es⟩
   rw[ae] at Es
   refine⟨_,rfl,?_⟩
   exact k _ _ _ s3 hM Es
theorem Lz {X:Cx}{K:PySem.W.Frag}{es:List Expr}{k:Nat}{pos:Pos}{t:LY}{n:Nat}(hK:X.K=K)(hc:X.calm=true)(h:Kc X es t)(hn:(assignEach es X.env).length=n)(sf:(assignEach es X.env).findIdx? (·.1)=none):PG X (.Tuple es k pos) (P5 K n t):=by
 subst hK
 exact iW hc h hn sf
theorem fY {H H':Hp}{tb:Addr}{fp:List Addr}{pos:Pos}{qual:Str}(t:Tb H tb pos qual)(fr:Frame fp H H')(ht:tb∉fp)(hf: ∀a∈fp,∀φ,H a≠some (.ext φ)):Tb H' tb pos qual:=by
 obtain⟨ps,h1,h2,h3⟩:=t
 refine⟨ps,fr _ _ ht h1,h2,?_⟩
 rcases h3 with h3|⟨c',h3,h4⟩
 ·exact .inl h3
 ·exact .inr ⟨c',h3,fr _ _ (fun z=>hf _ z _ h4) h4⟩
theorem dg {H:Hp}{tb:Addr}{pos:Pos}{qual:Str}(t:Tb H tb pos qual): ∃ps,H tb=some (.nQ ps):=let⟨ps,e,_⟩:=t; ⟨ps,e⟩
theorem dQ {fp QO:List Addr}{H H':Hp}(f:Frame fp H H')(h: ∀x∈fp,x∈QO):Frame QO H H':=fun b o hb e=>f b o (fun z=>hb (h b z)) e
theorem uc {H:Hp}{p C D:Addr}{fs:List (Str×V)}{ys:List V}{o:HO}(h:eF H p C fs)(e:H D=some (.lst ys)):eF (upd H D o) p C fs:=let⟨dx,z⟩:=h; ⟨dx,by rw[aA (mF z e (by intro q; cases q))]; exact z⟩
theorem gK.upd {A:ej}{H:Hp}{S:Bk}{cs:List Nat}{qs:List Addr}{D:Addr}{ys:List V}{o:HO}(h:gK A H S cs qs)(e:H D=some (.lst ys)):gK A (L2.upd H D o) S cs qs:=Paired.ir h fun _ _ z=>uc z e
theorem iH.upd {A:ej}{H:Hp}{S:Bk}{cs:List Nat}{qs:List Addr}{D:Addr}{ys:List V}{o:HO}(h:iH A H S cs qs)(e:H D=some (.lst ys)):iH A (L2.upd H D o) S cs qs:=Paired.ir h fun _ _ z=>uc z e
theorem gK.tb {A:ej}{H H':Hp}{S:Bk}{cs:List Nat}{qs:List Addr}{tb:Addr}{pos:Pos}{qual:Str}(h:gK A H S cs qs)(t:Tb H tb pos qual)(fr:Frame [tb] H H'):gK A H' S cs qs:=Paired.ir h fun _ _ z=>z.frame fr (vm t z)
theorem nX {rows:List Rw}{c:Nat}(h:c < rows.length):(rows.map fun r=>V.int r.d)[c]? =some (.int (rows.getD c default).d):=by
 rw[aB,af h,ak,af h]; rfl
theorem nY (rows:List Rw)(aL:Str)(key:Rw->Int):(inOrder rows aL key).length<=rows.length:=by
 have e:(inOrder rows aL key).length=((List.range rows.length).filter fun k=>decide ((rows.getD k default).aL=aL)).length:=by
  unfold inOrder gu
  rw[ae,(dr _).length_eq,ae]
 have:=a7 (fun k=>decide ((rows.getD k default).aL=aL)) (List.range rows.length)
 rw[dF] at this
 omega
def mq (rows:List Rw)(k:Nat):Bool:=decide (0 < (rows.getD k default).d)
abbrev Jd:=List Int->List Int->List (List Bool)->List (Nat×Nat×Int)
def pP:Jd:=fun fs ls al=>(ck fs ls al fs.length).2
def By:Jd:=fun fs ls al=>(cF fs ls al fs.length).2
structure Je (way:Jd):Prop where
 lt: ∀fs ls al,∀t∈way fs ls al,t.1 < fs.length/\t.2.1 < ls.length
 len: ∀fs ls al,fs.length<=63->ls.length<=63->(way fs ls al).length<=4000
def Ow (way:Jd)(sp:Sp):Prop:= ∀(pf pl pa:Addr) (fs ls:List Int) (al:List (List Bool)) (H:Hp) (Q:VK),H pf=some (.lst (fs.map V.int))->H pl=some (.lst (ls.map V.int))->Rp H (.lst (al.map zy)) (.ref pa)->fs.length<=63->ls.length<=63->al.length=fs.length->(∀r∈al,r.length=ls.length)->
 (∀(pm:Addr) (ms:List V) (H':Hp),aD H H'->H' pm=some (.lst ms)->il H' (way fs ls al) ms->Q (.ref pm) H')->sp [.ref pf,.ref pl,.ref pa] H Q E0
def jc (H:Hp)(D:Addr)(al:List (List Bool))(rs:List V):Prop:=Paired (fun(r:List Bool) v=> ∃p,v= .ref p/\p≠D/\H p=some (.lst (r.map V.bl))) al rs
theorem jc.upd {H:Hp}{D:Addr}{al:List (List Bool)}{rs:List V}{o:HO}(h:jc H D al rs):jc (L2.upd H D o) D al rs:=Paired.ir h fun _ _ ⟨p,e,n,z⟩=>⟨p,e,n,by rw[aA n]; exact z⟩
theorem jc.same {H H':Hp}{D:Addr}{al:List (List Bool)}{rs:List V}(h:jc H D al rs)(s:aD H H'):jc H' D al rs:=Paired.ir h fun _ _ ⟨p,e,n,z⟩=>⟨p,e,n,s _ _ z⟩
theorem xT {H:Hp}: ∀r:List Bool,g8 H (r.map Dt.bl) (r.map V.bl)
 |[]=>dA.mpr rfl
 |b :: r=>bW.mpr ⟨_,_,rfl,qr.mpr rfl,xT r⟩
theorem jc.rp {H:Hp}{D:Addr}: ∀{al:List (List Bool)} {rs:List V},jc H D al rs->g8 H (al.map zy) rs
 |_,_,.nil=>dA.mpr rfl
 |_,_,.cons ⟨p,e,_,z⟩ t=>bW.mpr ⟨_,_,rfl,e▸jx z (xT _),jc.rp t⟩
theorem Gu {S:Bk}{l:List (Nat×Nat×Int)}{i:Nat}{t:Nat×Nat×Int}(h:l[i]? =some t):kq S (l.take (i + 1))=(kq S (l.take i)).put t.1 t.2.1 t.2.2:=jI (fun(S:Bk) (t:Nat×Nat×Int)=>S.put t.1 t.2.1 t.2.2) l S h
theorem Ew (S:Bk): ∀l,(kq S l).aH.length=S.aH.length/\(kq S l).credits.length=S.credits.length
 |[]=>⟨rfl,rfl⟩
 |t :: l=>by
  obtain⟨a,b⟩:=Ew (S.put t.1 t.2.1 t.2.2) l
  exact⟨a.trans eA,b.trans eA⟩
def Ex (P:Program)(w:World)(K:PySem.W.Frag)(mg:Str->Option Value)(base:Heap)(A:ej)(tB tC:Addr):Sp:=fun vs H Q _=> ∃(pw fa:Addr) (S:Bk) (f:eO) (n:Nat) (aL:Str) (way:Jd) (sp:Sp),vs=[.ref pw,.str aL,.ref fa]/\dP A H pw S f/\WF S n/\n<=62/\l9 H tB/\mz H tC/\Je way/\Vw P w K mg base 2 fa sp/\Ow way sp/\
 ∀gs ts fs ls al,uI S aL gs ts fs ls al-> ∀D ms H',Frame (tB :: tC :: f.fp) H H'->l9 H' tB->mz H' tC->dP A H' pw (kq S ((way fs ls al).map (lX gs ts))) f->H D=none->H' D=some (.lst ms)->il H' ((way fs ls al).map (lX gs ts)) ms->Q (.ref D) H'
theorem kK:a0 ["self","who","way","givers","takers","frees","lefts","found","numbered","credit_number","bill_number","amount"] ["self","who","way"] (az (mem 25 7)):=⟨rfl,rfl,rfl,by decide +kernel,rfl,by decide +kernel,by decide +kernel⟩
theorem Bz (T:Txt K mg){A:ej}{tB tC:Addr}(G:jy K mg A)(DB:pX K mg "bills_in_order" (top 17) tB)(DC:pX K mg "credits_in_order" (top 18) tC)(jf:tB≠tC)(KB:K.In base)(BM:BMain mg base):gY sq P w K mg base A.work "one_round" 3 ["self","who","way"] (Ex P w K mg base A tB tC):=by
 have i9:fb P w K mg base "bills_in_order" 2 ["bills","who"] (zv A tB):=lF T G DB KB BM
 have hZ:fb P w K mg base "credits_in_order" 2 ["all_credits","who"] (zw A tC):=j8 T G DC KB BM
 have wL:fb P w K mg base "row_of_fits" 2 ["credit","bills"] (Mo A):=wz T G
 have IL:gY sq P w K mg base A.work "put" 1 ["self","credit_number","bill_number","amount"] (CP A):=Mi G
 refine Lc (k:=2) G.qG G.bO kK (fun _ _ _ _ _ _ us hl=>match us,hl with|[_,_,_],_=>rfl) (fun vs H Q E h=>?_) (fun f dh A' outer s H vs Q E hr h=>?_)
 ·obtain⟨pw,fa,S,g,n,aL,way,sp,rfl,_⟩:=h
  rfl
 ·obtain⟨pw,fa,S,g,n,aL,way,sp,rfl,hW,wf,hn,kj,jJ,R5,Yh,Yi,k⟩:=h
  have nd:=kK.nd
  have X3:S.credits.length<=62:=by have:=wf.lc; omega
  have hlb:S.aH.length<=62:=by have:=wf.lb; omega
  refine⟨_,(ai (a9 (i:=3) nd rfl (Or.inr rfl) (gU (tn:=["credit"]) (cn:=["self"]) (cj:=[0]) rfl (iz (by rfl) (by decide +kernel) rfl (by decide +kernel) (by rfl) [(".0",.local),("credit",.local),("self",.cell)] (by rfl) (by decide +kernel) rfl (Or.inl rfl) (Or.inl rfl)) (dG (cM hZ (hr.mono (by decide)) rfl (aa (cu (pv 0) rfl) (aa (pv 1) aj)))) (fun _ _ _ _=>(bD (i:=0) (show(["credit","self"]:List Str).Nodup by decide +kernel) rfl (Or.inl rfl))) (fun _ _ _ _=>(mO (aZ iQ (aJ (lj (K:=K) rfl) (fC (K:=K) rfl (pv 1) rfl) (fC (K:=K) rfl (pv 0) rfl) (fun _ _=>rfl)) ah (ba _)))) (fun _ _ _ _=>(pv 0))))
(ai (a9 (i:=4) nd rfl (Or.inr rfl) (gU (tn:=["bill"]) (cn:=["self"]) (cj:=[0]) rfl (iz (by rfl) (by decide +kernel) rfl (by decide +kernel) (by rfl) [(".0",.local),("bill",.local),("self",.cell)] (by rfl) (by decide +kernel) rfl (Or.inl rfl) (Or.inl rfl)) (dG (cM i9 (hr.mono (by decide)) rfl (aa (cu (pv 0) rfl) (aa (pv 1) aj)))) (fun _ _ _ _=>(bD (i:=0) (show(["bill","self"]:List Str).Nodup by decide +kernel) rfl (Or.inl rfl))) (fun _ _ _ _=>(mO (aZ iQ (aJ (lj (K:=K) rfl) (fC (K:=K) rfl (pv 1) rfl) (fC (K:=K) rfl (pv 0) rfl) (fun _ _=>rfl)) ah (ba _)))) (fun _ _ _ _=>(pv 0))))
(ai (lh (i:=5) nd rfl (Or.inl rfl) (tn:=["credit"]) (cn:=["self"]) (cj:=[0]) rfl (iz (by rfl) (by decide +kernel) rfl (by decide +kernel) (by rfl) [(".0",.local),("credit",.local),("self",.cell)] (by rfl) (by decide +kernel) rfl (Or.inl rfl) (Or.inl rfl)) (dG (pv 3)) (fun _ _ _ _=>(bD (i:=0) (show(["credit","self"]:List Str).Nodup by decide +kernel) rfl (Or.inl rfl))) (fun _ _ _ _=>mN) (fun _ _ _ _=>(aJ (lj (K:=K) rfl) (fC (K:=K) rfl (pv 1) rfl) (fC (K:=K) rfl (pv 0) rfl) (fun _ _=>rfl))))
(ai (lh (i:=6) nd rfl (Or.inl rfl) (tn:=["bill"]) (cn:=["self"]) (cj:=[0]) rfl (iz (by rfl) (by decide +kernel) rfl (by decide +kernel) (by rfl) [(".0",.local),("bill",.local),("self",.cell)] (by rfl) (by decide +kernel) rfl (Or.inl rfl) (Or.inl rfl)) (dG (pv 4)) (fun _ _ _ _=>(bD (i:=0) (show(["bill","self"]:List Str).Nodup by decide +kernel) rfl (Or.inl rfl))) (fun _ _ _ _=>mN) (fun _ _ _ _=>(aJ (lj (K:=K) rfl) (fC (K:=K) rfl (pv 1) rfl) (fC (K:=K) rfl (pv 0) rfl) (fun _ _=>rfl))))
(ai (a9 (i:=7) nd rfl (Or.inl rfl) (NR (i:=2) (k:=2) (hr.mono (by decide)) rfl (Or.inl rfl) (aa (pv 5) (aa (pv 6) (aa (gU (tn:=["credit"]) (cn:=["takers"]) (cj:=[4]) rfl (iz (by rfl) (by decide +kernel) rfl (by decide +kernel) (by rfl) [(".0",.local),("credit",.local),("row_of_fits",.globalImplicit),("takers",.cell)] (by rfl) (by decide +kernel) rfl (Or.inl rfl) (Or.inl rfl)) (dG (pv 3)) (fun _ _ _ _=>(bD (i:=0) (show(["credit","takers"]:List Str).Nodup by decide +kernel) rfl (Or.inl rfl))) (fun _ _ _ _=>mN) (fun _ _ _ _=>(cM wL (hr.mono (by decide)) rfl (aa (pv 0) (aa (pv 1) aj))))) aj)))))
(ai (lh (i:=8) nd rfl (Or.inl rfl) (tn:=["giver","taker","amount"]) (cn:=["takers","givers"]) (cj:=[4,3]) rfl (zp (by rfl) (by decide +kernel) rfl (by decide +kernel) (by rfl) (by rfl) [(".0",.local),("giver",.local),("taker",.local),("amount",.local),("givers",.cell),("takers",.cell)] (by rfl) (by decide +kernel) rfl rfl (Or.inl rfl) (Or.inl rfl) (Or.inl rfl) (Or.inl rfl)) (dG (pv 7)) (fun _ _ _ _=>(Lz (K:=K) (n:=3) rfl rfl (cw (bD (i:=0) (show(["giver","taker","amount","takers","givers"]:List Str).Nodup by decide +kernel) rfl (Or.inl rfl) (Or.inr rfl)) (cw (bD (i:=1) (show(["giver","taker","amount","takers","givers"]:List Str).Nodup by decide +kernel) rfl (Or.inl rfl) (Or.inr rfl)) (cw (bD (i:=2) (show(["giver","taker","amount","takers","givers"]:List Str).Nodup by decide +kernel) rfl (Or.inl rfl) (Or.inr rfl)) gH))) rfl rfl)) (fun _ _ _ _=>mN) (fun _ _ _ _=>(dD (aa (fC (K:=K) rfl (aJ (lj (K:=K) rfl) (pv 4) (pv 0) (fun _ _=>rfl)) rfl) (aa (fC (K:=K) rfl (aJ (lj (K:=K) rfl) (pv 3) (pv 1) (fun _ _=>rfl)) rfl) (aa (pv 2) aj))))))
(ai (fe bS rfl (dG (pv 8)) (iW rfl (cw (bD (i:=9) nd rfl (Or.inl rfl)) (cw (bD (i:=10) nd rfl (Or.inl rfl)) (cw (bD (i:=11) nd rfl (Or.inl rfl)) gH))))
(au (bU (m9 IL (hr.mono (by decide)) mM (pv 0) (aa (pv 9) (aa (pv 10) (aa (pv 11) aj)))))))
(au (bf (pv 8)))))))))),?_⟩
  obtain⟨dw,hw⟩:=hW.obj
  refine⟨_,rfl,pw,_,dw,_,_,rfl,hw,G.bO,G.cU,hX g,_,rfl,g.pc,g.cps,S,aL,rfl,hW.hc,hW.rc,(by omega),jJ,fun D1 Wg H1 Jf ka R6 Gf HW=>?_⟩
  have BW:=vn hW (dg jJ) Jf
  have Jg: ∀a∈[tC],∀φ,H a≠some (.ext φ):=fun a ha φ e=>by
   obtain⟨ps,z⟩:=dg jJ
   rw[ao.mp ha,z] at e
   cases e
  have jr:l9 H1 tB:=fY kj Jf (by simpa using jf) Jg
  have F1:Frame (tB :: tC :: g.fp) H H1:=dQ Jf (by intro x hx; rw[List.mem_singleton.mp hx]; simp)
  clear Jg
  refine⟨D1,rfl,⟨_,bP.of Gf⟩,?_⟩
  have Ls:=nY S.credits aL (·.a)
  have Ox: ∀c∈inOrder S.credits aL (·.a),c < S.credits.length:=fun c hc=>(kB.mp hc).1
  have KC:=ie S.credits aL (·.a)
  generalize inOrder S.credits aL (·.a)=ord at HW Ls Ox KC
  have Oy:=aQ HW
  refine eN (K:=K) (a:=D1) (xs:=Wg.map V.ref) (fun D i σ H6=>H1 D=none/\ ∃(v:Option V) (rs:List Addr),σ=[v,some (.ref pw)]/\aD H1 H6/\H6 D=some (.lst (rs.map V.ref))/\gK A H6 S ((ord.take i).filter (mq S.credits)) rs) (fun D hD=>⟨hD,none,[],rfl,aD.new hD,ag,.nil⟩) (fun D i σ H6 _ ⟨_,_,_,_,t3,_⟩=>bP.of (t3 _ _ Gf)) ?_ ?_
  ·rintro D i x σ H6 hx ⟨hD,v,rs,rfl,t3,gA,Oz⟩
   rw[aB] at hx
   obtain⟨q,hq,rfl⟩:=bG.mp hx
   have hi:i < ord.length:=by have:=(av.mp hq).1; omega
   have oA:=af hi
   obtain⟨q',sk,lE⟩:=bR HW oA
   rw[hq] at sk
   obtain rfl:q=q':=aF sk
   have kX:=fB (mq S.credits) oA
   have qz:=Ox _ (bQ hi)
   generalize ord[i]=c at lE kX qz
   obtain⟨dq,LA⟩:=lE.same t3
   have Jh:=BW.same t3
   obtain⟨OA,OB⟩:=Jh.obj
   have As:rs.length<=1000:=by
    have e1:=aQ Oz
    have e2:=a7 (mq S.credits) (ord.take i)
    rw[bC] at e2
    omega
   refine⟨_,rfl,pw,_,OA,_,_,rfl,OB,G.bO,G.fH,lA g,_,rfl,q,_,dq,_,_,rfl,LA,G.dv,G.eP,nW _ _,g.pf,_,_,.int (S.cr c).d,rfl,rfl,bP.of Jh.hf,cO (nX qz),_,_,rfl,rfl,_,rfl,cL (fun z=>?_) (fun z=>?_)⟩
   ·have z':mq S.credits c=true:=z
    rw[bg z'] at kX
    refine⟨_,rfl,_,gA,bB (by rw[ae]; exact As),hD,_,rs ++ [q],rfl,t3.dm hD,(by rw[ag,aR]; rfl),?_⟩
    rw[kX]
    exact cQ (Oz.upd gA) (uc ⟨dq,LA⟩ gA)
   ·have z': ¬ mq S.credits c=true:=z
    rw[aV z',b9] at kX
    refine⟨hD,_,rs,rfl,t3,gA,?_⟩
    rw[kX]
    exact Oz
  rintro pg σ H2 npg ⟨_,v,rs,rfl,s2,TJ,LB⟩
  rw[ae,← Oy,bh] at LB
  have Yj:ord.filter (mq S.credits)=inTurn S.credits aL (·.a):=KC.symm
  rw[Yj] at LB
  clear KC Yj Ox Ls HW Oy Gf
  have Om:(inTurn S.credits aL (·.a)).length<=62:=by
   rw[ie]
   have e1:=a7 (fun k=>decide (0 < (S.credits.getD k default).d)) (inOrder S.credits aL (·.a))
   have e2:=nY S.credits aL (·.a)
   omega
  have TK: ∀c∈inTurn S.credits aL (·.a),c < S.credits.length:=fun c hc=>(eT.mp hc).1
  have zx:=BW.same s2
  have kz:l9 H2 tB:=cm jr s2
  have mB:mz H2 tC:=cm ka s2
  have F2:=F1.dE s2
  clear Jf BW jr ka s2 F1
  obtain⟨Wh,Pg⟩:=zx.obj
  refine⟨_,rfl,pw,_,Wh,_,_,rfl,Pg,G.bO,G.ee,ji g,_,rfl,g.pb,g.iw,S,aL,rfl,zx.hb,zx.rb,(by omega),kz,fun D1 Wg H1 Jf jr R6 Gf HW=>?_⟩
  have BW:=vn zx (dg kz) Jf
  have Jg: ∀a∈[tB],∀φ,H2 a≠some (.ext φ):=fun a ha φ e=>by
   obtain⟨ps,z⟩:=dg kz
   rw[ao.mp ha,z] at e
   cases e
  have ka:mz H1 tC:=fY mB Jf (by simpa using jf.symm) Jg
  have F1:Frame (tB :: tC :: g.fp) H H1:=F2.tr (dQ Jf (by intro x hx; rw[List.mem_singleton.mp hx]; simp))
  have Yk:=LB.tb kz Jf
  have R7:H1 pg=some (.lst (rs.map V.ref)):=Jf _ _ (fun z=>by
   obtain⟨ps,e⟩:=dg kz
   rw[ao.mp z,e] at TJ
   cases TJ) TJ
  clear Jg
  refine⟨D1,rfl,⟨_,bP.of Gf⟩,?_⟩
  have Ls:=nY S.aH aL (·.b)
  have Ox: ∀c∈inOrder S.aH aL (·.b),c < S.aH.length:=fun c hc=>(kB.mp hc).1
  have KC:=ie S.aH aL (·.b)
  generalize inOrder S.aH aL (·.b)=ord at HW Ls Ox KC
  have Oy:=aQ HW
  refine eN (K:=K) (a:=D1) (xs:=Wg.map V.ref) (fun D i σ H6=>H1 D=none/\ ∃(v:Option V) (us:List Addr),σ=[v,some (.ref pw)]/\aD H1 H6/\H6 D=some (.lst (us.map V.ref))/\iH A H6 S ((ord.take i).filter (mq S.aH)) us) (fun D hD=>⟨hD,none,[],rfl,aD.new hD,ag,.nil⟩) (fun D i σ H6 _ ⟨_,_,_,_,t3,_⟩=>bP.of (t3 _ _ Gf)) ?_ ?_
  ·rintro D i x σ H6 hx ⟨hD,v,us,rfl,t3,gA,Oz⟩
   rw[aB] at hx
   obtain⟨q,hq,rfl⟩:=bG.mp hx
   have hi:i < ord.length:=by have:=(av.mp hq).1; omega
   have oA:=af hi
   obtain⟨q',sk,lE⟩:=bR HW oA
   rw[hq] at sk
   obtain rfl:q=q':=aF sk
   have kX:=fB (mq S.aH) oA
   have qz:=Ox _ (bQ hi)
   generalize ord[i]=c at lE kX qz
   obtain⟨dq,LA⟩:=lE.same t3
   have Jh:=BW.same t3
   obtain⟨OA,OB⟩:=Jh.obj
   have As:us.length<=1000:=by
    have e1:=aQ Oz
    have e2:=a7 (mq S.aH) (ord.take i)
    rw[bC] at e2
    omega
   refine⟨_,rfl,pw,_,OA,_,_,rfl,OB,G.bO,G.fG,lz g,_,rfl,q,_,dq,_,_,rfl,LA,G.eu,G.eU,lx _ _,g.pl,_,_,.int (S.bl c).d,rfl,rfl,bP.of Jh.hl,cO (nX qz),_,_,rfl,rfl,_,rfl,cL (fun z=>?_) (fun z=>?_)⟩
   ·have z':mq S.aH c=true:=z
    rw[bg z'] at kX
    refine⟨_,rfl,_,gA,bB (by rw[ae]; exact As),hD,_,us ++ [q],rfl,t3.dm hD,(by rw[ag,aR]; rfl),?_⟩
    rw[kX]
    exact cQ (Oz.upd gA) (uc ⟨dq,LA⟩ gA)
   ·have z': ¬ mq S.aH c=true:=z
    rw[aV z',b9] at kX
    refine⟨hD,_,us,rfl,t3,gA,?_⟩
    rw[kX]
    exact Oz
  rintro pt σ H3 Yl ⟨_,v',us,rfl,s3,xM,Eg⟩
  rw[ae,← Oy,bh] at Eg
  have Ym:ord.filter (mq S.aH)=inTurn S.aH aL (·.b):=KC.symm
  rw[Ym] at Eg
  clear KC Ym Ox Ls HW Oy Gf
  have htl:(inTurn S.aH aL (·.b)).length<=62:=by
   rw[ie]
   have e1:=a7 (fun k=>decide (0 < (S.aH.getD k default).d)) (inOrder S.aH aL (·.b))
   have e2:=nY S.aH aL (·.b)
   omega
  have Mt: ∀c∈inTurn S.aH aL (·.b),c < S.aH.length:=fun c hc=>(eT.mp hc).1
  have y1:=BW.same s3
  have oB:l9 H3 tB:=cm jr s3
  have oC:mz H3 tC:=cm ka s3
  have F3:=F1.dE s3
  have R8:=Yk.same s3
  have LC:=s3 _ _ R7
  clear Jf BW jr ka s3 F1 Yk R7 F2 zx kz mB LB TJ Pg
  generalize hgs:inTurn S.credits aL (·.a)=gs at R8 Om TK
  generalize hts:inTurn S.aH aL (·.b)=ts at Eg htl Mt
  have Yn:=aQ R8
  have htq:=aQ Eg
  have hR:uI S aL gs ts (gs.map fun g=>(S.cr g).d) (ts.map fun t=>(S.bl t).d) (gs.map fun g=>ts.map fun t=>S.eM g t):=⟨hgs.symm,hts.symm,rfl,rfl,rfl⟩
  refine⟨_,rfl,pg,rfl,⟨_,bP.of LC⟩,?_⟩
  refine eN (K:=K) (a:=pg) (xs:=rs.map V.ref) (fun D i σ H6=>H3 D=none/\ ∃(v:Option V),σ=[v,some (.ref pw)]/\aD H3 H6/\H6 D=some (.lst (((gs.take i).map fun g=>(S.cr g).d).map V.int))) (fun D hD=>⟨hD,none,rfl,aD.new hD,ag⟩) (fun D i σ H6 _ ⟨_,_,_,t3,_⟩=>bP.of (t3 _ _ LC)) ?_ ?_
  ·rintro D i x σ H6 hx ⟨hD,v,rfl,t3,gA⟩
   rw[aB] at hx
   obtain⟨q,hq,rfl⟩:=bG.mp hx
   have hi:i < gs.length:=by have:=(av.mp hq).1; omega
   obtain⟨q',sk,lE⟩:=bR R8 (af hi)
   rw[hq] at sk
   obtain rfl:q=q':=aF sk
   have nR:=oE hi
   have qz:=TK _ (bQ hi)
   generalize gs[i]=c at lE nR qz
   obtain⟨dq,LA⟩:=lE.same t3
   have Jh:=y1.same t3
   obtain⟨OA,OB⟩:=Jh.obj
   refine⟨_,rfl,pw,_,OA,_,_,rfl,OB,G.bO,G.fH,lA g,_,rfl,q,_,dq,_,_,rfl,LA,G.dv,G.eP,nW _ _,g.pf,_,_,.int (S.cr c).d,rfl,rfl,bP.of Jh.hf,cO (nX qz),_,gA,bB (by rw[ae,ae,bC]; omega),hD,_,rfl,t3.dm hD,?_⟩
   rw[ag,nR,aR,aR]
   rfl
  rintro pf σ H4 npf ⟨_,v4,rfl,s4,Mq⟩
  rw[ae,← Yn,bh] at Mq
  have Yo:=R8.same s4
  have Mu:=Eg.same s4
  have RU:=y1.same s4
  have tM:l9 H4 tB:=cm oB s4
  have tN:mz H4 tC:=cm oC s4
  have F4:=F3.dE s4
  have R9:=s4 _ _ LC
  have vq:=s4 _ _ xM
  clear s4 F3 oB oC y1 Eg R8 LC xM
  refine⟨_,rfl,pt,rfl,⟨_,bP.of vq⟩,?_⟩
  refine eN (K:=K) (a:=pt) (xs:=us.map V.ref) (fun D i σ H6=>H4 D=none/\ ∃(v:Option V),σ=[v,some (.ref pw)]/\aD H4 H6/\H6 D=some (.lst (((ts.take i).map fun g=>(S.bl g).d).map V.int))) (fun D hD=>⟨hD,none,rfl,aD.new hD,ag⟩) (fun D i σ H6 _ ⟨_,_,_,t3,_⟩=>bP.of (t3 _ _ vq)) ?_ ?_
  ·rintro D i x σ H6 hx ⟨hD,v,rfl,t3,gA⟩
   rw[aB] at hx
   obtain⟨q,hq,rfl⟩:=bG.mp hx
   have hi:i < ts.length:=by have:=(av.mp hq).1; omega
   obtain⟨q',sk,lE⟩:=bR Mu (af hi)
   rw[hq] at sk
   obtain rfl:q=q':=aF sk
   have nR:=oE hi
   have qz:=Mt _ (bQ hi)
   generalize ts[i]=c at lE nR qz
   obtain⟨dq,LA⟩:=lE.same t3
   have Jh:=RU.same t3
   obtain⟨OA,OB⟩:=Jh.obj
   refine⟨_,rfl,pw,_,OA,_,_,rfl,OB,G.bO,G.fG,lz g,_,rfl,q,_,dq,_,_,rfl,LA,G.eu,G.eU,lx _ _,g.pl,_,_,.int (S.bl c).d,rfl,rfl,bP.of Jh.hl,cO (nX qz),_,gA,bB (by rw[ae,ae,bC]; omega),hD,_,rfl,t3.dm hD,?_⟩
   rw[ag,nR,aR,aR]
   rfl
  rintro pl σ H5 npl ⟨_,v5,rfl,s5,iL⟩
  rw[ae,← htq,bh] at iL
  have Wi:=Yo.same s5
  have Pn:=Mu.same s5
  have Yp:=RU.same s5
  have Ji:l9 H5 tB:=cm tM s5
  have Jj:mz H5 tC:=cm tN s5
  have F5:=F4.dE s5
  have LD:=s5 _ _ R9
  have Dc:=s5 _ _ vq
  have Sa:=s5 _ _ Mq
  clear s5 F4 tM tN RU Mu Yo R9 vq Mq
  refine⟨fa,sp,rfl,Yh,_,rfl,_,rfl,_,rfl,pg,rfl,⟨_,bP.of LD⟩,?_⟩
  refine eN (K:=K) (a:=pg) (xs:=rs.map V.ref) (fun D i σ H6=>H5 D=none/\ ∃(v:Option V) (ws:List V),σ=[v,some (.ref pt)]/\aD H5 H6/\H6 D=some (.lst ws)/\jc H6 D ((gs.take i).map fun g=>ts.map fun t=>S.eM g t) ws) (fun D hD=>⟨hD,none,[],rfl,aD.new hD,ag,.nil⟩) (fun D i σ H6 _ ⟨_,_,_,_,t3,_⟩=>bP.of (t3 _ _ LD)) ?_ ?_
  ·rintro D i x σ H6 hx ⟨hD,v,ws,rfl,t3,gA,Pr⟩
   rw[aB] at hx
   obtain⟨q,hq,rfl⟩:=bG.mp hx
   have hi:i < gs.length:=by have:=(av.mp hq).1; omega
   obtain⟨q',sk,lE⟩:=bR Wi (af hi)
   rw[hq] at sk
   obtain rfl:q=q':=aF sk
   have nR:=oE hi
   have qz:=TK _ (bQ hi)
   generalize gs[i]=c at lE nR qz
   have GO:=aQ Pr
   rw[ae,bC] at GO
   refine⟨_,rfl,_,rfl,q,pt,S,c,ts,us,rfl,lE.same t3,t3 _ _ Dc,Pn.same t3,(by omega),fun p H7 t7 np hp=>?_⟩
   have Wj:(ts.map fun b=>oJ (S.cr c) (S.bl b) b)=ts.map fun t=>S.eM c t:=gS fun b hb=>xJ wf qz (Mt b hb)
   rw[Wj] at hp
   have Pt:=t7 _ _ gA
   have Ob:p≠D:=(aN gA np).symm
   refine⟨_,Pt,bB (by omega),hD,_,ws ++ [.ref p],rfl,(t3.trans t7).dm hD,ag,?_⟩
   rw[nR,aR]
   exact cQ ((Pr.same t7).upd) ⟨p,rfl,Ob,by rw[aA Ob]; exact hp⟩
  rintro pa σ H6 npa ⟨_,v6,ws,rfl,s6,Pu,Pr⟩
  rw[ae,← Yn,bh] at Pr
  refine Yi pf pl pa _ _ _ H6 _ (s6 _ _ Sa) (s6 _ _ iL) (jx Pu Pr.rp) (by rw[ae]; omega) (by rw[ae]; omega) (by rw[ae,ae]) (fun r hr=>by
   obtain⟨x,_,rfl⟩:=bN.mp hr
   rw[ae,ae]) fun pm ms H7 s7 Wk Es=>?_
  have iY:=R5.lt (gs.map fun g=>(S.cr g).d) (ts.map fun t=>(S.bl t).d) (gs.map fun g=>ts.map fun t=>S.eM g t)
  have hlen:=R5.len (gs.map fun g=>(S.cr g).d) (ts.map fun t=>(S.bl t).d) (gs.map fun g=>ts.map fun t=>S.eM g t) (by rw[ae]; omega) (by rw[ae]; omega)
  rw[ae,ae] at iY
  have kk:=k _ _ _ _ _ hR
  generalize way (gs.map fun g=>(S.cr g).d) (ts.map fun t=>(S.bl t).d) (gs.map fun g=>ts.map fun t=>S.eM g t)=fd at iY hlen Es kk
  have wM:=s6.trans s7
  have Yq:=Wi.same wM
  have Yr:=Pn.same wM
  have TL:=Yp.same wM
  have OC:l9 H7 tB:=cm Ji wM
  have OD:mz H7 tC:=cm Jj wM
  have F7:=F5.dE wM
  have Sb:=wM _ _ LD
  have Sd:=wM _ _ Dc
  clear wM s6 s7 F5 Ji Jj Yp Pn Wi LD Dc Sa iL Pr Pu k Yi Yh
  have Tz:=aQ Es
  refine⟨_,rfl,pm,rfl,⟨_,bP.of Wk⟩,?_⟩
  refine eN (K:=K) (a:=pm) (xs:=ms) (fun D i σ H6=>H7 D=none/\ ∃(v1 v2 v3:Option V) (ws:List V),σ=[v1,v2,v3,some (.ref pt),some (.ref pg)]/\aD H7 H6/\H6 D=some (.lst ws)/\il H6 ((fd.take i).map (lX gs ts)) ws) (fun D hD=>⟨hD,none,none,none,[],rfl,aD.new hD,ag,.nil⟩) (fun D i σ H6 _ ⟨_,_,_,_,_,_,t3,_⟩=>bP.of (t3 _ _ Wk)) ?_ ?_
  ·rintro D i x σ H6 hx ⟨hD,v1,v2,v3,ws,rfl,t3,gA,Gp⟩
   have hi:i < fd.length:=by have:=(av.mp hx).1; omega
   obtain⟨v',hv,p,rfl,hp⟩:=bR Es (af hi)
   rw[hx] at hv
   obtain rfl:x= .ref p:=aF hv
   have nR:=oE hi
   obtain⟨l1,l2⟩:=iY _ (bQ hi)
   generalize fd[i]=t at hp nR l1 l2
   have GO:=aQ Gp
   rw[ae,bC] at GO
   have g1:gs[t.1]? =some (gs.getD t.1 0):=by rw[ak,af l1]; rfl
   have g2:ts[t.2.1]? =some (ts.getD t.2.1 0):=by rw[ak,af l2]; rfl
   obtain⟨q1,Oy,i1⟩:=bR Yq g1
   obtain⟨q2,zU,i2⟩:=bR Yr g2
   obtain⟨d1,e1⟩:=i1.same t3
   obtain⟨d2,e2⟩:=i2.same t3
   refine⟨p,_,rfl,cG.of (t3 _ _ hp),rfl,_,_,rfl,_,_,rfl,_,_,rfl,rfl,?_⟩
   refine⟨_,rfl,_,rfl,pg,_,_,.ref q1,rfl,rfl,bP.of (t3 _ _ Sb),cO (by rw[aB,Oy]; rfl),q1,_,d1,_,_,rfl,e1,G.dv,G.eP,nW _ _,?_⟩
   refine⟨_,rfl,_,rfl,pt,_,_,.ref q2,rfl,rfl,bP.of (t3 _ _ Sd),cO (by rw[aB,zU]; rfl),q2,_,d2,_,_,rfl,e2,G.eu,G.eU,lx _ _,_,rfl,(by show 3<=sizeLine; decide),fun p8 n8=>?_⟩
   have s8:=aD.new (o:= .tup [.int (gs.getD t.1 0:Nat),.int (ts.getD t.2.1 0:Nat),.int t.2.2]) n8
   have Ys:=s8 _ _ gA
   refine⟨_,Ys,ja (by omega),hD,_,_,_,ws ++ [.ref p8],rfl,(t3.trans s8).dm hD,ag,?_⟩
   rw[nR,aR]
   have tk:=fT (o:= .lst (ws ++ [.ref p8])) Ys
   exact cQ ((Gp.mono s8.tk).mono tk) ⟨p8,rfl,tk _ _ ag⟩
  rintro pn σ H8 Se ⟨_,w1,w2,w3,ws,rfl,s8,NY,Sf⟩
  rw[← Tz,bh] at Sf
  have Pw:=TL.same s8
  have Sg:l9 H8 tB:=cm OC s8
  have Sh:mz H8 tC:=cm OD s8
  have F8:=F7.dE s8
  have Wl:H pn=none:=by
   cases e:H pn with
   |none=>rfl
   |some o=>
    exfalso
    by_cases jU:pn∈tB :: tC :: g.fp
    ·rcases aw.mp jU with z|jU
     ·obtain⟨ps,q⟩:=dg OC
      rw[← z,Se] at q
      cases q
     ·rcases aw.mp jU with z|jU
      ·obtain⟨ps,q⟩:=dg OD
       rw[← z,Se] at q
       cases q
      ·exact TL.new Se jU
    ·have q:=F7 _ _ jU e
     rw[Se] at q
     cases q
  have Sk:pn∉g.fp:=TL.new Se
  have tJ: ∀t∈fd.map (lX gs ts),t.1 < S.credits.length/\t.2.1 < S.aH.length:=fun t ht=>by
   obtain⟨u,hu,rfl⟩:=bN.mp ht
   obtain⟨l1,l2⟩:=iY u hu
   exact⟨TK _ (jS l1),Mt _ (jS l2)⟩
  have CV:(fd.map (lX gs ts)).length<=4000:=by rw[ae]; exact hlen
  generalize fd.map (lX gs ts)=L at Sf kk tJ CV
  have GO:=aQ Sf
  clear iY hlen Es Wk Sb Sd Yq Yr TL OC OD F7 s8
  refine⟨_,rfl,pn,rfl,⟨_,bP.of NY⟩,?_⟩
  refine gj (K:=K) (a:=pn) (xs:=ws) (fun i σ H2=> ∃(x9 Gv Gw:Option V),σ=[some (.ref pw),some (.str aL),some (.ref fa),some (.ref pg),some (.ref pt),some (.ref pf),some (.ref pl),some (.ref pm),some (.ref pn),x9,Gv,Gw]/\Frame g.fp H8 H2/\dP A H2 pw (kq S (L.take i)) g)
   ⟨none,none,none,rfl,Frame.refl,Pw⟩ (fun i σ H2 _ ⟨_,_,_,_,f2,_⟩=>bP.of (f2 _ _ Sk NY)) ?_ ?_
  ·rintro i x σ H2 hx ⟨x9,Gv,Gw,rfl,f2,zx⟩
   have hi:i < L.length:=by have:=(av.mp hx).1; omega
   have oA:=af hi
   obtain⟨v',hv,p,rfl,hp⟩:=bR Sf oA
   rw[hx] at hv
   obtain rfl:x= .ref p:=aF hv
   have xM:=Gu (S:=S) oA
   obtain⟨m1,m2⟩:=tJ _ (bQ hi)
   generalize L[i]=t at hp xM m1 m2
   obtain⟨b1,b2⟩:=Ew S (L.take i)
   have GV:(kq S (L.take i)).made.length < sizeLine:=by
    rw[jE,aK,bC]
    have:=wf.lm
    exact ja (by omega)
   obtain⟨Wh,Pg⟩:=zx.obj
   refine⟨p,_,rfl,cG.of (Pw.tk f2 _ _ hp),rfl,_,_,rfl,_,_,rfl,_,_,rfl,rfl,?_⟩
   refine⟨_,rfl,pw,Wh,_,rfl,Pg,IK g,_,rfl,_,rfl,_,rfl,pw,_,g,t.1,t.2.1,t.2.2,rfl,zx,(by rw[b2]; exact m1),(by rw[b1]; exact m2),GV,fun H3 f3 W3=>?_⟩
   refine⟨_,_,_,rfl,f2.tr f3,?_⟩
   rw[xM]
   exact W3
  ·rintro σ H2 ⟨x9,Gv,Gw,rfl,f2,zx⟩
   rw[← GO,bh] at zx
   have ext2: ∀a∈g.fp,∀φ,H8 a≠some (.ext φ):=fun a ha φ e=>by
    obtain⟨xs,z⟩:=Pw.lists a ha
    rw[z] at e
    cases e
   have Gx:tB∉g.fp:=Pw.off fun xs e=>by
    obtain⟨ps,z⟩:=dg Sg
    rw[z] at e
    cases e
   have Gy:tC∉g.fp:=Pw.off fun xs e=>by
    obtain⟨ps,z⟩:=dg Sh
    rw[z] at e
    cases e
   exact⟨_,rfl,kk pn ws H2 (F8.tr (dQ f2 fun x hx=>by simp[hx])) (fY Sg f2 Gx ext2) (fY Sh f2 Gy ext2) zx Wl (f2 _ _ Sk NY) (Sf.mono (Pw.tk f2))⟩
theorem qV (g:eO):(ly g).lookup ("one_round":Str)=none:=by rfl
theorem oR {α β:Type}{F:α->β->Prop}: ∀{l₁:List α} {r₁:List β} {l₂:List α} {r₂:List β},Paired F l₁ r₁->Paired F l₂ r₂->Paired F (l₁ ++ l₂) (r₁ ++ r₂)
 |_,_,_,_,.nil,h=>h
 |_,_,_,_,.cons a t,h=> .cons a (oR t h)
theorem Dd:Je pP:=⟨fun fs ls al t h=>lY fs ls al _ t h,fun fs ls al h1 _=>by
 have:=L2.ig fs ls al fs.length
 show(ck fs ls al fs.length).2.length<=4000
 omega⟩
theorem Jk:Je By:=⟨fun fs ls al t h=>uN fs ls al _ t h,fun fs ls al h1 h2=>by
 have:=pE fs ls al fs.length
 have h3:fs.length * ls.length<=63 * 63:=lK h1 h2
 show(cF fs ls al fs.length).2.length<=4000
 omega⟩
theorem sR {H:Hp}: ∀{ms:List (Nat×Nat×Int)} {xs:List V},g8 H (ms.map Ja) xs->il H ms xs
 |[],_,h=>by
  rw[dA.mp h]
  exact .nil
 |t :: ms,_,h=>by
  obtain⟨v,r,rfl,h1,h2⟩:=bW.mp h
  obtain⟨a,ys,rfl,h3,h4⟩:=jP.mp h1
  obtain⟨u1,r1,rfl,e1,h5⟩:=bW.mp h4
  obtain⟨u2,r2,rfl,e2,h6⟩:=bW.mp h5
  obtain⟨u3,r3,rfl,e3,h7⟩:=bW.mp h6
  obtain rfl:=dA.mp h7
  obtain rfl:=dM.mp e1
  obtain rfl:=dM.mp e2
  obtain rfl:=dM.mp e3
  exact .cons ⟨a,rfl,h3⟩ (sR h2)
theorem Jl:Ow pP (Bt K):=fun pf pl pa fs ls al H Q h1 h2 h3 h4 h5 h6 h7 k=>
 ⟨pf,pl,pa,fs,ls,al,rfl,bP.of h1,bP.of h2,h3,by omega,h6,h7,fun v H' s r=>by
  obtain⟨a,xs,rfl,e,r'⟩:=iZ.mp r
  exact k a xs H' s e (sR r')⟩
theorem OE:Ow By (Bx K):=fun pf pl pa fs ls al H Q h1 h2 h3 h4 h5 h6 h7 k=>
 ⟨pf,pl,pa,fs,ls,al,rfl,bP.of h1,bP.of h2,h3,h4,h5,h6,h7,fun pm ms H' s e r=>k pm ms H' s e r⟩
def Ey (A:ej)(tB tC:Addr):Sp:=fun vs H Q _=> ∃(pw:Addr) (S:Bk) (f:eO) (n:Nat) (aL:Str),vs=[.ref pw,.str aL]/\dP A H pw S f/\WF S n/\n<=60/\l9 H tB/\mz H tC/\
 ∀D ms H',Frame (tB :: tC :: f.fp) H H'->l9 H' tB->mz H' tC->dP A H' pw (S.jR aL) f->H D=none->H' D=some (.lst ms)->il H' ((S.jR aL).made.drop S.made.length) ms->Q (.ref D) H'
theorem oS:a0 ["self","who","first","second"] ["self","who"] (az (mem 25 6)):=⟨rfl,rfl,rfl,by decide +kernel,rfl,by decide +kernel,by decide +kernel⟩
theorem LF (T:Txt K mg){A:ej}{tB tC:Addr}(G:jy K mg A)(DB:pX K mg "bills_in_order" (top 17) tB)(DC:pX K mg "credits_in_order" (top 18) tC)(jf:tB≠tC)(KB:K.In base)(BM:BMain mg base):gY sq P w K mg base A.work "sweep" 4 ["self","who"] (Ey A tB tC):=by
 have sS:gY sq P w K mg base A.work "one_round" 3 ["self","who","way"] (Ex P w K mg base A tB tC):=Bz T G DB DC jf KB BM
 obtain⟨f1,m1,V1⟩:=fb.XR (Lx (P:=P) (w:=w) (base:=base) T)
 obtain⟨f2,m2,V2⟩:=fb.XR (zz (P:=P) (w:=w) (base:=base) T)
 refine Lc (k:=3) G.wm G.bO oS (fun _ _ _ _ _ _ us hl=>match us,hl with|[_,_],_=>rfl) (fun vs H Q E h=>?_) (fun f dh A' outer s H vs Q E hr h=>?_)
 ·obtain⟨pw,S,g,n,aL,rfl,_⟩:=h
  rfl
 ·obtain⟨pw,S,g,n,aL,rfl,hW,wf,hn,kj,jJ,k⟩:=h
  have nd:=oS.nd
  refine⟨_,(ai (a9 (i:=2) nd rfl (Or.inl rfl) (m9 sS (hr.mono (by decide)) mM (pv 0) (aa (pv 1) (aa (Dn (v:= .ref f1) rfl m1 rfl) aj))))
(ai (a9 (i:=3) nd rfl (Or.inl rfl) (m9 sS (hr.mono (by decide)) mM (pv 0) (aa (pv 1) (aa (Dn (v:= .ref f2) rfl m2 rfl) aj))))
(au (bf (aX pj (pv 2) (pv 3)))))),?_⟩
  obtain⟨dw,hw⟩:=hW.obj
  refine⟨_,rfl,pw,dw,_,rfl,hw,qV g,_,rfl,pw,f1,S,g,n,aL,pP,_,rfl,hW,wf,(by omega),kj,jJ,Dd,V1,Jl,fun gs ts fs ls al R D1 Wm H1 F1 jr ka BW R6 Gf GZ=>?_⟩
  obtain⟨er,lr⟩:=HR R
  have Wj:fs.length=gs.length:=by rw[R.ef,ae]
  have eS:kq S ((pP fs ls al).map (lX gs ts))=bY aL S true:=by rw[er]; unfold pP; rw[Wj]
  have em:(bY aL S true).made=S.made ++ (pP fs ls al).map (lX gs ts):=by rw[← eS]; exact jE _ _
  obtain⟨_,l1,e1,b1,n1⟩:=uO S aL true
  have el1:l1=(pP fs ls al).map (lX gs ts):=List.append_cancel_left (e1.symm.trans em)
  rw[eS] at BW
  rw[← el1] at GZ
  have hcb:S.credits.length * S.aH.length<=60 * 60:=lK (by have:=wf.lc; omega) (by have:=wf.lb; omega)
  have wf1:WF (bY aL S true) (n + 1):=by
   refine wf.later lr (fun t ht=>?_) (dS _) ?_
   ·rw[e1] at ht
    rcases bL.mp ht with ht|ht
    ·exact wf.m t ht
    ·exact b1 t ht
   ·rw[e1,aK]
    have:=wf.lm
    have:=wf.lc
    omega
  obtain⟨dw1,Rq⟩:=BW.obj
  refine⟨_,rfl,pw,dw1,_,rfl,Rq,qV g,_,rfl,pw,f2,_,g,n + 1,aL,By,_,rfl,BW,wf1,(by omega),jr,ka,Jk,V2,OE,fun Sl TM Sm TN TQ R2 D2 Mn H2 F2 kz mB zx GY Gg Fq=>?_⟩
  obtain⟨er2,lr2⟩:=HU R2
  have Wn:Sm.length=Sl.length:=by rw[R2.ef,ae]
  have Yt:kq (bY aL S true) ((By Sm TN TQ).map (lX Sl TM))=S.jR aL:=by
   show _ =bY aL (bY aL S true) false
   rw[er2]; unfold By; rw[Wn]
  have Yu:(S.jR aL).made=(bY aL S true).made ++ (By Sm TN TQ).map (lX Sl TM):=by rw[← Yt]; exact jE _ _
  rw[Yt] at zx
  have GV:(S.jR aL).made.length<=8000 * 60 + 8000:=by
   obtain⟨_,l3,e3,_,n3⟩:=mS S aL
   rw[e3,aK]
   have:=wf.lm
   have:=wf.lc
   omega
  have Wo:D1∉tB :: tC :: g.fp:=fun z=>by
   rcases aw.mp z with z|z
   ·obtain⟨ps,e⟩:=dg kj
    rw[← z,R6] at e
    cases e
   ·rcases aw.mp z with z|z
    ·obtain⟨ps,e⟩:=dg jJ
     rw[← z,R6] at e
     cases e
    ·exact hW.new R6 z
  have Wq:=F2 _ _ Wo Gf
  have kt:cW H1 H2:=fun b xs e=>F2 b _ (fun z=>by
   rcases aw.mp z with z|z
   ·obtain⟨ps,e'⟩:=dg jr
    rw[z,e'] at e
    cases e
   ·rcases aw.mp z with z|z
    ·obtain⟨ps,e'⟩:=dg ka
     rw[z,e'] at e
     cases e
    ·obtain⟨ys,e'⟩:=BW.lists b z
     rw[e'] at e
     cases e) e
  have t1:=aQ GZ
  have t2:=aQ Fq
  have hlen:(S.jR aL).made.length=S.made.length + l1.length + ((By Sm TN TQ).map (lX Sl TM)).length:=by
   rw[Yu,e1,aK,aK]
  refine⟨_,rfl,_,rfl,D1,D2,Wm,Mn,rfl,rfl,Wq,Gg,?_,fun p np=>?_⟩
  ·have:Wm.length + Mn.length<=1000000:=by omega
   exact dU (ja this)
  ·have s3:=aD.new (o:= .lst (Wm ++ Mn)) np
   have F:=F1.tr F2
   have np0:H p=none:=by
    cases e:H p with
    |none=>rfl
    |some o=>
     exfalso
     by_cases jU:p∈tB :: tC :: g.fp
     ·rcases aw.mp jU with z|jU
      ·obtain⟨ps,q⟩:=dg kz
       rw[← z,np] at q
       cases q
      ·rcases aw.mp jU with z|jU
       ·obtain⟨ps,q⟩:=dg mB
        rw[← z,np] at q
        cases q
       ·exact zx.new np jU
     ·have q:=F _ _ jU e
      rw[np] at q
      cases q
   refine k p _ _ (F.dE s3) (cm kz s3) (cm mB s3) (zx.same s3) np0 ag ?_
   have ed:(S.jR aL).made.drop S.made.length=l1 ++ (By Sm TN TQ).map (lX Sl TM):=by
    rw[Yu,e1,gF,List.drop_left]
   rw[ed]
   exact oR ((GZ.mono kt).mono s3.tk) (Fq.mono s3.tk)
def rY (H:Hp)(ok:Addr->Prop):xy->V->Prop
 | .int i,v=>v= .int i
 | .txt s,v=>v= .str s
 | .sets l,v=> ∃D ms,v= .ref D/\ok D/\H D=some (.lst ms)/\il H l ms
 | .pairs l,v=> ∃D ms,v= .ref D/\ok D/\H D=some (.lst ms)/\iR H l ms
 | .ints l,v=> ∃D,v= .ref D/\ok D/\H D=some (.lst (l.map V.int))
theorem zA (g:eO):(ly g).lookup ("tell_bill":Str)=none:=by rfl
theorem tO (g:eO):(ly g).lookup ("tell_payment":Str)=none:=by rfl
theorem zB (g:eO):(ly g).lookup ("tell_note":Str)=none:=by rfl
theorem vt (g:eO):(ly g).lookup ("set_by_hand":Str)=none:=by rfl
theorem Jm (g:eO):(ly g).lookup ("sweep":Str)=none:=by rfl
def zC (A:ej)(K:PySem.W.Frag)(tB tC:Addr):Sp:=fun vs H Q E=> ∃(pw pd:Addr) (S:Bk) (f:eO) (n:Nat) (d:bI),vs=[.ref pw,.ref pd]/\dP A H pw S f/\WF S n/\n<=60/\l9 H tB/\mz H tC/\H pd=some (.tup (bI.vs d))/\d.tells=true/\
 (S.bar d=""-> ∀v f' H',f'.fp=f.fp->Frame (tB :: tC :: f.fp) H H'->l9 H' tB->mz H' tC->dP A H' pw (S.enter d) f'->rY H' (fun D=>H D=none) (S.GS d) v->Q v H')/\(S.bar d≠""->Lh A K E (S.bar d) H)
theorem Ez:a0 ["work","deed","kind"] ["work","deed"] (az (top 30)):=⟨rfl,rfl,rfl,by decide +kernel,rfl,by decide +kernel,by decide +kernel⟩
theorem Jn (T:Txt K mg){A:ej}{tB tC:Addr}(G:jy K mg A)(DB:pX K mg "bills_in_order" (top 17) tB)(DC:pX K mg "credits_in_order" (top 18) tC)(jf:tB≠tC)(KB:K.In base)(BM:BMain mg base):u0 P w K mg base "done" 7 ["work","deed"] (zC A K tB tC):=by
 have BA:gY (my P w mg) P w K mg base A.work "tell_bill" 5 ["self","who","day","due","amount"] (D9 A K):=Bb T G
 have vv:gY (my P w mg) P w K mg base A.work "tell_payment" 6 ["self","who","day","amount"] (Ea A K):=u9 T G
 have BB:gY (my P w mg) P w K mg base A.work "tell_note" 6 ["self","bill_number","day","amount"] (Eb A K):=Bc T G
 have wN:gY (my P w mg) P w K mg base A.work "set_by_hand" 5 ["self","credit_number","bill_number","amount"] (Ml A K):=wx T G
 have LG:gY sq P w K mg base A.work "sweep" 4 ["self","who"] (Ey A tB tC):=LF T G DB DC jf KB BM
 refine NW (k:=6) T.NN Ez (fun _ _ _ _ _ _ us hl=>match us,hl with|[_,_],_=>rfl) (fun vs H Q E h=>?_) (fun f dh A' outer s H vs Q E hr mi h=>?_)
 ·obtain⟨pw,pd,S,g,n,d,rfl,_⟩:=h
  rfl
 ·obtain⟨pw,pd,S,g,n,d,rfl,hW,wf,hn,kj,jJ,hd,ht,k1,k2⟩:=h
  have nd:=Ez.nd
  obtain⟨dw,hw⟩:=hW.obj
  refine⟨_,(ai (a9 (i:=2) nd rfl (Or.inl rfl) (aJ bb (pv 1) ah (fun _ _=>rfl)))
(ai (bX (aZ cX (pv 2) aW (ba _))
(au (bf (m9 BA (hr.mono (by decide)) mi.pass (pv 0) (aa (aJ bb (pv 1) ah (fun _ _=>rfl)) (aa (aJ bb (pv 1) ah (fun _ _=>rfl)) (aa (aJ bb (pv 1) ah (fun _ _=>rfl)) (aa (aJ bb (pv 1) ah (fun _ _=>rfl)) aj)))))))
bw)
(ai (bX (aZ cX (pv 2) aW (ba _))
(au (bf (m9 vv (hr.mono (by decide)) mi.pass (pv 0) (aa (aJ bb (pv 1) ah (fun _ _=>rfl)) (aa (aJ bb (pv 1) ah (fun _ _=>rfl)) (aa (aJ bb (pv 1) ah (fun _ _=>rfl)) aj))))))
bw)
(ai (bX (aZ cX (pv 2) aW (ba _))
(au (bf (m9 BB (hr.mono (by decide)) mi.pass (pv 0) (aa (aJ bb (pv 1) ah (fun _ _=>rfl)) (aa (aJ bb (pv 1) ah (fun _ _=>rfl)) (aa (aJ bb (pv 1) ah (fun _ _=>rfl)) aj))))))
bw)
(ai (bX (aZ cX (pv 2) aW (ba _))
(au (bf (m9 wN (hr.mono (by decide)) mi.pass (pv 0) (aa (aJ bb (pv 1) ah (fun _ _=>rfl)) (aa (aJ bb (pv 1) ah (fun _ _=>rfl)) (aa (aJ bb (pv 1) ah (fun _ _=>rfl)) aj))))))
bw)
(au (bf (m9 LG (hr.mono (by decide)) mM (pv 0) (aa (aJ bb (pv 1) ah (fun _ _=>rfl)) aj))))))))),?_⟩
  have ext: ∀a∈g.fp,∀φ,H a≠some (.ext φ):=fun a ha φ e=>by
   obtain⟨xs,z⟩:=hW.lists a ha
   rw[z] at e
   cases e
  have Gx:tB∉g.fp:=hW.off fun xs e=>by
   obtain⟨ps,z⟩:=dg kj
   rw[z] at e
   cases e
  have Gy:tC∉g.fp:=hW.off fun xs e=>by
   obtain⟨ps,z⟩:=dg jJ
   rw[z] at e
   cases e
  cases d with
  |i6 n=>cases ht
  |ask o w d=>cases ht
  |iM w d l=>cases ht
  |d9 wh dy du am=>
   refine⟨_,rfl,pd,_,_,.str "bill",rfl,rfl,cG.of hd,rfl,?_⟩
   refine⟨_,rfl,rfl,true,xN _,fJ ⟨_,rfl,pw,dw,_,rfl,hw,zA g,_,rfl,pd,_,_,.str wh,rfl,rfl,cG.of hd,rfl,_,rfl,pd,_,_,.int dy,rfl,rfl,cG.of hd,rfl,_,rfl,pd,_,_,.int du,rfl,rfl,cG.of hd,rfl,_,rfl,pd,_,_,.int am,rfl,rfl,cG.of hd,rfl,pw,S,g,wh,dy,du,am,rfl,hW,(by have:=wf.lb; omega),fun hb f1 H1 e1 F1 W1=>?_,k2⟩⟩
   exact k1 hb _ f1 H1 e1 (dQ F1 fun x hx=>by simp[hx]) (fY kj F1 Gx ext) (fY jJ F1 Gy ext) W1 rfl
  |ra wh dy am=>
   refine⟨_,rfl,pd,_,_,.str "pay",rfl,rfl,cG.of hd,rfl,?_⟩
   refine⟨_,rfl,rfl,false,jq (show("pay":Str)≠"bill" by decide +kernel),cg ?_⟩
   refine⟨_,rfl,rfl,true,xN _,fJ ⟨_,rfl,pw,dw,_,rfl,hw,tO g,_,rfl,pd,_,_,.str wh,rfl,rfl,cG.of hd,rfl,_,rfl,pd,_,_,.int dy,rfl,rfl,cG.of hd,rfl,_,rfl,pd,_,_,.int am,rfl,rfl,cG.of hd,rfl,pw,S,g,wh,dy,am,rfl,hW,(by have:=wf.lc; omega),fun hb f1 H1 e1 F1 W1=>?_,k2⟩⟩
   exact k1 hb _ f1 H1 e1 (dQ F1 fun x hx=>by simp[hx]) (fY kj F1 Gx ext) (fY jJ F1 Gy ext) W1 rfl
  |note b dy am=>
   refine⟨_,rfl,pd,_,_,.str "note",rfl,rfl,cG.of hd,rfl,?_⟩
   refine⟨_,rfl,rfl,false,jq (show("note":Str)≠"bill" by decide +kernel),cg ?_⟩
   refine⟨_,rfl,rfl,false,jq (show("note":Str)≠"pay" by decide +kernel),cg ?_⟩
   refine⟨_,rfl,rfl,true,xN _,fJ ⟨_,rfl,pw,dw,_,rfl,hw,zB g,_,rfl,pd,_,_,.int b,rfl,rfl,cG.of hd,rfl,_,rfl,pd,_,_,.int dy,rfl,rfl,cG.of hd,rfl,_,rfl,pd,_,_,.int am,rfl,rfl,cG.of hd,rfl,pw,S,g,b,dy,am,rfl,hW,(by have:=wf.lc; omega),fun hb f1 H1 e1 F1 W1=>?_,k2⟩⟩
   exact k1 hb _ f1 H1 e1 (dQ F1 fun x hx=>by simp[hx]) (fY kj F1 Gx ext) (fY jJ F1 Gy ext) W1 rfl
  |set c b am=>
   refine⟨_,rfl,pd,_,_,.str "set",rfl,rfl,cG.of hd,rfl,?_⟩
   refine⟨_,rfl,rfl,false,jq (show("set":Str)≠"bill" by decide +kernel),cg ?_⟩
   refine⟨_,rfl,rfl,false,jq (show("set":Str)≠"pay" by decide +kernel),cg ?_⟩
   refine⟨_,rfl,rfl,false,jq (show("set":Str)≠"note" by decide +kernel),cg ?_⟩
   refine⟨_,rfl,rfl,true,xN _,fJ ⟨_,rfl,pw,dw,_,rfl,hw,vt g,_,rfl,pd,_,_,.int c,rfl,rfl,cG.of hd,rfl,_,rfl,pd,_,_,.int b,rfl,rfl,cG.of hd,rfl,_,rfl,pd,_,_,.int am,rfl,rfl,cG.of hd,rfl,pw,S,g,n,c,b,am,rfl,hW,wf,(ja (by have:=wf.lm; omega)),fun hb f1 H1 e1 F1 W1=>?_,k2⟩⟩
   exact k1 hb _ f1 H1 e1 (dQ F1 fun x hx=>by simp[hx]) (fY kj F1 Gx ext) (fY jJ F1 Gy ext) W1 rfl
  |fI wh=>
   refine⟨_,rfl,pd,_,_,.str "sweep",rfl,rfl,cG.of hd,rfl,?_⟩
   refine⟨_,rfl,rfl,false,jq (show("sweep":Str)≠"bill" by decide +kernel),cg ?_⟩
   refine⟨_,rfl,rfl,false,jq (show("sweep":Str)≠"pay" by decide +kernel),cg ?_⟩
   refine⟨_,rfl,rfl,false,jq (show("sweep":Str)≠"note" by decide +kernel),cg ?_⟩
   refine⟨_,rfl,rfl,false,jq (show("sweep":Str)≠"set" by decide +kernel),cg ?_⟩
   refine⟨_,rfl,pw,dw,_,rfl,hw,Jm g,_,rfl,pd,_,_,.str wh,rfl,rfl,cG.of hd,rfl,pw,S,g,n,wh,rfl,hW,wf,(by omega),kj,jJ,fun D ms H1 F1 jr ka W1 nD hD hT=>?_⟩
   exact k1 rfl _ g H1 rfl F1 jr ka W1 ⟨D,ms,rfl,nD,hD,hT⟩
theorem Jo {α:Type}(x:α)(xs:List α):q0 (x :: xs) 0=some x:=cO (xs:=x :: xs) (j:=0) rfl
def kZ (H:Hp)(ss:List (Int×bI))(br:List (Key×V)):Prop:=Paired (fun(st:Int×bI) (kv:Key×V)=>kv.1=Sum.inl st.1/\ ∃pd,kv.2= .ref pd/\H pd=some (.tup (bI.vs st.2))/\st.2.tells=true) ss br
theorem kZ.mono {H H':Hp}{ss:List (Int×bI)}{br:List (Key×V)}(h:kZ H ss br)(k:cW H H'):kZ H' ss br:=Paired.ir h fun _ _ ⟨e,p,e2,z,t⟩=>⟨e,p,e2,k _ _ z,t⟩
structure fO (A:ej)(H:Hp)(pb pk pw:Addr)(T:jl)(f:eO):Prop where
 obj:eF H pb A.book (eW pk pw)
 kept: ∃br,H pk=some (.dK br)/\kZ H T.steps br
 wk:dP A H pw T.bk f
theorem fO.same {A:ej}{H H':Hp}{pb pk pw:Addr}{T:jl}{f:eO}(h:fO A H pb pk pw T f)(s:aD H H'):fO A H' pb pk pw T f:=by
 obtain⟨br,k1,k2⟩:=h.kept
 exact⟨h.obj.same s,⟨br,s _ _ k1,k2.mono s.tk⟩,h.wk.same s⟩
theorem EA {A:ej}{H H':Hp}{pw:Addr}{S:Bk}{f:eO}(h:dP A H pw S f)(kl: ∀a xs,H a=some (.lst xs)->H' a=some (.lst xs))(ki: ∀a C dx fs,fs.length=5->H a=some (.ins C dx fs)->H' a=some (.ins C dx fs))(kt:cW H H'):dP A H' pw S f:=by
 obtain⟨dw,hw⟩:=h.obj
 obtain⟨ms,m1,m2⟩:=h.hm
 exact⟨⟨dw,ki _ _ _ _ rfl hw⟩,kl _ _ h.hb,kl _ _ h.hc,kl _ _ h.hl,kl _ _ h.hf,⟨ms,kl _ _ m1,m2.mono kt⟩,⟨h.rb.1,fun i p e=>let⟨dx,z⟩:=h.rb.2 i p e; ⟨dx,ki _ _ _ _ rfl z⟩⟩,⟨h.rc.1,fun i p e=>let⟨dx,z⟩:=h.rc.2 i p e; ⟨dx,ki _ _ _ _ rfl z⟩⟩,h.nd⟩
def Jp (o:HO):Prop:=(∀xs,o≠ .lst xs)/\(∀xs,o≠ .tup xs)/\ ∀C dx fs,fs.length=5->o≠ .ins C dx fs
theorem vw {A:ej}{H:Hp}{pw p:Addr}{S:Bk}{f:eO}{o u:HO}(h:dP A H pw S f)(e:H p=some o)(n:Jp o):dP A (upd H p u) pw S f:=
 EA h (fun a xs z=>by rw[aA (fun q=>by rw[q,e] at z; exact n.1 xs (aF z))]; exact z) (fun a C dx fs hl z=>by rw[aA (fun q=>by rw[q,e] at z; exact n.2.2 C dx fs hl (aF z))]; exact z)
  (fun a xs z=>by rw[aA (fun q=>by rw[q,e] at z; exact n.2.1 xs (aF z))]; exact z)
theorem ud (br:List (Key×V)):Jp (.dK br):=⟨fun _ z=>(by cases z),fun _ z=>(by cases z),fun _ _ _ _ z=>(by cases z)⟩
theorem Jq (φ:Heap->Prop):Jp (.ext φ):=⟨fun _ z=>(by cases z),fun _ z=>(by cases z),fun _ _ _ _ z=>(by cases z)⟩
theorem xU (C dx pk pw:Addr):Jp (.ins C dx (eW pk pw)):=⟨fun _ z=>(by cases z),fun _ z=>(by cases z),fun _ _ fs hl z=>(by injection z with _ _ z; rw[← z] at hl; cases hl)⟩
theorem zD {H:Hp}{p:Addr}{o u:HO}(e:H p=some o)(n:Jp o):cW H (upd H p u):=fun a xs z=>by rw[aA (fun q=>by rw[q,e] at z; exact n.2.1 xs (aF z))]; exact z
theorem rY.keep {H H':Hp}{ok Yv:Addr->Prop}{a:xy}{v:V}(h:rY H ok a v)(kl: ∀D xs,ok D->H D=some (.lst xs)->Yv D/\H' D=some (.lst xs))(kt:cW H H'):rY H' Yv a v:=by
 cases a with
 |int i=>exact h
 |txt s=>exact h
 |sets l=>
  obtain⟨D,ms,e,o,z,t⟩:=h
  obtain⟨o',z'⟩:=kl _ _ o z
  exact⟨D,ms,e,o',z',t.mono kt⟩
 |pairs l=>
  obtain⟨D,ms,e,o,z,t⟩:=h
  obtain⟨o',z'⟩:=kl _ _ o z
  exact⟨D,ms,e,o',z',iR.mono t kt⟩
 |«ints» l=>
  obtain⟨D,e,o,z⟩:=h
  obtain⟨o',z'⟩:=kl _ _ o z
  exact⟨D,e,o',z'⟩
theorem rZ {H:Hp}{m:Int}: ∀{ss:List (Int×bI)} {br:List (Key×V)},kZ H ss br->gi br (Sum.inl m:Key)=none-> ∀st∈ss,st.1≠m
 |_,_,.nil,_,_,h=>by cases h
 |_,_,.cons (a:=a) (b:=kv) ⟨e,_⟩ t,hv,st,h=>by
  by_cases q:kv.1=(Sum.inl m:Key)
  ·rw[fL q] at hv
   cases hv
  ·rw[fA q] at hv
   rcases aw.mp h with rfl|h
   ·intro z
    rw[e,z] at q
    exact q rfl
   ·exact rZ t hv st h
theorem xV {H:Hp}{m:Int}{v:V}: ∀{ss:List (Int×bI)} {br:List (Key×V)},kZ H ss br->gi br (Sum.inl m:Key)=some v-> ∃st∈ss,st.1=m/\ ∃pd,v= .ref pd/\H pd=some (.tup (bI.vs st.2))/\st.2.tells=true
 |_,_,.nil,hv=>by cases hv
 |_,_,.cons (a:=a) (b:=kv) ⟨e,pd,e2,z,tl⟩ t,hv=>by
  by_cases q:kv.1=(Sum.inl m:Key)
  ·rw[fL q] at hv
   rw[e] at q
   refine⟨a,bT,by injection q,pd,?_,z,tl⟩
   rw[← aF hv,e2]
  ·rw[fA q] at hv
   obtain⟨st,h1,h2⟩:=xV t hv
   exact⟨st,bz _ h1,h2⟩
theorem BC {H:Hp}{m:Int}: ∀{ss:List (Int×bI)} {br:List (Key×V)},kZ H ss br->(∀st∈ss,st.1≠m)->gi br (Sum.inl m:Key)=none
 |_,_,.nil,_=>rfl
 |_,_,.cons (a:=a) (b:=kv) ⟨e,_⟩ t,h=>by
  rw[fA (fun q=>by
   rw[e] at q
   exact h a bT (by injection q))]
  exact BC t fun st hs=>h st (bz _ hs)
theorem xW {H:Hp}{m:Int}: ∀{ss:List (Int×bI)} {br:List (Key×V)},kZ H ss br->kZ H (ss.filter fun st=>decide (st.1≠m)) (k9 br (Sum.inl m:Key))
 |_,_,.nil=> .nil
 |_,_,.cons (a:=a) (b:=kv) ⟨e,r⟩ t=>by
  have ih:=xW (m:=m) t
  unfold k9 at ih ⊢
  by_cases q:a.1=m
  ·have q':kv.1=(Sum.inl m:Key):=by rw[e,q]
   rw[List.filter_cons_of_neg (by simp[q]),List.filter_cons_of_neg (by simp[q'])]
   exact ih
  ·have q': ¬ kv.1=(Sum.inl m:Key):=by rw[e]; intro z; exact q (by injection z)
   rw[List.filter_cons_of_pos (by simp[q]),List.filter_cons_of_pos (by simp[q'])]
   exact .cons ⟨e,r⟩ ih
theorem vx: ∀{ss:List (Int×bI)},ss.Pairwise (fun a b=>a.1 < b.1)-> ∀{x y:Int×bI},x∈ss->y∈ss->x.1=y.1->x=y
 |[],_,_,_,h,_,_=>by cases h
 |a :: ss,hp,x,y,hx,hy,e=>by
  rw[fm] at hp
  rcases aw.mp hx with hx|hx
  ·rcases aw.mp hy with hy|hy
   ·rw[hx,hy]
   ·have:=hp.1 y hy
    rw[hx] at e
    omega
  ·rcases aw.mp hy with hy|hy
   ·have:=hp.1 x hx
    rw[hy] at e
    omega
   ·exact vx hp.2 hx hy e
def Gz (ss:List (Int×bI))(m:Int):Bool:=ss.any fun st=>decide (st.1=m) && st.2.isSet
theorem pQ (ss:List (Int×bI))(m:Int):(ss.filter (cv m)).length=ss.length↔Gz ss m=false:=by
 rw[List.length_filter_eq_length_iff]
 unfold Gz
 rw[rh]
 constructor
 ·intro h st hs
  have:=h st hs
  unfold cv at this
  cases h2:decide (st.1=m) && st.2.isSet
  ·simp
  ·rw[h2] at this
   cases this
 ·intro h st hs
  have:=h st hs
  unfold cv
  cases h2:decide (st.1=m) && st.2.isSet
  ·rfl
  ·exact absurd h2 this
theorem Jr {ss:List (Int×bI)}{m:Int}{st:Int×bI}(hp:ss.Pairwise (fun a b=>a.1 < b.1))(hs:st∈ss)(e:st.1=m):Gz ss m=st.2.isSet:=by
 unfold Gz
 cases h:st.2.isSet with
 |true=>exact List.any_eq_true.mpr ⟨st,hs,by simp[e,h]⟩
 |false=>
  rw[rh]
  intro x hx z
  have z':x.1=m/\x.2.isSet=true:=by simpa using z
  have q:=vx hp hx hs (z'.1.trans e.symm)
  rw[q,h] at z'
  cases z'.2
theorem BD {ss:List (Int×bI)}{m:Int}(h: ∀st∈ss,st.1≠m):Gz ss m=false:=by
 unfold Gz
 rw[rh]
 intro x hx z
 have z':x.1=m/\x.2.isSet=true:=by simpa using z
 exact h x hx z'.1
theorem Js {ss:List (Int×bI)}{m:Int}(hp:ss.Pairwise (fun a b=>a.1 < b.1))(h:Gz ss m=true):ss.filter (cv m)=ss.filter fun st=>decide (st.1≠m):=by
 apply rq
 intro st hs
 unfold cv
 by_cases e:st.1=m
 ·rw[← Jr hp hs e,h]
  simp[e]
 ·simp[e]
theorem BE (pk pw:Addr):(eW pk pw).lookup ("in_force":Str)=none:=by rfl
theorem LH (pk pw:Addr):(eW pk pw).lookup ("undo":Str)=none:=by rfl
theorem Sn (pk pw:Addr):(eW pk pw).lookup ("do":Str)=none:=by rfl
def xX (A:ej):Sp:=fun vs H Q _=> ∃(pb pk pw:Addr) (T:jl) (f:eO) (n:Nat) (m:Int),vs=[.ref pb,.int m]/\fO A H pb pk pw T f/\Good T n/\ ∀H',aD H H'->Q (.bl (Gz T.steps m)) H'
theorem r9:a0 ["self","number"] ["self","number"] (az (mem 29 3)):=⟨rfl,rfl,rfl,by decide +kernel,rfl,by decide +kernel,by decide +kernel⟩
theorem De {A:ej}(G:jy K mg A):gY sq P w K mg base A.book "in_force" 1 ["self","number"] (xX A):=by
 refine Lc (k:=0) G.rR G.eV r9 (fun _ _ _ _ _ _ us hl=>match us,hl with|[_,_],_=>rfl) (fun vs H Q E h=>?_) (fun f dh A' outer s H vs Q E hr h=>?_)
 ·obtain⟨pb,pk,pw,T,g,n,m,rfl,_⟩:=h
  rfl
 ·obtain⟨pb,pk,pw,T,g,n,m,rfl,hB,hG,k⟩:=h
  have hu:=jO hr
  obtain⟨db,hb⟩:=hB.obj
  obtain⟨br,hk,hK⟩:=hB.kept
  refine⟨_,(au (bf (rC (MQ (M9 hu (pv 1) (cu (pv 0) rfl))) (o7 (fv nS (aJ bb (cS hu (cu (pv 0) rfl) (pv 1) (fun _ _=>rfl)) ah (fun _ _=>rfl)) (dD (aa aW (aa aW aj))) (by rfl)))))),?_⟩
  refine⟨_,rfl,_,rfl,pb,_,db,_,_,rfl,hb,G.eV,G.gI,ua _ _,pk,_,rfl,mx.k (k:=(Sum.inl m:Key)) hk,_,rfl,?_⟩
  cases hv:gi br (Sum.inl m:Key) with
  |none=>
   refine cg ?_
   have q:=k H (aD.refl _)
   rw[BD (rZ hK hv)] at q
   exact q
  |some v=>
   refine fJ ?_
   obtain⟨st,hs,e,pd,rfl,GW,ht⟩:=xV hK hv
   obtain⟨r,er⟩:=tZ (.inl ht)
   rw[er] at GW
   refine⟨_,rfl,pb,_,db,_,_,rfl,hb,G.eV,G.gI,ua _ _,_,rfl,pk,.ref pd,rfl,(by have z:=mx.k (k:=(Sum.inl m:Key)) hk; rw[hv] at z; exact z),pd,_,_,.str (bI.word st.2),rfl,rfl,cG.of GW,Jo _ _,(by show 2<=sizeLine; decide),fun p np=>?_⟩
   have s1:=aD.new (o:= .tup [.str "set",.str "sweep"]) np
   refine⟨p,_,rfl,.inr (cG.of ag),rfl,rfl,?_⟩
   have q:=k _ s1
   rw[Jr hG.inc hs e,← Ek ht] at q
   exact q
def So (A:ej)(K:PySem.W.Frag)(tB tC:Addr):Sp:=fun vs H Q E=> ∃(pb pd pk pw:Addr) (T:jl) (f:eO) (n:Nat) (d:bI),vs=[.ref pb,.int n,.ref pd]/\fO A H pb pk pw T f/\Good T n/\n<=59/\l9 H tB/\mz H tC/\H pd=some (.tup (bI.vs d))/\d.tells=true/\
 (T.bk.bar d=""-> ∀v f' H',f'.fp=f.fp->Frame (tB :: tC :: pk :: f.fp) H H'->l9 H' tB->mz H' tC->fO A H' pb pk pw ⟨T.steps ++ [((n:Int),d)],T.bk.enter d⟩ f'->rY H' (fun D=>H D=none) (T.bk.GS d) v->Q v H')/\(T.bk.bar d≠""->Lh A K E (T.bk.bar d) H)
theorem vy:a0 ["self","number","deed","answer"] ["self","number","deed"] (az (mem 29 1)):=⟨rfl,rfl,rfl,by decide +kernel,rfl,by decide +kernel,by decide +kernel⟩
theorem Wr (T:Txt K mg){A:ej}{tB tC:Addr}(G:jy K mg A)(DB:pX K mg "bills_in_order" (top 17) tB)(DC:pX K mg "credits_in_order" (top 18) tC)(jf:tB≠tC)(KB:K.In base)(BM:BMain mg base):gY (my P w mg) P w K mg base A.book "do" 8 ["self","number","deed"] (So A K tB tC):=by
 have Dg:u0 P w K mg base "done" 7 ["work","deed"] (zC A K tB tC):=Jn T G DB DC jf KB BM
 refine qI (k:=7) G.CJ G.eV vy (fun _ _ _ _ _ _ us hl=>match us,hl with|[_,_,_],_=>rfl) (fun vs H Q E h=>?_) (fun f dh A' outer s H vs Q E hr mi h=>?_)
 ·obtain⟨pb,pd,pk,pw,T,g,n,d,rfl,_⟩:=h
  rfl
 ·obtain⟨pb,pd,pk,pw,T,g,n,d,rfl,hB,hG,hn,kj,jJ,hd,ht,k1,k2⟩:=h
  have hu:=jO hr
  have nd:=vy.nd
  obtain⟨db,hb⟩:=hB.obj
  obtain⟨br,hk,hK⟩:=hB.kept
  have hW:=hB.wk
  refine⟨_,(ai (a9 (i:=3) nd rfl (Or.inl rfl) (rT Dg (hr.mono (by decide)) rfl mi.pass (aa (cu (pv 0) rfl) (aa (pv 2) aj))))
(ai (DE hu (cu (pv 0) rfl) (pv 1) (pv 2) rfl)
(au (bf (pv 3))))),?_⟩
  refine⟨_,rfl,pb,_,db,_,_,rfl,hb,G.eV,G.gJ,ub _ _,_,rfl,pw,pd,T.bk,g,n,d,rfl,hW,hG.wf (by omega),(by omega),kj,jJ,hd,ht,fun oz v f1 H1 e1 F1 jr ka W1 hA=>?_,k2⟩
  have OF: ∀a o,H a=some o->(∀xs,o≠ .lst xs)->(∀ps,o≠ .nQ ps)->a∉tB :: tC :: g.fp:=fun a o e n1 n2 z=>by
   rcases aw.mp z with z|z
   ·obtain⟨ps,q⟩:=dg kj
    rw[z,q] at e
    exact n2 ps (aF e).symm
   ·rcases aw.mp z with z|z
    ·obtain⟨ps,q⟩:=dg jJ
     rw[z,q] at e
     exact n2 ps (aF e).symm
    ·obtain⟨xs,q⟩:=hW.lists a z
     rw[q] at e
     exact n1 xs (aF e).symm
  have kt:cW H H1:=fun a xs e=>F1 _ _ (OF _ _ e (fun _ z=>by cases z) (fun _ z=>by cases z)) e
  have Sq:=F1 _ _ (OF _ _ hb (fun _ z=>by cases z) (fun _ z=>by cases z)) hb
  have GA:=F1 _ _ (OF _ _ hk (fun _ z=>by cases z) (fun _ z=>by cases z)) hk
  have Yw:=hK.mono kt
  have lU:=kt _ _ hd
  have Ef:=aQ hK
  have hlen:=hG.len
  refine⟨_,rfl,_,rfl,pb,_,db,_,_,rfl,Sq,G.eV,G.gI,ua _ _,_,rfl,pk,_,rfl,Fe.k (k:=(Sum.inl (n:Int):Key)) GA (bB (by omega)),?_⟩
  rw[Hy _ (BC Yw fun st hs=>by have:=(hG.lt st hs).2; omega)]
  have s2: ∀a o,a≠pk->H1 a=some o->upd H1 pk (.dK (br ++ [(Sum.inl (n:Int),V.ref pd)])) a=some o:=fun a o hn e=>by rw[aA hn]; exact e
  have nbk:pb≠pk:=mF Sq GA (by intro z; cases z)
  have Ws:=zD (u:= .dK (br ++ [(Sum.inl (n:Int),V.ref pd)])) GA (ud br)
  refine⟨_,rfl,k1 oz v f1 _ e1 ((dQ F1 fun x hx=>?_).tr (Frame.upd (by simp))) (fY jr (Frame.upd (fp:=[pk]) (by simp)) (fun z=>?_) (fun a ha φ e=>?_)) (fY ka (Frame.upd (fp:=[pk]) (by simp)) (fun z=>?_) (fun a ha φ e=>?_)) ⟨⟨db,s2 _ _ nbk Sq⟩,⟨_,ag,?_⟩,vw W1 GA (ud br)⟩ ?_⟩
  ·rcases aw.mp hx with hx|hx
   ·simp[hx]
   ·rcases aw.mp hx with hx|hx
    ·simp[hx]
    ·simp[hx]
  ·obtain⟨ps,q⟩:=dg jr
   rw[ao.mp z,GA] at q
   cases q
  ·rw[ao.mp ha,GA] at e
   cases e
  ·obtain⟨ps,q⟩:=dg ka
   rw[ao.mp z,GA] at q
   cases q
  ·rw[ao.mp ha,GA] at e
   cases e
  ·exact cQ (Yw.mono Ws) ⟨rfl,pd,rfl,Ws _ _ lU,ht⟩
  ·exact hA.keep (fun D xs o e=>⟨o,s2 _ _ (mF e GA (by intro z; cases z)) e⟩) Ws
theorem BF: ∀{ss:List (Int×bI)} {B S:Bk} {i:Nat} {k:Int} {d:bI},cV (ss.take i) B=some S->ss[i]? =some (k,d)->S.bar d≠""->iD ss B=S.bar d/\cV ss B=none
 |[],_,_,_,_,_,_,h,_=>by simp at h
 |(k0,d0) :: ss,B,S,0,k,d,hw,h,hb=>by
  cases hw
  have e:(k0,d0)=(k,d):=by simpa using h
  cases e
  unfold iD cV
  rw[aV hb,aV hb]
  exact⟨rfl,rfl⟩
 |(k0,d0) :: ss,B,S,i + 1,k,d,hw,h,hb=>by
  rw[List.take_succ_cons] at hw
  unfold cV at hw
  split at hw
  ·rename_i q
   have ih:=BF hw (by simpa using h) hb
   unfold iD cV
   rw[bg q,bg q]
   exact ih
  ·cases hw
theorem BG {ss:List (Int×bI)}{B S:Bk}{i:Nat}{k:Int}{d:bI}(hw:cV (ss.take i) B=some S)(h:ss[i]? =some (k,d))(hb:S.bar d=""):cV (ss.take (i + 1)) B=some (S.enter d):=by
 obtain⟨hi,e⟩:=av.mp h
 rw[oE hi,kO,hw,e]
 show(if S.bar d="" then some (S.enter d) else none)=_
 rw[bg hb]
def Wt (A:ej)(K:PySem.W.Frag)(tB tC:Addr)(fp:List Addr)(E:XK)(t:Str)(H:Hp):Prop:= ∀C dx H',gX K C A.refusal->Frame fp H H'->l9 H' tB->mz H' tC->H dx=none->H' dx=some (.xd [("text",.str t)])->E (.ref C) (some dx) H'
def EB (A:ej)(K:PySem.W.Frag)(tB tC:Addr):Sp:=fun vs H Q E=> ∃(pk:Addr) (ss:List (Int×bI)) (br:List (Key×V)),vs=[.ref pk]/\H pk=some (.dK br)/\kZ H ss br/\ss.length<=59/\(iD ss Bk.new=""∨iD ss Bk.new="too much")/\l9 H tB/\mz H tC/\
 (∀S,cV ss Bk.new=some S-> ∀pw f H',Frame [tB,tC] H H'->l9 H' tB->mz H' tC->dP A H' pw S f->H pw=none->(∀b∈f.fp,H b=none)->Q (.ref pw) H')/\(cV ss Bk.new=none->Wt A K tB tC [tB,tC,pk] E "needed" H)
theorem oT:a0 ["kept","work","deed"] ["kept"] (az (top 31)):=⟨rfl,rfl,rfl,by decide +kernel,rfl,by decide +kernel,by decide +kernel⟩
theorem Mv {H:Hp}{tb d:Addr}{pos:Pos}{qual:Str}{φ:Heap->Prop}{u:HO}(t:Tb H tb pos qual)(e:H d=some (.ext φ))(n: ∀q:Str,φ≠fun h=>h.CodeRec (.ref d) q):Tb (upd H d u) tb pos qual:=by
 obtain⟨ps,h1,h2,h3⟩:=t
 refine⟨ps,by rw[aA (mF h1 e (by intro z; cases z))]; exact h1,h2,?_⟩
 rcases h3 with h3|⟨c',h3,h4⟩
 ·exact .inl h3
 ·refine .inr ⟨c',h3,?_⟩
  by_cases z:c'=d
  ·subst z
   rw[e] at h4
   have h5:=aF h4
   injection h5 with h5
   exact absurd h5 (n qual)
  ·rw[aA z]
   exact h4
theorem zE (T:Txt K mg){A:ej}{tB tC:Addr}(G:jy K mg A)(DB:pX K mg "bills_in_order" (top 17) tB)(DC:pX K mg "credits_in_order" (top 18) tC)(jf:tB≠tC)(hnd:A.i8≠A.tooMuch)(KB:K.In base)(BM:BMain mg base):u0 P w K mg base "done_again" 8 ["kept"] (EB A K tB tC):=by
 have Dg:u0 P w K mg base "done" 7 ["work","deed"] (zC A K tB tC):=Jn T G DB DC jf KB BM
 have C5:tF P w K mg base "Work" A.work 1 ["self"] (zf A):=IP G
 refine NW (k:=7) T.yD oT (fun _ _ _ _ _ _ us hl=>match us,hl with|[_],_=>rfl) (fun vs H Q E h=>?_) (fun f dh A' outer s H vs Q E hr mi h=>?_)
 ·obtain⟨pk,ss,br,rfl,_⟩:=h
  rfl
 ·obtain⟨pk,ss,br,rfl,hk,hK,hl,hfb,kj,jJ,k1,k2⟩:=h
  have nd:=oT.nd
  refine⟨_,(ai (a9 (i:=1) nd rfl (Or.inl rfl) (IA C5 (hr.mono (by decide)) rfl))
(ai (K0 mi.own rfl (pv 0) (bD (i:=2) nd rfl (Or.inl rfl))
(au (AB mi rfl rfl G.uZ G.pI (show mg "Needed"≠some (.ref A.tooMuch) from fun z=>hnd (by rw[G.xG] at z; injection z with z; injection z)) (F9 T G) (hr.h.mono (by decide)) rfl (fun xe pn E hx=>au (bU (rT Dg (hr.mono (by decide)) rfl hx (aa (pv 1) (aa (pv 2) aj))))))))
(au (bf (pv 1))))),?_⟩
  intro xw V3 Lv Ol ne
  have s1:=lC (C:=A.work) (fs:=[]) Lv Ol ne
  refine⟨xw,V3,rfl,ag,fun g H1 F1 W1 nf=>⟨rfl,?_⟩⟩
  have fg: ∀b∈g.fp,H b=none:=fun b hb=>s1.free (nf b hb)
  have S1:aD H H1:=fun b o e=>F1 b o (by simpa using aN e Lv) (s1 b o e)
  clear F1 nf s1
  refine⟨_,rfl,?_⟩
  have GA:=S1 _ _ hk
  have hlen:=aQ hK
  refine Ir (td:=fun _ _ _=>True) GA fun φ hφ=>⟨fun i σ H2=> ∃(S:Bk) (f:eO) (x2:Option V),σ=[some (.ref pk),some (.ref xw),x2]/\cV (ss.take i) Bk.new=some S/\dP A H2 xw S f/\(∀b∈f.fp,H b=none)/\Frame [tB,tC,pk] H H2/\H2 pk=some (.ext φ)/\l9 H2 tB/\mz H2 tC,?_,?_,?_,?_⟩
  ·have ext: ∀a∈[pk],∀φ,H1 a≠some (.ext φ):=fun a ha φ e=>by
    rw[ao.mp ha,GA] at e
    cases e
   have nB:tB∉[pk]:=fun z=>by
    obtain⟨ps,q⟩:=dg kj
    rw[ao.mp z,hk] at q
    cases q
   have nC:tC∉[pk]:=fun z=>by
    obtain⟨ps,q⟩:=dg jJ
    rw[ao.mp z,hk] at q
    cases q
   exact⟨Bk.new,g,none,rfl,rfl,vw W1 GA (ud br),fg,(S1.frame (fp:=[tB,tC,pk])).tr (Frame.upd (by simp)),ag,fY (cm kj S1) (Frame.upd (fp:=[pk]) (by simp)) nB ext,fY (cm jJ S1) (Frame.upd (fp:=[pk]) (by simp)) nC ext⟩
  ·rintro i σ H2 ⟨S,f,x2,_,_,_,_,_,e,_⟩
   exact e
  ·rintro i x σ H2 hx ⟨S,f,x2,rfl,hw,hW,hf,F2,e2,kz,mB⟩
   rw[aB] at hx
   obtain⟨kv,Tp,rfl⟩:=bG.mp hx
   have hi:i < ss.length:=by have:=(av.mp Tp).1; omega
   have oA:=af hi
   obtain⟨kv',Sr,ek,pd,epd,GW,ht⟩:=bR hK oA
   rw[Tp] at Sr
   obtain rfl:kv=kv':=aF Sr
   generalize ss[i]=st at oA ek GW ht
   obtain⟨sn,d⟩:=st
   rw[epd]
   have N6:H2 pd=some (.tup (bI.vs d)):=F2 _ _ (fun z=>by
    simp only[List.mem_cons,List.not_mem_nil,or_false] at z
    rcases z with z|z|z
    ·obtain⟨ps,q⟩:=dg kj
     rw[← z,GW] at q
     cases q
    ·obtain⟨ps,q⟩:=dg jJ
     rw[← z,GW] at q
     cases q
    ·rw[z,hk] at GW
     cases GW) GW
   have wf:WF S (0 + (ss.take i).length):=rP _ WF.new hw (by rw[bC]; omega)
   refine⟨_,rfl,_,rfl,xw,pd,S,f,_,d,rfl,hW,wf,(by rw[bC]; omega),kz,mB,N6,ht,fun hb v f' H3 e3 F3 oB oC W3 _=>?_,fun hb=>?_⟩
   ·refine⟨S.enter d,f',_,rfl,BG hw oA hb,W3,(by rw[e3]; exact hf),F2.trans F3 (fun x hx=>?_),F3 _ _ (fun z=>?_) e2,oB,oC⟩
    ·rcases aw.mp hx with hx|hx
     ·exact .inl (by simp[hx])
     ·rcases aw.mp hx with hx|hx
      ·exact .inl (by simp[hx])
      ·exact .inr (hf x hx)
    ·rcases aw.mp z with z|z
     ·obtain⟨ps,q⟩:=dg kz
      rw[← z,e2] at q
      cases q
     ·rcases aw.mp z with z|z
      ·obtain⟨ps,q⟩:=dg mB
       rw[← z,e2] at q
       cases q
      ·have:=hf _ z
       rw[hk] at this
       cases this
   ·obtain⟨ef,ew⟩:=BF hw oA hb
    have et:S.bar d="too much":=(hfb.resolve_left (by rw[ef]; exact hb)).symm.trans ef |>.symm
    intro C hC hCt dx H3 s3 nd3 GX
    have SS:C=A.tooMuch:=hCt et
    refine⟨by rw[SS],fun Wu n2=>?_⟩
    have s4:=aD.new (o:= .xd [("text",.str "needed")]) n2
    have Jt:=s3.trans s4
    refine k2 ew A.i8 Wu _ G.xH (F2.dE Jt) (cm kz Jt) (cm mB Jt) ?_ ag
    have Ss:=s3.free n2
    cases e:H Wu with
    |none=>rfl
    |some o=>
     exfalso
     by_cases jU:Wu∈[tB,tC,pk]
     ·simp only[List.mem_cons,List.not_mem_nil,or_false] at jU
      rcases jU with z|z|z
      ·obtain⟨ps,q⟩:=dg kz
       rw[← z,Ss] at q
       cases q
      ·obtain⟨ps,q⟩:=dg mB
       rw[← z,Ss] at q
       cases q
      ·rw[z,e2] at Ss
       cases Ss
     ·have q:=F2 _ _ jU e
      rw[Ss] at q
      cases q
  ·rintro σ H2 ⟨S,f,x2,rfl,hw,hW,hf,F2,e2,kz,mB⟩
   rw[← hlen,bh] at hw
   refine⟨_,rfl,k1 S hw xw f _ (fun b o hb e=>?_) (Mv kz e2 hφ.2) (Mv mB e2 hφ.2) (vw hW e2 (Jq φ)) Lv hf⟩
   by_cases z:b=pk
   ·subst z
    rw[hk] at e
    rw[ag]
    exact e
   ·rw[aA z]
    exact F2 _ _ (by simp only[List.mem_cons,List.not_mem_nil,or_false,not_or] at hb ⊢; exact⟨hb.1,hb.2,z⟩) e
theorem OG (pk pw rg:Addr):eJ "work" (.ref rg) (eW pk pw)=eW pk rg:=by rfl
theorem OH (pk vz pw:Addr):eJ "kept" (.ref vz) (eW pk pw)=eW vz pw:=by rfl
def Ju (A:ej)(K:PySem.W.Frag)(tB tC:Addr):Sp:=fun vs H Q E=> ∃(pb pk pw:Addr) (T:jl) (f:eO) (n:Nat) (m:Int),vs=[.ref pb,.int m]/\fO A H pb pk pw T f/\Good T n/\n<=59/\l9 H tB/\mz H tC/\
 (Gz T.steps m=true-> ∀S,cV (T.steps.filter (cv m)) Bk.new=some S-> ∀vz rg f' H',Frame [tB,tC,pb] H H'->l9 H' tB->mz H' tC->fO A H' pb vz rg ⟨T.steps.filter (cv m),S⟩ f'->H vz=none->(∀b∈f'.fp,H b=none)->Q (.str "undone") H')/\
 (Gz T.steps m=true->cV (T.steps.filter (cv m)) Bk.new=none->Wt A K tB tC [tB,tC] E "needed" H)/\(Gz T.steps m=false->Wt A K tB tC [tB,tC] E "no setting" H)
theorem qW:a0 ["self","number","kept"] ["self","number"] (az (mem 29 2)):=⟨rfl,rfl,rfl,by decide +kernel,rfl,by decide +kernel,by decide +kernel⟩
theorem OI (T:Txt K mg){A:ej}{tB tC:Addr}(G:jy K mg A)(DB:pX K mg "bills_in_order" (top 17) tB)(DC:pX K mg "credits_in_order" (top 18) tC)(jf:tB≠tC)(hnd:A.i8≠A.tooMuch)(KB:K.In base)(BM:BMain mg base):gY (my P w mg) P w K mg base A.book "undo" 9 ["self","number"] (Ju A K tB tC):=by
 have zF:u0 P w K mg base "done_again" 8 ["kept"] (EB A K tB tC):=zE T G DB DC jf hnd KB BM
 have Dh:gY sq P w K mg base A.book "in_force" 1 ["self","number"] (xX A):=De G
 refine qI (k:=8) G.yT G.eV qW (fun _ _ _ _ _ _ us hl=>match us,hl with|[_,_],_=>rfl) (fun vs H Q E h=>?_) (fun f dh A' outer s H vs Q E hr mi h=>?_)
 ·obtain⟨pb,pk,pw,TT,g,n,m,rfl,_⟩:=h
  rfl
 ·obtain⟨pb,pk,pw,TT,g,n,m,rfl,hB,hG,hn,kj,jJ,k1,k2,k3⟩:=h
  have hu:=jO hr
  have nd:=qW.nd
  obtain⟨db,hb⟩:=hB.obj
  refine⟨_,(ai (bX (jL (gg (m9 Dh (hr.mono (by decide)) mM (pv 0) (aa (pv 1) aj))))
(au (jW mi (yX T G) (hr.h.mono (by decide)) rfl rfl))
bw)
(ai (a9 (i:=2) nd rfl (Or.inl rfl) (f7 AL (by rfl) T.NP (by rfl) (aa (cu (pv 0) rfl) aj)))
(ai (bU (HB (pv 2) (pv 1) ⟨rfl,rfl,rfl,rfl⟩))
(ai (fS (pv 0) (rT zF (hr.mono (by decide)) rfl mi.pass (aa (pv 2) aj)) rfl)
(ai (fS (pv 0) (pv 2) rfl)
(au (bf aW))))))),?_⟩
  refine⟨_,rfl,pb,db,_,rfl,hb,BE _ _,_,rfl,pb,pk,pw,TT,g,n,m,rfl,hB,hG,fun H1 s1=>⟨_,rfl,?_⟩⟩
  refine cL (fun z=>?_) (fun z=>?_)
  ·have z':Gz TT.steps m=false:=by simpa using z
   intro dx nn
   have s2:=s1.trans (aD.new (o:= .xd [("text",.str "no setting")]) nn)
   exact k3 z' A.jH dx _ G.qD s2.frame (cm kj s2) (cm jJ s2) (s1.free nn) ag
  have z':Gz TT.steps m=true:=by simpa using z
  have Mm:=hB.same s1
  obtain⟨br,hk,hK⟩:=Mm.kept
  have Sq:=s1 _ _ hb
  refine⟨_,rfl,pb,_,db,_,_,rfl,Sq,G.eV,G.gI,ua _ _,pk,br,rfl,hk,fun p2 Yx=>?_⟩
  have s2:=aD.new (o:= .dK br) Yx
  have sZ:upd H1 p2 (.dK br) p2=some (.dK br):=ag
  have n2:H p2=none:=s1.free Yx
  have S2:=s1.trans s2
  have Yy:=hK.mono s2.tk
  generalize upd H1 p2 (.dK br)=H2 at sZ S2 Yy
  clear s2
  cases hv:gi br (Sum.inl m:Key) with
  |none=>
   have:=BD (rZ hK hv)
   rw[z'] at this
   cases this
  |some v=>
  refine⟨_,rfl,p2,rfl,.inl ⟨br,.inl sZ⟩,_,rfl,br,(Sum.inl m:Key),v,sZ,rfl,hv,?_⟩
  have TR:=(xW (m:=m) Yy).mono (zD (u:= .dK (k9 br (Sum.inl m:Key))) sZ (ud br))
  rw[← Js hG.inc z'] at TR
  have S3:aD H (upd H2 p2 (.dK (k9 br (Sum.inl m:Key)))):=S2.dm n2
  have Pm:upd H2 p2 (.dK (k9 br (Sum.inl m:Key))) p2=some (.dK (k9 br (Sum.inl m:Key))):=ag
  generalize upd H2 p2 (.dK (k9 br (Sum.inl m:Key)))=H3 at TR S3 Pm
  have Tz:=a7 (cv m) TT.steps
  have Om:=hG.len
  have Su:(cV TT.steps Bk.new).isSome=true:=by rw[hG.w]; rfl
  refine⟨_,rfl,p2,_,_,rfl,Pm,TR,(by omega),Nr m TT.steps (mT.refl Bk.new) Su,cm kj S3,cm jJ S3,fun S hS rg f' H4 F4 tM tN W4 npw nf4=>?_,fun hS=>?_⟩
  case refine_2=>
   intro C dx H4 hC F4 tM tN nd4 hd4
   refine k2 z' hS C dx H4 hC ((S3.frame (fp:=[tB,tC])).trans F4 (fun x hx=>?_)) tM tN (S3.free nd4) hd4
   simp only[List.mem_cons,List.not_mem_nil,or_false] at hx
   rcases hx with hx|hx|hx
   ·exact .inl (by simp[hx])
   ·exact .inl (by simp[hx])
   ·exact .inr (by rw[hx]; exact n2)
  have off: ∀a o,H3 a=some o->(∀ps,o≠ .nQ ps)->a∉[tB,tC]:=fun a o e n1 z=>by
   simp only[List.mem_cons,List.not_mem_nil,or_false] at z
   rcases z with z|z
   ·obtain⟨ps,q⟩:=dg (cm kj S3)
    rw[z,q] at e
    exact n1 ps (aF e).symm
   ·obtain⟨ps,q⟩:=dg (cm jJ S3)
    rw[z,q] at e
    exact n1 ps (aF e).symm
  have zG:=F4 _ _ (off _ _ (S3 _ _ hb) (fun _ z=>by cases z)) (S3 _ _ hb)
  have TU:=F4 _ _ (off _ _ Pm (fun _ z=>by cases z)) Pm
  have hK4:=TR.mono (fun a xs e=>F4 _ _ (off _ _ e (fun _ z=>by cases z)) e)
  have F4':Frame [tB,tC,pb] H H4:=dQ ((S3.frame (fp:=[tB,tC])).tr F4) (by simp)
  refine⟨_,rfl,pb,_,db,_,rfl,zG,G.eV,G.gJ,(by show 2 < 1000; decide),?_⟩
  rw[OG]
  have e5:upd H4 pb (.ins A.book db (eW pk rg)) pb=some (.ins A.book db (eW pk rg)):=ag
  have Sv:=xU A.book db pk pw
  have W5:=vw (u:= .ins A.book db (eW pk rg)) W4 zG Sv
  have Yz:p2≠pb:=(aN hb n2).symm
  have Px:upd H4 pb (.ins A.book db (eW pk rg)) p2=some (.dK (k9 br (Sum.inl m:Key))):=by rw[aA Yz]; exact TU
  have YA:=hK4.mono (zD (u:= .ins A.book db (eW pk rg)) zG Sv)
  have Sw: ∀a∈[pb],∀φ,H4 a≠some (.ext φ):=fun a ha φ e=>by
   rw[ao.mp ha,zG] at e
   cases e
  have nB:tB∉[pb]:=fun z=>by
   obtain⟨ps,q⟩:=dg tM
   rw[ao.mp z,zG] at q
   cases q
  have nC:tC∉[pb]:=fun z=>by
   obtain⟨ps,q⟩:=dg tN
   rw[ao.mp z,zG] at q
   cases q
  have Ji:l9 (upd H4 pb (.ins A.book db (eW pk rg))) tB:=fY tM (Frame.upd (fp:=[pb]) (by simp)) nB Sw
  have Jj:mz (upd H4 pb (.ins A.book db (eW pk rg))) tC:=fY tN (Frame.upd (fp:=[pb]) (by simp)) nC Sw
  have F5:Frame [tB,tC,pb] H (upd H4 pb (.ins A.book db (eW pk rg))):=F4'.tr (Frame.upd (by simp))
  generalize upd H4 pb (.ins A.book db (eW pk rg))=H5 at e5 W5 Px YA Ji Jj F5
  refine⟨_,rfl,_,rfl,pb,_,db,_,rfl,e5,G.eV,G.gI,(by show 2 < 1000; decide),?_⟩
  rw[OH]
  have Mw:=xU A.book db pk rg
  have Sx: ∀a∈[pb],∀φ,H5 a≠some (.ext φ):=fun a ha φ e=>by
   rw[ao.mp ha,e5] at e
   cases e
  refine k1 z' S hS p2 rg f' _ (F5.tr (Frame.upd (by simp))) (fY Ji (Frame.upd (fp:=[pb]) (by simp)) nB Sx) (fY Jj (Frame.upd (fp:=[pb]) (by simp)) nC Sx) ⟨⟨db,ag⟩,⟨_,by rw[aA Yz]; exact Px,YA.mono (zD e5 Mw)⟩,vw W5 e5 Mw⟩ n2 (fun b hb=>S3.free (nf4 b hb))
def Dt.v:Dt->V
 | .int i=> .int i
 | .str s=> .str s
 | .bl b=> .bl b
 |_=> .eI
def Dt.flat:Dt->Bool
 | .int _=>true
 | .str _=>true
 | .bl _=>true
 |_=>false
theorem vA {H:Hp}: ∀{ds:List Dt} {xs:List V},ds.all Dt.flat=true->g8 H ds xs->xs=ds.map Dt.v
 |[],_,_,h=>dA.mp h
 |d :: ds,_,hf,h=>by
  obtain⟨v,r,rfl,h1,h2⟩:=bW.mp h
  rw[List.all_cons,G3] at hf
  rw[vA hf.2 h2]
  cases d with
  |int i=>rw[dM.mp h1]; rfl
  |str s=>rw[gQ.mp h1]; rfl
  |bl b=>rw[qr.mp h1]; rfl
  |eI=>cases hf.1
  |lst _=>cases hf.1
  |tup _=>cases hf.1
def se (H:Hp)(pd:Addr):bI->Prop
 | .iM w dy l=> ∃pl,H pd=some (.tup [.str "ages",.str w,.int dy,.ref pl])/\H pl=some (.tup (l.map V.int))
 |d=>H pd=some (.tup (bI.vs d))
theorem EC {H:Hp}{d:bI}{v:V}(h:Rp H d.dt v): ∃pd,v= .ref pd/\se H pd d:=by
 cases d with
 |iM w dy l=>
  obtain⟨a,xs,rfl,h1,h2⟩:=jP.mp h
  obtain⟨v1,r1,rfl,e1,h2⟩:=bW.mp h2
  obtain⟨v2,r2,rfl,e2,h2⟩:=bW.mp h2
  obtain⟨v3,r3,rfl,e3,h2⟩:=bW.mp h2
  obtain⟨v4,r4,rfl,e4,h2⟩:=bW.mp h2
  obtain rfl:=dA.mp h2
  obtain rfl:=gQ.mp e1
  obtain rfl:=gQ.mp e2
  obtain rfl:=dM.mp e3
  obtain⟨pl,ys,rfl,h4,h5⟩:=jP.mp e4
  have e5:=vA (by rw[List.all_map]; exact List.all_eq_true.mpr fun _ _=>rfl) h5
  rw[e5,eZ] at h4
  exact⟨a,rfl,pl,h1,h4⟩
 |_=>
  obtain⟨a,xs,rfl,h1,h2⟩:=jP.mp h
  have e5:=vA (by rfl) h2
  rw[e5] at h1
  exact⟨a,rfl,h1⟩
theorem se.mono {H H':Hp}{pd:Addr}{d:bI}(h:se H pd d)(k:cW H H'):se H' pd d:=by
 cases d with
 |iM w dy l=>
  obtain⟨pl,h1,h2⟩:=h
  exact⟨pl,k _ _ h1,k _ _ h2⟩
 |_=>exact k _ _ h
theorem lG {A:ej}{H H':Hp}{pb pk pw:Addr}{T:jl}{f:eO}(h:fO A H pb pk pw T f)(k: ∀a o,H a=some o->(∀ps,o≠ .nQ ps)->H' a=some o):fO A H' pb pk pw T f:=by
 obtain⟨db,hb⟩:=h.obj
 obtain⟨br,k1,k2⟩:=h.kept
 have kt:cW H H':=fun a xs e=>k _ _ e (fun _ z=>by cases z)
 exact⟨⟨db,k _ _ hb (fun _ z=>by cases z)⟩,⟨br,k _ _ k1 (fun _ z=>by cases z),k2.mono kt⟩,EA h.wk (fun a xs e=>k _ _ e (fun _ z=>by cases z)) (fun a C dx fs _ e=>k _ _ e (fun _ z=>by cases z)) kt⟩
theorem sT {H H':Hp}{fp:List Addr}{a:Addr}{o:HO}(F:Frame fp H H')(ht: ∀t∈fp,∃ps,H t=some (.nQ ps))(e:H a=some o)(n: ∀ps,o≠ .nQ ps):H' a=some o:=F _ _ (fun z=>by
 obtain⟨ps,q⟩:=ht a z
 rw[q] at e
 exact n ps (aF e).symm) e
theorem LI {d:bI}(h:d.tells=true):bI.word d≠"owed"/\bI.word d≠"free"/\bI.word d≠"ages"/\bI.word d≠"undo":=by
 cases d with
 |d9 _ _ _ _=>show("bill":Str)≠"owed"/\("bill":Str)≠"free"/\("bill":Str)≠"ages"/\("bill":Str)≠"undo"; decide +kernel
 |ra _ _ _=>show("pay":Str)≠"owed"/\("pay":Str)≠"free"/\("pay":Str)≠"ages"/\("pay":Str)≠"undo"; decide +kernel
 |note _ _ _=>show("note":Str)≠"owed"/\("note":Str)≠"free"/\("note":Str)≠"ages"/\("note":Str)≠"undo"; decide +kernel
 |set _ _ _=>show("set":Str)≠"owed"/\("set":Str)≠"free"/\("set":Str)≠"ages"/\("set":Str)≠"undo"; decide +kernel
 |fI _=>show("sweep":Str)≠"owed"/\("sweep":Str)≠"free"/\("sweep":Str)≠"ages"/\("sweep":Str)≠"undo"; decide +kernel
 |i6 _=>cases h
 |ask _ _ _=>cases h
 |iM _ _ _=>cases h
def BH (A:ej)(tB tC:Addr):Sp:=fun vs H Q _=> ∃(pb pd pk pw:Addr) (T:jl) (f:eO) (n:Nat) (d:bI),vs=[.ref pb,.int n,.ref pd]/\fO A H pb pk pw T f/\Good T n/\n<=59/\l9 H tB/\mz H tC/\se H pd d/\d.ok/\
 ∀v vz rg f' H',Frame (tB :: tC :: pb :: pk :: f.fp) H H'->l9 H' tB->mz H' tC->fO A H' pb vz rg (dY T n d).2 f'->(∀x∈vz :: f'.fp,x∈pk :: f.fp∨H x=none)->rY H' (fun D=>H D=none/\D∉vz :: f'.fp) (dY T n d).1 v->Q v H'
theorem qX:a0 ["book","number","deed","kind","refusal"] ["book","number","deed"] (az (top 35)):=⟨rfl,rfl,rfl,by decide +kernel,rfl,by decide +kernel,by decide +kernel⟩
theorem BI (T:Txt K mg){A:ej}{tB tC:Addr}(G:jy K mg A)(DB:pX K mg "bills_in_order" (top 17) tB)(DC:pX K mg "credits_in_order" (top 18) tC)(jf:tB≠tC)(hnd:A.i8≠A.tooMuch)(KB:K.In base)(BM:BMain mg base):fb P w K mg base "answer_of" 10 ["book","number","deed"] (BH A tB tC):=by
 have OJ:gY (my P w mg) P w K mg base A.book "undo" 9 ["self","number"] (Ju A K tB tC):=OI T G DB DC jf hnd KB BM
 have Wv:gY (my P w mg) P w K mg base A.book "do" 8 ["self","number","deed"] (So A K tB tC):=Wr T G DB DC jf KB BM
 have rX:fb P w K mg base "owed_at" 5 ["work","who","day"] (C0 A tB):=xS T G DB KB BM
 have GB:fb P w K mg base "free_at" 5 ["work","who","day"] (IX A tC):=Gq T G DC KB BM
 have GC:fb P w K mg base "ages_at" 6 ["work","who","day","limits"] (IZ A tB):=Gr T G DB KB BM
 refine T.AD.kN (k:=9) qX (fun _ _ _ _ _ _ us hl=>match us,hl with|[_,_,_],_=>rfl) (fun vs H Q E h=>?_) (fun f dh A' outer s H vs Q E hr h=>?_)
 ·obtain⟨pb,pd,pk,pw,TT,g,n,d,rfl,_⟩:=h
  rfl
 ·obtain⟨pb,pd,pk,pw,TT,g,n,d,rfl,hB,hG,hn,kj,jJ,hd,cK,k⟩:=h
  have nd:=qX.nd
  refine⟨_,(ai (a9 (i:=3) nd rfl (Or.inl rfl) (aJ bb (pv 2) ah (fun _ _=>rfl)))
(ai (bX (aZ cX (pv 3) aW (ba _))
(au (bf (cM rX (hr.mono (by decide)) rfl (aa (cu (pv 0) rfl) (aa (aJ bb (pv 2) ah (fun _ _=>rfl)) (aa (aJ bb (pv 2) ah (fun _ _=>rfl)) aj))))))
bw)
(ai (bX (aZ cX (pv 3) aW (ba _))
(au (bf (cM GB (hr.mono (by decide)) rfl (aa (cu (pv 0) rfl) (aa (aJ bb (pv 2) ah (fun _ _=>rfl)) (aa (aJ bb (pv 2) ah (fun _ _=>rfl)) aj))))))
bw)
(ai (bX (aZ cX (pv 3) aW (ba _))
(au (bf (cM GC (hr.mono (by decide)) rfl (aa (cu (pv 0) rfl) (aa (aJ bb (pv 2) ah (fun _ _=>rfl)) (aa (aJ bb (pv 2) ah (fun _ _=>rfl)) (aa (aJ bb (pv 2) ah (fun _ _=>rfl)) aj)))))))
bw)
(au (FF (i:=4) rfl rfl rfl nd rfl rfl rfl G.fU G.CF (fun xe pn E hx=>(ai (bX (aZ cX (pv 3) aW (ba _))
(au (bf (m9 OJ (hr.mono (by decide)) hx (pv 0) (aa (aJ (nU (K:=K) rfl) (pv 2) ah (fun _ _=>rfl)) aj))))
bw)
(au (bf (m9 Wv (hr.mono (by decide)) hx (pv 0) (aa (pv 1) (aa (pv 2) aj))))))))))))),?_⟩
  obtain⟨db,hb⟩:=hB.obj
  have hW:=hB.wk
  have JS: ∀t∈[tB,tC],∃ps,H t=some (.nQ ps):=fun t z=>by
   simp only[List.mem_cons,List.not_mem_nil,or_false] at z
   rcases z with rfl|rfl
   ·exact dg kj
   ·exact dg jJ
  have big: ∀x∈[tB,tC],x∈tB :: tC :: pb :: pk :: g.fp:=fun x z=>by
   simp only[List.mem_cons,List.not_mem_nil,or_false] at z
   rcases z with rfl|rfl <;> simp
  have Sy: ∀a∈[tB],∀φ,H a≠some (.ext φ):=fun a ha φ e=>by
   obtain⟨ps,q⟩:=dg kj
   rw[ao.mp ha,q] at e
   cases e
  have Ww: ∀a∈[tC],∀φ,H a≠some (.ext φ):=fun a ha φ e=>by
   obtain⟨ps,q⟩:=dg jJ
   rw[ao.mp ha,q] at e
   cases e
  obtain⟨br,hk,hK⟩:=hB.kept
  have Mf: ∀D,H D=none->D∉pk :: g.fp:=fun D e z=>by
   rcases aw.mp z with z|z
   ·rw[z,hk] at e
    cases e
   ·exact hW.new e z
  have wf:=hG.wf (by omega:n<=60)
  by_cases ht:d.tells=true
  ·have GN:H pd=some (.tup (bI.vs d)):=by cases d <;> first|exact hd|cases ht
   obtain⟨r,er⟩:=tZ (.inl ht)
   have Tw:H pd=some (.tup (.str (bI.word d) :: r)):=by rw[← er]; exact GN
   obtain⟨w1,w2,w3,w4⟩:=LI ht
   rw[pM ht] at k
   refine⟨_,rfl,pd,_,_,.str (bI.word d),rfl,rfl,cG.of Tw,Jo _ _,?_⟩
   refine⟨_,rfl,rfl,false,jq w1,cg ?_⟩
   refine⟨_,rfl,rfl,false,jq w2,cg ?_⟩
   refine⟨_,rfl,rfl,false,jq w3,cg ?_⟩
   refine⟨_,rfl,rfl,false,jq w4,cg ⟨_,rfl,pb,db,_,rfl,hb,Sn _ _,_,rfl,_,rfl,pb,pd,pk,pw,TT,g,n,d,rfl,hB,hG,hn,kj,jJ,GN,ht,fun oz v f1 H1 e1 F1 jr ka Mm hA=>?_,fun oz=>?_⟩⟩
   ·rw[bg oz] at k
    refine k v pk pw f1 H1 (dQ F1 fun x z=>?_) jr ka Mm (by rw[e1]; exact fun x hx=> .inl hx) (hA.keep (fun D xs o e=>⟨⟨o,by rw[e1]; exact Mf D o⟩,e⟩) fun _ _ e=>e)
    rcases aw.mp z with z|z
    ·simp[z]
    ·rcases aw.mp z with z|z
     ·simp[z]
     ·rcases aw.mp z with z|z
      ·simp[z]
      ·simp[z]
   ·rw[aV oz] at k
    intro C hC _ dx H1 s1 IB BV
    exact⟨C,dx,_,rfl,rfl,hC,BV,k _ pk pw g H1 s1.frame (cm kj s1) (cm jJ s1) (hB.same s1) (fun x hx=> .inl hx) rfl⟩
  cases d with
  |d9 _ _ _ _=>exact absurd rfl ht
  |ra _ _ _=>exact absurd rfl ht
  |note _ _ _=>exact absurd rfl ht
  |set _ _ _=>exact absurd rfl ht
  |fI _=>exact absurd rfl ht
  |ask o wh dy=>
   have hd:H pd=some (.tup (bI.vs (.ask o wh dy))):=hd
   cases o with
   |true=>
    refine⟨_,rfl,pd,_,_,.str "owed",rfl,rfl,cG.of hd,rfl,?_⟩
    refine⟨_,rfl,rfl,true,xN _,fJ ⟨_,rfl,pb,_,db,_,_,rfl,hb,G.eV,G.gJ,ub _ _,_,rfl,pd,_,_,.str wh,rfl,rfl,cG.of hd,rfl,_,rfl,pd,_,_,.int dy,rfl,rfl,cG.of hd,rfl,pw,TT.bk,g,n,wh,dy,rfl,hW,wf,(by omega),kj,fun D ms H1 F1 jr nD hD hP=>?_⟩⟩
    have F2:Frame [tB,tC] H H1:=dQ F1 (by simp)
    exact k _ pk pw g H1 (dQ F2 big) jr (fY jJ F1 (by simpa using jf.symm) Sy) (lG hB fun a o e z=>sT F2 JS e z) (fun x hx=> .inl hx) ⟨D,ms,rfl,⟨nD,Mf D nD⟩,hD,hP⟩
   |false=>
    refine⟨_,rfl,pd,_,_,.str "free",rfl,rfl,cG.of hd,rfl,?_⟩
    refine⟨_,rfl,rfl,false,jq (show("free":Str)≠"owed" by decide +kernel),cg ?_⟩
    refine⟨_,rfl,rfl,true,xN _,fJ ⟨_,rfl,pb,_,db,_,_,rfl,hb,G.eV,G.gJ,ub _ _,_,rfl,pd,_,_,.str wh,rfl,rfl,cG.of hd,rfl,_,rfl,pd,_,_,.int dy,rfl,rfl,cG.of hd,rfl,pw,TT.bk,g,n,wh,dy,rfl,hW,wf,(by omega),jJ,fun D ms H1 F1 ka nD hD hP=>?_⟩⟩
    have F2:Frame [tB,tC] H H1:=dQ F1 (by simp)
    exact k _ pk pw g H1 (dQ F2 big) (fY kj F1 (by simpa using jf) Ww) ka (lG hB fun a o e z=>sT F2 JS e z) (fun x hx=> .inl hx) ⟨D,ms,rfl,⟨nD,Mf D nD⟩,hD,hP⟩
  |iM wh dy bZ=>
   obtain⟨pl,hd,iL⟩:=hd
   refine⟨_,rfl,pd,_,_,.str "ages",rfl,rfl,cG.of hd,rfl,?_⟩
   refine⟨_,rfl,rfl,false,jq (show("ages":Str)≠"owed" by decide +kernel),cg ?_⟩
   refine⟨_,rfl,rfl,false,jq (show("ages":Str)≠"free" by decide +kernel),cg ?_⟩
   refine⟨_,rfl,rfl,true,xN _,fJ ⟨_,rfl,pb,_,db,_,_,rfl,hb,G.eV,G.gJ,ub _ _,_,rfl,pd,_,_,.str wh,rfl,rfl,cG.of hd,rfl,_,rfl,pd,_,_,.int dy,rfl,rfl,cG.of hd,rfl,_,rfl,pd,_,_,.ref pl,rfl,rfl,cG.of hd,rfl,pw,pl,TT.bk,g,n,wh,dy,bZ,rfl,hW,wf,(by omega),kj,iL,cK.1,fun D H1 F1 jr nD hD=>?_⟩⟩
   have F2:Frame [tB,tC] H H1:=dQ F1 (by simp)
   exact k _ pk pw g H1 (dQ F2 big) jr (fY jJ F1 (by simpa using jf.symm) Sy) (lG hB fun a o e z=>sT F2 JS e z) (fun x hx=> .inl hx) ⟨D,rfl,⟨nD,Mf D nD⟩,hD⟩
  |i6 m=>
   have hd:H pd=some (.tup (bI.vs (.i6 m))):=hd
   refine⟨_,rfl,pd,_,_,.str "undo",rfl,rfl,cG.of hd,rfl,?_⟩
   refine⟨_,rfl,rfl,false,jq (show("undo":Str)≠"owed" by decide +kernel),cg ?_⟩
   refine⟨_,rfl,rfl,false,jq (show("undo":Str)≠"free" by decide +kernel),cg ?_⟩
   refine⟨_,rfl,rfl,false,jq (show("undo":Str)≠"ages" by decide +kernel),cg ?_⟩
   have Wx:dY TT n (.i6 m)=if(TT.steps.filter (cv m)).length=TT.steps.length then(xy.txt "no setting",TT) else
     match cV (TT.steps.filter (cv m)) Bk.new with
     |none=>(.txt "needed",TT)
     |some S=>(.txt "undone",⟨TT.steps.filter (cv m),S⟩):=rfl
   refine⟨_,rfl,rfl,true,xN _,fJ ⟨_,rfl,pb,db,_,rfl,hb,LH _ _,_,rfl,pd,_,_,.int m,rfl,rfl,cG.of hd,rfl,pb,pk,pw,TT,g,n,m,rfl,hB,hG,hn,kj,jJ,fun hF S hS vz rg f' H1 F1 jr ka Mm nk nf=>?_,fun hF hS=>?_,fun hF=>?_⟩⟩
   ·have Tt: ¬ (TT.steps.filter (cv m)).length=TT.steps.length:=fun z=>by
     rw[(pQ _ _).mp z] at hF
     cases hF
    rw[Wx,aV Tt,hS] at k
    refine k _ vz rg f' H1 (dQ F1 (fun x z=>?_)) jr ka Mm (fun x hx=> .inr ?_) rfl
    ·simp only[List.mem_cons,List.not_mem_nil,or_false] at z
     rcases z with rfl|rfl|rfl <;> simp
    ·rcases aw.mp hx with hx|hx
     ·rw[hx]; exact nk
     ·exact nf x hx
   ·have Tt: ¬ (TT.steps.filter (cv m)).length=TT.steps.length:=fun z=>by
     rw[(pQ _ _).mp z] at hF
     cases hF
    rw[Wx,aV Tt,hS] at k
    intro C dx H1 hC F1 jr ka IB BV
    exact⟨C,dx,_,rfl,rfl,hC,BV,k _ pk pw g H1 (dQ F1 big) jr ka (lG hB fun a o e z=>sT F1 JS e z) (fun x hx=> .inl hx) rfl⟩
   ·rw[Wx,bg ((pQ _ _).mpr hF)] at k
    intro C dx H1 hC F1 jr ka IB BV
    exact⟨C,dx,_,rfl,rfl,hC,BV,k _ pk pw g H1 (dQ F1 big) jr ka (lG hB fun a o e z=>sT F1 JS e z) (fun x hx=> .inl hx) rfl⟩
theorem xY (d:bI): ∀(l:List bI) (T:jl) (n:Nat),hV (l ++ [d]) T n=((hV l T n).1 ++ [(dY (hV l T n).2 ((n + l.length:Nat):Int) d).1],(dY (hV l T n).2 ((n + l.length:Nat):Int) d).2)
 |[],T,n=>rfl
 |e :: l,T,n=>by
  show((dY T n e).1 :: (hV (l ++ [d]) (dY T n e).2 (n + 1)).1,(hV (l ++ [d]) (dY T n e).2 (n + 1)).2)=_
  rw[xY d l,show n + 1 + l.length=n + (e :: l).length by rw[cz]; omega]
  rfl
theorem xZ {ds:List bI}{i:Nat}(hi:i < ds.length):hV (ds.take (i + 1)) jl.new 0=((hV (ds.take i) jl.new 0).1 ++ [(dY (hV (ds.take i) jl.new 0).2 (i:Int) ds[i]).1],(dY (hV (ds.take i) jl.new 0).2 (i:Int) ds[i]).2):=by
 rw[oE hi,xY,bC,Nat.zero_add,Nat.min_eq_left (dU hi)]
theorem GD {A:ej}{H:Hp}{pb pk pw pt:Addr}{T:jl}{f:eO}{ws:List V}{o:HO}(h:fO A H pb pk pw T f)(e:H pt=some (.lst ws))(n:pt∉f.fp):fO A (upd H pt o) pb pk pw T f:=by
 obtain⟨db,hb⟩:=h.obj
 obtain⟨br,k1,k2⟩:=h.kept
 have kt:cW H (upd H pt o):=fT e
 have ki: ∀{a C dx:Addr} {gs:List (Str×V)},H a=some (.ins C dx gs)->upd H pt o a=some (.ins C dx gs):=fun{a C dx gs} z=>by rw[aA (mF z e (by intro q; cases q))]; exact z
 have kl: ∀p∈f.fp,∀xs,H p=some (.lst xs)->upd H pt o p=some (.lst xs):=fun p hp xs z=>by rw[aA (fun(q:p=pt)=>n (q▸hp))]; exact z
 obtain⟨dw,hw⟩:=h.wk.obj
 obtain⟨ms,m1,m2⟩:=h.wk.hm
 have hW:=h.wk
 exact⟨⟨db,ki hb⟩,⟨br,by rw[aA (mF k1 e (by intro q; cases q))]; exact k1,k2.mono kt⟩,
  ⟨⟨dw,ki hw⟩,kl _ (by simp[eO.fp]) _ hW.hb,kl _ (by simp[eO.fp]) _ hW.hc,kl _ (by simp[eO.fp]) _ hW.hl,kl _ (by simp[eO.fp]) _ hW.hf,⟨ms,kl _ (by simp[eO.fp]) _ m1,m2.mono kt⟩,hW.rb.keep fun _ _ _ z=>ki z,hW.rc.keep fun _ _ _ z=>ki z,hW.nd⟩⟩
theorem ED {A:ej}{H:Hp}{pb pk pw tB tC a:Addr}{T:jl}{f:eO}(h:fO A H pb pk pw T f)(kj:l9 H tB)(jJ:mz H tC)(z:a∈tB :: tC :: pb :: pk :: f.fp):(∃ps,H a=some (.nQ ps))∨(∃C dx fs,H a=some (.ins C dx fs))∨(∃br,H a=some (.dK br))∨(∃xs,H a=some (.lst xs))/\a∈f.fp:=by
 rcases aw.mp z with rfl|z
 ·exact .inl (dg kj)
 rcases aw.mp z with rfl|z
 ·exact .inl (dg jJ)
 rcases aw.mp z with rfl|z
 ·obtain⟨db,hb⟩:=h.obj
  exact .inr (.inl ⟨_,_,_,hb⟩)
 rcases aw.mp z with rfl|z
 ·obtain⟨br,k1,_⟩:=h.kept
  exact .inr (.inr (.inl ⟨_,k1⟩))
 ·exact .inr (.inr (.inr ⟨h.wk.lists a z,z⟩))
theorem Jv {A:ej}{H H':Hp}{pb pk pw tB tC:Addr}{T:jl}{f:eO}(h:fO A H pb pk pw T f)(kj:l9 H tB)(jJ:mz H tC)(F:Frame (tB :: tC :: pb :: pk :: f.fp) H H'):cW H H':=fun a xs e=>F _ _ (fun z=>by
 rcases ED h kj jJ z with⟨_,q⟩|⟨_,_,_,q⟩|⟨_,q⟩|⟨⟨_,q⟩,_⟩ <;> (rw[e] at q; cases q)) e
theorem Di {A:ej}{H H':Hp}{pb pk pw tB tC a:Addr}{T:jl}{f:eO}{xs:List V}(h:fO A H pb pk pw T f)(kj:l9 H tB)(jJ:mz H tC)(F:Frame (tB :: tC :: pb :: pk :: f.fp) H H')(e:H a=some (.lst xs))(n:a∉pk :: f.fp):H' a=some (.lst xs):=F _ _ (fun z=>by
 rcases ED h kj jJ z with⟨_,q⟩|⟨_,_,_,q⟩|⟨_,q⟩|⟨_,q⟩
 ·rw[e] at q; cases q
 ·rw[e] at q; cases q
 ·rw[e] at q; cases q
 ·exact n (bz _ q)) e
def EE (A:ej)(tB tC:Addr):Sp:=fun vs H Q _=> ∃(pb pk pw ps:Addr) (f:eO) (ds:List bI) (ms:List V),vs=[.ref pb,.ref ps]/\fO A H pb pk pw jl.new f/\H ps=some (.lst ms)/\ps∉f.fp/\ij H ds ms/\ds.length<=60/\(∀d∈ds,d.ok)/\l9 H tB/\mz H tC/\
 ∀pt ws vz rg f' H',Frame (tB :: tC :: pb :: pk :: f.fp) H H'->l9 H' tB->mz H' tC->H pt=none->H' pt=some (.lst ws)->Paired (rY H' (fun D=>D≠pt)) (hV ds jl.new 0).1 ws->fO A H' pb vz rg (hV ds jl.new 0).2 f'->Q (.ref pt) H'
theorem oU:a0 ["book","deeds","told","number","deed"] ["book","deeds"] (az (top 34)):=⟨rfl,rfl,rfl,by decide +kernel,rfl,by decide +kernel,by decide +kernel⟩
theorem ij.get {H:Hp}{i:Nat}: ∀{ds:List bI} {ms:List V},ij H ds ms-> ∀{d:bI},ds[i]? =some d-> ∃v,ms[i]? =some v/\Rp H d.dt v:=fun{ds ms} h {d} e=>g8.get h (by rw[aB,e]; rfl)
theorem zH (T:Txt K mg){A:ej}{tB tC:Addr}(G:jy K mg A)(DB:pX K mg "bills_in_order" (top 17) tB)(DC:pX K mg "credits_in_order" (top 18) tC)(jf:tB≠tC)(hnd:A.i8≠A.tooMuch)(KB:K.In base)(BM:BMain mg base):fb P w K mg base "answers_in" 11 ["book","deeds"] (EE A tB tC):=by
 have BJ:fb P w K mg base "answer_of" 10 ["book","number","deed"] (BH A tB tC):=BI T G DB DC jf hnd KB BM
 refine T.yE.kN (k:=10) oU (fun _ _ _ _ _ _ us hl=>match us,hl with|[_,_],_=>rfl) (fun vs H Q E h=>?_) (fun f dh A' outer s H vs Q E hr h=>?_)
 ·obtain⟨pb,pk,pw,ps,g,ds,ms,rfl,_⟩:=h
  rfl
 ·obtain⟨pb,pk,pw,ps,g,ds,ms,rfl,hB,mh,Gj,Mx,hl,cK,kj,jJ,k⟩:=h
  have nd:=oU.nd
  refine⟨_,(ai (a9 (i:=2) nd rfl (Or.inl rfl) (cf aj))
(ai (fe bS rfl (qp rfl T.jh (aa (pv 1) aj)) (iW rfl (cw (bD (i:=3) nd rfl (Or.inl rfl)) (cw (bD (i:=4) nd rfl (Or.inl rfl)) gH)))
(au (bU (fz aM aG aI b0 (pv 2) (aa (cM BJ (hr.mono (by decide)) rfl (aa (pv 0) (aa (pv 3) (aa (pv 4) aj)))) aj)))))
(au (bf (pv 2))))),?_⟩
  refine⟨bF _,fun pt nt=>?_⟩
  have s1:=aD.new (o:= .lst []) nt
  have hlen:=ij.length Mx
  obtain⟨br,hk,_⟩:=hB.kept
  have YB:ps∉pk :: g.fp:=fun z=>by
   rcases aw.mp z with z|z
   ·rw[z,hk] at mh
    cases mh
   ·exact Gj z
  have ntk:pt∉pk :: g.fp:=fun z=>by
   rcases aw.mp z with z|z
   ·rw[z,hk] at nt
    cases nt
   ·exact hB.wk.new nt z
  refine⟨_,rfl,ps,rfl,⟨_,bP.of (s1 _ _ mh)⟩,?_⟩
  refine mP (K:=K) (a:=ps) (xs:=ms) (fun i σ H2=> ∃(x3 x4:Option V) (vz rg:Addr) (f':eO) (ws:List V),σ=[some (.ref pb),some (.ref ps),some (.ref pt),x3,x4]/\Frame (tB :: tC :: pb :: pk :: g.fp) H H2/\H2 pt=some (.lst ws)/\fO A H2 pb vz rg (hV (ds.take i) jl.new 0).2 f'/\Good (hV (ds.take i) jl.new 0).2 i/\(∀x∈vz :: f'.fp,(x∈pk :: g.fp∨H x=none)/\x≠pt)/\l9 H2 tB/\mz H2 tC/\Paired (rY H2 (fun D=>D≠pt/\D∉vz :: f'.fp)) (hV (ds.take i) jl.new 0).1 ws)
   ⟨none,none,pk,pw,g,[],rfl,s1.frame,ag,hB.same s1,Good.new,fun x hx=>⟨.inl hx,fun z=>ntk (z▸hx)⟩,cm kj s1,cm jJ s1,.nil⟩ (fun i σ H2 _ ⟨_,_,_,_,_,_,_,f2,_⟩=>bP.of (Di hB kj jJ f2 mh YB)) ?_ ?_
  ·rintro i x p σ H2 hx hp ⟨x3,x4,vz,rg,f',ws,rfl,F2,xM,JR,LB,TV,kz,mB,Ly⟩
   have hi:i < ds.length:=by have:=(av.mp hx).1; omega
   have oA:=af hi
   obtain⟨v',hv,Vt⟩:=ij.get Mx oA
   rw[hx] at hv
   obtain rfl:x=v':=aF hv
   obtain⟨pd,rfl,hd⟩:=EC Vt
   have hd2:=hd.mono (Jv hB kj jJ F2)
   have GF:=cK _ (bQ hi)
   have TX:=xZ hi
   have oO:Good (dY (hV (ds.take i) jl.new 0).2 (i:Int) ds[i]).2 (i + 1):=LB.step ds[i]
   rw[TX]
   generalize ds[i]=d at hd2 GF oO
   have As:(hV (ds.take i) jl.new 0).1.length<=100:=by rw[mU,bC]; omega
   generalize hV (ds.take i) jl.new 0=R at JR LB Ly oO As
   have s3:=aD.new (o:= .tup [.int i,.ref pd]) hp
   refine⟨p,_,rfl,cG.of ag,rfl,_,_,rfl,_,_,rfl,rfl,?_⟩
   have F3:=F2.dE s3
   have Jw:=s3 _ _ xM
   have G0:=JR.same s3
   have oB:l9 _ tB:=cm kz s3
   have oC:mz _ tC:=cm mB s3
   have GX:=hd2.mono s3.tk
   have Wy:Paired (rY (upd H2 p (.tup [.int i,.ref pd])) (fun D=>D≠pt/\D∉vz :: f'.fp)) R.1 ws:=Paired.ir Ly fun _ _ z=>z.keep (fun D xs o e=>⟨o,s3 _ _ e⟩) s3.tk
   generalize upd H2 p (.tup [.int i,.ref pd])=H3 at F3 Jw G0 oB oC GX Wy
   have GO:=aQ Wy
   refine⟨_,rfl,.inl ⟨rfl,_,bP.of Jw⟩,_,rfl,_,rfl,_,rfl,pb,pd,vz,rg,R.2,f',i,d,rfl,G0,LB,(by omega),oB,oC,GX,GF,fun v YC pw2 f2 H4 F4 tM tN hB4 jU hA4=>?_⟩
   have Wz:pt∉vz :: f'.fp:=fun z=>(TV pt z).2 rfl
   have vq:=Di G0 oB oC F4 Jw Wz
   have kt4:=Jv G0 oB oC F4
   refine⟨pt,ws,v,rfl,rfl,vq,bB (by omega),?_⟩
   have Sz: ∀x∈YC :: f2.fp,(x∈pk :: g.fp∨H x=none)/\x≠pt:=fun x hx=>by
    rcases jU x hx with h1|h1
    ·exact TV x h1
    ·refine⟨?_,fun z=>by rw[z,Jw] at h1; cases h1⟩
     by_cases q:x∈pk :: g.fp
     ·exact .inl q
     ·right
      cases e:H x with
      |none=>rfl
      |some o=>
       exfalso
       by_cases q2:x∈tB :: tC :: pb :: pk :: g.fp
       ·rcases aw.mp q2 with q2|q2
        ·obtain⟨_,z⟩:=dg oB
         rw[← q2,h1] at z
         cases z
        rcases aw.mp q2 with q2|q2
        ·obtain⟨_,z⟩:=dg oC
         rw[← q2,h1] at z
         cases z
        rcases aw.mp q2 with q2|q2
        ·obtain⟨_,z⟩:=G0.obj
         rw[← q2,h1] at z
         cases z
        exact q q2
       ·have z:=F3 _ _ q2 e
        rw[h1] at z
        cases z
   have WA:pt∉f2.fp:=fun z=>(Sz pt (bz _ z)).2 rfl
   have SA: ∀a∈[pt],∀φ,H4 a≠some (.ext φ):=fun a ha φ e=>by
    rw[ao.mp ha,vq] at e
    cases e
   have nB:tB∉[pt]:=fun z=>by
    obtain⟨_,q⟩:=dg tM
    rw[ao.mp z,vq] at q
    cases q
   have nC:tC∉[pt]:=fun z=>by
    obtain⟨_,q⟩:=dg tN
    rw[ao.mp z,vq] at q
    cases q
   have F34:Frame (tB :: tC :: pb :: pk :: g.fp) H (upd H4 pt (.lst (ws ++ [v]))):=(F3.trans F4 fun x hx=>by
    rcases aw.mp hx with hx|hx
    ·exact .inl (by simp[hx])
    rcases aw.mp hx with hx|hx
    ·exact .inl (by simp[hx])
    rcases aw.mp hx with hx|hx
    ·exact .inl (by simp[hx])
    rcases(TV x hx).1 with h1|h1
    ·exact .inl (by simp[List.mem_cons.mp h1])
    ·exact .inr h1).trans (Frame.upd (fp:=[pt]) (by simp)) (fun x hx=> .inr (by rw[List.mem_singleton.mp hx]; exact nt))
   refine⟨_,_,YC,pw2,f2,ws ++ [v],rfl,F34,ag,GD hB4 vq WA,oO,Sz,fY tM (Frame.upd (fp:=[pt]) (by simp)) nB SA,fY tN (Frame.upd (fp:=[pt]) (by simp)) nC SA,?_⟩
   have YD:=fT (o:= .lst (ws ++ [v])) vq
   refine cQ (Paired.ir Wy fun _ _ z=>z.keep (fun D xs o e=>?_) (kt4.trans YD)) (hA4.keep (fun D xs o e=>?_) YD)
   ·have e4:=Di G0 oB oC F4 e o.2
    refine⟨⟨o.1,fun q=>?_⟩,by rw[aA o.1]; exact e4⟩
    rcases jU D q with h1|h1
    ·exact o.2 h1
    ·rw[e] at h1
     cases h1
   ·have nD:D≠pt:=fun z=>by
     have:=o.1
     rw[z,Jw] at this
     cases this
    exact⟨⟨nD,o.2⟩,by rw[aA nD]; exact e⟩
  ·rintro σ H2 ⟨x3,x4,vz,rg,f',ws,rfl,F2,xM,JR,LB,TV,kz,mB,Ly⟩
   rw[← hlen,bh] at Ly JR
   refine⟨_,rfl,k pt ws vz rg f' H2 F2 kz mB nt xM (Paired.ir Ly fun _ _ z=>z.keep (fun D xs o e=>⟨o.1,e⟩) fun _ _ e=>e) JR⟩
def ya (A:ej)(tB tC:Addr):Sp:=fun vs H Q _=> ∃(ps:Addr) (ds:List bI) (ms:List V),vs=[.ref ps]/\H ps=some (.lst ms)/\ij H ds ms/\ds.length<=60/\(∀d∈ds,d.ok)/\l9 H tB/\mz H tC/\
 ∀pt ws H',Frame [tB,tC] H H'->l9 H' tB->mz H' tC->H pt=none->H' pt=some (.lst ws)->Paired (rY H' (fun D=>D≠pt)) (hV ds jl.new 0).1 ws->Q (.ref pt) H'
theorem vB:a0 ["deeds","book"] ["deeds"] (az (top 33)):=⟨rfl,rfl,rfl,by decide +kernel,rfl,by decide +kernel,by decide +kernel⟩
theorem GG (T:Txt K mg){A:ej}{tB tC:Addr}(G:jy K mg A)(DB:pX K mg "bills_in_order" (top 17) tB)(DC:pX K mg "credits_in_order" (top 18) tC)(jf:tB≠tC)(hnd:A.i8≠A.tooMuch)(KB:K.In base)(BM:BMain mg base):fb P w K mg base "answers" 12 ["deeds"] (ya A tB tC):=by
 have zI:fb P w K mg base "answers_in" 11 ["book","deeds"] (EE A tB tC):=zH T G DB DC jf hnd KB BM
 have OK:tF P w K mg base "Book" A.book 3 ["self"] (Ep A):=Oj G
 refine T.FK.kN (k:=11) vB (fun _ _ _ _ _ _ us hl=>match us,hl with|[_],_=>rfl) (fun vs H Q E h=>?_) (fun f dh A' outer s H vs Q E hr h=>?_)
 ·obtain⟨ps,ds,ms,rfl,_⟩:=h
  rfl
 ·obtain⟨ps,ds,ms,rfl,mh,Mx,hl,cK,kj,jJ,k⟩:=h
  have nd:=vB.nd
  refine⟨_,(ai (a9 (i:=1) nd rfl (Or.inl rfl) (IA OK (hr.mono (by decide)) rfl))
(au (bf (cM zI (hr.mono (by decide)) rfl (aa (pv 1) (aa (pv 0) aj)))))),?_⟩
  intro xb YE WB WC ne
  have s1:=lC (C:=A.book) (fs:=[]) WB WC ne
  refine⟨xb,YE,rfl,ag,fun pk pw g H1 F1 hx hk hW nk npw nf YB=>⟨rfl,?_⟩⟩
  have S1:aD H H1:=fun b o e=>F1 b o (by simpa using aN e WB) (s1 b o e)
  have fr: ∀b∈g.fp,H b=none:=fun b hb=>s1.free (nf b hb)
  have Ya:H pk=none:=s1.free nk
  refine⟨_,rfl,_,rfl,xb,pk,pw,ps,g,ds,ms,rfl,⟨⟨YE,hx⟩,⟨[],hk,.nil⟩,hW⟩,S1 _ _ mh,(fun z=>by
   have:=fr _ z
   rw[mh] at this
   cases this),Mx.mono S1.tk,hl,cK,cm kj S1,cm jJ S1,fun pt ws _ _ _ H2 F2 kz mB nt xM hA _=>?_⟩
  refine k pt ws H2 ((S1.frame (fp:=[tB,tC])).trans F2 fun x hx=>?_) kz mB (S1.free nt) xM hA
  rcases aw.mp hx with hx|hx
  ·exact .inl (by simp[hx])
  rcases aw.mp hx with hx|hx
  ·exact .inl (by simp[hx])
  rcases aw.mp hx with hx|hx
  ·exact .inr (by rw[hx]; exact WB)
  rcases aw.mp hx with hx|hx
  ·exact .inr (by rw[hx]; exact Ya)
  ·exact .inr (fr x hx)
def OL (K:PySem.W.Frag):Sp:=fun vs H Q _=> ∃(a:Addr) (xs:List V) (m b:Int),vs=[.ref a,.int m,.int b]/\bP K H a xs/\xs.length<=63/\Q (.int m) H
def EF:Sp:=fun vs H Q _=> ∃d v,vs=[v]/\Rp H d v/\Q (.bl (Zo d)) H
theorem zJ:a0 ["_law_script","_law_most","_law_bound"] ["_law_script","_law_most","_law_bound"] (az (top 43)):=⟨rfl,rfl,rfl,by decide +kernel,rfl,by decide +kernel,by decide +kernel⟩
theorem BK (T:Txt K mg):fb P w K mg base "_law_room" 1 ["_law_script","_law_most","_law_bound"] (OL K):=by
 refine T.AF.kN (k:=0) zJ (fun _ _ _ _ _ _ us hl=>match us,hl with|[_,_,_],_=>rfl) (fun vs H Q E h=>?_) (fun f dh A outer s H vs Q E hr h=>?_)
 ·obtain⟨a,xs,m,b,rfl,_⟩:=h
  rfl
 ·obtain⟨a,xs,m,b,rfl,hS,hz,k⟩:=h
  refine⟨_,(ai (bX (aZ iQ (bq bp (by rfl) T.en bo (aa (pv 0) aj)) ah (ba _))
   (au (bf (pv 2)))
   bw)
   (au (bf (pv 1)))),?_⟩
  refine⟨_,rfl,a,xs,rfl,.inl hS,_,_,rfl,rfl,_,rfl,?_⟩
  refine cL (fun c=>?_) (fun c=>?_)
  ·have c':(63:Int) < (xs.length:Int):=aS c
   omega
  ·exact⟨_,rfl,k⟩
theorem wO:a0 ["_law_found"] ["_law_found"] (az (top 45)):=⟨rfl,rfl,rfl,by decide +kernel,rfl,by decide +kernel,by decide +kernel⟩
theorem zK (T:Txt K mg):fb P w K mg base "_law_whole" 1 ["_law_found"] EF:=by
 refine T.yF.kN (k:=0) wO (fun _ _ _ _ _ _ us hl=>match us,hl with|[_],_=>rfl) (fun vs H Q E h=>?_) (fun f dh A outer s H vs Q E hr h=>?_)
 ·obtain⟨d,v,rfl,_⟩:=h
  rfl
 ·obtain⟨d,v,rfl,r,k⟩:=h
  refine⟨_,(au (bf (rC (bq eR (by rfl) T.dB eD (aa (pv 0) (aa (gG (v:= .ty "int") (by rfl) T.uY boot_int rfl) aj))) (o7 (MR (bq eR (by rfl) T.dB eD (aa (pv 0) (aa (gG (v:= .ty "bool") (by rfl) T.NO boot_bool rfl) aj)))))))),?_⟩
  refine⟨_,rfl,v,_,_,Xq d,rfl,r.ty,QG d,_,rfl,?_⟩
  cases d with
  |int i=>exact fJ ⟨_,rfl,v,_,_,false,rfl,r.ty,L9 (.int i),_,rfl,k⟩
  |bl i=>exact fJ ⟨_,rfl,v,_,_,true,rfl,r.ty,L9 (.bl i),_,rfl,k⟩
  |eI=>exact cg k
  |str x=>exact cg k
  |tup ds=>exact cg k
  |lst ds=>exact cg k
def LJ:Sp:=fun vs H Q _=> ∃d v1 v2,vs=[v1,v2]/\Rp H d v1/\Rp H d v2/\d.size<=100000/\d.plain=true/\ ∀H',aD H H'->Q (.bl true) H'
theorem oV:a0 ["_law_found","_law_due","_law_todo","_law_pair","_law_k"] ["_law_found","_law_due"] (az (top 46)):=⟨rfl,rfl,rfl,by decide +kernel,rfl,by decide +kernel,by decide +kernel⟩
theorem zL (T:Txt K mg):fb P w K mg base "_law_alike" 2 ["_law_found","_law_due"] LJ:=by
 have zM:fb P w K mg base "_law_whole" 1 ["_law_found"] EF:=zK T
 refine T.yG.kN (k:=1) oV (fun _ _ _ _ _ _ us hl=>match us,hl with|[_,_],_=>rfl) (fun vs H Q E h=>?_) (fun f dh A outer s H vs Q E hr h=>?_)
 ·obtain⟨d,v1,v2,rfl,_⟩:=h
  rfl
 ·obtain⟨d,v1,v2,rfl,r1,r2,hsz,iL,k⟩:=h
  have hu:=jO hr
  have nd:=oV.nd
  refine⟨_,(ai (a9 (i:=2) nd rfl (Or.inl rfl) (cf (aa (dD (aa (pv 0) (aa (pv 1) aj))) aj)))
(ai (G9 bS (aZ (HG hu) (pv 2) (cf aj) (ba _))
(ai (a9 (i:=3) nd rfl (Or.inl rfl) (M5 aM PySem.F.slot_list_pop PySem.F.type_list_pop M7 (pv 2)))
(au (bX (gg (bq Cq (by rfl) T.dB eD (aa (aJ bb (pv 3) ah (fun _ _=>rfl)) (aa (dD (aa (gG (v:= .ty "list") (by rfl) T.rQ boot_list rfl) (aa (gG (v:= .ty "tuple") (by rfl) T.tV boot_tuple rfl) aj))) aj))))
(ai (bX (aZ qf (bq eR (by rfl) T.dB eD (aa (aJ bb (pv 3) ah (fun _ _=>rfl)) (aa (gG (v:= .ty "list") (by rfl) T.rQ boot_list rfl) aj))) (bq eR (by rfl) T.dB eD (aa (aJ bb (pv 3) ah (fun _ _=>rfl)) (aa (gG (v:= .ty "list") (by rfl) T.rQ boot_list rfl) aj))) (ba _))
(au (bf k8))
bw)
(ai (bX (aZ qf (bq eR (by rfl) T.dB eD (aa (aJ bb (pv 3) ah (fun _ _=>rfl)) (aa (gG (v:= .ty "tuple") (by rfl) T.tV boot_tuple rfl) aj))) (bq eR (by rfl) T.dB eD (aa (aJ bb (pv 3) ah (fun _ _=>rfl)) (aa (gG (v:= .ty "tuple") (by rfl) T.tV boot_tuple rfl) aj))) (ba _))
(au (bf k8))
bw)
(ai (bX (aZ qf (bq bp (by rfl) T.en bo (aa (aJ bb (pv 3) ah (fun _ _=>rfl)) aj)) (bq bp (by rfl) T.en bo (aa (aJ bb (pv 3) ah (fun _ _=>rfl)) aj)) (ba _))
(au (bf k8))
bw)
(au (fe bS rfl (iX rfl T.l4 (aa (bq bp (by rfl) T.en bo (aa (aJ bb (pv 3) ah (fun _ _=>rfl)) aj)) aj)) (bD (i:=4) nd rfl (Or.inl rfl))
(au (bU (fz aM aG aI b0 (pv 2) (aa (dD (aa (aJ L8 (aJ bb (pv 3) ah (fun _ _=>rfl)) (pv 4) (fun _ _=>rfl)) (aa (aJ L8 (aJ bb (pv 3) ah (fun _ _=>rfl)) (pv 4) (fun _ _=>rfl)) aj))) aj)))))))))
(au (bX (gg (bq eR (by rfl) T.dB eD (aa (aJ bb (pv 3) ah (fun _ _=>rfl)) (aa (gG (v:= .ty "str") (by rfl) T.D0 boot_str rfl) aj))))
(au (bX (PW.pt (pw_or (jL (gg (bq eR (by rfl) T.dB eD (aa (aJ bb (pv 3) ah (fun _ _=>rfl)) (aa (gG (v:= .ty "str") (by rfl) T.D0 boot_str rfl) aj))))) (pw_or1 (aZ qf (aJ bb (pv 3) ah (fun _ _=>rfl)) (aJ bb (pv 3) ah (fun _ _=>rfl)) (ba _)))))
(au (bf k8))
bw))
(au (bX (PW.pt (pw_or (jL (gg (cM zM (hr.mono (by decide)) rfl (aa (aJ bb (pv 3) ah (fun _ _=>rfl)) aj)))) (pw_or1 (aZ qf (aJ bb (pv 3) ah (fun _ _=>rfl)) (aJ bb (pv 3) ah (fun _ _=>rfl)) (ba _)))))
(au (bf k8))
bw))))))))
(au (bf k8)))),?_⟩
  refine⟨_,rfl,_,rfl,(by show 2<=sizeLine; decide),fun t0 nt0=>⟨(by show 1<=sizeLine; decide),fun l nl=>?_⟩⟩
  have sA:aD H (upd H t0 (.tup [v1,v2])):=aD.new nt0
  have YF:H l=none:=sA.free nl
  refine⟨fun m σ H2=> ∃td ds x3 x4,σ=[some v1,some v2,some (.ref l),x3,x4]/\aD H H2/\H2 l=some (.lst td)/\Paired (lS H H2) ds td/\Dt.fc ds=m/\m<=100000/\ ∀d∈ds,d.plain=true,
   ⟨d.size,[.ref t0],[d],none,none,rfl,sA.trans (aD.new nl),ag,.cons ⟨t0,v1,v2,rfl,HJ nl _ _ ag,r1,r2⟩ .nil,by simp[Dt.fc],hsz,by simpa using iL⟩,?_⟩
  rintro m σ H2 ⟨td,ds,x3,x4,rfl,s1,hl,hp,hm,VH,SD⟩
  refine⟨_,rfl,bF _,fun p3 n3=>?_⟩
  have s2:aD H2 (upd H2 p3 (.lst [])):=aD.new n3
  refine⟨l,p3,td,rfl,rfl,bP.of (s2 _ _ hl),bP.of ag,_,rfl,?_⟩
  generalize Lk:upd H2 p3 (.lst [])=H3 at s2 ⊢
  have IU:=s2 _ _ hl
  cases htd:td with
  |nil=>exact cg (k _ (s1.trans s2))
  |cons z zs=>
  refine fJ ⟨fun σ' H'=> ∃m',m' < m/\ ∃td ds x3 x4,σ'=[some v1,some v2,some (.ref l),x3,x4]/\aD H H'/\H' l=some (.lst td)/\Paired (lS H H') ds td/\Dt.fc ds=m'/\m'<=100000/\ ∀d∈ds,d.plain=true,fun _ _ h=>h,?_⟩
  have jf:td.length - 1 < td.length:=by rw[htd]; simp
  obtain⟨y,hy⟩: ∃y,td[td.length - 1]? =some y:=⟨_,af jf⟩
  obtain⟨LK,c,WD,⟨t,u1,u2,ey,ht,q1,q2⟩,Rv⟩:=su hp hy
  subst ey
  have Rf:c.plain=true:=SD c (by rw[WD]; simp)
  have Th: ∀d∈LK,d.plain=true:=fun d hd=>SD d (by rw[WD]; simp[hd])
  have hmm:Dt.fc LK + c.size=m:=by
   have:=hm
   rw[WD,Dt.iB] at this
   simpa[Dt.fc] using this
  refine⟨_,rfl,.inl ⟨rfl,_,bP.of IU⟩,l,td,.ref t,rfl,rfl,IU,hy,?_⟩
  have YG:=s2 _ _ ht
  have s4:aD H (upd H3 l (.lst td.dropLast)):=(s1.trans s2).dm YF
  have WE:upd H3 l (.lst td.dropLast) t=some (.tup [u1,u2]):=dN IU _ _ YG
  have TU:Paired (lS H (upd H3 l (.lst td.dropLast))) LK td.dropLast:=Paired.ir Rv fun d v h=>h.mono fun b xs e=>dN IU _ _ (s2 _ _ e)
  have YH:upd H3 l (.lst td.dropLast) l=some (.lst td.dropLast):=ag
  generalize upd H3 l (.lst td.dropLast)=H4 at s4 WE TU YH ⊢
  clear Lk IU YG s2 n3 hp hl ht
  refine⟨_,rfl,t,_,_,u2,rfl,rfl,cG.of WE,rfl,(by show 2<=sizeLine; decide),fun p5 n5=>?_⟩
  have s5:aD H4 (upd H4 p5 (.tup [.ty "list",.ty "tuple"])):=aD.new n5
  have q25:=Rp.mono (s4.trans s5) c q2
  have q15:=Rp.mono (s4.trans s5) c q1
  refine⟨u2,p5,["list","tuple"],_,isLT c,rfl,ag,q25.ty,Nl c,_,rfl,?_⟩
  have BX:=s5 _ _ WE
  have WG:=s5 _ _ YH
  have Px:Paired (lS H (upd H4 p5 (.tup [.ty "list",.ty "tuple"]))) LK td.dropLast:=Paired.ir TU fun d v h=>h.mono fun b xs e=>s5 _ _ e
  have s6:=s4.trans s5
  generalize upd H4 p5 (.tup [.ty "list",.ty "tuple"])=H5 at s5 q25 q15 BX WG Px s6 ⊢
  clear s5 n5
  refine cL (fun SE=>?_) (fun SE=>?_)
  ·
   obtain⟨a1,WH,e1,S1,R1⟩:=DJ q1 SE
   obtain⟨a2,OM,e2,S2,R2⟩:=DJ q2 SE
   refine⟨_,rfl,t,_,_,u1,rfl,rfl,cG.of BX,rfl,u1,_,_,UT c,rfl,q15.ty,DI c,_,rfl,t,_,_,u2,rfl,rfl,cG.of BX,rfl,u2,_,_,UT c,rfl,q25.ty,DI c,rfl,_,rfl,Ap rfl ?_⟩
   refine⟨_,rfl,t,_,_,u1,rfl,rfl,cG.of BX,rfl,u1,_,_,UU c,rfl,q15.ty,HI c,_,rfl,t,_,_,u2,rfl,rfl,cG.of BX,rfl,u2,_,_,UU c,rfl,q25.ty,HI c,rfl,_,rfl,Ap rfl ?_⟩
   have hlen:WH.length=OM.length:=by rw[← R1.length,← R2.length]
   refine⟨_,rfl,t,_,_,u1,rfl,rfl,cG.of BX,rfl,a1,WH,by rw[e1],S1 K H5 s6,_,rfl,t,_,_,u2,rfl,rfl,cG.of BX,rfl,a2,OM,by rw[e2],S2 K H5 s6,rfl,_,rfl,Ap (by rw[hlen]) ?_⟩
   have L5:OM.length=(kids c).length:=R2.length.symm
   have Tu:=Fs SE
   have Ef:=Dt.qq (kids c)
   refine⟨_,rfl,t,_,_,u2,rfl,rfl,cG.of BX,rfl,a2,OM,by rw[e2],S2 K H5 s6,(OM.length:Int),rfl,by omega,by omega,?_⟩
   rw[dX]
   refine jB (lo:=0) (n:=OM.length) (fun i σ H6=> ∃My x4,σ=[some v1,some v2,some (.ref l),some (.ref t),x4]/\aD H H6/\H6 l=some (.lst My)/\H6 t=some (.tup [u1,u2])/\Paired (lS H H6) (LK ++ (kids c).take i) My)
    ⟨td.dropLast,x4,rfl,s6,WG,BX,by simpa using Px⟩ ?_ ?_
   ·rintro i σ H6 hi ⟨My,x4',rfl,s7,gA,TY,Mr⟩
    have UX:i < (kids c).length:=by omega
    have g0:(kids c)[i]? =some (kids c)[i]:=af UX
    obtain⟨w1,g1,z1⟩:=R1.get g0
    obtain⟨w2,g2,z2⟩:=R2.get g0
    have Pp:My.length < sizeLine:=by
     have h1:=Mr.length
     have h2:=Dt.qq (LK ++ (kids c).take i)
     have h3:=vS (kids c) i
     rw[Dt.iB] at h2
     exact ja (by omega)
    refine⟨_,rfl,.inl ⟨rfl,_,bP.of gA⟩,?_⟩
    refine⟨_,rfl,t,_,_,u1,rfl,rfl,cG.of TY,rfl,_,rfl,a1,WH,_,w1,e1,rfl,S1 K H6 s7,by rw[jA]; exact cO g1,_,rfl,t,_,_,u2,rfl,rfl,cG.of TY,rfl,_,rfl,a2,OM,_,w2,e2,rfl,S2 K H6 s7,by rw[jA]; exact cO g2,(by show 2<=sizeLine; decide),fun p7 n7=>?_⟩
    have s8:aD H6 (upd H6 p7 (.tup [w1,w2])):=aD.new n7
    have Pt:=s8 _ _ gA
    refine⟨l,My,.ref p7,rfl,rfl,Pt,Pp,?_⟩
    refine⟨My ++ [.ref p7],_,rfl,(s7.trans s8).dm YF,ag,dN Pt _ _ (s8 _ _ TY),?_⟩
    rw[tj g0,← gF]
    exact cQ (Paired.ir Mr fun d v h=>h.mono fun b xs e=>dN Pt _ _ (s8 _ _ e)) ⟨p7,w1,w2,rfl,dN Pt _ _ ag,z1,z2⟩
   ·rintro σ H6 ⟨My,x4',rfl,s7,gA,TY,Mr⟩
    rw[L5,bh] at Mr
    refine⟨Dt.fc (LK ++ kids c),?_,My,_,_,_,rfl,s7,gA,Mr,rfl,?_,?_⟩
    ·rw[Dt.iB]; omega
    ·rw[Dt.iB]; omega
    ·intro d hd
     rcases bL.mp hd with hd|hd
     ·exact Th d hd
     ·exact Cr Rf d hd
  ·
   have fin:(fun σ' H'=> ∃m',m' < m/\ ∃td ds x3 x4,σ'=[some v1,some v2,some (.ref l),x3,x4]/\aD H H'/\H' l=some (.lst td)/\Paired (lS H H') ds td/\Dt.fc ds=m'/\m'<=100000/\ ∀d∈ds,d.plain=true) [some v1,some v2,some (.ref l),some (.ref t),x4] H5:=by
    have:=c.size_pos
    exact⟨Dt.fc LK,by omega,_,LK,_,_,rfl,s6,WG,Px,rfl,by omega,Th⟩
   refine⟨_,rfl,t,_,_,u2,rfl,rfl,cG.of BX,rfl,u2,_,_,S7 c,rfl,q25.ty,xr c,_,rfl,?_⟩
   refine cL (fun hS=>?_) (fun hS=>?_)
   ·have ec: ∃x,c= .str x:=by cases c <;> first|exact⟨_,rfl⟩|cases hS
    obtain⟨x,rfl⟩:=ec
    obtain rfl:=gQ.mp q1
    obtain rfl:=gQ.mp q2
    refine⟨_,rfl,t,_,_,_,rfl,rfl,cG.of BX,rfl,_,_,_,true,rfl,mI.str x,xr (.str x),_,rfl,cg ?_⟩
    refine⟨_,rfl,t,_,_,_,rfl,rfl,cG.of BX,rfl,_,rfl,t,_,_,_,rfl,rfl,cG.of BX,rfl,rfl,_,rfl,Ap rfl ?_⟩
    exact fin
   ·have ec: ∃x,c= .int x:=by cases c <;> first|exact⟨_,rfl⟩|exact absurd rfl hS|exact absurd rfl SE|cases Rf
    obtain⟨x,rfl⟩:=ec
    obtain rfl:=dM.mp q1
    obtain rfl:=dM.mp q2
    refine⟨_,rfl,t,_,_,_,rfl,rfl,cG.of BX,rfl,.int x,_,rfl,dM.mpr rfl,_,rfl,cg ?_⟩
    refine⟨_,rfl,t,_,_,_,rfl,rfl,cG.of BX,rfl,_,rfl,t,_,_,_,rfl,rfl,cG.of BX,rfl,rfl,_,rfl,Ap rfl ?_⟩
    exact fin
def BL (K:PySem.W.Frag):Sp:=fun vs H Q _=> ∃(po:Addr) (os:List Str) (aL:Str) (cell i:Int),vs=[.ref po,.str aL,.int cell,.int i]/\bP K H po (os.map V.str)/\os.length<=1000/\ ∀(n:Int) (H':Hp),aD H H'->Q (.int n) H'
theorem nK:a0 ["_law_owners","_law_who","_law_cell","_law_k","_law_rest","_law_number","_law_spot","_law_one"] ["_law_owners","_law_who","_law_cell","_law_k"] (az (top 49)):=⟨rfl,rfl,rfl,by decide +kernel,rfl,by decide +kernel,by decide +kernel⟩
theorem wQ (T:Txt K mg):fb P w K mg base "_law_chosen" 1 ["_law_owners","_law_who","_law_cell","_law_k"] (BL K):=by
 refine T.wb.kN (k:=0) nK (fun _ _ _ _ _ _ us hl=>match us,hl with|[_,_,_,_],_=>rfl) (fun vs H Q E h=>?_) (fun f dh A outer s H vs Q E hr h=>?_)
 ·obtain⟨po,os,aL,cell,i,rfl,_⟩:=h
  rfl
 ·obtain⟨po,os,aL,cell,i,rfl,hS,ho,k⟩:=h
  have nd:=nK.nd
  refine⟨_,(ai (a9 (i:=4) nd rfl (Or.inl rfl) (aX jw (pv 2) ah))
(ai (a9 (i:=5) nd rfl (Or.inl rfl) (aX cE (aX dk (aX jw (pv 4) ah) (pv 3)) (aX dk (bq bp (by rfl) T.en bo (aa (pv 0) aj)) ah)))
(ai (fe bS rfl (iX rfl T.l4 (aa (bq bp (by rfl) T.en bo (aa (pv 0) aj)) aj)) (bD (i:=6) nd rfl (Or.inl rfl))
(ai (a9 (i:=7) nd rfl (Or.inl rfl) (aX cE (aX dk (pv 5) (pv 6)) (bq bp (by rfl) T.en bo (aa (pv 0) aj))))
(au (bX (PW.pt (pw_and (aZ cX (aJ a6 (pv 0) (pv 7) (fun _ _=>rfl)) (pv 1) (ba _)) (pw_and1 (aZ iQ (aX cE (pv 2) ah) ah (ba _)))))
(au (bf (pv 7)))
bw))))
(ai (bX (aZ cX (aX cE (pv 2) ah) ah (ba _))
(au (a9 (i:=5) nd rfl (Or.inl rfl) (aJ a6 (cf (aa (oG kM ah) (aa (aX jn ah ah) (aa (aX ff (oG kM ah) (aX cE (pv 4) (aX jn ah ah))) aj)))) (aX cE (pv 4) ah) (fun _ _=>rfl))))
bw)
(au (bf (pv 5))))))),?_⟩
  refine⟨_,rfl,_,_,rfl,rfl,⟨by decide,by decide⟩,?_⟩
  refine⟨_,rfl,_,_,rfl,rfl,⟨by decide,by decide⟩,_,rfl,_,_,rfl,rfl,_,rfl,po,_,rfl,.inl hS,_,_,rfl,rfl,_,_,rfl,rfl,(by show(0:Int) < ((os.map V.str).length:Int) + 1; omega),?_⟩
  generalize WI:(cell / 16 / 2 + i) % (((os.map V.str).length:Int) + 1)=num
  show _
  refine⟨_,rfl,po,_,rfl,.inl hS,((os.map V.str).length:Int),rfl,by omega,by rw[ae]; omega,?_⟩
  rw[dX]
  refine jB (lo:=0) (n:=(os.map V.str).length) (fun j σ H2=> ∃x6 x7,σ=[some (.ref po),some (.str aL),some (.int cell),some (.int i),some (.int (cell / 16)),some (.int num),x6,x7]/\H2=H)
   ⟨none,none,by rw[← WI]; rfl,rfl⟩ ?_ ?_
  ·rintro j σ H2 hj ⟨x6,x7,rfl,rfl⟩
   have hm:0 < ((os.map V.str).length:Int):=by omega
   obtain⟨y,_,hy⟩:=kG (g:=V.str) (xs:=os) (m:=((os.map V.str).length:Int)) (x:=num + (0 + (j:Int))) (by rw[ae]) hm
   refine⟨_,rfl,_,rfl,_,_,rfl,rfl,_,rfl,po,_,rfl,.inl hS,_,_,rfl,rfl,hm,?_⟩
   refine⟨_,rfl,_,rfl,po,_,_,.str y,rfl,rfl,hS,hy,_,rfl,rfl,_,rfl,cL (fun c=>?_) (fun c=>cg ⟨_,_,rfl,rfl⟩)⟩
   refine⟨_,rfl,_,_,rfl,rfl,(by show(0:Int) < 5; decide),_,_,rfl,rfl,_,rfl,cL (fun c=>?_) (fun c=>⟨_,_,rfl,rfl⟩)⟩
   exact⟨_,rfl,k _ _ (aD.refl _)⟩
  ·rintro σ H2 ⟨x6,x7,rfl,rfl⟩
   refine⟨_,rfl,_,_,rfl,rfl,(by show(0:Int) < 47; decide),rfl,_,rfl,cL (fun c=>?_) (fun c=>⟨_,rfl,k _ _ (aD.refl _)⟩)⟩
   refine⟨_,rfl,_,_,rfl,rfl,⟨by decide,by decide,by decide⟩,_,rfl,_,rfl,_,_,rfl,rfl,⟨by decide,by decide,by decide⟩,_,_,rfl,rfl,(by show(0:Int) < _; decide +kernel),_,_,rfl,rfl,(by show 3<=sizeLine; decide),fun p4 n4=>?_⟩
   obtain⟨y,hy⟩:=XZ (-1) (10 ^ (9:Int).toNat) (-2 - cell / 16 % 10 ^ (60:Int).toNat) (cell / 16)
   refine⟨_,rfl,_,_,rfl,rfl,(by show(0:Int) < 3; decide),p4,_,_,.int y,rfl,rfl,bP.of ag,hy,?_⟩
   exact⟨_,rfl,k _ _ (aD.new n4)⟩
def EG:Sp:=fun vs H Q _=> ∃c:Int,vs=[.int c]/\ ∀r:Int,(r=0∨r=1)->Q (.int r) H
theorem wR:a0 ["_law_cell"] ["_law_cell"] (az (top 50)):=⟨rfl,rfl,rfl,by decide +kernel,rfl,by decide +kernel,by decide +kernel⟩
theorem zN (T:Txt K mg):fb P w K mg base "_law_hasty" 1 ["_law_cell"] EG:=by
 refine T.yH.kN (k:=0) wR (fun _ _ _ _ _ _ us hl=>match us,hl with|[_],_=>rfl) (fun vs H Q E h=>?_) (fun f dh A outer s H vs Q E hr h=>?_)
 ·obtain⟨c,rfl,_⟩:=h
  rfl
 ·obtain⟨c,rfl,k⟩:=h
  refine⟨_,(au (bf (f7 jC (by rfl) T.uY boot_int (aa (PZ (fv cX (aX cE (pv 0) ah) ah (ba _)) (o7 (rC (fv cX (aX cE (pv 0) ah) ah (ba _)) (o7 (fv cX (aX cE (aX jw (pv 0) ah) ah) ah (ba _)))))) aj)))),?_⟩
  have fin: ∀b:Bool,Q (.int (if b then 1 else 0)) H:=fun b=>k _ (by cases b <;> simp)
  refine⟨_,rfl,_,_,rfl,rfl,(by show(0:Int) < 29; decide),rfl,_,rfl,cL (fun c=> .inr ⟨_,rfl,fin _⟩) (fun c=>?_)⟩
  refine⟨_,rfl,_,_,rfl,rfl,(by show(0:Int) < 41; decide),rfl,_,rfl,cL (fun c=>?_) (fun c=> .inr ⟨_,rfl,fin _⟩)⟩
  exact⟨_,rfl,_,_,rfl,rfl,⟨by decide,by decide⟩,_,_,rfl,rfl,(by show(0:Int) < 2; decide),rfl,.inr ⟨_,rfl,fin _⟩⟩
def EH (K:PySem.W.Frag):Sp:=fun vs H Q _=> ∃(a:Addr) (cs:List Int) (i:Nat),vs=[.ref a,.int i]/\bP K H a (cs.map V.int)/\i < cs.length/\ ∀n:Int,Q (.int n) H
theorem nL:a0 ["_law_cells","_law_k","_law_days"] ["_law_cells","_law_k"] (az (top 51)):=⟨rfl,rfl,rfl,by decide +kernel,rfl,by decide +kernel,by decide +kernel⟩
theorem wU (T:Txt K mg):fb P w K mg base "_law_due_in" 2 ["_law_cells","_law_k"] (EH K):=by
 have zO:fb P w K mg base "_law_hasty" 1 ["_law_cell"] EG:=zN T
 refine T.wc.kN (k:=1) nL (fun _ _ _ _ _ _ us hl=>match us,hl with|[_,_],_=>rfl) (fun vs H Q E h=>?_) (fun f dh A outer s H vs Q E hr h=>?_)
 ·obtain⟨a,cs,i,rfl,_⟩:=h
  rfl
 ·obtain⟨a,cs,i,rfl,hS,hi,k⟩:=h
  have nd:=nL.nd
  refine⟨_,(ai (a9 (i:=2) nd rfl (Or.inl rfl) (aX cE (aX dk (aJ a6 (pv 0) (aX cE (aX dk (pv 1) ah) (bq bp (by rfl) T.en bo (aa (pv 0) aj))) (fun _ _=>rfl)) (pv 1)) ah))
(iA (bX (aZ cX (aX cE (aJ a6 (pv 0) (pv 1) (fun _ _=>rfl)) ah) ah (ba _))
(au (a9 (i:=2) nd rfl (Or.inl rfl) (aX cE (aJ a6 (pv 0) (aX cE (aX dk (pv 1) ah) (bq bp (by rfl) T.en bo (aa (pv 0) aj))) (fun _ _=>rfl)) (aX jn ah ah))))
bw)
(au (bf (aX ff (pv 2) (aX lO (aX dk (pv 2) ah) (cM zO (hr.mono (by decide)) rfl (aa (aJ a6 (pv 0) (pv 1) (fun _ _=>rfl)) aj)))))))),?_⟩
  have hm:0 < ((cs.map V.int).length:Int):=by rw[ae]; omega
  obtain⟨y,_,hy⟩:=kG (g:=V.int) (xs:=cs) (m:=((cs.map V.int).length:Int)) (x:=(i:Int) + 1) (by rw[ae]) hm
  refine⟨_,rfl,_,rfl,_,_,rfl,rfl,_,rfl,a,_,rfl,.inl hS,_,_,rfl,rfl,hm,a,_,_,.int y,rfl,rfl,hS,hy,_,rfl,_,_,rfl,rfl,_,_,rfl,rfl,(by show(0:Int) < 9; decide),?_⟩
  refine⟨fun σ' H'=>H'=H/\ ∃d:Int,σ'=[some (.ref a),some (.int i),some (.int d)],?_,?_⟩
  ·refine⟨_,rfl,_,rfl,a,_,_,_,rfl,rfl,hS,pJ hi,_,_,rfl,rfl,(by show(0:Int) < 13; decide),rfl,_,rfl,cL (fun c=>?_) (fun c=>⟨rfl,_,rfl⟩)⟩
   refine⟨_,rfl,_,rfl,_,_,rfl,rfl,_,rfl,a,_,rfl,.inl hS,_,_,rfl,rfl,hm,a,_,_,.int y,rfl,rfl,hS,hy,_,_,rfl,rfl,⟨by decide,by decide,by decide⟩,_,_,rfl,rfl,(by show(0:Int) < _; decide +kernel),?_⟩
   exact⟨rfl,_,rfl⟩
  rintro σ' H' ⟨rfl,d,rfl⟩
  refine⟨_,rfl,_,rfl,_,_,rfl,rfl,_,rfl,_,rfl,a,_,_,_,rfl,rfl,hS,pJ hi,_,rfl,fun r WJ=>?_⟩
  exact⟨_,_,rfl,rfl,.inr (by rcases WJ with rfl|rfl <;> exact⟨by decide,by decide⟩),_,_,rfl,rfl,k _⟩
def tP (H:Hp)(a pm lH:Addr)(i:Nat)(σ:L2.St)(H2:Hp):Prop:=
 ∃(pb ph:Addr) (bs hs:List Str) (sp:List Int) (ds:List bI) (ms:List V) (x5 x6 x7 x8 x9 Gv Gw Jx LL JT Jy Jz:Option V),σ=[some (.ref a),some (.ref pm),some (.ref pb),some (.ref ph),some (.ref lH),x5,x6,x7,x8,x9,Gv,Gw,Jx,LL,JT,Jy,Jz]/\aD H H2/\
  H2 pm=some (.lst ms)/\ij H2 ds ms/\ds.length=i/\(∀d∈ds,d.ok)/\H2 pb=some (.lst (bs.map V.str))/\bs.length<=i/\H2 ph=some (.lst (hs.map V.str))/\hs.length<=i/\H2 lH=some (.lst (sp.map V.int))/\sp.length<=i/\pb≠pm/\pb≠lH/\ph≠pm/\ph≠lH
theorem tP.mk' {H:Hp}{a pm lH pb ph:Addr}{i:Nat}{H4 H6:Hp}{bs hs:List Str}{sp:List Int}{ds:List bI}{d:bI}{ms:List V}{p8:Addr}{x5 x6 x7 x8 x9 Gv Gw Jx LL JT Jy Jz:Option V}
  (hR:ij H4 ds ms) (hl:ds.length=i) (cK: ∀d∈ds,d.ok) (kp:cW H4 H6) (s6:aD H H6) (hM:H6 pm=some (.lst (ms ++ [.ref p8]))) (hd:Rp H6 d.dt (.ref p8)) (hdo:d.ok)
  (hb:H6 pb=some (.lst (bs.map V.str))) (Ll:bs.length<=i + 1) (hh:H6 ph=some (.lst (hs.map V.str))) (YI:hs.length<=i + 1) (Kw:H6 lH=some (.lst (sp.map V.int))) (Pp:sp.length<=i + 1)
  (n1:pb≠pm) (n2:pb≠lH) (n3:ph≠pm) (n4:ph≠lH):
  tP H a pm lH (i + 1) [some (.ref a),some (.ref pm),some (.ref pb),some (.ref ph),some (.ref lH),x5,x6,x7,x8,x9,Gv,Gw,Jx,LL,JT,Jy,Jz] H6:=by
 refine⟨pb,ph,bs,hs,sp,ds ++ [d],ms ++ [.ref p8],x5,x6,x7,x8,x9,Gv,Gw,Jx,LL,JT,Jy,Jz,rfl,s6,hM,(hR.mono kp).snoc hd,by rw[aK,hl]; rfl,fun d' GN=>?_,hb,Ll,hh,YI,Kw,Pp,n1,n2,n3,n4⟩
 rcases bL.mp GN with h|h
 ·exact cK d' h
 ·rw[ao.mp h]; exact hdo
def bZ (r:Int)(j:Nat):List Int:=(List.range j).map fun(t:Nat)=>1 + r % 9 + (0 + (t:Int)) * (2 + r % 30)
theorem BN (r:Int)(j:Nat):(bZ r j).length=j:=by unfold bZ; rw[List.length_map,List.length_range]
theorem LM {w:Str}{d:Int}(r:Int)(j:Nat)(hj:j<=11):(bI.iM w d (bZ r j)).ok:=by
 have h9:=om r (show(9:Int)≠0 by decide)
 have YJ:=om r (show(30:Int)≠0 by decide)
 refine⟨by rw[BN]; exact hj,?_,fun x hx=>?_⟩
 ·unfold bZ
  rw[rn]
  refine List.pairwise_lt_range.imp fun{a b} GR=>?_
  have:(0 + (a:Int)) * (2 + r % 30) < (0 + (b:Int)) * (2 + r % 30):=Int.mul_lt_mul_of_pos_right (by omega) (by omega)
  omega
 ·unfold bZ at hx
  obtain⟨t,_,rfl⟩:=bN.mp hx
  have:0<=(0 + (t:Int)) * (2 + r % 30):=Int.mul_nonneg (by omega) (by omega)
  omega
theorem SG (x y:Int)(b:Bool):True/\q0 [V.int x,V.int y] (if b=true then 1 else 0)=some (V.int (if b=true then y else x)):=⟨trivial,by cases b <;> rfl⟩
theorem Mz {H H4:Hp}{pm p8 lH pb ph:Addr}{ms xs b' h' s':List V}(nm:H pm=none)(s4:aD H H4)(qU:H4 pm=some (.lst ms))(n8:H4 p8=none)(n1:pb≠pm)(n3:ph≠pm)(EI:lH≠pm)
  (zG:H4 pb=some (.lst b')) (G1:H4 ph=some (.lst h')) (nM:H4 lH=some (.lst s')):
  cW H4 (upd (upd H4 p8 (.tup xs)) pm (.lst (ms ++ [.ref p8])))/\aD H (upd (upd H4 p8 (.tup xs)) pm (.lst (ms ++ [.ref p8])))/\upd (upd H4 p8 (.tup xs)) pm (.lst (ms ++ [.ref p8])) pm=some (.lst (ms ++ [.ref p8]))/\
  upd (upd H4 p8 (.tup xs)) pm (.lst (ms ++ [.ref p8])) p8=some (.tup xs)/\upd (upd H4 p8 (.tup xs)) pm (.lst (ms ++ [.ref p8])) pb=some (.lst b')/\upd (upd H4 p8 (.tup xs)) pm (.lst (ms ++ [.ref p8])) ph=some (.lst h')/\
  upd (upd H4 p8 (.tup xs)) pm (.lst (ms ++ [.ref p8])) lH=some (.lst s'):=by
 have s8:=aD.new (o:= .tup xs) n8
 refine⟨s8.tk.trans (fT (s8 _ _ qU)),(s4.trans s8).dm nm,ag,dN (s8 _ _ qU) _ _ ag,?_,?_,?_⟩
 ·rw[aA n1]; exact s8 _ _ zG
 ·rw[aA n3]; exact s8 _ _ G1
 ·rw[aA EI]; exact s8 _ _ nM
theorem SH {H H4:Hp}{pm lH pb ph:Addr}{ms b' h':List V}{sp:List Int}{x:Int}(TZ:H lH=none)(s4:aD H H4)(qU:H4 pm=some (.lst ms))(n2:pb≠lH)(n4:ph≠lH)(EI:lH≠pm)
  (zG:H4 pb=some (.lst b')) (G1:H4 ph=some (.lst h')) (nM:H4 lH=some (.lst (sp.map V.int))):
  cW H4 (upd H4 lH (.lst (sp.map V.int ++ [.int x])))/\aD H (upd H4 lH (.lst (sp.map V.int ++ [.int x])))/\upd H4 lH (.lst (sp.map V.int ++ [.int x])) pm=some (.lst ms)/\upd H4 lH (.lst (sp.map V.int ++ [.int x])) pb=some (.lst b')/\
  upd H4 lH (.lst (sp.map V.int ++ [.int x])) ph=some (.lst h')/\upd H4 lH (.lst (sp.map V.int ++ [.int x])) lH=some (.lst ((sp ++ [x]).map V.int)):=by
 refine⟨fT nM,s4.dm TZ,?_,?_,?_,?_⟩
 ·rw[aA EI.symm]; exact qU
 ·rw[aA n2]; exact zG
 ·rw[aA n4]; exact G1
 ·rw[ag,aR]; rfl
theorem gZ {H:Hp}{d:Dt}{v:V}{ds:List Dt}{vs:List V}(h:Rp H d v)(r:g8 H ds vs):g8 H (d :: ds) (v :: vs):=bW.mpr ⟨_,_,rfl,h,r⟩
theorem rI {H:Hp}(i:Int):Rp H (.int i) (.int i):=dM.mpr rfl
theorem rS {H:Hp}(x:Str):Rp H (.str x) (.str x):=gQ.mpr rfl
theorem r0 {H:Hp}:g8 H [] []:=dA.mpr rfl
theorem EJ {H9:Hp}{p9 pb:Addr}{bs:List Str}{aL:Str}{b:Bool}{Q:VK}(h9:H9 p9=some (.lst [V.str aL]))(hb:H9 pb=some (.lst (bs.map V.str)))(hl:bs.length<=100)
  (q: ∀(JA:Addr) (SI:Hp) (n:Nat),n<=1->aD H9 SI->H9 JA=none->SI JA=some (.lst ((bs ++ List.replicate n aL).map V.str))->Q (.ref JA) SI):
  Qn (.ref p9) (.int (if b=true then 1 else 0)) H9 (fun v H=>Qm (.ref pb) v H Q):=by
 have hk:(if b=true then(1:Int) else 0).toNat<=1:=by split <;> decide
 refine⟨p9,_,_,rfl,rfl,h9,(by split <;> decide),(by split <;> decide),(by show 1 * _<=sizeLine; split <;> decide),fun Py WK=>?_⟩
 generalize (if b=true then(1:Int) else 0).toNat=n at hk ⊢
 rw[KG]
 have zh:=aD.new (o:= .lst ((List.replicate n aL).map V.str)) WK
 refine⟨pb,Py,_,_,rfl,rfl,zh _ _ hb,ag,?_,fun JA G2=>?_⟩
 ·refine dU (bB ?_)
  rw[ae,ae,eY]
  omega
 ·rw[← aR]
  exact q JA _ n hk (zh.trans (aD.new G2)) (zh.free G2) ag
def LN (K:PySem.W.Frag):Sp:=fun vs H Q _=> ∃(a:Addr) (cs:List Int),vs=[.ref a]/\bP K H a (cs.map V.int)/\cs.length<=100/\ ∀(pd:Addr) (ds:List bI) (ms:List V) (H':Hp),aD H H'->H' pd=some (.lst ms)->ij H' ds ms->ds.length=cs.length->(∀d∈ds,d.ok)->Q (.ref pd) H'
theorem oW:a0 ["_law_cells","_law_made","_law_bills","_law_held","_law_spots","_law_k","_law_rest","_law_pick","_law_who","_law_day","_law_amount","_law_bill","_law_due","_law_part","_law_credit","_law_menu","_law_limits"] ["_law_cells"] (az (top 52)):=⟨rfl,rfl,rfl,by decide +kernel,rfl,by decide +kernel,by decide +kernel⟩
theorem zP (T:Txt K mg):fb P w K mg base "_law_deeds" 3 ["_law_cells"] (LN K):=by
 have wV:fb P w K mg base "_law_penned" 2 ["_law_cells","_law_k"] (A7 K):=wt T
 have oX:fb P w K mg base "_law_chosen" 1 ["_law_owners","_law_who","_law_cell","_law_k"] (BL K):=wQ T
 have wW:fb P w K mg base "_law_due_in" 2 ["_law_cells","_law_k"] (EH K):=wU T
 refine T.yI.kN (k:=2) oW (fun _ _ _ _ _ _ us hl=>match us,hl with|[_],_=>rfl) (fun vs H Q E h=>?_) (fun f dh A outer s H vs Q E hr h=>?_)
 ·obtain⟨a,cs,rfl,_⟩:=h
  rfl
 ·obtain⟨a,cs,rfl,hS,hc,k⟩:=h
  have nd:=oW.nd
  refine⟨_,(ai (a9 (i:=1) nd rfl (Or.inl rfl) (cf aj))
(ai (a9 (i:=2) nd rfl (Or.inl rfl) (cf aj))
(ai (a9 (i:=3) nd rfl (Or.inl rfl) (cf aj))
(ai (a9 (i:=4) nd rfl (Or.inl rfl) (cf aj))
(ai (fe bS rfl (iX rfl T.l4 (aa (bq bp (by rfl) T.en bo (aa (pv 0) aj)) aj)) (bD (i:=5) nd rfl (Or.inl rfl))
(ai (a9 (i:=6) nd rfl (Or.inr rfl) (aX cE (aX jw (aJ a6 (pv 0) (pv 5) (fun _ _=>rfl)) ah) (aX jn ah ah)))
(ai (a9 (i:=7) nd rfl (Or.inl rfl) (aX cE (aX dk (aJ a6 (pv 0) (pv 5) (fun _ _=>rfl)) (aX lO ah (pv 5))) ah))
(ai (lN (cM wV (hr.mono (by decide)) rfl (aa (pv 0) (aa (pv 5) aj))) (iW rfl (cw (bD (i:=8) nd rfl (Or.inl rfl)) (cw (bD (i:=9) nd rfl (Or.inl rfl)) (cw (bD (i:=10) nd rfl (Or.inl rfl)) gH)))))
(ai (a9 (i:=11) nd rfl (Or.inl rfl) (cM oX (hr.mono (by decide)) rfl (aa (pv 2) (aa (pv 8) (aa (aJ a6 (pv 0) (pv 5) (fun _ _=>rfl)) (aa (pv 5) aj))))))
(au (bX (aZ jN (pv 7) ah (ba _))
(ai (a9 (i:=12) nd rfl (Or.inl rfl) (aX dk (pv 9) (cM wW (hr.mono (by decide)) rfl (aa (pv 0) (aa (pv 5) aj)))))
(ai (bU (fz aM aG aI b0 (pv 1) (aa (dD (aa aW (aa (pv 8) (aa (pv 9) (aa (pv 12) (aa (pv 10) aj)))))) aj)))
(au (a9 (i:=2) nd rfl (Or.inl rfl) (aX pj (pv 2) (aX ym (cf (aa (pv 8) aj)) (f7 jC (by rfl) T.uY boot_int (aa (rC (fv iQ (pv 10) ah (ba _)) (o7 (fv He (pv 12) (pv 9) (ba _)))) aj))))))))
(au (bX (aZ jN (pv 7) ah (ba _))
(ai (bU (fz aM aG aI b0 (pv 1) (aa (dD (aa aW (aa (pv 8) (aa (pv 9) (aa (pv 10) aj))))) aj)))
(au (a9 (i:=3) nd rfl (Or.inl rfl) (aX pj (pv 3) (aX ym (cf (aa (pv 8) aj)) (f7 jC (by rfl) T.uY boot_int (aa (fv iQ (pv 10) ah (ba _)) aj)))))))
(au (bX (aZ cX (pv 7) ah (ba _))
(ai (bU (fz aM aG aI b0 (pv 1) (aa (dD (aa aW (aa (pv 11) (aa (pv 9) (aa (pv 10) aj))))) aj)))
(au (bX (PW.pt (pw_and (aZ sh ah (pv 11) (ba _)) (pw_and (aZ jN (pv 11) (bq bp (by rfl) T.en bo (aa (pv 2) aj)) (ba _)) (pw_and1 (aZ iQ (pv 10) ah (ba _))))))
(au (a9 (i:=3) nd rfl (Or.inl rfl) (aX pj (pv 3) (cf (aa (aJ a6 (pv 2) (pv 11) (fun _ _=>rfl)) aj)))))
bw)))
(au (bX (aZ jN (pv 7) ah (ba _))
(ai (bU (fz aM aG aI b0 (pv 4) (aa (pv 5) aj)))
(iA (a9 (i:=13) nd rfl (Or.inl rfl) (aJ a6 (cf (aa (pv 10) (aa (aX dk ah (aX cE (pv 6) ah)) aj))) (f7 jC (by rfl) T.uY boot_int (aa (rC (fv iQ (pv 10) ah (ba _)) (o7 (fv iQ (aX cE (pv 6) ah) ah (ba _)))) aj)) (fun _ _=>rfl)))
(ai (a9 (i:=14) nd rfl (Or.inl rfl) (cM oX (hr.mono (by decide)) rfl (aa (pv 3) (aa (pv 8) (aa (aJ a6 (pv 0) (pv 5) (fun _ _=>rfl)) (aa (aX dk (pv 5) ah) aj))))))
(iA (bX (aZ cX (aX cE (aJ a6 (pv 0) (pv 5) (fun _ _=>rfl)) ah) ah (ba _))
(au (a9 (i:=14) nd rfl (Or.inl rfl) (aX cE (aX jw (pv 6) ah) (aX dk (bq bp (by rfl) T.en bo (aa (pv 3) aj)) ah))))
bw)
(au (bU (fz aM aG aI b0 (pv 1) (aa (dD (aa aW (aa (pv 14) (aa (pv 11) (aa (pv 13) aj))))) aj))))))))
(au (bX (aZ jN (pv 7) ah (ba _))
(ai (bU (fz aM aG aI b0 (pv 4) (aa (pv 5) aj)))
(au (bU (fz aM aG aI b0 (pv 1) (aa (dD (aa aW (aa (pv 8) aj))) aj)))))
(au (bX (aZ cX (pv 7) ah (ba _))
(ai (a9 (i:=15) nd rfl (Or.inl rfl) (aX pj (pv 4) (cf (aa (pv 5) (aa (oG kM ah) (aa (aX jn ah ah) (aa ah (aa (aX ff (pv 5) ah) (aa (aX cE (aX jw (pv 6) ah) (aX dk (pv 5) ah)) (aa (aX ff (oG kM ah) (pv 6)) aj))))))))))
(au (bU (fz aM aG aI b0 (pv 1) (aa (dD (aa aW (aa (aJ a6 (pv 15) (aX cE (pv 6) (bq bp (by rfl) T.en bo (aa (pv 15) aj))) (fun _ _=>rfl)) aj))) aj)))))
(au (bX (aZ cX (pv 7) ah (ba _))
(au (bU (fz aM aG aI b0 (pv 1) (aa (dD (aa (aJ a6 (cf (aa aW (aa aW aj))) (aX cE (pv 6) ah) (fun _ _=>rfl)) (aa (pv 8) (aa (pv 9) aj)))) aj))))
(ai (lh (i:=16) nd rfl (Or.inl rfl) (tn:=["_law_j"]) (cn:=["_law_rest"]) (cj:=[6]) rfl (iz (by rfl) (by decide +kernel) rfl (by decide +kernel) (by rfl) [(".0",.local),("_law_j",.local),("_law_rest",.cell)] (by rfl) (by decide +kernel) rfl (Or.inl rfl) (Or.inl rfl)) (iX rfl T.l4 (aa (aX cE (pv 6) ah) aj)) (fun _ _ _ _=>(bD (i:=0) (show(["_law_j","_law_rest"]:List Str).Nodup by decide +kernel) rfl (Or.inl rfl))) (fun _ _ _ _=>mN) (fun _ _ _ _=>(aX dk (aX dk ah (aX cE (pv 1) ah)) (aX lO (pv 0) (aX dk ah (aX cE (pv 1) ah))))))
(au (bU (fz aM aG aI b0 (pv 1) (aa (dD (aa aW (aa (pv 8) (aa (pv 9) (aa (f7 vR (by rfl) T.tV boot_tuple (aa (pv 16) aj)) aj))))) aj))))))))))))))))))))))))
(au (bf (pv 1)))))))),?_⟩
  refine⟨bF _,fun pm nm=>⟨bF _,fun pb nb=>⟨bF _,fun ph nh=>⟨bF _,fun lH Pz=>?_⟩⟩⟩⟩
  have s1:aD H (upd H pm (.lst [])):=aD.new nm
  have t2:=aD.new (o:= .lst []) nb
  have t3:=aD.new (o:= .lst []) nh
  have t4:=aD.new (o:= .lst []) Pz
  have s4:=((s1.trans t2).trans t3).trans t4
  have TZ:H lH=none:=((s1.trans t2).trans t3).free Pz
  have g1:=((t2.trans t3).trans t4) _ _ (ag (H:=H) (a:=pm) (o:= .lst []))
  have g2:=(t3.trans t4) _ _ (ag (H:=upd H pm (.lst [])) (a:=pb) (o:= .lst []))
  have g3:=t4 _ _ (ag (H:=upd (upd H pm (.lst [])) pb (.lst [])) (a:=ph) (o:= .lst []))
  have g4:=ag (H:=upd (upd (upd H pm (.lst [])) pb (.lst [])) ph (.lst [])) (a:=lH) (o:= .lst [])
  have YK:pb≠pm:=(aN ag nb).symm
  have YL:ph≠pm:=(aN (t2 _ _ ag) nh).symm
  have EI:lH≠pm:=(aN ((t2.trans t3) _ _ ag) Pz).symm
  have YM:pb≠lH:=aN (t3 _ _ ag) Pz
  have YN:ph≠lH:=aN ag Pz
  generalize upd (upd (upd (upd H pm (.lst [])) pb (.lst [])) ph (.lst [])) lH (.lst [])=H4 at s4 g1 g2 g3 g4 ⊢
  refine⟨_,rfl,a,_,rfl,.inl (s4.seq hS),((cs.map V.int).length:Int),rfl,by omega,by rw[ae]; omega,?_⟩
  rw[dX]
  refine jB (lo:=0) (n:=(cs.map V.int).length) (tP H a pm lH)
   ⟨pb,ph,[],[],[],[],[],none,none,none,none,none,none,none,none,none,none,none,none,rfl,s4,g1,r0,rfl,(fun _ h=>by cases h),g2,aC _,g3,aC _,g4,aC _,YK,YM,YL,YN⟩ ?_ ?_
  ·clear t2 t3 t4 s1 g1 g2 g3 g4 s4 H4 YK YM YL YN nb nh Pz pb ph
   rintro i σ H2 hi ⟨pb,ph,bs,hs,sp,ds,ms,x5,x6,x7,x8,x9,Gv,Gw,Jx,LL,JT,Jy,Jz,rfl,s2,hM,hR,GH,cK,hb,Ll,hh,YI,yh,abo,n1,n2,n3,n4⟩
   have WL:i < cs.length:=by rwa [ae] at hi
   have PB:q0 (cs.map V.int) (0 + (i:Int))=some (.int (cs.getD i 0)):=by rw[jA]; exact pJ WL
   have NK:=s2.seq hS
   generalize mf:cs.getD i 0=cell at PB
   refine⟨_,rfl,_,rfl,a,_,_,.int cell,rfl,rfl,NK,PB,_,_,rfl,rfl,⟨by decide,by decide⟩,_,_,rfl,rfl,⟨by decide,by decide,by decide⟩,_,_,rfl,rfl,(by show(0:Int) < _; decide +kernel),?_⟩
   refine⟨_,rfl,_,rfl,a,_,_,.int cell,rfl,rfl,NK,PB,_,rfl,_,_,rfl,rfl,.inl ⟨by decide,by decide⟩,_,_,rfl,rfl,_,_,rfl,rfl,(by show(0:Int) < 16; decide),?_⟩
   refine⟨_,rfl,_,rfl,a,cs,i,(by rw[jA]; rfl),NK,WL,fun p aL day dO H3 s3 hp=>?_⟩
   refine⟨p,_,rfl,cG.of hp,rfl,_,_,rfl,_,_,rfl,_,_,rfl,rfl,?_⟩
   refine⟨_,rfl,_,rfl,_,rfl,_,rfl,a,_,_,.int cell,rfl,rfl,s3.seq NK,PB,_,rfl,pb,bs,aL,cell,_,rfl,bP.of (s3 _ _ hb),by omega,fun bl H4 YO=>?_⟩
   have Jt:=s3.trans YO
   have s4:=s2.trans Jt
   have qU:=Jt _ _ hM
   have LO:=hR.mono Jt.tk
   have zG:=Jt _ _ hb
   have G1:=Jt _ _ hh
   have nM:=Jt _ _ yh
   have hS4:=s4.seq hS
   have WM:=hS
   have GV:ms.length<=100:=by have:=hR.length; omega
   clear Jt s3 YO hp hM hR hb hh yh s2 NK H2 H3
   refine⟨_,rfl,_,_,rfl,rfl,_,rfl,cL (fun c1=>?_) (fun c1=>?_)⟩
   ·
    refine⟨_,rfl,_,rfl,_,rfl,a,cs,i,(by rw[jA]; rfl),hS4,WL,fun n=>⟨_,_,rfl,rfl,?_⟩⟩
    refine⟨_,rfl,.inl ⟨rfl,_,bP.of qU⟩,_,rfl,_,rfl,_,rfl,_,rfl,(by show 5<=sizeLine; decide),fun p8 n8=>?_⟩
    refine⟨pm,ms,_,rfl,rfl,aD.new n8 _ _ qU,bB (by omega),?_⟩
    obtain⟨k5,s5,vp,h8,zV,BY,ma⟩:=Mz (xs:=[V.str "bill",.str aL,.int day,.int (day + n),.int dO]) nm s4 qU n8 n1 n3 EI zG G1 nM
    refine⟨_,rfl,_,rfl,(by show 1<=sizeLine; decide),fun p9 n9=>?_⟩
    have t9:=aD.new (o:= .lst [V.str aL]) n9
    refine⟨_,rfl,_,_,rfl,rfl,_,rfl,cL (fun c=>⟨_,rfl,_,rfl,_,_,rfl,rfl,.inr ⟨_,rfl,?_⟩⟩) (fun c=> .inr ⟨_,rfl,?_⟩)⟩
    all_goals
     refine EJ ag (t9 _ _ zV) (by omega) fun JA SI n hn WN G2 WO=>?_
     have sO:=t9.trans WN
     exact tP.mk' (d:= .d9 aL day _ dO) (pb:=JA) LO GH cK (k5.trans sO.tk) (s5.trans sO) (sO _ _ vp) (fM (sO _ _ h8) (gZ (rS _) (gZ (rS _) (gZ (rI _) (gZ (rI _) (gZ (rI _) r0)))))) trivial WO (by rw[aK,eY]; omega) (sO _ _ BY) (by omega) (sO _ _ ma) (by omega) (aN (t9 _ _ vp) G2).symm (aN (t9 _ _ ma) G2).symm n3 n4
   refine⟨_,rfl,_,_,rfl,rfl,_,rfl,cL (fun c2=>?_) (fun c2=>?_)⟩
   ·
    refine⟨_,rfl,.inl ⟨rfl,_,bP.of qU⟩,_,rfl,_,rfl,_,rfl,(by show 4<=sizeLine; decide),fun p8 n8=>?_⟩
    refine⟨pm,ms,_,rfl,rfl,aD.new n8 _ _ qU,bB (by omega),?_⟩
    obtain⟨k5,s5,vp,h8,zV,BY,ma⟩:=Mz (xs:=[V.str "pay",.str aL,.int day,.int dO]) nm s4 qU n8 n1 n3 EI zG G1 nM
    refine⟨_,rfl,_,rfl,(by show 1<=sizeLine; decide),fun p9 n9=>?_⟩
    have t9:=aD.new (o:= .lst [V.str aL]) n9
    refine⟨_,rfl,_,_,rfl,rfl,.inr ⟨_,rfl,?_⟩⟩
    refine EJ ag (t9 _ _ BY) (by omega) fun JA SI n hn WN G2 WO=>?_
    have sO:=t9.trans WN
    exact tP.mk' (d:= .ra aL day dO) (ph:=JA) LO GH cK (k5.trans sO.tk) (s5.trans sO) (sO _ _ vp) (fM (sO _ _ h8) (gZ (rS _) (gZ (rS _) (gZ (rI _) (gZ (rI _) r0))))) trivial (sO _ _ zV) (by omega) WO (by rw[aK,eY]; omega) (sO _ _ ma) (by omega) n1 n2 (aN (t9 _ _ vp) G2).symm (aN (t9 _ _ ma) G2).symm
   refine⟨_,rfl,rfl,_,rfl,cL (fun c3=>?_) (fun c3=>?_)⟩
   ·
    refine⟨_,rfl,.inl ⟨rfl,_,bP.of qU⟩,_,rfl,_,rfl,_,rfl,(by show 4<=sizeLine; decide),fun p8 n8=>?_⟩
    refine⟨pm,ms,_,rfl,rfl,aD.new n8 _ _ qU,bB (by omega),?_⟩
    obtain⟨k5,s5,vp,h8,zV,BY,ma⟩:=Mz (xs:=[V.str "note",.int bl,.int day,.int dO]) nm s4 qU n8 n1 n3 EI zG G1 nM
    have no:=fun(Jx LL JT Jy Jz x5 x6 x7 x8 x9 Gv Gw:Option V)=>tP.mk' (a:=a) (x5:=x5) (x6:=x6) (x7:=x7) (x8:=x8) (x9:=x9) (Gv:=Gv) (Gw:=Gw) (Jx:=Jx) (LL:=LL) (JT:=JT) (Jy:=Jy) (Jz:=Jz) (d:= .note bl day dO) LO GH cK k5 s5 vp (fM h8 (gZ (rS _) (gZ (rI _) (gZ (rI _) (gZ (rI _) r0))))) trivial zV (by omega) BY (by omega) ma (by omega) n1 n2 n3 n4
    refine⟨_,rfl,_,_,rfl,rfl,_,rfl,cL (fun d1=>?_) (fun d1=>cg (no ..))⟩
    refine⟨_,rfl,_,rfl,pb,_,rfl,.inl (bP.of zV),_,_,rfl,rfl,_,rfl,cL (fun d2=>?_) (fun d2=>cg (no ..))⟩
    refine⟨_,rfl,_,_,rfl,rfl,_,rfl,cL (fun d3=>?_) (fun d3=>no ..)⟩
    have Ry:0<=bl:=aS d1
    have VJ:bl < ((bs.map V.str).length:Int):=aS d2
    obtain⟨bn,rfl⟩:=cJ Ry
    have hbn:bn < bs.length:=by rw[ae] at VJ; omega
    refine⟨_,rfl,_,rfl,_,rfl,pb,_,_,.str bs[bn],rfl,rfl,bP.of zV,cO (by rw[aB,af hbn]; rfl),(by show 1<=sizeLine; decide),fun p9 n9=>?_⟩
    have t9:=aD.new (o:= .lst [V.str bs[bn]]) n9
    refine⟨ph,p9,_,_,rfl,rfl,t9 _ _ BY,ag,dU (bB (by rw[ae]; show hs.length + 1<=1000; omega)),fun JA G2=>?_⟩
    have sO:=t9.trans (aD.new (o:= .lst (hs.map V.str ++ [V.str bs[bn]])) G2)
    exact tP.mk' (d:= .note (bn:Int) day dO) (ph:=JA) (hs:=hs ++ [bs[bn]]) LO GH cK (k5.trans sO.tk) (s5.trans sO) (sO _ _ vp) (fM (sO _ _ h8) (gZ (rS _) (gZ (rI _) (gZ (rI _) (gZ (rI _) r0))))) trivial (sO _ _ zV) (by omega) (by rw[aR]; exact ag) (by rw[aK]; show hs.length + 1<=_; omega) (sO _ _ ma) (by omega) n1 n2 (aN (t9 _ _ vp) G2).symm (aN (t9 _ _ ma) G2).symm
   refine⟨_,rfl,_,_,rfl,rfl,_,rfl,cL (fun c4=>?_) (fun c4=>?_)⟩
   ·
    refine⟨_,rfl,.inl ⟨rfl,_,bP.of nM⟩,_,rfl,lH,_,_,rfl,rfl,nM,bB (by rw[ae]; omega),?_⟩
    obtain⟨k0,s0,PD,T1,PF,LP⟩:=SH (x:=0 + (i:Int)) TZ s4 qU n2 n4 EI zG G1 nM
    have YQ:=LO.mono k0
    have WQ:=s0.seq WM
    generalize upd H4 lH (.lst (sp.map V.int ++ [.int (0 + (i:Int))]))=H5 at s0 PD T1 PF LP YQ WQ ⊢
    refine⟨fun σ' H'=>aD H5 H'/\ ∃part:Int,σ'=[some (.ref a),some (.ref pm),some (.ref pb),some (.ref ph),some (.ref lH),some (.int (0 + (i:Int))),some (.int (cell / 16 % 10 ^ (60:Int).toNat)),some (.int ((cell + 5 * (0 + (i:Int))) % 16)),some (.str aL),some (.int day),some (.int dO),some (.int bl),Jx,some (.int part),JT,Jy,Jz],?_,?_⟩
    ·refine⟨_,rfl,_,rfl,_,_,rfl,rfl,(by show(0:Int) < 3; decide),_,_,rfl,rfl,(by show 2<=sizeLine; decide),fun p9 n9=>?_⟩
     refine⟨_,rfl,_,_,rfl,rfl,_,rfl,cL (fun d=>⟨_,rfl,_,_,rfl,rfl,(by show(0:Int) < 4; decide),_,_,rfl,rfl,.inr ⟨_,rfl,p9,_,_,_,rfl,rfl,bP.of ag,(SG _ _ _).2,?_⟩⟩) (fun d=> .inr ⟨_,rfl,p9,_,_,_,rfl,rfl,bP.of ag,(SG _ _ _).2,?_⟩)⟩
     ·exact⟨aD.new n9,_,rfl⟩
     ·exact⟨aD.new n9,_,rfl⟩
    rintro σ' H6 ⟨WR,part,rfl⟩
    refine⟨_,rfl,_,rfl,_,rfl,_,rfl,a,_,_,.int cell,rfl,rfl,WR.seq WQ,PB,_,rfl,_,_,rfl,rfl,ph,hs,aL,cell,_,rfl,bP.of (WR _ _ PF),by omega,fun cr0 H7 s67=>?_⟩
    have wM:=WR.trans s67
    refine⟨fun σ' H'=>H'=H7/\ ∃cr:Int,σ'=[some (.ref a),some (.ref pm),some (.ref pb),some (.ref ph),some (.ref lH),some (.int (0 + (i:Int))),some (.int (cell / 16 % 10 ^ (60:Int).toNat)),some (.int ((cell + 5 * (0 + (i:Int))) % 16)),some (.str aL),some (.int day),some (.int dO),some (.int bl),Jx,some (.int part),some (.int cr),Jy,Jz],?_,?_⟩
    ·refine⟨_,rfl,_,rfl,a,_,_,.int cell,rfl,rfl,wM.seq WQ,PB,_,_,rfl,rfl,(by show(0:Int) < 41; decide),rfl,_,rfl,cL (fun d=>?_) (fun d=>⟨rfl,_,rfl⟩)⟩
     refine⟨_,rfl,_,_,rfl,rfl,⟨by decide,by decide⟩,_,rfl,ph,_,rfl,.inl (bP.of (wM _ _ PF)),_,_,rfl,rfl,_,_,rfl,rfl,(by show(0:Int) < ((hs.map V.str).length:Int) + 1; omega),?_⟩
     exact⟨rfl,_,rfl⟩
    rintro σ' H' ⟨rfl,cr,rfl⟩
    have Gs:=wM _ _ PD
    refine⟨_,rfl,.inl ⟨rfl,_,bP.of Gs⟩,_,rfl,_,rfl,_,rfl,(by show 4<=sizeLine; decide),fun p8 n8=>?_⟩
    refine⟨pm,ms,_,rfl,rfl,aD.new n8 _ _ Gs,bB (by omega),?_⟩
    obtain⟨k5,s5,vp,h8,zV,BY,ma⟩:=Mz (xs:=[V.str "set",.int cr,.int bl,.int part]) nm (s0.trans wM) Gs n8 n1 n3 EI (wM _ _ T1) (wM _ _ PF) (wM _ _ LP)
    exact tP.mk' (d:= .set cr bl part) (YQ.mono wM.tk) GH cK k5 s5 vp (fM h8 (gZ (rS _) (gZ (rI _) (gZ (rI _) (gZ (rI _) r0))))) trivial zV (by omega) BY (by omega) ma (by rw[aK]; show sp.length + 1<=_; omega) n1 n2 n3 n4
   refine⟨_,rfl,_,_,rfl,rfl,_,rfl,cL (fun c5=>?_) (fun c5=>?_)⟩
   ·
    refine⟨_,rfl,.inl ⟨rfl,_,bP.of nM⟩,_,rfl,lH,_,_,rfl,rfl,nM,bB (by rw[ae]; omega),?_⟩
    obtain⟨k0,s0,PD,T1,PF,LP⟩:=SH (x:=0 + (i:Int)) TZ s4 qU n2 n4 EI zG G1 nM
    refine⟨_,rfl,.inl ⟨rfl,_,bP.of PD⟩,_,rfl,(by show 2<=sizeLine; decide),fun p8 n8=>?_⟩
    refine⟨pm,ms,_,rfl,rfl,aD.new n8 _ _ PD,bB (by omega),?_⟩
    obtain⟨k5,s5,vp,h8,zV,BY,ma⟩:=Mz (xs:=[V.str "sweep",.str aL]) nm s0 PD n8 n1 n3 EI T1 PF LP
    exact tP.mk' (d:= .fI aL) (LO.mono k0) GH cK k5 s5 vp (fM h8 (gZ (rS _) (gZ (rS _) r0))) trivial zV (by omega) BY (by omega) ma (by rw[aK]; show sp.length + 1<=_; omega) n1 n2 n3 n4
   refine⟨_,rfl,rfl,_,rfl,cL (fun c6=>?_) (fun c6=>?_)⟩
   ·
    refine⟨_,rfl,_,rfl,_,rfl,_,_,rfl,rfl,⟨by decide,by decide,by decide⟩,_,rfl,_,_,rfl,rfl,_,rfl,_,_,rfl,rfl,⟨by decide,by decide⟩,_,rfl,_,_,rfl,rfl,_,_,rfl,rfl,(by show(0:Int) < 0 + (i:Int) + 1; omega),_,rfl,_,rfl,_,_,rfl,rfl,(by show 7<=sizeLine; decide),fun p9 n9=>?_⟩
    refine⟨lH,p9,_,_,rfl,rfl,aD.new n9 _ _ nM,ag,dU (bB (by rw[ae]; show sp.length + 7<=1000; omega)),fun Py WK=>?_⟩
    have zh:=(aD.new (o:= .lst [V.int (0 + (i:Int)),.int (-1),.int (10 ^ (9:Int).toNat),.int 0,.int (0 + (i:Int) - 1),.int ((cell / 16 % 10 ^ (60:Int).toNat) / 3 % (0 + (i:Int) + 1)),.int (-2 - (cell / 16 % 10 ^ (60:Int).toNat))]) n9).trans (aD.new (o:= .lst (sp.map V.int ++ [V.int (0 + (i:Int)),.int (-1),.int (10 ^ (9:Int).toNat),.int 0,.int (0 + (i:Int) - 1),.int ((cell / 16 % 10 ^ (60:Int).toNat) / 3 % (0 + (i:Int) + 1)),.int (-2 - (cell / 16 % 10 ^ (60:Int).toNat))])) WK)
    have SJ:=ag (H:=upd H4 p9 (.lst [V.int (0 + (i:Int)),.int (-1),.int (10 ^ (9:Int).toNat),.int 0,.int (0 + (i:Int) - 1),.int ((cell / 16 % 10 ^ (60:Int).toNat) / 3 % (0 + (i:Int) + 1)),.int (-2 - (cell / 16 % 10 ^ (60:Int).toNat))])) (a:=Py) (o:= .lst (sp.map V.int ++ [V.int (0 + (i:Int)),.int (-1),.int (10 ^ (9:Int).toNat),.int 0,.int (0 + (i:Int) - 1),.int ((cell / 16 % 10 ^ (60:Int).toNat) / 3 % (0 + (i:Int) + 1)),.int (-2 - (cell / 16 % 10 ^ (60:Int).toNat))]))
    generalize upd (upd H4 p9 (.lst [V.int (0 + (i:Int)),.int (-1),.int (10 ^ (9:Int).toNat),.int 0,.int (0 + (i:Int) - 1),.int ((cell / 16 % 10 ^ (60:Int).toNat) / 3 % (0 + (i:Int) + 1)),.int (-2 - (cell / 16 % 10 ^ (60:Int).toNat))])) Py (.lst (sp.map V.int ++ [V.int (0 + (i:Int)),.int (-1),.int (10 ^ (9:Int).toNat),.int 0,.int (0 + (i:Int) - 1),.int ((cell / 16 % 10 ^ (60:Int).toNat) / 3 % (0 + (i:Int) + 1)),.int (-2 - (cell / 16 % 10 ^ (60:Int).toNat))]))=H5 at zh SJ ⊢
    have SK:sp.map V.int ++ [V.int (0 + (i:Int)),.int (-1),.int (10 ^ (9:Int).toNat),.int 0,.int (0 + (i:Int) - 1),.int ((cell / 16 % 10 ^ (60:Int).toNat) / 3 % (0 + (i:Int) + 1)),.int (-2 - (cell / 16 % 10 ^ (60:Int).toNat))]=(sp ++ [0 + (i:Int),-1,10 ^ (9:Int).toNat,0,0 + (i:Int) - 1,(cell / 16 % 10 ^ (60:Int).toNat) / 3 % (0 + (i:Int) + 1),-2 - (cell / 16 % 10 ^ (60:Int).toNat)]).map V.int:=by rw[aR]; rfl
    rw[SK] at SJ
    generalize QI:sp ++ [0 + (i:Int),-1,10 ^ (9:Int).toNat,0,0 + (i:Int) - 1,(cell / 16 % 10 ^ (60:Int).toNat) / 3 % (0 + (i:Int) + 1),-2 - (cell / 16 % 10 ^ (60:Int).toNat)]=mn at SJ
    have abt:0 < mn.length:=by rw[← QI,aK]; show 0 < sp.length + 7; omega
    have YR:0 < ((mn.map V.int).length:Int):=by rw[ae]; omega
    obtain⟨y,_,hy⟩:=kG (g:=V.int) (xs:=mn) (m:=((mn.map V.int).length:Int)) (x:=(cell / 16 % 10 ^ (60:Int).toNat)) (by rw[ae]) YR
    have ON:=zh _ _ qU
    refine⟨_,rfl,.inl ⟨rfl,_,bP.of ON⟩,_,rfl,_,rfl,_,rfl,Py,_,rfl,.inl (bP.of SJ),_,_,rfl,rfl,YR,Py,_,_,.int y,rfl,rfl,bP.of SJ,hy,(by show 2<=sizeLine; decide),fun p8 n8=>?_⟩
    refine⟨pm,ms,_,rfl,rfl,aD.new n8 _ _ ON,bB (by omega),?_⟩
    obtain⟨k5,s5,vp,h8,zV,BY,ma⟩:=Mz (xs:=[V.str "undo",.int y]) nm (s4.trans zh) ON n8 n1 n3 EI (zh _ _ zG) (zh _ _ G1) (zh _ _ nM)
    exact tP.mk' (d:= .i6 y) (LO.mono zh.tk) GH cK k5 s5 vp (fM h8 (gZ (rS _) (gZ (rI _) r0))) trivial zV (by omega) BY (by omega) ma (by omega) n1 n2 n3 n4
   refine⟨_,rfl,rfl,_,rfl,cL (fun c7=>?_) (fun c7=>?_)⟩
   ·
    refine⟨_,rfl,.inl ⟨rfl,_,bP.of qU⟩,(by show 2<=sizeLine; decide),fun p9 n9=>?_⟩
    have t9:=aD.new (o:= .lst [V.str "owed",.str "free"]) n9
    obtain⟨y,X0,hy⟩:=kG (g:=fun o:Bool=>V.str (if o then "owed" else "free")) (xs:=[true,false]) (m:=2) (x:=(cell / 16 % 10 ^ (60:Int).toNat)) rfl (by decide)
    refine⟨_,rfl,_,_,rfl,rfl,(by show(0:Int) < 2; decide),p9,_,_,_,rfl,rfl,bP.of ag,hy,_,rfl,_,rfl,(by show 3<=sizeLine; decide),fun p8 n8=>?_⟩
    have YS:=t9 _ _ qU
    refine⟨pm,ms,_,rfl,rfl,aD.new n8 _ _ YS,bB (by omega),?_⟩
    obtain⟨k5,s5,vp,h8,zV,BY,ma⟩:=Mz (xs:=[V.str (if y then "owed" else "free"),.str aL,.int day]) nm (s4.trans t9) YS n8 n1 n3 EI (t9 _ _ zG) (t9 _ _ G1) (t9 _ _ nM)
    exact tP.mk' (d:= .ask y aL day) (LO.mono t9.tk) GH cK k5 s5 vp (fM h8 (gZ (rS _) (gZ (rS _) (gZ (rI _) r0)))) trivial zV (by omega) BY (by omega) ma (by omega) n1 n2 n3 n4
   ·
    obtain⟨PH,WS,abu⟩:=yY (cell / 16 % 10 ^ (60:Int).toNat) 12 (by decide)
    refine⟨_,rfl,_,_,rfl,rfl,(by show(0:Int) < 12; decide),_,rfl,vK (by decide) (om _ (by decide)),Int.lt_trans (B4 _ (by decide)) (by decide),?_⟩
    show xp (LZ 0 ((cell / 16 % 10 ^ (60:Int).toNat) % 12).toNat) _ _ _ _ _ _
    rw[WS,dX]
    refine Cn (lo:=0) (n:=PH) (fun D j σ H6=>H4 D=none/\ ∃v,σ=[v,some (.int (cell / 16 % 10 ^ (60:Int).toNat))]/\aD H4 H6/\H6 D=some (.lst ((bZ (cell / 16 % 10 ^ (60:Int).toNat) j).map V.int))) (fun D hD=>⟨hD,none,rfl,aD.new hD,ag⟩) ?_ ?_
    ·rintro D j σ H6 hj ⟨hD,v,rfl,t3,hl⟩
     refine⟨_,rfl,_,_,rfl,rfl,(by show(0:Int) < 9; decide),_,_,rfl,rfl,_,rfl,_,rfl,_,_,rfl,rfl,(by show(0:Int) < 30; decide),_,_,rfl,rfl,_,_,rfl,rfl,.inl ⟨by omega,by omega⟩,_,_,rfl,rfl,?_⟩
     refine⟨_,hl,bB (by rw[ae,BN]; omega),hD,_,rfl,t3.dm hD,?_⟩
     rw[ag]
     unfold bZ
     rw[oo,aR,aR]; rfl
    ·rintro D σ H6 _ ⟨hD,v,rfl,t3,hl⟩
     have Jc:=t3 _ _ qU
     refine⟨_,rfl,.inl ⟨rfl,_,bP.of Jc⟩,_,rfl,_,rfl,_,rfl,D,_,rfl,.inl ⟨bP.of hl,fun pt Yl=>?_⟩⟩
     have t7:=t3.trans (aD.new (o:= .tup ((bZ (cell / 16 % 10 ^ (60:Int).toNat) PH).map V.int)) Yl)
     have g7:=ag (H:=H6) (a:=pt) (o:= .tup ((bZ (cell / 16 % 10 ^ (60:Int).toNat) PH).map V.int))
     generalize upd H6 pt (.tup ((bZ (cell / 16 % 10 ^ (60:Int).toNat) PH).map V.int))=H7 at t7 g7 ⊢
     refine⟨(by show 4<=sizeLine; decide),fun p8 n8=>?_⟩
     have Gs:=t7 _ _ qU
     refine⟨pm,ms,_,rfl,rfl,aD.new n8 _ _ Gs,bB (by omega),?_⟩
     obtain⟨k5,s5,vp,h8,zV,BY,ma⟩:=Mz (xs:=[V.str "ages",.str aL,.int day,.ref pt]) nm (s4.trans t7) Gs n8 n1 n3 EI (t7 _ _ zG) (t7 _ _ G1) (t7 _ _ nM)
     exact tP.mk' (d:= .iM aL day (bZ (cell / 16 % 10 ^ (60:Int).toNat) PH)) (LO.mono t7.tk) GH cK k5 s5 vp (fM h8 (gZ (rS _) (gZ (rS _) (gZ (rI _) (gZ (fM (k5 _ _ g7) (g8.ints _)) r0))))) (LM (cell / 16 % 10 ^ (60:Int).toNat) PH (by omega)) zV (by omega) BY (by omega) ma (by omega) n1 n2 n3 n4
  ·rintro σ H2 ⟨pb,ph,bs,hs,sp,ds,ms,x5,x6,x7,x8,x9,Gv,Gw,Jx,LL,JT,Jy,Jz,rfl,s2,hM,hR,GH,cK,_⟩
   rw[ae] at GH
   refine⟨_,rfl,?_⟩
   exact k pm ds ms H2 s2 hM hR GH cK
theorem BO: ∀(l:List bI) (T:jl) (n i:Nat) (h:i < l.length),(hV l T n).1[i]? =some (dY (hV (l.take i) T n).2 ((n + i:Nat):Int) l[i]).1
 |[],_,_,_,h=>absurd h (iK _)
 |d :: l,T,n,0,h=>rfl
 |d :: l,T,n,i + 1,h=>by
  have ih:=BO l (dY T n d).2 (n + 1) i (Nat.lt_of_succ_lt_succ h)
  show(hV l (dY T n d).2 (n + 1)).1[i]? =_
  rw[ih,show n + 1 + i=n + (i + 1) by omega]
  rfl
theorem rY.rp {H:Hp}{ok:Addr->Prop}{a:xy}{v:V}(h:rY H ok a v):Rp H a.dt v:=by
 cases a with
 |int i=>exact dM.mpr h
 |txt s=>exact gQ.mpr h
 |sets l=>
  obtain⟨D,ms,rfl,_,z,t⟩:=h
  exact jx z (il.NT t)
 |pairs l=>
  obtain⟨D,ms,rfl,_,z,t⟩:=h
  exact jx z (iR.NT t)
 |«ints» l=>
  obtain⟨D,rfl,_,z⟩:=h
  exact jx z (vi l)
theorem jK {α:Type}(f:α->Dt)(n:Nat): ∀l:List α,(∀x∈l,(f x).size<=n)->Dt.fc (l.map f)<=l.length * n
 |[],_=>bF _
 |x :: l,h=>by
  have h1:=jK f n l fun y hy=>h y (bz _ hy)
  have h2:=h x bT
  rw[di,cz,vH]
  show(f x).size + Dt.fc (l.map f)<=_
  omega
theorem kb {α:Type}(f:α->Dt)(l:List α)(h: ∀x∈l,(f x).plain=true):Dt.lT (l.map f)=true:=by
 rw[Dt.pz]
 intro d hd
 obtain⟨x,hx,rfl⟩:=bN.mp hd
 exact h x hx
theorem yb {d:bI}(h:d.ok):d.dt.size<=100/\d.dt.plain=true:=by
 cases d with
 |iM w dy l=>
  have h1:l.length<=11:=h.1
  have h2:=jK Dt.int 1 l (fun x _=>aC _)
  refine⟨?_,?_⟩
  ·show(Dt.tup [.str "ages",.str w,.int dy,.tup (l.map Dt.int)]).size<=100
   simp only[Dt.size,Dt.fc]
   omega
  ·show(Dt.tup [.str "ages",.str w,.int dy,.tup (l.map Dt.int)]).plain=true
   simp[Dt.plain,Dt.lT,kb Dt.int l (fun x _=>rfl)]
 |_=>exact⟨by simp[bI.dt,Dt.size,Dt.fc],by simp[bI.dt,Dt.plain,Dt.lT]⟩
theorem Dj {ds:List bI}(h: ∀d∈ds,d.ok)(hl:ds.length<=60):(Dt.lst (ds.map bI.dt)).size<=100000/\(Dt.lst (ds.map bI.dt)).plain=true:=by
 have h1:=jK bI.dt 100 ds fun d hd=>(yb (h d hd)).1
 refine⟨?_,kb bI.dt ds fun d hd=>(yb (h d hd)).2⟩
 show 1 + Dt.fc (ds.map bI.dt)<=100000
 omega
theorem JB (S:Bk)(aL:Str)(day:Int)(bZ:List Int):(S.vU aL day bZ).length=bZ.length + 2:=by
 unfold Bk.vU
 have: ∀(ts:List (Nat×Int)) (l:List Int),(ts.foldl (fun l t=>kC l (L2.placeOf (day - (S.bl t.1).b) bZ) t.2) l).length=l.length:=fun ts=>by
  induction ts with
  |nil=>intro l; rfl
  |cons t ts ih=>intro l; rw[fQ,ih]; exact eA
 rw[this,eY]
theorem JC {S:Bk}{n:Nat}(wf:WF S n)(hn:n<=60)(d:bI):(S.GS d).dt.size<=100000/\(S.GS d).dt.plain=true:=by
 cases d with
 |fI w=>
  obtain⟨_,l,e,_,hl⟩:=mS S w
  have h0:S.GS (.fI w)= .sets l:=by
   show xy.sets _ =_
   rw[e,List.drop_left]
  have h1:=jK (fun t:Nat×Nat×Int=>Dt.tup [.int t.1,.int t.2.1,.int t.2.2]) 4 l (fun x _=>aC _)
  have hcb:S.credits.length * S.aH.length<=60 * 60:=lK (by have:=wf.lc; omega) (by have:=wf.lb; omega)
  rw[h0]
  refine⟨?_,kb _ l fun x _=>rfl⟩
  show 1 + Dt.fc (l.map fun t=>Dt.tup [.int t.1,.int t.2.1,.int t.2.2])<=100000
  have:=wf.lc
  omega
 |_=>exact⟨by show 1<=100000; decide,rfl⟩
theorem step_size {T:jl}{n:Nat}{d:bI}(hG:Good T n)(hn:n<=60)(cK:d.ok):(dY T n d).1.dt.size<=100000/\(dY T n d).1.dt.plain=true:=by
 have wf:=hG.wf hn
 have txt: ∀s:Str,(xy.txt s).dt.size<=100000/\(xy.txt s).dt.plain=true:=fun s=>⟨by show 1<=100000; decide,rfl⟩
 by_cases ht:d.tells=true
 ·rw[pM ht]
  split
  ·exact JC wf hn d
  ·exact txt _
 cases d with
 |i6 m=>
  show(if(T.steps.filter (cv m)).length=T.steps.length then(xy.txt "no setting",T) else
   match cV (T.steps.filter (cv m)) Bk.new with
   |none=>(.txt "needed",T)
   |some S=>(.txt "undone",⟨T.steps.filter (cv m),S⟩)).1.dt.size<=100000/\(if(T.steps.filter (cv m)).length=T.steps.length then(xy.txt "no setting",T) else
   match cV (T.steps.filter (cv m)) Bk.new with
   |none=>(.txt "needed",T)
   |some S=>(.txt "undone",⟨T.steps.filter (cv m),S⟩)).1.dt.plain=true
  split
  ·exact txt _
  ·split
   ·exact txt _
   ·exact txt _
 |ask o w day=>
  have h1:=jK (fun t:Nat×Int=>Dt.tup [.int t.1,.int t.2]) 3 (T.bk.gW o w day) (fun x _=>aC _)
  have h2:(T.bk.gW o w day).length<=(T.bk.rows o).length:=Gi
  have h3:(T.bk.rows o).length<=60:=by
   have:=wf.lb
   have:=wf.lc
   cases o
   ·show T.bk.credits.length<=60; omega
   ·show T.bk.aH.length<=60; omega
  refine⟨?_,kb _ _ fun x _=>rfl⟩
  show 1 + Dt.fc ((T.bk.gW o w day).map fun t=>Dt.tup [.int t.1,.int t.2])<=100000
  omega
 |iM w day l=>
  have h1:=jK Dt.int 1 (T.bk.vU w day l) (fun x _=>aC _)
  have h2:=JB T.bk w day l
  have h3:l.length<=11:=cK.1
  refine⟨?_,kb _ _ fun x _=>rfl⟩
  show 1 + Dt.fc ((T.bk.vU w day l).map Dt.int)<=100000
  omega
 |d9 _ _ _ _=>exact absurd rfl ht
 |ra _ _ _=>exact absurd rfl ht
 |note _ _ _=>exact absurd rfl ht
 |set _ _ _=>exact absurd rfl ht
 |fI _=>exact absurd rfl ht
theorem GI {H:Hp}{pd:Addr}{d:bI}(h:se H pd d): ∃r,H pd=some (.tup (.str (bI.word d) :: r)):=by
 cases d with
 |iM w dy l=>
  obtain⟨pl,h1,_⟩:=h
  exact⟨_,h1⟩
 |_=>exact⟨_,h⟩
theorem yc (d:bI):vQ (.str (bI.word d)) [.str "bill",.str "pay",.str "note",.str "set",.str "sweep"]=d.tells:=by
 cases d with
 |d9 _ _ _ _=>show vQ (.str "bill") _ =true; decide +kernel
 |ra _ _ _=>show vQ (.str "pay") _ =true; decide +kernel
 |note _ _ _=>show vQ (.str "note") _ =true; decide +kernel
 |set _ _ _=>show vQ (.str "set") _ =true; decide +kernel
 |fI _=>show vQ (.str "sweep") _ =true; decide +kernel
 |i6 _=>show vQ (.str "undo") _ =false; decide +kernel
 |ask o _ _=>
  cases o
  ·show vQ (.str "free") _ =false; decide +kernel
  ·show vQ (.str "owed") _ =false; decide +kernel
 |iM _ _ _=>show vQ (.str "ages") _ =false; decide +kernel
theorem LQ (xs:List V)(a b:Nat)(h:a<=b):(ql xs (some (a:Int)) (some (b:Int))).length<=b - a:=by
 unfold ql
 rw[HT.yi,HT.yi,bC]
 omega
theorem LR (ns:List Int)(lo hi:Option Int): ∃cs:List Int,ql (ns.map V.int) lo hi=cs.map V.int:=by
 unfold ql
 rw[← List.map_drop,← List.map_take]
 exact⟨_,rfl⟩
theorem SM {H:Hp}{ok:Addr->Prop}: ∀{as:List xy} {ws:List V},Paired (rY H ok) as ws->g8 H (as.map xy.dt) ws
 |_,_,.nil=>dA.mpr rfl
 |_,_,.cons h t=>bW.mpr ⟨_,_,rfl,h.rp,SM t⟩
theorem JD {H:Hp}{tb:Addr}{pos:Pos}{qual:Str}(h:H tb=some (.nQ #[])):Tb H tb pos qual:=⟨#[],h,True.intro,.inl rfl⟩
def JE (K:PySem.W.Frag)(cps:List (Addr×Addr)):Sp:=fun vs H Q _=> ∃(a:Addr) (ns:List Int),vs=[.ref a]/\bP K H a (ns.map V.int)/\ns.length<=63/\(∀cp∈cps,H cp.2=some (.nQ #[]))/\ ∀H',Q (.bl true) H'
theorem JF:a0 ["_law_script","_law_cells","_law_asked","_law_handed","_law_found","_law_steps","_law_state","_law_number","_law_deed","_law_due"] ["_law_script"] (az (top 66)):=⟨rfl,rfl,rfl,by decide +kernel,rfl,by decide +kernel,by decide +kernel⟩
theorem OO {cps:List (Addr×Addr)}{f:Addr}{fd:FuncData}(F:gq K "law" "law" (top 66) f fd)(T:Txt K mg){A:ej}{tB tC:Addr}(G:jy K mg A)(DB:pX K mg "bills_in_order" (top 17) tB)(DC:pX K mg "credits_in_order" (top 18) tC)(jf:tB≠tC)(hnd:A.i8≠A.tooMuch)(KB:K.In base)(BM:BMain mg base)(Vh: ∃c,(c,tB)∈cps)(hcC: ∃c,(c,tC)∈cps):lP P w K mg base sq 13 f fd ["_law_script"] (JE K cps):=by
 have GJ:fb P w K mg base "answers" 12 ["deeds"] (ya A tB tC):=GG T G DB DC jf hnd KB BM
 have BP:=BK (P:=P) (w:=w) (base:=base) T
 have zQ:=zP (P:=P) (w:=w) (base:=base) T
 have qY:=zL (P:=P) (w:=w) (base:=base) T
 have l7:=qL (P:=P) (w:=w) (base:=base) T
 have zR:=zk (P:=P) (w:=w) (base:=base) T
 have BQ:=Bl (P:=P) (w:=w) (base:=base) T
 have tQ:=tK (P:=P) (w:=w) (base:=base) T
 refine F.ok (k:=12) JF (fun vs H Q E h=>?_) (fun dh A' outer s H vs Q E hr h=>?_)
 ·obtain⟨a,ns,rfl,_⟩:=h
  rfl
 ·obtain⟨a,ns,rfl,hS,hz,hO,k⟩:=h
  have kj:l9 H tB:=let⟨c,hc⟩:=Vh; JD (hO _ hc)
  have jJ:mz H tC:=let⟨c,hc⟩:=hcC; JD (hO _ hc)
  have nd:=JF.nd
  refine⟨_,(ai (a9 (i:=1) nd rfl (Or.inl rfl) (qk tT (pv 0) (qj ah) (qj (aX dk ah (cM BP (hr.mono (by decide)) rfl (aa (pv 0) (aa ah (aa ah aj))))))))
(ai (a9 (i:=2) nd rfl (Or.inl rfl) (cM zQ (hr.mono (by decide)) rfl (aa (pv 1) aj)))
(ai (a9 (i:=3) nd rfl (Or.inl rfl) (f7 qo (by rfl) T.rQ boot_list (aa (pv 2) aj)))
(ai (a9 (i:=4) nd rfl (Or.inl rfl) (cM GJ (hr.mono (by decide)) rfl (aa (pv 3) aj)))
(ai (bX (jL (gg (cM qY (hr.mono (by decide)) rfl (aa (pv 3) (aa (pv 2) aj)))))
(au (bf k8))
bw)
(ai (bX (PW.pt (pw_or (jL (gg (bq eR (by rfl) T.dB eD (aa (pv 4) (aa (gG (v:= .ty "list") (by rfl) T.rQ boot_list rfl) aj))))) (pw_or1 (aZ qf (bq bp (by rfl) T.en bo (aa (pv 4) aj)) (bq bp (by rfl) T.en bo (aa (pv 2) aj)) (ba _)))))
(au (bf k8))
bw)
(ai (a9 (i:=5) nd rfl (Or.inl rfl) (cf aj))
(ai (a9 (i:=6) nd rfl (Or.inl rfl) (HF l7 (hr.mono (by decide)) rfl))
(ai (fe bS rfl (iX rfl T.l4 (aa (bq bp (by rfl) T.en bo (aa (pv 2) aj)) aj)) (bD (i:=7) nd rfl (Or.inl rfl))
(ai (a9 (i:=8) nd rfl (Or.inl rfl) (aJ a6 (pv 2) (pv 7) (fun _ _=>rfl)))
(iA (bX (PW.pt (pw_or (gg (cM zR (hr.mono (by decide)) rfl (aa (pv 8) aj))) (pw_or1 (aZ cX (aJ bb (pv 8) ah (fun _ _=>rfl)) aW (ba _)))))
(au (lN (cM BQ (hr.mono (by decide)) rfl (aa (pv 5) (aa (pv 6) (aa (pv 7) (aa (pv 8) aj))))) (iW rfl (cw (bD (i:=9) nd rfl (Or.inl rfl)) (cw (bD (i:=5) nd rfl (Or.inl rfl)) (cw (bD (i:=6) nd rfl (Or.inl rfl)) gH))))))
(au (a9 (i:=9) nd rfl (Or.inl rfl) (cM tQ (hr.mono (by decide)) rfl (aa (pv 6) (aa (pv 8) aj))))))
(au (bX (jL (gg (cM qY (hr.mono (by decide)) rfl (aa (aJ a6 (pv 4) (pv 7) (fun _ _=>rfl)) (aa (pv 9) aj)))))
(au (bf k8))
bw)))))
(au (bf k8))))))))))),?_⟩
  refine⟨_,rfl,_,rfl,_,rfl,a,_,40,140,rfl,hS,(by rw[ae]; exact hz),_,_,rfl,rfl,_,rfl,a,_,rfl,hS,fun pc nc=>?_⟩
  obtain⟨cs,YT⟩:=LR ns (some 1) (some (1 + 40))
  have qz:cs.length<=40:=by
   have h:=LQ (ns.map V.int) 1 41 (by decide)
   have e:ql (ns.map V.int) (some ((1:Nat):Int)) (some ((41:Nat):Int))=cs.map V.int:=YT
   rw[e,ae] at h
   exact h
  rw[YT]
  have s1:=aD.new (o:= .lst (cs.map V.int)) nc
  have YU:upd H pc (.lst (cs.map V.int)) pc=some (.lst (cs.map V.int)):=ag
  generalize upd H pc (.lst (cs.map V.int))=H1 at s1 YU
  refine⟨_,rfl,pc,cs,rfl,bP.of YU,(by omega),fun pa ds ms H2 s2 Pu Mx GH cK=>?_⟩
  refine⟨_,rfl,pa,ms,rfl,.inl (bP.of Pu),fun ph nh=>?_⟩
  have s3:=aD.new (o:= .lst ms) nh
  have S3:=(s1.trans s2).trans s3
  have oB:l9 _ tB:=cm kj S3
  have oC:mz _ tC:=cm jJ S3
  have OP:=s3 _ _ Pu
  have LS:=Mx.mono s3.tk
  have LU:upd H2 ph (.lst ms) ph=some (.lst ms):=ag
  generalize upd H2 ph (.lst ms)=H3 at S3 oB oC OP LS LU
  clear s3
  refine⟨_,rfl,ph,ds,ms,rfl,LU,LS,(by omega),cK,oB,oC,fun pt ws H4 F4 tM tN nt xM hA=>?_⟩
  have JS: ∀t∈[tB,tC],∃ps,H3 t=some (.nQ ps):=fun t z=>by
   simp only[List.mem_cons,List.not_mem_nil,or_false] at z
   rcases z with rfl|rfl
   ·exact dg oB
   ·exact dg oC
  have OQ:=sT F4 JS OP (fun _ z=>by cases z)
  have SN:=sT F4 JS LU (fun _ z=>by cases z)
  have LV:=LS.mono (fun b xs e=>sT F4 JS e (fun _ z=>by cases z))
  have WT:=SM hA
  obtain⟨sz,pl⟩:=Dj cK (by omega)
  refine⟨_,rfl,_,rfl,_,_,_,rfl,jx SN LV,jx OQ LV,sz,pl,fun H5 s5=>⟨_,rfl,cg ?_⟩⟩
  have OR:=s5 _ _ OQ
  have Dc:=s5 _ _ xM
  have WU:=LV.mono s5.tk
  have SO:=g8.mono s5 _ WT
  have GO:=g8.length WT
  rw[ae,mU] at GO
  have GV:=ij.length Mx
  clear hA xM OQ SN LV WT F4 tM tN OP LU LS s1 s2 S3 oB oC JS Pu Mx s5 kj jJ
  refine⟨_,rfl,_,_,_,true,rfl,(jx Dc SO).ty,DI (.lst _),_,rfl,cg ?_⟩
  refine⟨_,rfl,pt,_,rfl,.inl (bP.of Dc),_,rfl,pa,_,rfl,.inl (bP.of OR),rfl,_,rfl,cL (fun z=>?_) (fun _=>?_)⟩
  ·exfalso
   have e:ws.length=ms.length:=by omega
   rw[e] at z
   simp at z
  refine⟨bF _,fun ps Gj=>?_⟩
  have s6:=aD.new (o:= .lst []) Gj
  have OS:upd H5 ps (.lst []) ps=some (.lst []):=ag
  generalize upd H5 ps (.lst [])=H6 at s6 OS
  refine⟨rfl,fun sd g H7 s7 hBk K3 nf=>?_⟩
  have WV:=s7 _ _ OS
  have wM:=s6.trans s7
  have WW:ps∉g.fp:=fun z=>by
   have:=nf _ z
   rw[OS] at this
   cases this
  have nf5: ∀b∈g.fp,H5 b=none:=fun b hb=>s6.free (nf b hb)
  refine⟨_,rfl,pa,_,rfl,.inl (bP.of (wM _ _ OR)),(ms.length:Int),rfl,by omega,by omega,?_⟩
  rw[dX]
  refine jB (lo:=0) (n:=ms.length) (fun i σ H2=> ∃(ps sd:Addr) (us:List V) (f:fN) (x7 x8 x9:Option V),σ=[some (.ref a),some (.ref pc),some (.ref pa),some (.ref ph),some (.ref pt),some (.ref ps),some (.ref sd),x7,x8,x9]/\aD H5 H2/\H2 ps=some (.lst us)/\gN H2 (hV (ds.take i) jl.new 0).2.steps us/\dI H2 sd (hV (ds.take i) jl.new 0).2.bk f/\(∀x∈f.fp,H5 x=none)/\ps∉f.fp/\Good (hV (ds.take i) jl.new 0).2 i)
   ⟨ps,sd,[],g,none,none,none,rfl,wM,WV,.nil,hBk,nf5,WW,Good.new⟩ ?_ ?_
  ·rintro i σ H2 hi ⟨ps,sd,us,f,x7,x8,x9,rfl,s2,mh,YV,hB,WX,Gj,hG⟩
   rw[jA]
   have vD:i < ds.length:=by omega
   have oA:=af vD
   obtain⟨v0,Vb,R3⟩:=ij.get WU oA
   obtain⟨pd,rfl,YW⟩:=EC R3
   have hd:=YW.mono s2.tk
   have GF:=cK _ (bQ vD)
   have tL:=BO ds jl.new 0 i vD
   rw[Nat.zero_add] at tL
   have TX:=xZ vD
   have oO:Good (dY (hV (ds.take i) jl.new 0).2 (i:Int) ds[i]).2 (i + 1):=hG.step ds[i]
   rw[TX]
   have hsz:=step_size hG (by omega) GF
   obtain⟨w0,hw0,WY⟩:=g8.get SO (i:=i) (by rw[aB,tL]; rfl)
   generalize ds[i]=d at hd GF oO hsz WY tL
   generalize (hV (ds.take i) jl.new 0).2=TT at YV hB hG oO hsz WY tL
   clear TX R3 YW oA
   refine⟨_,rfl,_,rfl,pa,_,_,.ref pd,rfl,rfl,bP.of (s2 _ _ OR),cO Vb,?_⟩
   refine⟨fun σ' H'=> ∃(v:V) (tI zl:Addr) (zo:List V) (f':fN),σ'=[some (.ref a),some (.ref pc),some (.ref pa),some (.ref ph),some (.ref pt),some (.ref tI),some (.ref zl),some (.int (i:Int)),some (.ref pd),some v]/\aD H5 H'/\H' tI=some (.lst zo)/\gN H' (dY TT i d).2.steps zo/\dI H' zl (dY TT i d).2.bk f'/\(∀x∈f'.fp,H5 x=none)/\tI∉f'.fp/\Rp H' (dY TT i d).1.dt v,?_,?_⟩
   ·obtain⟨r,YX⟩:=GI hd
    refine⟨_,rfl,pd,bI.word d,r,rfl,YX,fun H3 s3=>⟨_,rfl,?_⟩⟩
    have GX:=hd.mono s3.tk
    have WZ:=s3 _ _ YX
    have IQ:=s3 _ _ mh
    have OT:gN H3 TT.steps us:=Paired.ir YV fun _ _ ⟨p,q,e1,e2,e3,e4⟩=>⟨p,q,e1,s3 _ _ e2,s3 _ _ e3,e4⟩
    have G0:=hB.same s3
    have W0:=s2.trans s3
    have MA: ∀(R:VK),(∀t v tI zl zo f' H',H' t=some (.tup [v,.ref tI,.ref zl])->aD H5 H'->H' tI=some (.lst zo)->gN H' (dY TT i d).2.steps zo->dI H' zl (dY TT i d).2.bk f'->(∀x∈f'.fp,H5 x=none)->tI∉f'.fp->Rp H' (dY TT i d).1.dt v->R (.ref t) H')->Mp R H3 ps f (dY TT i d):=fun R h t v tI zl f' zo H' ht hv hp hS hb fr fi np _=>
     h t v tI zl zo f' H' ht (fr.same W0 WX) hp hS hb (fun x hx=>(fi x hx).elim (WX x) fun z=>W0.free z) np hv
    by_cases ht:d.tells=true
    ·rw[yc,ht]
     have GN:H3 pd=some (.tup (bI.vs d)):=by cases d <;> first|exact GX|cases ht
     refine fJ (fJ ⟨_,rfl,_,rfl,_,rfl,_,rfl,ps,sd,pd,i,TT,us,f,d,rfl,IQ,OT,G0,Gj,GN,.inl ht,hG,(by omega),MA _ fun t v tI zl zo f' H' ht Kw hp hS hb hn W6 hv=>?_⟩)
     refine⟨t,_,rfl,cG.of ht,rfl,_,_,rfl,_,_,rfl,_,_,rfl,rfl,?_⟩
     exact⟨v,tI,zl,zo,f',rfl,Kw,hp,hS,hb,hn,W6,hv⟩
    ·rw[yc,Bool.eq_false_iff.mpr ht]
     refine cg ⟨_,rfl,pd,_,_,.str (bI.word d),rfl,rfl,cG.of WZ,Jo _ _,rfl,?_⟩
     have rep: ∀{v:V} {H':Hp},(dY TT i d).2=TT->aD H3 H'->Rp H' (dY TT i d).1.dt v-> ∃(v':V) (tI zl:Addr) (zo:List V) (f':fN),[some (V.ref a),some (.ref pc),some (.ref pa),some (.ref ph),some (.ref pt),some (.ref ps),some (.ref sd),some (.int (i:Int)),some (.ref pd),some v]=[some (.ref a),some (.ref pc),some (.ref pa),some (.ref ph),some (.ref pt),some (.ref tI),some (.ref zl),some (.int (i:Int)),some (.ref pd),some v']/\aD H5 H'/\H' tI=some (.lst zo)/\gN H' (dY TT i d).2.steps zo/\dI H' zl (dY TT i d).2.bk f'/\(∀x∈f'.fp,H5 x=none)/\tI∉f'.fp/\Rp H' (dY TT i d).1.dt v':=fun{v H'} e s4 hv=>
      ⟨v,ps,sd,us,f,rfl,W0.trans s4,s4 _ _ IQ,by rw[e]; exact Paired.ir OT fun _ _ ⟨p,q,e1,e2,e3,e4⟩=>⟨p,q,e1,s4 _ _ e2,s4 _ _ e3,e4⟩,by rw[e]; exact G0.same s4,WX,Gj,hv⟩
     have wf:=hG.wf (by omega:i<=60)
     cases d with
     |d9 _ _ _ _=>exact absurd rfl ht
     |ra _ _ _=>exact absurd rfl ht
     |note _ _ _=>exact absurd rfl ht
     |set _ _ _=>exact absurd rfl ht
     |fI _=>exact absurd rfl ht
     |i6 m=>
      refine⟨true,xN _,fJ ⟨_,rfl,_,rfl,_,rfl,_,rfl,ps,sd,pd,i,TT,us,f,.i6 m,rfl,IQ,OT,G0,Gj,GX,.inr ⟨m,rfl⟩,hG,(by omega),MA _ fun t v tI zl zo f' H' ht Kw hp hS hb hn W6 hv=>?_⟩⟩
      refine⟨t,_,rfl,cG.of ht,rfl,_,_,rfl,_,_,rfl,_,_,rfl,rfl,?_⟩
      exact⟨v,tI,zl,zo,f',rfl,Kw,hp,hS,hb,hn,W6,hv⟩
     |ask o wh dy=>
      refine⟨false,jq (by cases o; exact(show("free":Str)≠"undo" by decide +kernel); exact(show("owed":Str)≠"undo" by decide +kernel)),cg ⟨_,rfl,_,rfl,sd,pd,TT.bk,f,i,rfl,G0,wf,(by omega),.inl ⟨o,wh,dy,GX,fun v H' s4 hv=>rep rfl s4 hv⟩⟩⟩
     |iM wh dy bZ=>
      obtain⟨pl',GX,W7⟩:=GX
      refine⟨false,jq (show("ages":Str)≠"undo" by decide +kernel),cg ⟨_,rfl,_,rfl,sd,pd,TT.bk,f,i,rfl,G0,wf,(by omega),.inr ⟨wh,dy,bZ,pl',GX,W7,GF.1,fun v H' s4 hv=>rep rfl s4 hv⟩⟩⟩
   ·rintro σ' H' ⟨v,tI,zl,zo,f',rfl,s',Rv,WM,hB',W8,W9,hv⟩
    refine⟨_,rfl,_,rfl,pt,_,_,w0,rfl,rfl,bP.of (s' _ _ Dc),cO hw0,_,rfl,_,w0,v,rfl,Rp.mono s' _ WY,hv,hsz.1,hsz.2,fun H3 s3=>⟨_,rfl,cg ?_⟩⟩
    exact⟨tI,zl,zo,f',_,_,_,rfl,s'.trans s3,s3 _ _ Rv,Paired.ir WM fun _ _ ⟨p,q,e1,e2,e3,e4⟩=>⟨p,q,e1,s3 _ _ e2,s3 _ _ e3,e4⟩,hB'.same s3,W8,W9,oO⟩
  ·rintro σ H2 ⟨ps,sd,us,f,x7,x8,x9,rfl,_⟩
   exact k H2
section
variable {h:Heap}{x q:Str}{st:Stmt}{f C R:Addr}{oc kV dc pm cd ct:Value}{od an:Option Addr}{sl:Array (Option Value)}
abbrev MB (K:PySem.W.Frag)(f:Addr)(x q:Str)(st:Stmt)(oc:Value)(od an:Option Addr)(kV dc pm cd ct:Value)(sl:Array (Option Value)):Prop:=K.lookup f=some ⟨oc,od,.func (PySem.W.fnOf x q (g6 st) (d8 st) (az st) .none kV dc pm an cd ct),sl⟩
theorem c9 (X:K.In h)(G:h.Ns mainGlobals mg)(a:PySem.W.nsIn K mainGlobals x=some (some (.ref f)))(l:MB K f x x st oc od an kV dc pm cd ct sl)(c:PySem.W.codeIn K cd x=true)(k:PySem.W.keepIn K (.ref f)=true):Df K mg x st:=⟨_,_,px l c k,dj X G a⟩
theorem lI (a:PySem.W.findIn K (.ref C) x=some (some (.ref f)))(i:PySem.W.isFn K (.ref f)=true)(l:MB K f x q st oc od an kV dc pm cd ct sl)(c:PySem.W.codeIn K cd q=true)(k:PySem.W.keepIn K (.ref f)=true): ∃f fd,gq K x q st f fd/\Meth K C x f:=⟨_,_,px l c k,a,i,k⟩
theorem EK (a:PySem.W.findIn K (.ref C) "__init__"=some (some (.ref f)))(i:PySem.W.isFn K (.ref f)=true)(l:MB K f "__init__" q st oc od an kV dc pm cd ct sl)(c:PySem.W.codeIn K cd q=true)(k:PySem.W.keepIn K (.ref f)=true)(m:PySem.W.makesIn K C=true)(kc:PySem.W.keepIn K (.ref C)=true): ∃f fd,gq K "__init__" q st f fd/\Mk K C f:=⟨_,_,px l c k,m,a,i,kc⟩
theorem sU (a:PySem.W.findIn K (.ref C) "__init__"=some (some (.ref f)))(t:PySem.W.typeIn K (.ref f)=some (.type "function"))(l:MB K f "__init__" q st oc od an kV dc pm cd ct sl)(c:PySem.W.codeIn K cd q=true)(k:PySem.W.keepIn K (.ref f)=true): ∃f fd,gq K "__init__" q st f fd/\PySem.W.findIn K (.ref C) "__init__"=some (some (.ref f))/\PySem.W.typeIn K (.ref f)=some (.type "function"):=⟨_,_,px l c k,a,t⟩
theorem OU (r:PySem.W.readsIn K C (.type "type")=true)(s:PySem.W.specialIn K (.ref C) "__getattribute__"=some (some (.builtin "type.__getattribute__")))(a:PySem.W.findCls K (.ref C) (.type "type") "__init__"=some (.val (.ref f)))(l:MB K f "__init__" q st oc od an kV dc pm cd ct sl)(c:PySem.W.codeIn K cd q=true)(k:PySem.W.keepIn K (.ref f)=true): ∃f fd,gq K "__init__" q st f fd/\DV K C f:=⟨_,_,px l c k,r,s,a,k⟩
theorem sV {nm:Str}{N:Addr}{bs:List Value}{sn:List Str}{sub:List Value}{ab:Bool}{col:Option Bool}{dd:Option Addr}{k0 k1 k2 k3 k5:Option Value}(o:K.lookup C=some (excClassObj nm q C N bs [.ref R,.type "Exception",.type "BaseException",.type "object"] true sn sub ab col dd k0 k1 k2 k3 k5 "Exception.__new__"))
  (a:PySem.W.findIn K (.ref C) "__setattr__"=some (some (.builtin "object.__setattr__"))) (b:PySem.W.findIn K (.ref C) "__getattribute__"=some (some (.builtin "BaseException.__getattribute__"))) (c:PySem.W.findIn K (.ref C) "__getattr__"=some none) (d:PySem.W.findIn K (.ref C) "text"=some none):gX K C R:=⟨⟨_,_,_,_,_,_,_,_,_,_,_,_,_,_,_,o,.inr rfl⟩,a,b,c,d⟩
theorem OV {nm:Str}{N:Addr}{bs:List Value}{sn:List Str}{sub:List Value}{ab:Bool}{col:Option Bool}{dd:Option Addr}{k0 k1 k2 k3 k5:Option Value}(o:K.lookup C=some (excClassObj nm q C N bs [.type "Exception",.type "BaseException",.type "object"] true sn sub ab col dd k0 k1 k2 k3 k5 "Exception.__new__"))
  (a:PySem.W.findIn K (.ref C) "__setattr__"=some (some (.builtin "object.__setattr__"))) (b:PySem.W.findIn K (.ref C) "__getattribute__"=some (some (.builtin "BaseException.__getattribute__"))) (c:PySem.W.findIn K (.ref C) "__getattr__"=some none) (d:PySem.W.findIn K (.ref C) "text"=some none):gX K C C:=⟨⟨_,_,_,_,_,_,_,_,_,_,_,_,_,_,_,o,.inl ⟨rfl,rfl⟩⟩,a,b,c,d⟩
theorem MC {c tb:Addr}(X:K.In h)(G:h.Ns mainGlobals mg)(a:PySem.W.nsIn K mainGlobals x=some (some (.ref f)))(l:MB K f x x st oc od an kV dc pm (.ref c) ct sl)(cd:PySem.W.codeIn K (.ref c) x=true)(k:PySem.W.keepIn K (.ref f)=true)(hd:PySem.W.codeHdIn K c tb=true)(n:K.lookup tb=none):pX K mg x st tb/\ ∃c,PySem.W.codeHdIn K c tb=true/\K.lookup tb=none:=⟨⟨f,c,oc,od,kV,dc,pm,an,ct,sl,l,cd,k,dj X G a,hd⟩,c,hd,n⟩
end
end
theorem OW {K:PySem.W.Frag}{mg:Str->Option Value}{md iI fV me eG ke nN jj kg kh lJ jk nO:Addr}(h1:mg "Refusal"=some (.ref eG))(h2:gX K eG eG)(h3:PySem.W.keepIn K (.ref eG)=true)(h4: ∃f fd,gq K "__init__" "Refusal.__init__" (mem 3 0) f fd/\DV K eG f)(h5:mg "NoCredit"=some (.ref ke))(h6:gX K ke eG)(h7:PySem.W.keepIn K (.ref ke)=true)(h8: ∃f fd,gq K "__init__" "NoCredit.__init__" (mem 4 0) f fd/\PySem.W.findIn K (.ref ke) "__init__"=some (some (.ref f))/\PySem.W.typeIn K (.ref f)=some (.type "function"))(h9:mg "NoBill"=some (.ref nN))(QQ:gX K nN eG)(U4:PySem.W.keepIn K (.ref nN)=true)(O7: ∃f fd,gq K "__init__" "NoBill.__init__" (mem 5 0) f fd/\PySem.W.findIn K (.ref nN) "__init__"=some (some (.ref f))/\PySem.W.typeIn K (.ref f)=some (.type "function"))(h13:mg "NotTheirs"=some (.ref jj))(h14:gX K jj eG)(UL:PySem.W.keepIn K (.ref jj)=true)(h16: ∃f fd,gq K "__init__" "NotTheirs.__init__" (mem 6 0) f fd/\PySem.W.findIn K (.ref jj) "__init__"=some (some (.ref f))/\PySem.W.typeIn K (.ref f)=some (.type "function"))(h17:mg "NoAmount"=some (.ref kg))(h18:gX K kg eG)(h19:PySem.W.keepIn K (.ref kg)=true)(h20: ∃f fd,gq K "__init__" "NoAmount.__init__" (mem 7 0) f fd/\PySem.W.findIn K (.ref kg) "__init__"=some (some (.ref f))/\PySem.W.typeIn K (.ref f)=some (.type "function"))(h21:mg "TooEarly"=some (.ref kh))(h22:gX K kh eG)(h23:PySem.W.keepIn K (.ref kh)=true)(VB: ∃f fd,gq K "__init__" "TooEarly.__init__" (mem 8 0) f fd/\PySem.W.findIn K (.ref kh) "__init__"=some (some (.ref f))/\PySem.W.typeIn K (.ref f)=some (.type "function"))(h25:mg "TooMuch"=some (.ref lJ))(h26:gX K lJ eG)(h27:PySem.W.keepIn K (.ref lJ)=true)(h28: ∃f fd,gq K "__init__" "TooMuch.__init__" (mem 9 0) f fd/\PySem.W.findIn K (.ref lJ) "__init__"=some (some (.ref f))/\PySem.W.typeIn K (.ref f)=some (.type "function"))(h29:mg "NoSetting"=some (.ref jk))(YJ:gX K jk eG)(h31:PySem.W.keepIn K (.ref jk)=true)(h32: ∃f fd,gq K "__init__" "NoSetting.__init__" (mem 10 0) f fd/\PySem.W.findIn K (.ref jk) "__init__"=some (some (.ref f))/\PySem.W.typeIn K (.ref f)=some (.type "function"))(h33:mg "Needed"=some (.ref nO))(VC:gX K nO eG)(h35:PySem.W.keepIn K (.ref nO)=true)(h36: ∃f fd,gq K "__init__" "Needed.__init__" (mem 11 0) f fd/\PySem.W.findIn K (.ref nO) "__init__"=some (some (.ref f))/\PySem.W.typeIn K (.ref f)=some (.type "function"))(h37:mg "Bill"=some (.ref md))(h38:vO K md)(h39:cA K md "number")(h40:cA K md "who")(h41:cA K md "day")(h42:cA K md "due")(h43:cA K md "amount")(h44: ∃f fd,gq K "__init__" "Bill.__init__" (mem 13 0) f fd/\Mk K md f)(h45:mg "Credit"=some (.ref iI))(h46:vO K iI)(h47:cA K iI "number")(h48:cA K iI "who")(h49:cA K iI "day")(h50:cA K iI "amount")(h51:cA K iI "only")(h52: ∃f fd,gq K "__init__" "Credit.__init__" (mem 14 0) f fd/\Mk K iI f)(h53:mg "Work"=some (.ref fV))(VD:vO K fV)(h55:cA K fV "bills")(h56:cA K fV "all_credits")(h57:cA K fV "lefts")(h58:cA K fV "frees")(h59:cA K fV "made")(h60: ∃f fd,gq K "__init__" "Work.__init__" (mem 25 0) f fd/\Mk K fV f)(h61: ∃f fd,gq K "tell_bill" "Work.tell_bill" (mem 25 1) f fd/\Meth K fV "tell_bill" f)(h62: ∃f fd,gq K "tell_payment" "Work.tell_payment" (mem 25 2) f fd/\Meth K fV "tell_payment" f)(h63: ∃f fd,gq K "tell_note" "Work.tell_note" (mem 25 3) f fd/\Meth K fV "tell_note" f)(BS: ∃f fd,gq K "tell_credit" "Work.tell_credit" (mem 25 4) f fd/\Meth K fV "tell_credit" f)(h65: ∃f fd,gq K "set_by_hand" "Work.set_by_hand" (mem 25 5) f fd/\Meth K fV "set_by_hand" f)(h66: ∃f fd,gq K "sweep" "Work.sweep" (mem 25 6) f fd/\Meth K fV "sweep" f)(h67: ∃f fd,gq K "one_round" "Work.one_round" (mem 25 7) f fd/\Meth K fV "one_round" f)(h68: ∃f fd,gq K "put" "Work.put" (mem 25 8) f fd/\Meth K fV "put" f)(h69: ∃f fd,gq K "credit_at" "Work.credit_at" (mem 25 9) f fd/\Meth K fV "credit_at" f)(h70: ∃f fd,gq K "bill_at" "Work.bill_at" (mem 25 10) f fd/\Meth K fV "bill_at" f)(h71:mg "Book"=some (.ref me))(h72:vO K me)(h73:cA K me "kept")(h74:cA K me "work")(h75: ∃f fd,gq K "__init__" "Book.__init__" (mem 29 0) f fd/\Mk K me f)(h76: ∃f fd,gq K "do" "Book.do" (mem 29 1) f fd/\Meth K me "do" f)(h77: ∃f fd,gq K "undo" "Book.undo" (mem 29 2) f fd/\Meth K me "undo" f)(h78: ∃f fd,gq K "in_force" "Book.in_force" (mem 29 3) f fd/\Meth K me "in_force" f):jy K mg ⟨md,iI,fV,me,eG,ke,nN,jj,kg,kh,lJ,jk,nO⟩:=⟨h1,h2,h3,h4,h5,h6,h7,h8,h9,QQ,U4,O7,h13,h14,UL,h16,h17,h18,h19,h20,h21,h22,h23,VB,h25,h26,h27,h28,h29,YJ,h31,h32,h33,VC,h35,h36,h37,h38,h39,h40,h41,h42,h43,h44,h45,h46,h47,h48,h49,h50,h51,h52,h53,VD,h55,h56,h57,h58,h59,h60,h61,h62,h63,BS,h65,h66,h67,h68,h69,h70,h71,h72,h73,h74,h75,h76,h77,h78⟩
theorem all_mk {l:PySem.W.OpenLaw}{w:World}{K:PySem.W.Frag}{h:Heap}{mg:Str->Option Value}{f fa:Addr}{oc kV dc pm cd ct:Value}{od an:Option Addr}{sl:Array (Option Value)}(X:K.In h)(G:h.Ns mainGlobals mg)(hfa:mg "law"=some (.ref fa)){A:ej}(GP:jy K mg A)(hnd:A.i8≠A.tooMuch)(T:Txt K mg)(DB:pX K mg "bills_in_order" (top 17) 249/\ ∃c,PySem.W.codeHdIn K c 249=true/\K.lookup 249=none)(DC:pX K mg "credits_in_order" (top 18) 254/\ ∃c,PySem.W.codeHdIn K c 254=true/\K.lookup 254=none)(a:PySem.W.nsIn K mainGlobals "law"=some (some (.ref f)))(lk:MB K f "law" "law" (top 66) oc od an kV dc pm cd ct sl)(c:PySem.W.codeIn K cd "law"=true)(k:PySem.W.keepIn K (.ref f)=true):
  ∃(fd:FuncData) (cps:List (Addr×Addr)),(∀cp∈cps,cp.2∈[254,249])/\(∀cp∈cps,PySem.W.codeHdIn K cp.1 cp.2=true/\K.lookup cp.2=none)/\(∀(s:Shared) (u:Value),BindsTo s fd ⟨[u],[]⟩ [("_law_script",u)])/\
   ∀base:Heap,K.In base->base.Ns mainGlobals mg->BMain mg base->lP l.prog w K mg base sq 13 fa fd ["_law_script"] (JE K cps):=by
 have e:=hfa.symm.trans (dj X G a)
 cases e
 obtain⟨DB,cb,b1,b2⟩:=DB
 obtain⟨DC,cc,c1,c2⟩:=DC
 refine⟨_,[(cb,249),(cc,254)],fun cp hc=>?_,fun cp hc=>?_,fun s v=> .of_eq rfl,fun base KB _ BM=>OO (px (st:=top 66) lk c k) T GP DB DC (by decide) hnd KB BM ⟨cb,by simp⟩ ⟨cc,by simp⟩⟩
 ·simp only[List.mem_cons,List.not_mem_nil,or_false] at hc
  rcases hc with rfl|rfl <;> simp
 ·simp only[List.mem_cons,List.not_mem_nil,or_false] at hc
  rcases hc with rfl|rfl
  ·exact⟨b1,b2⟩
  ·exact⟨c1,c2⟩
end eQ
open PySem PySem.W PyProof.Rows L2
set_option maxRecDepth 100000 in
set_option maxHeartbeats 0 in
theorem PySem.Challenge.cw_spikebook_k04_answers_holds : PySem.Challenge.rw_spikebook_k04_answers.Holds := by
 w_on; o_law; k_head; (case hw=>w_witness2)
 k_fill
 refine L2.Il (n:=63) (k:=13) (ts:=[254,249]) (x:="_law_script") (sp:=fun K cps=>eQ.JE K cps) rfl (by decide) rfl ⟨rfl,by decide,by decide⟩ (fun w h Y=>⟨PySem.W.km_in_of Y,PySem.W.km_tabs_of Y⟩) ?F (fun _ cps _ a ns hl hO hS=>⟨a,ns,rfl,hS,hl,hO,fun _=>rfl⟩)
 case F=>
  intro w mg fa h KX G Qw
  refine' eQ.all_mk KX G Qw (eQ.OW (dj KX G ?q1) (eQ.OV ?q2 ?q3 ?q4 ?q5 ?q6) ?q7 (eQ.OU ?q8 ?q9 ?q10 ?q11 ?q12 ?q13) (dj KX G ?q14) (eQ.sV ?q15 ?q16 ?q17 ?q18 ?q19) ?q20 (eQ.sU ?q21 ?q22 ?q23 ?q24 ?q25) (dj KX G ?q26) (eQ.sV ?q27 ?q28 ?q29 ?q30 ?q31) ?q32 (eQ.sU ?q33 ?q34 ?q35 ?q36 ?q37) (dj KX G ?q38) (eQ.sV ?q39 ?q40 ?q41 ?q42 ?q43) ?q44 (eQ.sU ?q45 ?q46 ?q47 ?q48 ?q49) (dj KX G ?q50) (eQ.sV ?q51 ?q52 ?q53 ?q54 ?q55) ?q56 (eQ.sU ?q57 ?q58 ?q59 ?q60 ?q61) (dj KX G ?q62) (eQ.sV ?q63 ?q64 ?q65 ?q66 ?q67) ?q68 (eQ.sU ?q69 ?q70 ?q71 ?q72 ?q73) (dj KX G ?q74) (eQ.sV ?q75 ?q76 ?q77 ?q78 ?q79) ?q80 (eQ.sU ?q81 ?q82 ?q83 ?q84 ?q85) (dj KX G ?q86) (eQ.sV ?q87 ?q88 ?q89 ?q90 ?q91) ?q92 (eQ.sU ?q93 ?q94 ?q95 ?q96 ?q97) (dj KX G ?q98) (eQ.sV ?q99 ?q100 ?q101 ?q102 ?q103) ?q104 (eQ.sU ?q105 ?q106 ?q107 ?q108 ?q109) (dj KX G ?q110) ⟨?q111,?q112,?q113,?q114⟩ ?q115 ?q116 ?q117 ?q118 ?q119 (eQ.EK ?q120 ?q121 ?q122 ?q123 ?q124 ?q125 ?q126) (dj KX G ?q127) ⟨?q128,?q129,?q130,?q131⟩ ?q132 ?q133 ?q134 ?q135 ?q136 (eQ.EK ?q137 ?q138 ?q139 ?q140 ?q141 ?q142 ?q143) (dj KX G ?q144) ⟨?q145,?q146,?q147,?q148⟩ ?q149 ?q150 ?q151 ?q152 ?q153 (eQ.EK ?q154 ?q155 ?q156 ?q157 ?q158 ?q159 ?q160) (eQ.lI ?q161 ?q162 ?q163 ?q164 ?q165) (eQ.lI ?q166 ?q167 ?q168 ?q169 ?q170) (eQ.lI ?q171 ?q172 ?q173 ?q174 ?q175) (eQ.lI ?q176 ?q177 ?q178 ?q179 ?q180) (eQ.lI ?q181 ?q182 ?q183 ?q184 ?q185) (eQ.lI ?q186 ?q187 ?q188 ?q189 ?q190) (eQ.lI ?q191 ?q192 ?q193 ?q194 ?q195) (eQ.lI ?q196 ?q197 ?q198 ?q199 ?q200) (eQ.lI ?q201 ?q202 ?q203 ?q204 ?q205) (eQ.lI ?q206 ?q207 ?q208 ?q209 ?q210) (dj KX G ?q211) ⟨?q212,?q213,?q214,?q215⟩ ?q216 ?q217 (eQ.EK ?q218 ?q219 ?q220 ?q221 ?q222 ?q223 ?q224) (eQ.lI ?q225 ?q226 ?q227 ?q228 ?q229) (eQ.lI ?q230 ?q231 ?q232 ?q233 ?q234) (eQ.lI ?q235 ?q236 ?q237 ?q238 ?q239)) ?hnd ⟨eQ.c9 KX G ?q240 ?q241 ?q242 ?q243,eQ.c9 KX G ?q244 ?q245 ?q246 ?q247,eQ.c9 KX G ?q248 ?q249 ?q250 ?q251,eQ.c9 KX G ?q252 ?q253 ?q254 ?q255,eQ.c9 KX G ?q256 ?q257 ?q258 ?q259,eQ.c9 KX G ?q260 ?q261 ?q262 ?q263,eQ.c9 KX G ?q264 ?q265 ?q266 ?q267,eQ.c9 KX G ?q268 ?q269 ?q270 ?q271,eQ.c9 KX G ?q272 ?q273 ?q274 ?q275,eQ.c9 KX G ?q276 ?q277 ?q278 ?q279,eQ.c9 KX G ?q280 ?q281 ?q282 ?q283,eQ.c9 KX G ?q284 ?q285 ?q286 ?q287,eQ.c9 KX G ?q288 ?q289 ?q290 ?q291,eQ.c9 KX G ?q292 ?q293 ?q294 ?q295,eQ.c9 KX G ?q296 ?q297 ?q298 ?q299,eQ.c9 KX G ?q300 ?q301 ?q302 ?q303,eQ.c9 KX G ?q304 ?q305 ?q306 ?q307,eQ.c9 KX G ?q308 ?q309 ?q310 ?q311,eQ.c9 KX G ?q312 ?q313 ?q314 ?q315,eQ.c9 KX G ?q316 ?q317 ?q318 ?q319,eQ.c9 KX G ?q320 ?q321 ?q322 ?q323,eQ.c9 KX G ?q324 ?q325 ?q326 ?q327,eQ.c9 KX G ?q328 ?q329 ?q330 ?q331,eQ.c9 KX G ?q332 ?q333 ?q334 ?q335,eQ.c9 KX G ?q336 ?q337 ?q338 ?q339,eQ.c9 KX G ?q340 ?q341 ?q342 ?q343,eQ.c9 KX G ?q344 ?q345 ?q346 ?q347,eQ.c9 KX G ?q348 ?q349 ?q350 ?q351,eQ.c9 KX G ?q352 ?q353 ?q354 ?q355,eQ.c9 KX G ?q356 ?q357 ?q358 ?q359,eQ.c9 KX G ?q360 ?q361 ?q362 ?q363,eQ.c9 KX G ?q364 ?q365 ?q366 ?q367,eQ.c9 KX G ?q368 ?q369 ?q370 ?q371,eQ.c9 KX G ?q372 ?q373 ?q374 ?q375,eQ.c9 KX G ?q376 ?q377 ?q378 ?q379,eQ.c9 KX G ?q380 ?q381 ?q382 ?q383,eQ.c9 KX G ?q384 ?q385 ?q386 ?q387,eQ.c9 KX G ?q388 ?q389 ?q390 ?q391,eQ.c9 KX G ?q392 ?q393 ?q394 ?q395,eQ.c9 KX G ?q396 ?q397 ?q398 ?q399,eQ.c9 KX G ?q400 ?q401 ?q402 ?q403,eQ.c9 KX G ?q404 ?q405 ?q406 ?q407,eQ.c9 KX G ?q408 ?q409 ?q410 ?q411,eQ.c9 KX G ?q412 ?q413 ?q414 ?q415,eQ.c9 KX G ?q416 ?q417 ?q418 ?q419,eQ.c9 KX G ?q420 ?q421 ?q422 ?q423,cq KX G ?q424,cq KX G ?q425,cq KX G ?q426,cq KX G ?q427,cq KX G ?q428,cq KX G ?q429,cq KX G ?q430,cq KX G ?q431,cq KX G ?q432,cq KX G ?q433,cq KX G ?q434,cq KX G ?q435,cq KX G ?q436,cq KX G ?q437,cq KX G ?q438⟩ (eQ.MC KX G ?q439 ?q440 ?q441 ?q442 ?u1 ?u2) (eQ.MC KX G ?q443 ?q444 ?q445 ?q446 ?u3 ?u4) ?q447 ?q448 ?q449 ?q450
  case q1|q2|q3|q4|q5|q6|q7|q8|q9|q10|q11|q12|q13|q14|q15|q16|q17|q18|q19|q20|q21|q22|q23|q24|q25|q26|q27|q28|q29|q30|q31|q32|q33|q34|q35|q36|q37|q38|q39|q40|q41|q42|q43|q44|q45|q46|q47|q48|q49|q50|q51|q52|q53|q54|q55|q56|q57|q58|q59|q60|q61|q62|q63|q64|q65|q66|q67|q68|q69|q70|q71|q72|q73|q74|q75|q76|q77|q78|q79|q80|q81|q82|q83|q84|q85|q86|q87|q88|q89|q90|q91|q92|q93|q94|q95|q96|q97|q98|q99|q100|q101|q102|q103|q104|q105|q106|q107|q108|q109|q110|q111|q112|q113|q114|q115|q116|q117|q118|q119|q120|q121|q122|q123|q124|q125|q126|q127|q128|q129|q130|q131|q132|q133|q134|q135|q136|q137|q138|q139|q140|q141|q142|q143|q144|q145|q146|q147|q148|q149|q150|q151|q152|q153|q154|q155|q156|q157|q158|q159|q160|q161|q162|q163|q164|q165|q166|q167|q168|q169|q170|q171|q172|q173|q174|q175|q176|q177|q178|q179|q180|q181|q182|q183|q184|q185|q186|q187|q188|q189|q190|q191|q192|q193|q194|q195|q196|q197|q198|q199|q200|q201|q202|q203|q204|q205|q206|q207|q208|q209|q210|q211|q212|q213|q214|q215|q216|q217|q218|q219|q220|q221|q222|q223|q224|q225|q226|q227|q228|q229|q230|q231|q232|q233|q234|q235|q236|q237|q238|q239|q240|q241|q242|q243|q244|q245|q246|q247|q248|q249|q250|q251|q252|q253|q254|q255|q256|q257|q258|q259|q260|q261|q262|q263|q264|q265|q266|q267|q268|q269|q270|q271|q272|q273|q274|q275|q276|q277|q278|q279|q280|q281|q282|q283|q284|q285|q286|q287|q288|q289|q290|q291|q292|q293|q294|q295|q296|q297|q298|q299|q300|q301|q302|q303|q304|q305|q306|q307|q308|q309|q310|q311|q312|q313|q314|q315|q316|q317|q318|q319|q320|q321|q322|q323|q324|q325|q326|q327|q328|q329|q330|q331|q332|q333|q334|q335|q336|q337|q338|q339|q340|q341|q342|q343|q344|q345|q346|q347|q348|q349|q350|q351|q352|q353|q354|q355|q356|q357|q358|q359|q360|q361|q362|q363|q364|q365|q366|q367|q368|q369|q370|q371|q372|q373|q374|q375|q376|q377|q378|q379|q380|q381|q382|q383|q384|q385|q386|q387|q388|q389|q390|q391|q392|q393|q394|q395|q396|q397|q398|q399|q400|q401|q402|q403|q404|q405|q406|q407|q408|q409|q410|q411|q412|q413|q414|q415|q416|q417|q418|q419|q420|q421|q422|q423|q424|q425|q426|q427|q428|q429|q430|q431|q432|q433|q434|q435|q436|q437|q438|q439|q440|q441|q442|q443|q444|q445|q446|q447|q448|q449|q450=>((try unfold eQ.MB); (try unfold L2.cA); k_is)
  (case hnd=>decide)
  (case u1=>kernel_rfl)
  (case u2=>kernel_rfl)
  (case u3=>kernel_rfl)
  (case u4=>kernel_rfl)
