import PyProof.Rows.All
import Wide.All
import OpenK.AllK
import Wide.FinOn
import Lean
import PyProof.EqAt
import PyProof.EqKinds
import PyProof.TupleCall
import PyProof.CompFree
import PyProof.NeKinds
import PyProof.WalkInts
import KE.KRevSl
import KE.KEqDict
import PyProof.StrCalls2
import PyProof.LongRange
import PyProof.ListRange
import PyProof.StrLawsJoin
import PyProof.FitsReplace
import PyProof.WalksEnum
import PyProof.EnumMake
import PyProof.ZipIter
import PyProof.LayNew
import KE.KNestM
import KE.KLam
import PyProof.OldK
import KE.KSortKey
import PyProof.Rows.CallKwBuiltin
import PyProof.Rows.CallKw2
import KE.KSortTup
import KE.KItemsList
import PyProof.Rows.SortStr
import PyProof.Rows.MinMaxN
import PyProof.Rows.Own
import PyProof.ExcBaseAll.ValueError
import PyProof.RaisesMany
import PyProof.ExcArgsOwn
import KE.KDictLaws
import PyProof.DictWalks
import PyProof.Rows.RuleN_abs
import PyProof.AutoListH
import KE.LcSums
import PyProof.DictCopy
import PyProof.DictValues
import KE.KDictSum
import PyProof.StrWalks
import PyProof.AttrMissHeap
import PyProof.Rows.SetFrom
import KE.KDictOf
import PyProof.AutoSeq1
import PySem.Challenge.RW_wayhold_k14_runs_told
set_option maxHeartbeats 4000000
set_option maxRecDepth 100000
set_option Elab.async false
set_option linter.all false
abbrev fL:=PySem.W.Frag
abbrev fM:=List (PySem.Addr×PySem.Obj)
abbrev fN:=PySem.Value->PySem.Shared->Prop
abbrev fO:=PySem.Str->Option PySem.Value
abbrev fP:=List PySem.Addr
abbrev fQ:=List PySem.Value
abbrev fR:=Option PySem.Addr
abbrev fS:=Array PySem.Value
abbrev fT:=List PySem.Str
abbrev fU:=List PySem.Expr
abbrev fV:=List Int
def aa:=@List.getElem?_eq_getElem
def ae:=@PySem.wpAny_bind
def af:=@Eq.trans
def ag:=@PySem.Heap.get?_push_of_some
def ah:=@List.mem_cons
def ai:=@List.getElem?_eq_some_iff
def aj:=@Nat.le_refl
def ak:=@List.length_map
def ao:=@List.length_cons
def aq:=@List.getElem?_map
def ar:=@List.length_append
def au:=@PySem.Heap.lt_size
def av:=@List.size_toArray
def ax:=@PySem.wpAny_pure
def ay:=@List.getElem?_set_ne
def az:=@Nat.lt_of_lt_of_le
def a7:=@PySem.Heap.get?_push_size
def a9:=@List.map_cons
def aA:=@List.getElem?_set_self
def aB:=@List.getElem?_append_left
def aC:=@Option.bind_some
def aD:=@List.mem_cons_of_mem
def aE:=@List.not_mem_nil
def aF:=@List.getElem?_cons_zero
def aG:=@if_neg
def aH:=@if_pos
def aI:=@Nat.ne_of_lt
def aJ:=@List.getElem?_append_right
def aK:=@decide_eq_false
def aL:=@Option.join_some
def aM:=@List.mem_of_getElem?
def aN:=@List.mem_cons_self
def aO:=@List.getElem?_cons_succ
def aP:=@if_true
def aQ:=@List.append_nil
def aR:=@List.length_nil
def aS:=@List.length_set
def aT:=@PySem.Heap.get?_update_other
def aU:=@PySem.mem_of_lookup
def aW:=@Nat.le_trans
def aX:=@decide_eq_true
def aY:=@List.length_singleton
def aZ:=@List.mem_map
def ba:=@List.mem_append_right
def bc:=@Ne.symm
def bf:=@Option.map_eq_some_iff
def bg:=@List.cons_append
def bh:=@PySem.wpAny_mono
def bj:=@PySem.wpAny_holding
def bo:=@PySem.Calls.callWith_builtin
def bq:=@PySem.W.mg_of
def bu:=@PySem.W.kia_one
def bw:=@List.find?_cons
def bx:=@Option.map_some
def bz:=@List.map_append
def b8:=@Nat.zero_add
def b9:=@Bool.and_eq_true
def bA:=@List.all_eq_true
def bB:=@PySem.wpAny_truthy_bool
def bC:=@PySem.F.plainAttrs_dict
def bD:=@PySem.wpAny_newObj_type
def bE:=@List.getD_eq_getElem?_getD
def bF:=@PySem.wpAny_field
def bG:=@PySem.Calls.spliced_cons
def bH:=@PySem.PassesOwn.never
def bI:=@Nat.lt_irrefl
def bJ:=@beq_eq_false_iff_ne
def bK:=@Array.length_toList
def bL:=@List.length_replicate
def bM:=@PySem.F.slot_dict_get
def bN:=@List.nodup_cons
def bO:=@PySem.W.kia_tup
def bP:=@PySem.Obj.data_mapFields
def bQ:=@Bool.false_eq_true
def bR:=@List.mem_append_left
def bS:=@beq_iff_eq
def bT:=@Nat.le_add_right
def bU:=@congrArg
def bV:=@Array.getElem?_eq_some_iff
def bW:=@Nat.zero_le
def bX:=@PySem.Paired.length
def bY:=@Option.some.inj
def bZ:=@List.mem_append
def cf:=@List.map_nil
def cj:=@PySem.Heap.get?_update_self
def ck:=@PySem.Obj.isFreed_of_fields
def cn:=@Bool.false_ne_true
def cq:=@PySem.wpAny_Call_Name_kw
def cu:=@PySem.tupleKind_room_in1
def cv:=@if_false
def cw:=@PySem.Calls.evalArgs_plain
def cy:=@PySem.call_meetsIn
def cz:=@PySem.F.entry_dict_get
def c7:=@List.length_take
def c8:=@beq_self_eq_true
def c9:=@Nat.le_of_lt
def cA:=@or_false
def cB:=@List.append_eq
def cC:=@PySem.wpAny_passesOwn
def cD:=@PySem.Calls.spliced_nil
def cE:=@Option.isSome_iff_exists
def cF:=@PyProof.Rows.slot_tuple_getitem
def cG:=@List.append_assoc
def cH:=@List.nil_append
def cI:=@Nat.ne_of_gt
def cJ:=@List.filterMap_cons
def cK:=@List.getElem?_replicate
def cM:=@PySem.wpAny_callSpecial?_slot
def cN:=@List.replicate_succ
def cO:=@PySem.F.plainAttrs_list
def cP:=@Nat.add_sub_cancel_left
def cQ:=@Nat.lt_succ_self
def cR:=@List.getElem_mem
def cS:=@PySem.W.callWith_K
def cT:=@List.mem_singleton
def cU:=@Int.emod_lt_of_pos
def cV:=@List.mem_filter
def cW:=@PyProof.Rows.callWith_type1
def cX:=@List.cons.injEq
def cY:=@Int.toNat_natCast
def cZ:=@not_not_intro
def dg:=@List.drop_eq_getElem_cons
def dh:=@List.lookup_cons
def di:=@Array.toList_append
def dm:=@Nat.lt_trans
def dq:=@PySem.F.slot_list_append
def dr:=@PySem.F.type_list_append
def du:=@List.mem_filterMap
def dw:=@PySem.F.args_dict_get_3
def d8:=@Int.eq_ofNat_of_zero_le
def d9:=@Int.emod_nonneg
def dA:=@List.find?_eq_none
def dB:=@PySem.W.cellsFrom_some
def dC:=@PySem.W.kitx_list
def dD:=@PySem.W.kitx_dict
def dE:=@PySem.wpAny_Call_method
def dF:=@List.flatten_cons
def dG:=@Option.some.injEq
def dH:=@PySem.wpAny_loadPart_at
def dI:=@PySem.wpAny_setField
def dJ:=@PySem.codeAny_mono
def dM:=@PySem.W.methodCall_KW
def dN:=@PySem.F.slot_dict_pop
def dO:=@List.getElem?_eq_none
def dP:=@List.filter_cons
def dQ:=@List.length_drop
def dR:=@PySem.wpAny_call_entry
def dS:=@Nat.le_of_not_lt
def dU:=@List.eq_nil_of_length_eq_zero
def dW:=@List.any_eq_true
def dX:=@PySem.Heap.get?_none_of_le
def dY:=@PySem.W.looks_findIn
def dZ:=@Bool.and_eq_true_iff
def eh:=@PySem.wpAny_standAt
def eA:=@Bool.not_true
def eB:=@PySem.wpAny_attempt
def eD:=@and_self
def eE:=@PySem.F.slot_dict_setdefault
def eG:=@PySem.wpAny_execs_nil
def eI:=@PySem.sizeLine_eq
def eJ:=@PySem.W.plainGet_of
def eK:=@PySem.W.callWith_K0
def eL:=@Nat.le_succ
def eM:=@List.of_mem_zip
def eO:=@PySem.evalArgs_none
def eP:=@List.getElem?_range
def eQ:=@Prod.mk.inj
def eS:=@PySem.F.excBase_ValueError
def eT:=@PySem.F.excAttr_ValueError
def eU:=@Nat.lt_of_le_of_lt
def eV:=@PySem.wpAny_setField_rec
def eW:=@decide_eq_true_iff
def eX:=@List.mem_range
def eY:=@PySem.F.slot_dict_getitem
def eZ:=@List.drop_zero
def ff:=@PySem.wpAny_seqItems
def fg:=@List.getElem?_eq_none_iff
def fj:=@List.mem_of_find?_eq_some
def fm:=@PySem.wpAny_pyIter_list
def fq:=@PySem.wpAny_call
def ft:=@List.getElem?_take_of_lt
def fu:=@Option.isSome_map
def fw:=@PySem.F.args_tuple_add_2
def fy:=@of_decide_eq_true
def f7:=@List.nodup_append
def f9:=@List.getElem?_inj
def fA:=@List.map_inj_left
def fB:=@PySem.Obj.cls_mapFields
def fC:=@PySem.F.slot_dict_values
def fD:=@Nat.le_succ_of_le
def fE:=@Bool.or_eq_true
def fF:=@List.any_cons
def fG:=@Prod.mk.injEq
def fH:=@true_and
def fI:=@not_or
abbrev fW:List PySem.Str:=["self","run"]
abbrev fX:List PySem.Str:=["_law_script","_law_at","_law_many"]
abbrev fY:List PySem.Str:=["_law_state","_law_deed","_law_spots","_law_courses","_law_heard","_law_trips","_law_bonds","_law_rooms"]
abbrev fZ:List PySem.Str:=["_law_script","_law_k","_law_run","_law_book","_law_state","_law_names_here","_law_e","_law_sites","_law_leaves","_law_comes","_law_seats","_law_deed","_law_word","_law_due","_law_ride"]
abbrev f':List PySem.Str:=["_law_state","_law_deed"]
abbrev g8:List PySem.Str:=["self","which"]
abbrev g9:List PySem.Str:=["_law_book","_law_deed"]
abbrev gA:List PySem.Str:=["_law_script","_law_at","_law_many","_law_d","_law_names_here","_law_book","_law_state","_law_k","_law_deed","_law_e","_law_start","_law_goal","_law_leaves"]
abbrev gB:List PySem.Str:=["_law_found","_law_due"]
abbrev gC:List PySem.Str:=["self","start","goal","leaves","comes","seats"]
abbrev gE:List PySem.Str:=["self","deed","changes"]
abbrev gF:List PySem.Str:=["self","run","reports"]
abbrev gG:List PySem.Str:=["self","run","reports","ride","start","goal","leaves","comes","seats","stamp","word","many"]
abbrev gH:List PySem.Str:=["self","name","ahead","span"]
abbrev gI:List PySem.Str:=["self","run","stamp"]
abbrev gJ:List PySem.Str:=["_law_d","_law_many","_law_letters","_law_names_here","_law_k","_law_own","_law_rest"]
abbrev gK:List PySem.Str:=["self","which","key","row"]
abbrev gL:List PySem.Str:=["_law_script","_law_at","_law_many","_law_cell","_law_seed","_law_row","_law_mark"]
abbrev gM:List PySem.Str:=["_law_book","_law_run"]
abbrev gO:List PySem.Str:=["_law_d","_law_many"]
abbrev gP:List PySem.Str:=["self","start","goal","leaves","comes","seats","number","told"]
abbrev gQ:List PySem.Str:=["self","name"]
abbrev gR:List PySem.Str:=["stamp","word","many"]
local macro_rules|`(tactic|trivial)=>`(tactic|first|exact Or.inl rfl|exact Or.inr rfl)
local macro_rules|`(tactic|contradiction)=>`(tactic|(intro x hx;(repeat (first|(rcases ah.mp hx with h|hx;· (subst h;first|exact⟨rfl,rfl,rfl⟩|rfl))|exact absurd hx (aE)));done))
namespace L2
open PySem PySem.Spec PyProof.Rows
variable{H H':Hp}{C a dx it:Addr}{u:Value}{P prog:Program}{w:World}{base h h':Heap}{g':Array GenState}{t':Nat}{d':Drawn}{ch fp:fP}{N ps:fT}{M:Model}{A:Around}{E Q:fN}{v:V}{X:Cx}{e l tg:Expr}{s:Shared}{pos:Pos}{pins:fM}{K:fL}{tc:TT}{es:fU}{te tl:TE}{g:TG}{body:List Stmt}{tb:TS}{pl:Sem Bool}{f:Value->Value->Sem Value}{op op':CmpOp}{r':R2}{xs:List (List Key×Addr×Value)}{us:fQ}{mA mg:fO}{kw:List (Str×Value)}{env:Env}{CX:CXT}{fd:FuncData}{sp:Sp}{outer:List Env}{qual:Str}{scope:Scope}{kvs:List (List Key×V)}
abbrev Key:=Sum Int Str
def ZO:Key->Value->Bool
 |.inl k,v=>Value.isInt k v
 |.inr x,v=>Value.isStrOf x v
def keyH(w:World):Key->Int
 |.inl k=>hashInt k
 |.inr x=>hashStr w x
theorem zf:∀{k:Key}{v:Value},ZO k v=true->(∃i t,k=Sum.inl i/\v=Value.int i t)\/(∃x t,k=Sum.inr x/\v=Value.str x t)
 |.inl i,v,h=>by
  obtain⟨t,e⟩:=Value.isInt_shape (k:=i) (v:=v) h;exact .inl ⟨i,t,rfl,e⟩
 |.inr x,v,h=>by
  obtain⟨t,e⟩:=Value.isStrOf_shape (x:=x) (v:=v) h;exact .inr ⟨x,t,rfl,e⟩
theorem XO(i:Int)(t:Tok):ZO (.inl i) (.int i t)=true:=by simp[ZO,Value.isInt]
theorem XN(x:Str)(t:Tok):ZO (.inr x) (.str x t)=true:=by simp[ZO,Value.isStrOf]
theorem qed(a b:Int):decide ((Sum.inl a:Key)=Sum.inl b)=(a == b):=by
 by_cases e:a=b
 ·subst e;simp
 ·have h:¬ (Sum.inl a:Key)=Sum.inl b:=fun q=>e (Sum.inl.inj q)
  rw[aK h];exact(bJ.mpr e).symm
theorem qea(a b:Str):decide ((Sum.inr a:Key)=Sum.inr b)=decide (a=b):=by
 by_cases e:a=b
 ·subst e;simp
 ·have h:¬ (Sum.inr a:Key)=Sum.inr b:=fun q=>e (Sum.inr.inj q)
  rw[aK h,aK e]
theorem qec(a:Int)(b:Str):decide ((Sum.inl a:Key)=Sum.inr b)=false:=aK (fun q=>nomatch q)
theorem qeb(a:Str)(b:Int):decide ((Sum.inr a:Key)=Sum.inl b)=false:=aK (fun q=>nomatch q)
def qF(prog:Program)(w:World):PySem.KeyKind prog w Key where
 is:=ZO
 hash:=keyH w
 inj:=fun v a b ha hb=>by
  rcases zf ha with⟨i,t,rfl,rfl⟩|⟨x,t,rfl,rfl⟩
  ·rcases zf hb with⟨j,u,rfl,e⟩|⟨y,u,rfl,e⟩
   ·injection e with e1 _;rw[e1]
   ·exact nomatch e
  ·rcases zf hb with⟨j,u,rfl,e⟩|⟨y,u,rfl,e⟩
   ·exact nomatch e
   ·injection e with e1 _;rw[e1]
 byValue:=fun k v h=>by
  rcases zf h with⟨i,t,rfl,rfl⟩|⟨x,t,rfl,rfl⟩ <;> rfl
 pyHash:=fun hv h=>by
  rcases zf hv with⟨i,t,rfl,rfl⟩|⟨x,t,rfl,rfl⟩
  ·exact wpAny_pyHash_int h
  ·exact wpAny_pyHash_str h
 eqBool:=fun hu hv h=>by
  rcases zf hu with⟨i,t,rfl,rfl⟩|⟨x,t,rfl,rfl⟩
  ·rcases zf hv with⟨j,u,rfl,rfl⟩|⟨y,u,rfl,rfl⟩
   ·rw[qed]at h;exact wpAny_eqBool_int h
   ·rw[qec]at h;exact SeqAt.EqAt.int_str i t y u _ _ _ _ h
  ·rcases zf hv with⟨j,u,rfl,rfl⟩|⟨y,u,rfl,rfl⟩
   ·rw[qeb]at h;exact SeqAt.EqAt.str_int x t j u _ _ _ _ h
   ·rw[qea]at h;exact wpAny_eqBool_str h
 «strs»:=fun k x t v h=>by
  rcases zf h with⟨i,u,rfl,e⟩|⟨y,u,rfl,e⟩
  ·exact nomatch e
  ·injection e with e1 _
   subst e1;cases v <;> rfl
theorem Jy(prog:Program)(w:World)(i:Int)(t:Tok):(qF prog w).is (.inl i) (.int i t)=true:=XO i t
theorem Jx(prog:Program)(w:World)(x:Str)(t:Tok):(qF prog w).is (.inr x) (.str x t)=true:=XN x t
inductive V where
 |non|bl (b:Bool)|int (i:Int)|str (x:Str)|byt (b:Array UInt8)|flt (b:UInt64)|ref (a:Addr)|ty (n:String)
 deriving DecidableEq
def RelV:V->Value->Prop
 |.non,u=>u=Value.none
 |.bl b,u=>u=Value.bool b
 |.int i,u=>∃t,u=Value.int i t
 |.str x,u=>∃t,u=Value.str x t
 |.byt b,u=>∃t,u=Value.bytes b t
 |.flt b,u=>∃t,u=Value.float b t
 |.ref a,u=>u=Value.ref a
 |.ty n,u=>u=Value.type n
abbrev Vals:List V->fQ->Prop:=Paired RelV
theorem Vals.length{xs:List V}{us:fQ}(r:Vals xs us):xs.length=us.length:=bX r
theorem Vals.get:∀{xs:List V}{us:fQ}{i:Nat}{x:V},Vals xs us->xs[i]?=some x->∃u,us[i]?=some u/\RelV x u
 |_,_,_,_,.nil,e=>by simp at e
 |_,_,0,_,.cons r _,e=>by simp at e;subst e;exact⟨_,rfl,r⟩
 |_,_,i+1,x,.cons _ t,e=>by
  obtain⟨u,h1,h2⟩:=Vals.get (i:=i) (x:=x) t (by simpa using e);exact⟨u,by simpa using h1,h2⟩
theorem Vals.append:∀{xs ys:List V}{us ws:fQ},Vals xs us->Vals ys ws->Vals (xs++ys) (us++ws)
 |_,_,_,_,.nil,s=>s
 |_,_,_,_,.cons r t,s=>.cons r (Vals.append t s)
theorem Vals.take:∀{xs:List V}{us:fQ}(n:Nat),Vals xs us->Vals (xs.take n) (us.take n)
 |_,_,0,_=>.nil
 |_,_,_+1,.nil=>.nil
 |_,_,n+1,.cons r t=>.cons r (Vals.take n t)
theorem Vals.drop:∀{xs:List V}{us:fQ}(n:Nat),Vals xs us->Vals (xs.drop n) (us.drop n)
 |_,_,0,r=>r
 |_,_,_+1,.nil=>.nil
 |_,_,n+1,.cons _ t=>Vals.drop n t
def RelO:Option V->Option Value->Prop
 |some v,some u=>RelV v u
 |none,none=>True
 |_,_=>False
def KV{κ:Type}:List (κ×V)->List (κ×Value)->Prop:=Paired fun(p:κ×V)(q:κ×Value)=>p.1=q.1/\RelV p.2 q.2
def kV:Key->V
 |.inl i=>.int i
 |.inr x=>.str x
inductive HO where
 |lst (xs:List V)
 |tup (xs:List V)
 |dK (kvs:List (Key×V))|dT (kvs:List (List Key×V))
 |set (S:Int->Bool) (n:Nat)
 |ins (C dx:Addr) (fs:List (Str×V))
 |own (x:Addr)
 |xd (fs:List (Str×V))
 |met (f x:Addr)
 |rng (lo hi:Int)
 |frz (o:Obj) (u:HO)
 |tbl (ps:fS)
 |ext (φ:Heap->Prop)
abbrev Hp:=Addr->Option HO
def upd(H:Hp)(a:Addr)(o:HO):Hp:=fun b=>if b=a then some o else H b
theorem qi{o:HO}:upd H a o a=some o:=by unfold upd;rw[aH rfl]
theorem qf{b:Addr}{o:HO}(h:b≠a):upd H a o b=H b:=by unfold upd;rw[aG h]
theorem qf7{b:Addr}{o u:HO}(h:H a=some o)(h':H b=some u)(d:o≠u):a≠b:=by
 intro e;subst e;rw[h]at h';exact d (bY h')
theorem zh{b:Addr}{o:HO}(h:H a=some o)(h':H b=none):a≠b:=by
 intro e;subst e;rw[h]at h';cases h'
section
variable(P:Program)(w:World)
def ObjOk(H:Hp)(h:Heap)(a:Addr):HO->Prop
 |.lst xs=>xs.length<=sizeLine/\∃(its:fQ)(n:Nat),Vals xs its/\h.get? a=some { cls:=.type "list",data:=.seq its.toArray n }
 |.tup xs=>xs.length<=sizeLine/\∃its:fQ,Vals xs its/\IsTup h a its.toArray
 |.dK kvs=>kvs.length<=sizeLine/\(a == sysModules)=false/\∃vs,KV kvs vs/\h.DictOf (qF P w) a vs
 |.dT kvs=>kvs.length<=sizeLine/\(a == sysModules)=false/\∃xs:List (List Key×Addr×Value),
   Paired (fun(p:List Key×V)(q:List Key×Addr×Value)=>p.1=q.1/\H q.2.1=some (.tup (p.1.map kV))/\RelV p.2 q.2.2) kvs xs/\
   ∃o es ep,h.get? a=some o/\o.ExactDict/\o.data=.dict es ep/\es.toList=xs.map (entryOfKey (tupleKind (qF P w)))/\(xs.map (·.1)).Nodup
 |.set S n=>h.SetOf (intKind P w) a S n
 |.ins C dx fs=>H dx=some (.own a)/\fs.length<=1000/\dx≠a/\h.get? a=some (PySem.W.instObj C dx)/\
   ∃mA,h.Ns1 dx mA/\(∀f,RelO (fs.lookup f) (mA f))/\PySem.Within mA (fs.map (·.1))
 |.own _=>∃o,h.get? a=some o
 |.xd fs=>∃mA,h.Ns1 a mA/\∀f,RelO (fs.lookup f) (mA f)
 |.rng lo hi=>∃t u v,h.get? a=some { cls:=.type "range",data:=.fields #[.int lo t,.int hi u,.int 1 v] }
 |.frz o u=>h.get? a=some o/\ObjOk H h a u
 |.tbl ps=>h.get? a=some { cls:=.none,data:=.fields ps }
 |.met f x=>h.get? a=some (PySem.W.methodObj (.ref f) (.ref x))
 |.ext φ=>φ h/\(∃o,h.get? a=some o)/\∀h1 h2:Heap,φ h1->(∀o,h1.get? a=some o->h2.get? a=some o)->φ h2
def HOk(H:Hp)(h:Heap):Prop:=∀a o,H a=some o->ObjOk P w H h a o
end
section
variable{P:Program}{w:World}{H H':Hp}{h h':Heap}{a:Addr}{o:HO}
theorem ObjOk.lt(x:ObjOk P w H h a o):a<h.objs.size:=by
 cases o with
 |lst xs=>obtain⟨_,_,_,_,e⟩:=x;exact au e
 |tup xs=>obtain⟨_,_,_,p⟩:=x;exact p.lt
 |dK kvs=>obtain⟨_,_,_,_,o,_,_,e,_⟩:=x;exact au e
 |dT kvs=>obtain⟨_,_,_,_,o,_,_,e,_⟩:=x;exact au e
 |set S n=>obtain⟨o,_,_,_,e,_⟩:=x;exact au e
 |ins C dx fs=>obtain⟨_,_,_,e,_⟩:=x;exact au e
 |own y=>obtain⟨_,e⟩:=x;exact au e
 |xd fs=>obtain⟨_,⟨_,_,_,e,_⟩,_⟩:=x;exact au e
 |rng lo hi=>obtain⟨_,_,_,e⟩:=x;exact au e
 |frz ob u=>obtain⟨e,_⟩:=x;exact au e
 |tbl ps=>exact au (show h.get? a=some _ from x)
 |met f y=>exact au (show h.get? a=some _ from x)
 |ext φ=>obtain⟨_,⟨_,e⟩,_⟩:=x;exact au e
theorem Paired.mapP{α β:Type}{F G:α->β->Prop}:∀{l₁:List α}{l₂:List β},Paired F l₁ l₂->(∀a b,F a b->G a b)->Paired G l₁ l₂
 |_,_,.nil,_=>.nil
 |_,_,.cons r t,f=>.cons (f _ _ r) (Paired.mapP t f)
theorem ObjOk.stay(x:ObjOk P w H h a o)(k:∀b u,(b=a\/H b=some (.own a))->h.get? b=some u->h'.get? b=some u)
  (ho:∀b,H b=some (.own a)->H' b=some (.own a))(ht:∀b xs,H b=some (.tup xs)->H' b=some (.tup xs)):ObjOk P w H' h' a o:=by
 induction o with
 |lst xs=>obtain⟨z,its,n,r,e⟩:=x;exact⟨z,its,n,r,k _ _ (.inl rfl) e⟩
 |tup xs=>obtain⟨z,its,r,ob,e,c⟩:=x;exact⟨z,its,r,ob,k _ _ (.inl rfl) e,c⟩
 |dK kvs=>obtain⟨z,y,vs,r,ob,es,ep,e,c⟩:=x;exact⟨z,y,vs,r,ob,es,ep,k _ _ (.inl rfl) e,c⟩
 |dT kvs=>
  obtain⟨z,y,xs,r,ob,es,ep,e,c⟩:=x;exact⟨z,y,xs,Paired.mapP r fun p q z=>⟨z.1,ht _ _ z.2.1,z.2.2⟩,ob,es,ep,k _ _ (.inl rfl) e,c⟩
 |set S n=>obtain⟨ob,es,ep,t,e,c⟩:=x;exact⟨ob,es,ep,t,k _ _ (.inl rfl) e,c⟩
 |ins C dx fs=>
  obtain⟨d,z,ne,e,mA,⟨od,es,ep,e2,c⟩,r⟩:=x;exact⟨ho _ d,z,ne,k _ _ (.inl rfl) e,mA,⟨od,es,ep,k _ _ (.inr d) e2,c⟩,r⟩
 |own y=>obtain⟨ob,e⟩:=x;exact⟨ob,k _ _ (.inl rfl) e⟩
 |xd fs=>obtain⟨mA,⟨od,es,ep,e,c⟩,r⟩:=x;exact⟨mA,⟨od,es,ep,k _ _ (.inl rfl) e,c⟩,r⟩
 |rng lo hi=>obtain⟨t,u,v,e⟩:=x;exact⟨t,u,v,k _ _ (.inl rfl) e⟩
 |frz ob u ih=>obtain⟨e,q⟩:=x;exact⟨k _ _ (.inl rfl) e,ih q⟩
 |tbl ps=>
  have e:h.get? a=some { cls:=.none,data:=.fields ps }:=x;show h'.get? a=some { cls:=.none,data:=.fields ps };exact k a _ (.inl rfl) e
 |met f y=>
  have e:h.get? a=some (PySem.W.methodObj (.ref f) (.ref y)):=x;show h'.get? a=some (PySem.W.methodObj (.ref f) (.ref y));exact k a _ (.inl rfl) e
 |ext φ=>obtain⟨p,⟨o,e⟩,st⟩:=x;exact⟨st _ _ p fun o q=>k _ _ (.inl rfl) q,⟨o,k _ _ (.inl rfl) e⟩,st⟩
theorem HOk.lt(x:HOk P w H h)(e:H a=some o):a<h.objs.size:=(x a o e).lt
theorem HOk.fresh(x:HOk P w H h)(e:h.objs.size<=a):H a=none:=by
 cases q:H a with
 |none=>rfl
 |some u=>exact absurd (az (x.lt q) e) (bI _)
theorem HOk.kept(x:HOk P w H h)(k:∀b u,h.get? b=some u->h'.get? b=some u):HOk P w H h':=fun a o e=>
 (x a o e).stay (fun b u _ q=>k b u q) (fun _ q=>q) fun _ _ q=>q
theorem HOk.laid(x:HOk P w H h)(k:∀b u,h.get? b=some u->h'.get? b=some u)(hp:h.objs.size<=a)(new:ObjOk P w (upd H a o) h' a o):HOk P w (upd H a o) h':=fun b u e=>by
 have hn:=x.fresh hp
 by_cases hb:b=a
 ·subst hb;rw[qi]at e;cases e;exact new
 ·rw[qf hb]at e
  exact(x b u e).stay (fun c v _ q=>k c v q) (fun c q=>by rw[qf (zh q hn)];exact q) fun c xs q=>by rw[qf (zh q hn)];exact q
end
def Rd(H:Hp)(a:Addr)(u:HO):Prop:=H a=some u\/∃o,H a=some (.frz o u)
theorem Rd.ok{u:HO}(r:Rd H a u)(x:HOk P w H h):ObjOk P w H h a u:=by
 rcases r with r|⟨o,r⟩
 ·exact x a u r
 ·obtain⟨_,q⟩:=x a _ r
  exact q
def Mut:Option HO->Prop
 |some (.lst _)=>True
 |some (.dK _)=>True
 |some (.dT _)=>True
 |some (.set _ _)=>True
 |some (.ins _ _ _)=>True
 |some (.ext _)=>True
 |_=>False
section
variable{P:Program}{w:World}{H:Hp}{h h':Heap}{x e:Addr}{o':HO}
theorem HOk.write(ok:HOk P w H h)(mu:Mut (H x))(he:e=x\/H e=some (.own x))(k:∀b u,b≠e->h.get? b=some u->h'.get? b=some u)(heo:∃u,h'.get? e=some u)
  (new:ObjOk P w (upd H x o') h' x o'):HOk P w (upd H x o') h':=fun b u q=>by
 have nown:∀c y,H c=some (.own y)->c≠x:=fun c y r z=>by subst z;rw[r]at mu;exact mu
 have ntup:∀c xs,H c=some (.tup xs)->c≠x:=fun c xs r z=>by subst z;rw[r]at mu;exact mu
 by_cases hb:b=x
 ·subst hb;rw[qi]at q;cases q;exact new
 ·rw[qf hb]at q
  by_cases hbe:b=e
  ·have q':H b=some (.own x):=by
    rcases he with z|z
    ·exact absurd (hbe.trans z) hb
    ·rw[hbe];exact z
   rw[q]at q';cases q';obtain⟨v,hv⟩:=heo;exact⟨v,by rw[hbe];exact hv⟩
  ·refine(ok b u q).stay (fun c v hc r=>k c v ?_ r) (fun c r=>by rw[qf (nown c b r)];exact r) fun c xs r=>by rw[qf (ntup c xs r)];exact r
   rcases hc with rfl|hc
   ·exact hbe
   ·rintro rfl
    rcases he with z|z
    ·exact nown c b hc z
    ·rw[hc]at z;cases z;exact hb rfl
end
structure Un(fs ex:fP)(H H':Hp)(h h':Heap):Prop where
 keep:∀b o,h.get? b=some o->H b=none->b∉fs->b∉ex->h'.get? b=some o
 slot:∀b o,h.get? b=some o->H b=none->b∈fs->b∉ex->∃sl,h'.get? b=some { o with slots:=sl }
 free:∀b o,h.get? b=some o->H b=none->b∉ex->H' b=none
 there:∀b o,h.get? b=some o->b∉ex->∃o',h'.get? b=some o'
 tups:∀b xs,H b=some (.tup xs)->H' b=some (.tup xs)
 frzs:∀b o u,H b=some (.frz o u)->H' b=some (.frz o u)
 tbls:∀b ps,H b=some (.tbl ps)->∃more,H' b=some (.tbl (ps++more))
section
variable{fs fs' ex ex':fP}{H H1 H2:Hp}{h h1 h2 h':Heap}{a x e:Addr}{o:HO}
theorem Un.any(u:Un fs ex H H1 h h1){b:Addr}{ob:Obj}(q:h.get? b=some ob)(n:H b=none)(hx:b∉ex):∃sl,h1.get? b=some { ob with slots:=sl }:=by
 by_cases hb:b∈fs
 ·exact u.slot b ob q n hb hx
 ·exact⟨ob.slots,u.keep b ob q n hb hx⟩
theorem Un.kept(k:∀b u,h.get? b=some u->h'.get? b=some u):Un fs ex H H h h':=
 ⟨fun b ob q _ _ _=>k b ob q,fun b ob q _ _ _=>⟨ob.slots,k b ob q⟩,fun _ _ _ n _=>n,fun b ob q _=>⟨ob,k b ob q⟩,fun _ _ q=>q,fun _ _ _ q=>q,fun _ ps q=>⟨#[],by rw[q];simp⟩⟩
theorem Un.refl:Un fs ex H H h h:=Un.kept fun _ _ q=>q
theorem Un.laid(k:∀b u,h.get? b=some u->h'.get? b=some u)(hp:h.objs.size<=a)(hn:H a=none):Un fs ex H (upd H a o) h h' where
 keep:=fun b u q _ _ _=>k b u q
 slot:=fun b u q _ _ _=>⟨u.slots,k b u q⟩
 free:=fun b u q n _=>by rw[qf (aI (az (au q) hp))];exact n
 there:=fun b u q _=>⟨u,k b u q⟩
 tups:=fun b xs q=>by rw[qf (zh q hn)];exact q
 frzs:=fun b u xs q=>by rw[qf (zh q hn)];exact q
 tbls:=fun b ps q=>⟨#[],by rw[qf (zh q hn),q];simp⟩
theorem Un.write(mu:Mut (H x))(he:e=x\/H e=some (.own x))(k:∀b u,b≠e->h.get? b=some u->h'.get? b=some u)(heo:∃u,h'.get? e=some u):Un fs ex H (upd H x o) h h':=by
 have hx:∀b,H b=none->b≠x:=fun b n z=>by subst z;rw[n]at mu;exact mu
 have hb:∀b,H b=none->b≠e:=fun b n z=>by
  subst z;rcases he with r|r
  ·exact hx b n r
  ·rw[n]at r;cases r
 have hm:∀b u,H b=some u->¬ Mut (some u)->b≠x:=fun b u q nm z=>by subst z;rw[q]at mu;exact nm mu
 refine⟨fun b u q n _ _=>k b u (hb b n) q,fun b u q n _ _=>⟨u.slots,k b u (hb b n) q⟩,fun b u q n _=>by rw[qf (hx b n)];exact n,fun b u q _=>?_,
  fun b xs q=>by rw[qf (hm b _ q fun z=>z)];exact q,fun b u xs q=>by rw[qf (hm b _ q fun z=>z)];exact q,fun b ps q=>⟨#[],by rw[qf (hm b _ q fun z=>z),q];simp⟩⟩
 by_cases hbe:b=e
 ·subst hbe;exact heo
 ·exact⟨u,k b u hbe q⟩
end
def trk(h:Heap)(H:Hp):fP:=(List.range h.objs.size).filter fun a=>(H a).isSome
def hidT(h:Heap)(H:Hp):Heap:=PySem.W.hideAll h (trk h H)
theorem X1(h:Heap)(H:Hp):(hidT h H).objs.size=h.objs.size:=PySem.W.hideAll_size _ _
theorem YX{b:Addr}{o:Obj}(e:h.get? b=some o)(n:H b=none):(hidT h H).get? b=some o:=
 PySem.W.hideAll_get _ e fun hm=>by
  have q:(H b).isSome=true:=(cV.mp hm).2;rw[n]at q;simp at q
theorem qa6{b:Addr}{o:Obj}(e:(hidT h H).get? b=some o):h.get? b=some o/\H b=none:=by
 have e':h.get? b=some o:=PySem.W.of_hideAll (trk h H) e;refine⟨e',?_⟩;cases q:H b with
 |none=>rfl
 |some x=>
  have hm:b∈trk h H:=cV.mpr ⟨eX.mpr (au e'),by simp[q]⟩;have z:(hidT h H).get? b=none:=PySem.W.hideAll_none (trk h H) hm;rw[z]at e;cases e
def qch(g h:Heap)(L:Addr):fM:=(List.range h.objs.size).filterMap fun a=>if a=L\/(g.get? a).isSome=true then none else(h.get? a).map fun o=>(a,o)
def rest(g h:Heap)(L d:Addr):fM:=(qch g h L).filter fun p=>decide (p.1≠d)
structure Mod(K:fL)(mg:fO)(base:Heap):Prop where
 kin:K.In base
 glob:base.Ns mainGlobals mg
 blt:∃mb,base.Ns builtinsNs mb/\∀x:Str,x≠"__name__"->mb x=bootBuiltins x
 nolimit:base.NoLimit
structure Cx where
 prog:Program
 w:World
 K:fL
 mg:fO
 base:Heap
 A:Around
 N:fT
 s₀:Shared
 H₀:Hp
 env:Env
 outer:List Env
 stack:List Env
 ex:fP
 fn:Str->Bool
 calm:Bool
 pn:fM
 xe:fN
def frs(l:List Env):fP:=l.filterMap (·.frame)
abbrev Cx.fs(X:Cx):fP:=frs X.outer
def Vis(sc:Scope)(x:Str):Prop:=sc.names.lookup x=some .local\/sc.names.lookup x=some .cell\/sc.names.lookup x=some .free
def Loc(sc:Scope)(x:Str):Prop:=sc.names.lookup x=some .local\/sc.names.lookup x=some .cell
def Look(env:Env)(h:Heap)(m:fO)(x:Str)(u:Value):Prop:=
 (env.kindOf x=some .local/\m x=some u)\/((env.kindOf x=some .cell\/env.kindOf x=some .free)/\∃c,env.cells.lookup x=some c/\h.IsCell c (some u))
structure Cx.Ok(X:Cx):Prop where
 mod:Mod X.K X.mg X.base
 kind:X.env.scope.kind=.function
 glob:X.env.globals=mainGlobals
 blt:X.env.builtins=builtinsNs
 above:X.s₀.heap.objs.size<=X.env.locals
 inj:∀x y c,X.env.cells.lookup x=some c->X.env.cells.lookup y=some c->x=y
 has:∀x,(X.env.kindOf x=some .cell\/X.env.kindOf x=some .free)->∃c,X.env.cells.lookup x=some c
 cab:∀x c,X.fn x=true->X.env.cells.lookup x=some c->X.s₀.heap.objs.size<=c
 hd:X.calm=true->X.A.handled=none
 frames:X.A.frames=some X.stack
 stk:X.stack=X.outer\/(X.stack=X.env::X.outer/\X.env.frame=some X.env.locals)
 exf:∀b∈X.ex,b≠X.env.locals/\∀x c,X.env.cells.lookup x=some c->c≠b
 bs:∀b o,X.base.get? b=some o->X.s₀.heap.get? b=some o/\X.H₀ b=none
 bsz:X.base.objs.size<=X.s₀.heap.objs.size
 noex:∀b o,X.base.get? b=some o->b∉X.ex
 exfs:∀b∈X.ex,b∉X.fs
 funs:X.s₀.heap.FunFrames X.base X.outer
 frf:∀b∈X.fs,X.H₀ b=none
structure Inv(X:Cx)(pins:fM)(σ:List (Option V))(H:Hp)(s:Shared):Prop where
 ok:X.Ok
 os:s.os=X.s₀.os
 bare:AllBare s.gens
 base:Un X.fs X.ex X.H₀ H X.s₀.heap s.heap
 loc:∃m,s.heap.Ns X.env.locals m/\∀(i:Nat)(x:Str)(v:V),X.N[i]?=some x->σ[i]?=some (some v)->Vis X.env.scope x->∃u,RelV v u/\Look X.env s.heap m x u
 cell:∀x c,X.env.cells.lookup x=some c->∃v,s.heap.IsCell c v
 free:H X.env.locals=none
 freeC:∀x c,X.env.cells.lookup x=some c->H c=none
 pin:∀p∈X.pn++pins,s.heap.get? p.1=some p.2/\H p.1=none/\p.1≠X.env.locals/\p.1∉X.fs/\∀v,p.2.data≠.cell v
 hok:HOk X.prog X.w H s.heap
 len:σ.length=X.N.length
section
variable{X:Cx}{pins:fM}{σ:List (Option V)}{H H':Hp}{s:Shared}{h':Heap}
theorem Cx.Ok.nofr(ok:X.Ok){b:Addr}{o:Obj}(e:X.base.get? b=some o):b∉X.fs:=fun hb=>by
 have:=(ok.funs.mem hb).1;rw[e]at this;cases this
theorem Inv.bs(I:Inv X pins σ H s):∀b o,X.base.get? b=some o->s.heap.get? b=some o/\H b=none:=fun b o e=>
 ⟨I.base.keep b o (I.ok.bs b o e).1 (I.ok.bs b o e).2 (I.ok.nofr e) (I.ok.noex b o e),I.base.free b o (I.ok.bs b o e).1 (I.ok.bs b o e).2 (I.ok.noex b o e)⟩
theorem Inv.bk(I:Inv X pins σ H s):∀b o,X.base.get? b=some o->s.heap.get? b=some o:=fun b o e=>(I.bs b o e).1
theorem Inv.mod(I:Inv X pins σ H s):Mod X.K X.mg X.base:=I.ok.mod
theorem Inv.kIn(I:Inv X pins σ H s):X.K.In s.heap:=I.ok.mod.kin.keeps I.bk
theorem Inv.lt(I:Inv X pins σ H s):X.env.locals<s.heap.objs.size:=let⟨_,hn,_⟩:=I.loc;hn.lt
theorem Inv.sz(I:Inv X pins σ H s):X.s₀.heap.objs.size<=s.heap.objs.size:=aW I.ok.above (c9 I.lt)
theorem Inv.nofs(I:Inv X pins σ H s)(h:s.heap.objs.size<=a):a∉X.fs:=fun hb=>by
 obtain⟨_,o,ho,_⟩:=I.ok.funs.mem hb;exact absurd (az (au ho) (aW I.sz h)) (bI _)
theorem Inv.cne(I:Inv X pins σ H s):∀x c,X.env.cells.lookup x=some c->c≠X.env.locals:=fun x c e z=>by
 obtain⟨v,o,ho,hd⟩:=I.cell x c e;obtain⟨m,⟨o',es,ep,ho',hd',_⟩,_⟩:=I.loc;rw[z,ho']at ho;cases ho;rw[hd']at hd;cases hd
theorem Inv.funs(I:Inv X pins σ H s):s.heap.FunFrames X.base X.outer:=by
 have all:∀(l:List Env),(∀b∈frs l,b∈X.fs)->X.s₀.heap.FunFrames X.base l->s.heap.FunFrames X.base l:=by
  intro l
  induction l with
  |nil=>intro _ _;trivial
  |cons env r ih=>
   intro hs hl;obtain⟨hk,⟨L,o,hf,hn,ho,hd⟩,hr⟩:=hl;have hL:L∈X.fs:=hs L (by unfold frs;rw[cJ,hf];exact aN);obtain⟨sl,e⟩:=I.base.slot L o ho (I.ok.frf L hL) hL fun z=>I.ok.exfs L z hL
   exact⟨hk,⟨L,_,hf,hn,e,hd⟩,ih (fun b hb=>hs b (by unfold frs;rw[cJ,hf];exact aD _ hb)) hr⟩
 exact all X.outer (fun _ hb=>hb) I.ok.funs
theorem Inv.stack(I:Inv X pins σ H s):s.heap.FunFrames X.base X.stack:=by
 rcases I.ok.stk with e|⟨e,hf⟩
 ·rw[e];exact I.funs
 ·rw[e]
  obtain⟨m,hn,_⟩:=I.loc;refine .cons (by rw[I.ok.kind];decide) hf hn ?_ I.funs;exact dX (aW I.ok.bsz I.ok.above)
theorem Inv.stkSub(I:Inv X pins σ H s):∀b∈frs X.stack,b∈X.env.locals::X.fs:=fun b hb=>by
 rcases I.ok.stk with e|⟨e,hf⟩
 ·rw[e]at hb;exact aD _ hb
 ·rw[e]at hb
  unfold frs at hb;rw[cJ,hf]at hb;exact hb
theorem Inv.stkFree(I:Inv X pins σ H s):∀b∈frs X.stack,H b=none:=fun b hb=>by
 rcases ah.mp (I.stkSub b hb)with e|hb
 ·rw[e];exact I.free
 ·obtain⟨_,o,ho,_⟩:=I.ok.funs.mem hb
  exact I.base.free b o ho (I.ok.frf b hb) fun z=>I.ok.exfs b z hb
theorem Inv.step(I:Inv X pins σ H s)
  (hch:∀b∈ch,(b∈X.ex\/X.s₀.heap.objs.size<=b)/\b≠X.env.locals/\(∀x c,X.env.cells.lookup x=some c->c≠b)/\∀p∈X.pn++pins,p.1≠b)
  (keep:∀b o,b≠X.env.locals->b∉X.fs->b∉ch->s.heap.get? b=some o->H b=none->h'.get? b=some o)
  (slot:∀b o,b≠X.env.locals->b∈X.fs->b∉ch->s.heap.get? b=some o->H b=none->∃sl,h'.get? b=some { o with slots:=sl })(free:∀b o,b∉ch->s.heap.get? b=some o->H b=none->H' b=none)
  (there:∀b o,b∉ch->s.heap.get? b=some o->∃o',h'.get? b=some o')
  (tups:∀b xs,H b=some (.tup xs)->H' b=some (.tup xs))(frzs:∀b o u,H b=some (.frz o u)->H' b=some (.frz o u))(tbls:∀b ps,H b=some (.tbl ps)->∃more,H' b=some (.tbl (ps++more)))
  (ns:∀m,s.heap.Ns X.env.locals m->h'.Ns X.env.locals m)(hok:HOk X.prog X.w H' h')(hg:AllBare g') :
  Inv X pins σ H' { s with heap:=h',gens:=g',drawn:=d',toks:=t' }:=by
 have neL:∀b o,X.s₀.heap.get? b=some o->b≠X.env.locals:=fun b o e=>aI (az (au e) I.ok.above)
 have neC:∀b o,X.s₀.heap.get? b=some o->b∉X.ex->b∉ch:=fun b o e hx hb=>by
  rcases(hch b hb).1 with z|z
  ·exact hx z
  ·exact absurd (az (au e) z) (bI _)
 have cellK:∀x c,X.env.cells.lookup x=some c->∀v,s.heap.IsCell c v->h'.IsCell c v:=fun x c e v⟨o,ho,hd⟩=>by
  have nch:c∉ch:=fun z=>(hch c z).2.2.1 x c e rfl
  by_cases hc:c∈X.fs
  ·obtain⟨sl,q⟩:=slot c o (I.cne x c e) hc nch ho (I.freeC x c e)
   exact⟨_,q,hd⟩
  ·exact⟨o,keep c o (I.cne x c e) hc nch ho (I.freeC x c e),hd⟩
 refine⟨I.ok,I.os,hg,⟨fun b o e n hb hx=>?_,fun b o e n hb hx=>?_,fun b o e n hx=>?_,fun b o e hx=>?_,fun b xs e=>tups b xs (I.base.tups b xs e),fun b o xs e=>frzs b o xs (I.base.frzs b o xs e),fun b ps e=>?_⟩,?_,fun x c e=>?_,?_,fun x c e=>?_,fun p hp=>?_,hok,I.len⟩
 ·exact keep b o (neL b o e) hb (neC b o e hx) (I.base.keep b o e n hb hx) (I.base.free b o e n hx)
 ·obtain⟨sl,e1⟩:=I.base.slot b o e n hb hx
  obtain⟨sl',e2⟩:=slot b _ (neL b o e) hb (neC b o e hx) e1 (I.base.free b o e n hx);exact⟨sl',e2⟩
 ·obtain⟨o',e1⟩:=I.base.there b o e hx
  exact free b o' (neC b o e hx) e1 (I.base.free b o e n hx)
 ·obtain⟨o',e1⟩:=I.base.there b o e hx
  exact there b o' (neC b o e hx) e1
 ·obtain⟨m1,e1⟩:=I.base.tbls b ps e
  obtain⟨m2,e2⟩:=tbls b _ e1;exact⟨m1++m2,by rw[e2,Array.append_assoc]⟩
 ·obtain⟨m,hn,hl⟩:=I.loc
  refine⟨m,ns m hn,fun i x v e1 e2 e3=>?_⟩;obtain⟨u,r,l⟩:=hl i x v e1 e2 e3;refine⟨u,r,?_⟩;rcases l with l|⟨k,c,e,z⟩
  ·exact .inl l
  ·exact .inr ⟨k,c,e,cellK x c e _ z⟩
 ·obtain⟨v,z⟩:=I.cell x c e
  exact⟨v,cellK x c e v z⟩
 ·obtain⟨m,⟨o,_,_,ho,_⟩,_⟩:=I.loc
  exact free _ o (fun z=>(hch _ z).2.1 rfl) ho I.free
 ·obtain⟨v,o,ho,hd⟩:=I.cell x c e
  exact free c o (fun z=>(hch c z).2.2.1 x c e rfl) ho (I.freeC x c e)
 ·obtain⟨e,n,ne,nf,d⟩:=I.pin p hp
  have nch:p.1∉ch:=fun z=>(hch p.1 z).2.2.2 p hp rfl
  exact⟨keep p.1 p.2 ne nf nch e n,free p.1 p.2 nch e n,ne,nf,d⟩
theorem Inv.un(I:Inv X pins σ H s)(u:Un X.fs [] H H' s.heap h')(hok:HOk X.prog X.w H' h'):Inv X pins σ H' { s with heap:=h',toks:=t' }:=by
 obtain⟨m,⟨o,es,ep,ho,r⟩,_⟩:=id I.loc;obtain⟨sl,hL⟩:=u.any ho I.free (by simp);exact I.step (g':=s.gens) (d':=s.drawn) (ch:=[]) (fun _ z=>nomatch z) (fun b o _ hb _ e n=>u.keep b o e n hb (by simp)) (fun b o _ hb _ e n=>u.slot b o e n hb (by simp)) (fun b o _ e n=>u.free b o e n (by simp)) (fun b o _ e=>u.there b o e (by simp)) u.tups u.frzs u.tbls (fun m' hm=>by
  obtain⟨o',es',ep',ho',r'⟩:=hm;rw[ho]at ho';cases ho';exact⟨_,es',ep',hL,r'⟩) hok I.bare
theorem Inv.call(I:Inv X pins σ H s)(u:Un (frs X.stack) ch H H' s.heap h')(hok:HOk X.prog X.w H' h')(hg:AllBare g')
  (hch:∀b∈ch,(b∈X.ex\/X.s₀.heap.objs.size<=b)/\b≠X.env.locals/\(∀x c,X.env.cells.lookup x=some c->c≠b)/\∀p∈X.pn++pins,p.1≠b) :
  Inv X pins σ H' { s with heap:=h',gens:=g',drawn:=d',toks:=t' }:=by
 obtain⟨m,⟨o,es,ep,ho,r⟩,_⟩:=id I.loc;obtain⟨sl,hL⟩:=u.any ho I.free fun z=>(hch _ z).2.1 rfl
 exact I.step (ch:=ch) hch (fun b o hL hb hc e n=>u.keep b o e n (fun z=>(ah.mp (I.stkSub b z)).elim hL hb) hc) (fun b o _ _ hc e n=>u.any e n hc) (fun b o hc e n=>u.free b o e n hc) (fun b o hc e=>u.there b o e hc) u.tups u.frzs u.tbls (fun m' hm=>by
  obtain⟨o',es',ep',ho',r'⟩:=hm;rw[ho]at ho';cases ho';exact⟨_,es',ep',hL,r'⟩) hok hg
theorem Inv.turned(I:Inv X pins σ H s)(k:∀b o,b≠it->s.heap.get? b=some o->h'.get? b=some o)(hn:H it=none)(hL:it≠X.env.locals)
  (h1:it∈X.ex\/X.s₀.heap.objs.size<=it)(h2:∀x c,X.env.cells.lookup x=some c->c≠it)(h3:∀p∈X.pn++pins,p.1≠it):Inv X pins σ H { s with heap:=h',toks:=t' }:=by
 have nit:∀b u,H b=some u->b≠it:=fun b u e z=>by rw[z,hn]at e;cases e
 refine I.step (g':=s.gens) (d':=s.drawn) (ch:=[it]) (fun b hb=>?_) (fun b o _ _ hc e _=>k b o (fun z=>hc (by simp[z])) e) (fun b o _ _ hc e _=>⟨o.slots,k b o (fun z=>hc (by simp[z])) e⟩) (fun _ _ _ _ n=>n)
  (fun b o hc e=>⟨o,k b o (fun z=>hc (by simp[z])) e⟩) (fun _ _ e=>e) (fun _ _ _ e=>e) (fun b ps e=>⟨#[],by rw[e];simp⟩) (fun m hm=>?_) (fun b u e=>?_) I.bare
 ·have e:b=it:=by simpa using hb
  subst e;exact⟨h1,hL,h2,h3⟩
 ·obtain⟨o,es,ep,ho,r⟩:=hm
  exact⟨o,es,ep,k _ o (bc hL) ho,r⟩
 ·refine(I.hok b u e).stay (fun c v hc q=>k c v ?_ q) (fun _ q=>q) fun _ _ q=>q
  rcases hc with z|z
  ·rw[z];exact nit b u e
  ·exact nit c _ z
theorem Inv.tok(I:Inv X pins σ H s)(t:Nat):Inv X pins σ H { s with toks:=t }:=I.un (h':=s.heap) (t':=t) Un.refl I.hok
theorem Inv.kept{t':Nat}(I:Inv X pins σ H s)(k:∀b u,s.heap.get? b=some u->h'.get? b=some u):Inv X pins σ H { s with heap:=h',toks:=t' }:=I.un (Un.kept k) (I.hok.kept k)
theorem Inv.laid{a:Addr}{o:HO}{t':Nat}(I:Inv X pins σ H s)(k:∀b u,s.heap.get? b=some u->h'.get? b=some u)(hp:s.heap.objs.size<=a)(new:ObjOk X.prog X.w (upd H a o) h' a o) :
  Inv X pins σ (upd H a o) { s with heap:=h',toks:=t' }:=I.un (Un.laid k hp (I.hok.fresh hp)) (I.hok.laid k hp new)
theorem Inv.write{x e:Addr}{o:HO}{t':Nat}(I:Inv X pins σ H s)(mu:Mut (H x))(he:e=x\/H e=some (.own x))(k:∀b u,b≠e->s.heap.get? b=some u->h'.get? b=some u)(heo:∃u,h'.get? e=some u)
  (new:ObjOk X.prog X.w (upd H x o) h' x o):Inv X pins σ (upd H x o) { s with heap:=h',toks:=t' }:=I.un (Un.write mu he k heo) (I.hok.write mu he k heo new)
theorem Inv.pins_of{pins':fM}(I:Inv X pins σ H s)(h:∀p∈pins',s.heap.get? p.1=some p.2/\H p.1=none/\p.1≠X.env.locals/\p.1∉X.fs/\∀v,p.2.data≠.cell v):Inv X pins' σ H s:=
 ⟨I.ok,I.os,I.bare,I.base,I.loc,I.cell,I.free,I.freeC,fun p hp=>(bZ.mp hp).elim (fun z=>I.pin p (bR _ z)) (h p),I.hok,I.len⟩
theorem Kn(hN:N.Nodup){i j:Nat}{x:Str}(a:N[i]?=some x)(b:N[j]?=some x):i=j:=by
 obtain⟨h1,e1⟩:=ai.mp a;obtain⟨h2,e2⟩:=ai.mp b;exact(List.getElem_inj hN).mp (e1.trans e2.symm)
theorem Zc{i:Nat}{x:Str}{Q:Unit->Shared->Prop}(I:Inv X pins σ H s)(hN:X.N.Nodup)(hi:X.N[i]?=some x)(hx:Loc X.env.scope x)(r:RelV v u)
  (h:∀s',Inv X pins (σ.set i (some v)) H s'->(∃a,Heap.SameBut a s.heap s'.heap/\(a=X.env.locals\/X.env.cells.lookup x=some a))->Q () s')(hf:X.fn x=true\/X.env.scope.names.lookup x=some .local:=by first|exact .inl rfl|exact .inr rfl|assumption):wpAny M A (storeName X.env x u) Q E s:=by
 obtain⟨m,hn,hl⟩:=id I.loc;have hcls:(X.env.scope.kind == .class || (X.env.scope.kind == .module && X.env.locals != X.env.globals))=false:=by rw[I.ok.kind];rfl
 have hiσ:i<σ.length:=by rw[I.len];exact(ai.mp hi).1
 have cne:=I.cne;have tracked:∀{a:Addr}{h':Heap},(∃o,s.heap.get? a=some o/\H a=none)->Heap.SameBut a s.heap h'->HOk X.prog X.w H h':=fun{a h'} ha hs b ob e=>by
  obtain⟨_,_,hfree⟩:=ha;refine(I.hok b ob e).stay (fun c w' hc q=>(hs.2 c ?_).trans q) (fun _ q=>q) fun _ _ q=>q
  rintro rfl;rcases hc with rfl|hc
  ·rw[hfree]at e;cases e
  ·rw[hfree]at hc;cases hc
 rcases hx with hk|hk
 ·refine wpAny_storeName_local hk hn (fun h' hn' hs=>?_) hcls
  obtain⟨oL,_,_,hoL,_⟩:=id hn;refine h _ ⟨I.ok,I.os,I.bare,⟨fun b o e n hb hx=>?_,fun b o e n hb hx=>?_,I.base.free,fun b o e hx=>?_,I.base.tups,I.base.frzs,I.base.tbls⟩,⟨_,hn',fun j y v' e1 e2 e3=>?_⟩,fun y c e=>?_,I.free,I.freeC,fun p hp=>?_,tracked ⟨oL,hoL,I.free⟩ hs,by simpa using I.len⟩ ⟨_,hs,.inl rfl⟩
  ·exact(hs.2 b (aI (az (au e) I.ok.above))).trans (I.base.keep b o e n hb hx)
  ·obtain⟨sl,e1⟩:=I.base.slot b o e n hb hx
   exact⟨sl,(hs.2 b (aI (az (au e) I.ok.above))).trans e1⟩
  ·obtain⟨o',e1⟩:=I.base.there b o e hx
   exact⟨o',(hs.2 b (aI (az (au e) I.ok.above))).trans e1⟩
  ·by_cases hj:j=i
   ·subst hj
    rw[hi]at e1;cases e1;rw[aA hiσ]at e2;cases e2;exact⟨u,r,.inl ⟨hk,by simp⟩⟩
   ·rw[ay (bc hj)]at e2
    obtain⟨u',r',q⟩:=hl j y v' e1 e2 e3;refine⟨u',r',?_⟩;rcases q with⟨k,e⟩|⟨k,c,e,z⟩
    ·refine .inl ⟨k,?_⟩
     have:y≠x:=fun e=>hj (Kn hN e1 (e▸hi))
     simp[this,e]
    ·exact .inr ⟨k,c,e,z.sameBut hs (cne y c e)⟩
  ·obtain⟨w',z⟩:=I.cell y c e
   exact⟨w',z.sameBut hs (cne y c e)⟩
  ·obtain⟨e,n,ne,nf,d⟩:=I.pin p hp
   exact⟨(hs.2 p.1 ne).trans e,n,ne,nf,d⟩
 ·have hfn:X.fn x=true:=by
   rcases hf with z|z
   ·exact z
   ·rw[z]at hk;cases hk
  obtain⟨c,hc⟩:=I.ok.has x (.inl hk);obtain⟨w',z⟩:=I.cell x c hc;refine wpAny_storeName_cell I.ok.kind hk hc z (fun h' hc' hs=>?_);obtain⟨oc,hoc,hocd⟩:=id z;refine h { s with heap:=h' } ⟨I.ok,I.os,I.bare,⟨fun b o e n hb hx=>?_,fun b o e n hb hx=>?_,I.base.free,fun b o e hx=>?_,I.base.tups,I.base.frzs,I.base.tbls⟩,⟨m,hn.sameBut hs (bc (cne x c hc)),fun j y v' e1 e2 e3=>?_⟩,fun y c' e=>?_,I.free,I.freeC,fun p hp=>?_,tracked ⟨oc,hoc,I.freeC x c hc⟩ hs,by simpa using I.len⟩ ⟨c,hs,.inr hc⟩
  ·exact(hs.2 b (aI (az (au e) (I.ok.cab x c hfn hc)))).trans (I.base.keep b o e n hb hx)
  ·obtain⟨sl,e1⟩:=I.base.slot b o e n hb hx
   exact⟨sl,(hs.2 b (aI (az (au e) (I.ok.cab x c hfn hc)))).trans e1⟩
  ·obtain⟨o',e1⟩:=I.base.there b o e hx
   exact⟨o',(hs.2 b (aI (az (au e) (I.ok.cab x c hfn hc)))).trans e1⟩
  ·by_cases hj:j=i
   ·subst hj
    rw[hi]at e1;cases e1;rw[aA hiσ]at e2;cases e2;exact⟨u,r,.inr ⟨.inl hk,c,hc,hc'⟩⟩
   ·rw[ay (bc hj)]at e2
    obtain⟨u',r',q⟩:=hl j y v' e1 e2 e3;refine⟨u',r',?_⟩;rcases q with q|⟨k,c',e,z'⟩
    ·exact .inl q
    ·refine .inr ⟨k,c',e,z'.sameBut hs ?_⟩
     rintro rfl;exact hj (Kn hN e1 (I.ok.inj _ _ _ e hc▸hi))
  ·by_cases hcc:c'=c
   ·subst hcc;exact⟨_,hc'⟩
   ·obtain⟨w2,z2⟩:=I.cell y c' e
    exact⟨w2,z2.sameBut hs hcc⟩
  ·obtain⟨e,n,ne,nf,d⟩:=I.pin p hp
   refine⟨(hs.2 p.1 ?_).trans e,n,ne,nf,d⟩;intro q;rw[q,hoc]at e;have q':oc=p.2:=bY e;exact d w' (by rw[<- q'];exact hocd)
theorem wB{i:Nat}{x:Str}{Q:Unit->Shared->Prop}(I:Inv X pins σ H s)(hN:X.N.Nodup)(hi:X.N[i]?=some x)(hx:Loc X.env.scope x)(r:RelV v u)
  (h:∀s',Inv X pins (σ.set i (some v)) H s'->Q () s')(hf:X.fn x=true\/X.env.scope.names.lookup x=some .local:=by first|exact .inl rfl|exact .inr rfl|assumption):wpAny M A (storeName X.env x u) Q E s:=
 Zc I hN hi hx r (fun s' I' _=>h s' I') hf
theorem Inv.call'{s':Shared}(I:Inv X pins σ H s)(ho:s'.os=s.os)(u:Un (frs X.stack) ch H H' s.heap s'.heap)(hok:HOk X.prog X.w H' s'.heap)(hg:AllBare s'.gens)
  (hch:∀b∈ch,(b∈X.ex\/X.s₀.heap.objs.size<=b)/\b≠X.env.locals/\(∀x c,X.env.cells.lookup x=some c->c≠b)/\∀p∈X.pn++pins,p.1≠b):Inv X pins σ H' s':=by
 obtain⟨h',g',d',t',o'⟩:=s';have e:o'=s.os:=ho;subst e;exact I.call (g':=g') (t':=t') (d':=d') u hok hg hch
end
abbrev XK:=Value->fR->Hp->Prop
abbrev St:=List (Option V)
abbrev VK:=V->Hp->Prop
abbrev TE:=St->Hp->VK->Prop
abbrev TT:=St->Hp->(Bool->Hp->Prop)->Prop
abbrev TA:=St->Hp->(List V->Hp->Prop)->Prop
structure Ends where
 nx:St->Hp->Prop
 rt:VK
 bk:St->Hp->Prop:=fun _ _=>False
 ct:St->Hp->Prop:=fun _ _=>False
abbrev TS:=Ends->St->Hp->Prop
def EP(X:Cx)(pins:fM)(σ:St)(Q:VK)(u:Value)(s':Shared):Prop:=∃v H',Inv X pins σ H' s'/\RelV v u/\Q v H'
def TP(X:Cx)(pins:fM)(σ:St)(Q:Bool->Hp->Prop)(b:Bool)(s':Shared):Prop:=∃H',Inv X pins σ H' s'/\Q b H'
def AP(X:Cx)(pins:fM)(σ:St)(Q:List V->Hp->Prop)(us:fQ)(s':Shared):Prop:=∃vs H',Inv X pins σ H' s'/\Vals vs us/\Q vs H'
def SP(X:Cx)(pins:fM)(D:Ends)(f:Flow)(s':Shared):Prop:=
 match f with
 |.next=>∃σ' H',Inv X pins σ' H' s'/\D.nx σ' H'
 |.brk=>∃σ' H',Inv X pins σ' H' s'/\D.bk σ' H'
 |.cont=>∃σ' H',Inv X pins σ' H' s'/\D.ct σ' H'
 |.ret u=>∃v σ' H',Inv X pins σ' H' s'/\RelV v u/\D.rt v H'
def PE(X:Cx)(e:Expr)(t:TE):Prop:=
 ∀(pins:fM)(s:Shared)(σ:St)(H:Hp)(Q:VK),Inv X pins σ H s->t σ H Q->wpAny (model X.prog X.w) X.A (eval e X.env) (EP X pins σ Q) X.xe s
def PT(X:Cx)(e:Expr)(t:TT):Prop:=
 ∀(pins:fM)(s:Shared)(σ:St)(H:Hp)(Q:Bool->Hp->Prop),Inv X pins σ H s->t σ H Q->wpAny (model X.prog X.w) X.A (isTrue e X.env (eval e X.env)) (TP X pins σ Q) X.xe s
def PW(X:Cx)(e:Expr)(t:TT):Prop:=
 ∀(whole:Sem Value)(pins:fM)(s:Shared)(σ:St)(H:Hp)(Q:Bool->Hp->Prop),Inv X pins σ H s->t σ H Q->wpAny (model X.prog X.w) X.A (isTrue e X.env whole) (TP X pins σ Q) X.xe s
theorem PW.pt{t:TT}(h:PW X e t):PT X e t:=h _
def PA(X:Cx)(es:fU)(t:TA):Prop:=
 ∀(pos:Pos)(pins:fM)(s:Shared)(σ:St)(H:Hp)(Q:List V->Hp->Prop),Inv X pins σ H s->t σ H Q->wpAny (model X.prog X.w) X.A (spliced (backTo pos (starEach es X.env))) (AP X pins σ Q) X.xe s
def PS(X:Cx)(st:Stmt)(t:TS):Prop:=
 ∀(pins:fM)(s:Shared)(σ:St)(H:Hp)(D:Ends),Inv X pins σ H s->t D σ H->wpAny (model X.prog X.w) X.A (exec st X.env) (SP X pins D) X.xe s
def PSs(X:Cx)(st:List Stmt)(t:TS):Prop:=
 ∀(pins:fM)(s:Shared)(σ:St)(H:Hp)(D:Ends),Inv X pins σ H s->t D σ H->wpAny (model X.prog X.w) X.A (execs st X.env) (SP X pins D) X.xe s
theorem thn{α:Type}{t:Sem α}{Q Q':α->Shared->Prop}(h:wpAny M A t Q E s)(hQ:∀a s,Q a s->Q' a s):wpAny M A t Q' E s:=bh h hQ fun _ _ x=>x
section
variable{X:Cx}
def tVar(i:Nat):TE:=fun σ H Q=>∃v,σ[i]?=some (some v)/\Q v H
def tC(v:V):TE:=fun _ H Q=>Q v H
theorem Zn{i:Nat}{x:Str}(hN:X.N[i]?=some x)(hv:Vis X.env.scope x)(hd:(x == ("__debug__":Str))=false:=by decide)(hcd:(x == ("__classdict__":Str))=false:=by decide):PE X (.Name x pos) (tVar i):=by
 intro pins s σ H Q I h;obtain⟨v,e,h⟩:=h;obtain⟨m,hn,hl⟩:=I.loc;obtain⟨u,r,l⟩:=hl i x v hN e hv;have fin:EP X pins σ Q u s:=⟨v,H,I,r,h⟩;rcases l with⟨hk,hm⟩|⟨hk,c,hc,hcell⟩
 ·exact wpAny_Name (wpAny_loadName_local I.ok.kind hk hn hm fin) hd
 ·rcases hk with hk|hk
  ·exact wpAny_Name (wpAny_loadName_cell I.ok.kind hk hc hcell fin) hd
  ·exact wpAny_Name (wpAny_loadName_free I.ok.kind hk hc hcell fin hcd) hd
theorem qds{i j pos}:PE X (.Constant (.int i) j pos) (tC (.int i)):=fun _ _ _ H _ I h=>wpAny_Constant_int ⟨.int i,H,I.tok _,⟨_,rfl⟩,h⟩
theorem Qn{b j pos}:PE X (.Constant (.bool b) j pos) (tC (.bl b)):=fun _ _ _ H _ I h=>Constant_bool ⟨.bl b,H,I,rfl,h⟩
theorem Kk{j pos}:PE X (.Constant .none j pos) (tC .non):=fun _ _ _ H _ I h=>Constant_none ⟨.non,H,I,rfl,h⟩
theorem zQ{x j pos}:PE X (.Constant (.str x) j pos) (tC (.str x)):=fun _ _ _ H _ I h=>Calls.Constant_str ⟨.str x,H,I.tok _,⟨_,rfl⟩,h⟩
def Gl(X:Cx)(x:Str):Prop:=X.env.kindOf x=some .globalImplicit
theorem kY{σ:St}{x:Str}(I:Inv X pins σ H s)(hg:Gl X x)(hm:X.mg x=some u)(h:Q u s)
  (hd:(x == ("__debug__":Str))=false:=by decide):wpAny (model X.prog X.w) X.A (eval (.Name x pos) X.env) Q E s:=
 Calls.Name_function_global I.ok.kind hg (Calls.loadGlobal_global (by rw[I.ok.glob];exact I.mod.glob.keeps I.bk) hm h) hd
theorem ZE{σ:St}{x:Str}(I:Inv X pins σ H s)(hg:Gl X x)(hm:X.mg x=none)(hv:bootBuiltins x=some u)(h:Q u s)
  (hn:x≠"__name__":=by decide)(hd:(x == ("__debug__":Str))=false:=by decide):wpAny (model X.prog X.w) X.A (eval (.Name x pos) X.env) Q E s:=by
 obtain⟨mb,h1,h2⟩:=I.mod.blt;exact Calls.Name_function_global I.ok.kind hg (Calls.loadGlobal_builtin (by rw[I.ok.glob];exact I.mod.glob.keeps I.bk) hm (by rw[I.ok.blt];exact h1.keeps I.bk) ((h2 x hn).trans hv) h) hd
theorem j9{x:Str}(hg:Gl X x)(hm:X.mg x=some u)(r:RelV v u)(hd:(x == ("__debug__":Str))=false:=by decide):PE X (.Name x pos) (tC v):=
 fun _ _ _ H _ I h=>kY I hg hm ⟨v,H,I,r,h⟩ hd
theorem js{x:Str}(hg:Gl X x)(hm:X.mg x=none)(hv:bootBuiltins x=some u)(r:RelV v u)(hn:x≠"__name__":=by decide)(hd:(x == ("__debug__":Str))=false:=by decide):PE X (.Name x pos) (tC v):=
 fun _ _ _ H _ I h=>ZE I hg hm hv ⟨v,H,I,r,h⟩ hn hd
variable{a b:Expr}{ta tb:TE}{pos:Pos}
variable{tA tB':TT}{rest:fU}
def tAnd(t u:TT):TT:=fun σ H Q=>t σ H fun c H1=>if c=true then u σ H1 Q else Q false H1
def tOr(t u:TT):TT:=fun σ H Q=>t σ H fun c H1=>if c=true then Q true H1 else u σ H1 Q
def tNot(t:TT):TT:=fun σ H Q=>t σ H fun c H1=>Q (!c) H1
theorem qaj(ha:PT X a tA):PW X (.BoolOp .And [a] pos) tA:=by
 intro wh pins s σ H Q I h;refine isTrue_and (thn (ha pins s σ H Q I h) fun c s1 e=>?_);cases c with
 |true=>exact isTrue_and_nil e
 |false=>exact e
theorem qdc(ha:PT X a tA):PW X (.BoolOp .Or [a] pos) tA:=by
 intro wh pins s σ H Q I h;refine isTrue_or (thn (ha pins s σ H Q I h) fun c s1 e=>?_);cases c with
 |false=>exact isTrue_or_nil e
 |true=>exact e
theorem qdd(ha:PT X a tA)(hb:PW X (.BoolOp .And (b::rest) pos) tB'):PW X (.BoolOp .And (a::b::rest) pos) (tAnd tA tB'):=by
 intro wh pins s σ H Q I h;refine isTrue_and (thn (ha pins s σ H _ I h) fun c s1⟨H1,I1,q1⟩=>?_);cases c with
 |true=>exact hb wh pins s1 σ H1 Q I1 q1
 |false=>exact⟨H1,I1,q1⟩
theorem qfz(ha:PT X a tA)(hb:PW X (.BoolOp .Or (b::rest) pos) tB'):PW X (.BoolOp .Or (a::b::rest) pos) (tOr tA tB'):=by
 intro wh pins s σ H Q I h;refine isTrue_or (thn (ha pins s σ H _ I h) fun c s1⟨H1,I1,q1⟩=>?_);cases c with
 |true=>exact⟨H1,I1,q1⟩
 |false=>exact hb wh pins s1 σ H1 Q I1 q1
theorem qdh(ha:PT X a tA):PT X (.UnaryOp .Not a pos) (tNot tA):=by
 intro pins s σ H Q I h;exact isTrue_not (ha pins s σ H (fun c H1=>Q (!c) H1) I h)
def qft(ta tb:TE):TE:=fun σ H Q=>ta σ H fun x H1=>∃c,x=.bl c/\if c=true then tb σ H1 Q else Q (.bl false) H1
theorem qdq{op}{t:TE}(h:PE X a t):PE X (.BoolOp op [a] pos) t:=fun pins s σ H Q I hw=>BoolOp_one (h pins s σ H Q I hw)
theorem qdu(ha:PE X a ta)(hb:PE X (.BoolOp .And (b::rest) pos) tb):PE X (.BoolOp .And (a::b::rest) pos) (qft ta tb):=by
 intro pins s σ H Q I h;refine BoolOp_and (thn (ha pins s σ H _ I h) fun v s1⟨x,H1,I1,r1,q1⟩=>?_);obtain⟨c,rfl,q1⟩:=q1;cases r1;refine bB ?_;cases c with
 |true=>exact hb pins s1 σ H1 Q I1 q1
 |false=>exact⟨.bl false,H1,I1,rfl,q1⟩
end
def SqL(K:fL)(H:Hp)(a:Addr)(xs:List V):Prop:=
 Rd H a (.lst xs)\/
  ∃(o:Obj)(its:fS)(n:Nat),K.lookup a=some o/\o.cls=.type "list"/\o.dict=none/\o.data=.seq its n/\its.size<=sizeLine/\Vals xs its.toList
def SqT(K:fL)(H:Hp)(a:Addr)(xs:List V):Prop:=
 Rd H a (.tup xs)\/
  ∃(o:Obj)(its:fS)(n:Nat),K.lookup a=some o/\o.cls=.type "tuple"/\o.data=.seq its n/\its.size<=sizeLine/\Vals xs its.toList
def absV:Value->Option V
 |.none=>some .non
 |.bool b=>some (.bl b)
 |.int i _=>some (.int i)
 |.str x _=>some (.str x)
 |.bytes b _=>some (.byt b)
 |.float b _=>some (.flt b)
 |.ref a=>some (.ref a)
 |.type n=>some (.ty n)
 |_=>none
theorem RelV.abs{x:V}(r:RelV x u):absV u=some x:=by
 cases x with
 |non=>cases r;rfl
 |bl _=>cases r;rfl
 |int _=>obtain⟨t,rfl⟩:=r;rfl
 |str _=>obtain⟨t,rfl⟩:=r;rfl
 |byt _=>obtain⟨t,rfl⟩:=r;rfl
 |flt _=>obtain⟨t,rfl⟩:=r;rfl
 |ref _=>cases r;rfl
 |ty _=>cases r;rfl
theorem RelV.inj{x y:V}{u:Value}(r:RelV x u)(q:RelV y u):x=y:=bY (r.abs.symm.trans q.abs)
theorem Vals.inj:∀{xs ys:List V}{us:fQ},Vals xs us->Vals ys us->xs=ys
 |_,_,_,.nil,.nil=>rfl
 |_,_,_,.cons r t,.cons r' t'=>by rw[r.inj r',Vals.inj t t']
section
variable{X:Cx}{pins:fM}{σ:St}{H:Hp}{s:Shared}{a:Addr}{xs ys:List V}
theorem SqL.of(h:H a=some (.lst xs)):SqL K H a xs:=.inl (.inl h)
theorem SqT.of(h:H a=some (.tup xs)):SqT K H a xs:=.inl (.inl h)
theorem Inv.list(I:Inv X pins σ H s)(h:SqL X.K H a xs):∃its:fQ,Vals xs its/\PlainL s.heap a its.toArray/\xs.length<=sizeLine:=by
 rcases h with h|⟨o,its,n,hk,hc,hd,hs,hz,r⟩
 ·obtain⟨z,its,n,r,e⟩:=h.ok I.hok
  exact⟨its,r,⟨_,n,e,rfl,rfl,rfl⟩,z⟩
 ·refine⟨its.toList,r,⟨o,n,I.kIn a o hk,hc,hd,by simpa using hs⟩,?_⟩
  have e:=r.length;simp only[bK]at e;omega
theorem Inv.tuple(I:Inv X pins σ H s)(h:SqT X.K H a xs):∃its:fQ,Vals xs its/\IsTup s.heap a its.toArray/\xs.length<=sizeLine:=by
 rcases h with h|⟨o,its,n,hk,hc,hs,hz,r⟩
 ·obtain⟨z,its,r,p⟩:=h.ok I.hok
  exact⟨its,r,p,z⟩
 ·refine⟨its.toList,r,⟨o,I.kIn a o hk,hc,n,by simpa using hs⟩,?_⟩
  have e:=r.length;simp only[bK]at e;omega
theorem Inv.list_inj(I:Inv X pins σ H s)(h:SqL X.K H a xs)(h':SqL X.K H a ys):xs=ys:=by
 obtain⟨its,r,⟨o,n,e,_,_,d⟩,_⟩:=I.list h;obtain⟨its',r',⟨o',n',e',_,_,d'⟩,_⟩:=I.list h';rw[e]at e';cases e';rw[d]at d'
 injection d' with d1 _
 have:its=its':=by simpa using bU Array.toList d1
 subst this;exact r.inj r'
theorem Inv.tuple_inj(I:Inv X pins σ H s)(h:SqT X.K H a xs)(h':SqT X.K H a ys):xs=ys:=by
 obtain⟨its,r,⟨o,e,_,n,d⟩,_⟩:=I.tuple h;obtain⟨its',r',⟨o',e',_,n',d'⟩,_⟩:=I.tuple h';rw[e]at e';cases e';rw[d]at d'
 injection d' with d1 _
 have:its=its':=by simpa using bU Array.toList d1
 subst this;exact r.inj r'
end
abbrev Cx.wish(X:Cx)(E:fN):Cx:={ X with xe:=E }
abbrev Cx.nox(X:Cx):Cx:=X.wish fun _ _=>False
theorem Cx.Ok.wish{X:Cx}(ok:X.Ok)(E:fN):(X.wish E).Ok:=
 ⟨ok.mod,ok.kind,ok.glob,ok.blt,ok.above,ok.inj,ok.has,ok.cab,ok.hd,ok.frames,ok.stk,ok.exf,ok.bs,ok.bsz,ok.noex,ok.exfs,ok.funs,ok.frf⟩
theorem Cx.Ok.unwish(ok:(X.wish E).Ok):X.Ok:=
 ⟨ok.mod,ok.kind,ok.glob,ok.blt,ok.above,ok.inj,ok.has,ok.cab,ok.hd,ok.frames,ok.stk,ok.exf,ok.bs,ok.bsz,ok.noex,ok.exfs,ok.funs,ok.frf⟩
section
variable{X:Cx}{pins:fM}{σ:St}{H:Hp}{s:Shared}{E:fN}
theorem Inv.wish(I:Inv X pins σ H s)(E:fN):Inv (X.wish E) pins σ H s:=⟨I.ok.wish E,I.os,I.bare,I.base,I.loc,I.cell,I.free,I.freeC,I.pin,I.hok,I.len⟩
theorem Inv.unwish(I:Inv (X.wish E) pins σ H s):Inv X pins σ H s:=⟨I.ok.unwish,I.os,I.bare,I.base,I.loc,I.cell,I.free,I.freeC,I.pin,I.hok,I.len⟩
theorem SP.unwish{D:Ends}{f:Flow}{s':Shared}(h:SP (X.wish E) pins D f s'):SP X pins D f s':=by
 cases f with
 |next=>obtain⟨σ',H',I,q⟩:=h;exact⟨σ',H',I.unwish,q⟩
 |brk=>obtain⟨σ',H',I,q⟩:=h;exact⟨σ',H',I.unwish,q⟩
 |cont=>obtain⟨σ',H',I,q⟩:=h;exact⟨σ',H',I.unwish,q⟩
 |ret u=>obtain⟨v,σ',H',I,r,q⟩:=h;exact⟨v,σ',H',I.unwish,r,q⟩
theorem PSs.nox{st:List Stmt}{t:TS}(h:PSs X.nox st t):PSs X st t:=fun pins s σ H D I hw=>
 bh (h pins s σ H D (I.wish _) hw) (fun _ _ q=>q.unwish) fun _ _ z=>False.elim z
end
section
variable{X:Cx}{st:Stmt}{rest:List Stmt}{t u:TS}{e:Expr}{te:TE}{pos:Pos}
def qfn:TS:=fun D σ H=>D.nx σ H
def tSeq(t u:TS):TS:=fun D σ H=>t { D with nx:=u D } σ H
theorem qam:PSs X [] qfn:=fun _ _ σ H _ I h=>eG ⟨σ,H,I,h⟩
theorem jZ(h1:PS X st t)(h2:PSs X rest u):PSs X (st::rest) (tSeq t u):=by
 intro pins s σ H D I h;refine wpAny_execs_cons (thn (h1 pins s σ H { D with nx:=u D } I h) fun f s1 q=>?_);cases f with
 |next=>
  obtain⟨σ',H',I',q⟩:=q;exact h2 pins s1 σ' H' D I' q
 |ret v=>exact q
 |brk=>exact q
 |cont=>exact q
theorem Qk(h1:PS X st t):PSs X [st] t:=by
 intro pins s σ H D I h;refine wpAny_execs_cons (thn (h1 pins s σ H D I h) fun f s1 q=>?_);cases f with
 |next=>exact eG q
 |ret v=>exact q
 |brk=>exact q
 |cont=>exact q
theorem Inv.quiet{σ:St}(I:Inv X pins σ H s):interactive X.env=false:=by simp[interactive,I.ok.kind]
def qfp(te:TE):TS:=fun D σ H=>te σ H fun _ H1=>D.nx σ H1
theorem Jm(he:PE X e te)(hs:swapsWith e none pos.line X.env=pure false:=by rfl):PS X (.Expr e pos) (qfp te):=by
 intro pins s σ H D I h;exact wpAny_Expr_any (thn (he pins s σ H _ I h) fun v s1⟨x,H1,I1,r1,q1⟩=>⟨σ,H1,I1,q1⟩) I.quiet hs
def tRet(te:TE):TS:=fun D σ H=>te σ H D.rt
theorem uF(he:PE X e te):PS X (.Return (some e) pos) (tRet te):=by
 intro pins s σ H D I h;exact wpAny_Return_some (thn (he pins s σ H _ I h) fun v s1⟨x,H1,I1,r1,q1⟩=>⟨x,σ,H1,I1,r1,q1⟩)
def tIfS(c:TT)(t u:TS):TS:=fun D σ H=>c σ H fun b H1=>if b=true then t D σ H1 else u D σ H1
theorem qf1{c:Expr}{a b:List Stmt}(hc:PT X c tc)(ha:PSs X a t)(hb:PSs X b u):PS X (.If c a b pos) (tIfS tc t u):=by
 intro pins s σ H D I h;refine wpAny_If (thn (hc pins s σ H _ I h) fun d s1⟨H1,I1,q1⟩=>?_);cases d with
 |true=>exact ha pins s1 σ H1 D I1 q1
 |false=>exact hb pins s1 σ H1 D I1 q1
end
abbrev TG:=V->St->Hp->(St->Hp->Prop)->Prop
abbrev TGs:=List V->St->Hp->(St->Hp->Prop)->Prop
def PG(X:Cx)(target:Expr)(t:TG):Prop:=
 ∀(pins:fM)(s:Shared)(σ:St)(H:Hp)(v:V)(u:Value)(Q:St->Hp->Prop),Inv X pins σ H s->RelV v u->t v σ H Q->
  wpAny (model X.prog X.w) X.A (assign target X.env u) (fun _ s'=>∃σ' H',Inv X pins σ' H' s'/\Q σ' H') X.xe s
def PGs(X:Cx)(ts:fU)(t:TGs):Prop:=
 ∀(pins:fM)(s:Shared)(σ:St)(H:Hp)(vs:List V)(us:fQ)(Q:St->Hp->Prop),Inv X pins σ H s->Vals vs us->t vs σ H Q->
  wpAny (model X.prog X.w) X.A (assignInOrder ((assignEach ts X.env).map (·.2)) us) (fun _ s'=>∃σ' H',Inv X pins σ' H' s'/\Q σ' H') X.xe s
section
variable{X:Cx}{pos:Pos}
def Y0(i:Nat):TG:=fun v σ H Q=>Q (σ.set i (some v)) H
theorem qx{i:Nat}{x:Str}(hN:X.N.Nodup)(hi:X.N[i]?=some x)(hx:Loc X.env.scope x)(hf:X.fn x=true\/X.env.scope.names.lookup x=some .local:=by first|exact .inl rfl|exact .inr rfl|assumption):PG X (.Name x pos) (Y0 i):=by
 intro pins s σ H v u Q I r h;exact wpAny_assign_Name (wB I hN hi hx r (fun s' I'=>⟨_,H,I',h⟩) hf)
def gNil:TGs:=fun vs σ H Q=>vs=[]/\Q σ H
def qgm(t:TG)(u:TGs):TGs:=fun vs σ H Q=>∃v r,vs=v::r/\t v σ H fun σ' H'=>u r σ' H' Q
theorem Xl:PGs X [] gNil:=by
 intro pins s σ H vs us Q I r h;obtain⟨e,h⟩:=h;subst e;cases r;exact assignInOrder_nil ⟨σ,H,I,h⟩
theorem Qm{t:TG}{u:TGs}(h1:PG X e t)(h2:PGs X es u)
  (hs:(assignEach (e::es) X.env).map (·.2)=assign e X.env::(assignEach es X.env).map (·.2):=by rfl):PGs X (e::es) (qgm t u):=by
 intro pins s σ H vs us Q I r h;obtain⟨v,vr,e1,h⟩:=h;subst e1;cases r with
 |cons r rr=>
  rw[hs];refine assignInOrder_cons (thn (h1 pins s σ H _ _ _ I r h) fun _ s1⟨σ1,H1,I1,q1⟩=>?_);exact h2 pins s1 σ1 H1 _ _ Q I1 rr q1
def gTup(K:fL)(n:Nat)(t:TGs):TG:=fun v σ H Q=>∃a xs,v=.ref a/\SqT K H a xs/\xs.length=n/\t xs σ H Q
theorem qdo{k:Nat}{t:TGs}{n:Nat}(hc:X.calm=true)(h:PGs X es t)
  (hn:(assignEach es X.env).length=n:=by rfl)(hst:(assignEach es X.env).findIdx? (·.1)=none:=by rfl):PG X (.Tuple es k pos) (gTup X.K n t):=by
 intro pins s σ H v u Q I r hw;obtain⟨a,xs,e1,hq,hl,hw⟩:=hw;subst e1;cases r;obtain⟨its,rv,ht,hz⟩:=I.tuple hq;refine assign_Tuple_tuple (I.ok.hd hc) ht (by simp[hn,<- hl,rv.length]) hst fun h' hx=>?_
 have I1:Inv X pins σ H { s with heap:=h' }:=I.kept (t':=s.toks) fun b o e=>hx b o (aI (au e)) e
 exact h pins _ σ H xs _ Q I1 (by simpa using rv) hw
def tAsg(te:TE)(g:TG):TS:=fun D σ H=>te σ H fun x H1=>g x σ H1 D.nx
theorem qdk(he:PE X e te)(hg:PG X tg g)(hs:swapsWithSole [tg] e pos.line X.env=pure false:=by rfl)(hw:swappedStores [tg] e X.env=pure none:=by rfl)
  (h1:(assignEach [tg] X.env).map (·.2)=[assign tg X.env]:=by rfl):PS X (.Assign [tg] e pos) (tAsg te g):=by
 intro pins s σ H D I h;refine wpAny_Assign_stores (thn (he pins s σ H _ I h) fun v s1⟨x,H1,I1,r1,q1⟩=>?_) hs hw;rw[h1];exact thn (hg pins s1 σ H1 x v _ I1 r1 q1) fun _ s2 q=>q
theorem vB{i:Nat}{x:Str}{pos':Pos}(hN:X.N.Nodup)(hi:X.N[i]?=some x)(hx:Loc X.env.scope x)(he:PE X e te)(hs:swapsWith e (some (.Name x pos')) pos.line X.env=pure false:=by rfl)(hf:X.fn x=true\/X.env.scope.names.lookup x=some .local:=by first|exact .inl rfl|exact .inr rfl|assumption) :
  PS X (.Assign [.Name x pos'] e pos) (tAsg te (Y0 i)):=by
 intro pins s σ H D I h;refine wpAny_Assign_Name (thn (he pins s σ H _ I h) fun v s1⟨y,H1,I1,r1,q1⟩=>?_) hs;exact wB I1 hN hi hx r1 (fun s2 I2=>⟨_,H1,I2,q1⟩) hf
def qcq(c:TT)(tb:TS):TS:=fun D σ H=>∃W:Nat->St->Hp->Prop,(∃m,W m σ H)/\∀m σ H,W m σ H->
 c σ H fun b H1=>if b=true then ∃N:St->Hp->Prop,(∀σ' H',N σ' H'->∃m',m'<m/\W m' σ' H')/\tb { D with nx:=N,ct:=N,bk:=D.nx } σ H1 else D.nx σ H1
theorem Ye{c:Expr}(hp:PassesOwn (model X.prog X.w) X.A X.env X.xe)(hc:PT X c tc)(hb:PSs X body tb):PS X (.While c body [] pos) (qcq tc tb):=by
 intro pins s σ H D I h;obtain⟨W,⟨m0,w0⟩,turn⟩:=h;refine wpAny_While (codeAny_whileLoop (fun n s'=>∃σ' H',Inv X pins σ' H' s'/\W n σ' H') ?_ m0 ⟨σ,H,I,w0⟩);rintro n s1 ⟨σ1,H1,I1,w1⟩;refine cC hp (thn (hc pins s1 σ1 H1 _ I1 (turn n σ1 H1 w1)) fun b s2⟨H2,I2,q2⟩=>?_);cases b with
 |true=>
  obtain⟨N,hN,q2⟩:=q2;rw[aH rfl];refine cC hp (thn (hb pins s2 σ1 H2 _ I2 q2) fun f s3 q3=>?_);cases f with
  |next=>
   obtain⟨σ3,H3,I3,n3⟩:=q3;obtain⟨m',hm,w3⟩:=hN σ3 H3 n3;exact⟨m',hm,σ3,H3,I3,w3⟩
  |cont=>
   obtain⟨σ3,H3,I3,n3⟩:=q3;obtain⟨m',hm,w3⟩:=hN σ3 H3 n3;exact⟨m',hm,σ3,H3,I3,w3⟩
  |brk=>exact q3
  |ret v=>exact q3
 |false=>
  rw[aG cn];exact eG ⟨σ1,H2,I2,q2⟩
end
structure It where
 go:Nat->Hp->Prop
 yld:Nat->Hp->V->Hp->Prop
 stop:Nat->Hp->Prop
def FpOk(X:Cx)(pins:fM)(H:Hp)(b:Addr):Prop:=
 H b=none/\b≠X.env.locals/\b∉X.fs/\(b∈X.ex\/X.s₀.heap.objs.size<=b)/\(∀x c,X.env.cells.lookup x=some c->c≠b)/\∀p∈X.pn++pins,p.1≠b
theorem Inv.fpOk{σ:St}{b:Addr}(I:Inv X pins σ H s)(hb:s.heap.objs.size<=b)(hn:H' b=none):FpOk X pins H' b:=by
 refine⟨hn,cI (az I.lt hb),I.nofs hb,.inr (aW I.sz hb),fun x c e z=>?_,fun p hp z=>?_⟩
 ·obtain⟨v,q⟩:=I.cell x c e
  exact absurd (az q.lt (by rw[z];exact hb)) (bI _)
 ·exact absurd (az (au (I.pin p hp).1) (by rw[z];exact hb)) (bI _)
structure TurnG(G:Cx->Prop)(P:Program)(w:World)(K:fL)(tg:Expr)(J:It)(fp:fP)(it:Addr)(tn:Nat->Heap->Prop):Prop where
 mem:it∈fp
 obj:∀i h,tn i h->∀b∈fp,∃o,h.get? b=some o/\∀v,o.data≠.cell v
 keep:∀i h h',tn i h->(∀b∈fp,∀o,h.get? b=some o->h'.get? b=some o)->tn i h'
 item:∀(X:Cx),X.prog=P->X.w=w->X.K=K->G X->∀(i:Nat)(pins:fM)(s:Shared)(σ:St)(H:Hp)(E:fN),Inv X pins σ H s->(∀b∈fp,FpOk X pins H b)->tn i s.heap->J.go i H->
  wpAny (model P w) X.A (pyNext (.ref it)) (fun r s1=>∃u,r=some u/\
   wpAny (model P w) X.A (letOwnedTupleGo tg (.ref it) u) (fun _ s2=>∃x H',Inv X pins σ H' s2/\RelV x u/\J.yld i H x H'/\tn (i+1) s2.heap/\∀b∈fp,H' b=none) E s1) E s
 done:∀(X:Cx),X.prog=P->X.w=w->X.K=K->G X->∀(i:Nat)(pins:fM)(s:Shared)(σ:St)(H:Hp)(E:fN),Inv X pins σ H s->(∀b∈fp,FpOk X pins H b)->tn i s.heap->J.stop i H->
  wpAny (model P w) X.A (pyNext (.ref it)) (fun r s1=>r=none/\Inv X pins σ H s1) E s
 self:∀(A:Around)(i:Nat)(s:Shared)(Q:fN)(E:fN),tn i s.heap->Q (.ref it) s->wpAny (model P w) A (pyIter (.ref it)) Q E s
abbrev Turn:=TurnG fun X=>X.calm=true
abbrev TI:=St->Hp->(It->Hp->Prop)->Prop
def PIEG(G:Cx->Prop)(X:Cx)(pins:fM)(σ:St)(tg:Expr)(R:It->Hp->Prop)(itv:Value)(s2:Shared):Prop:=
 ∃(it:Addr)(fp:fP)(tn:Nat->Heap->Prop)(J:It)(H':Hp),itv=.ref it/\Inv X pins σ H' s2/\TurnG G X.prog X.w X.K tg J fp it tn/\tn 0 s2.heap/\(∀b∈fp,FpOk X pins H' b)/\R J H'
def PIG(G:Cx->Prop)(X:Cx)(tg iter:Expr)(wi:TI):Prop:=
 ∀(pins:fM)(s:Shared)(σ:St)(H:Hp)(R:It->Hp->Prop),Inv X pins σ H s->wi σ H R->
  wpAny (model X.prog X.w) X.A (eval iter X.env) (fun v s1=>wpAny (model X.prog X.w) X.A (pyIter v) (PIEG G X pins σ tg R) X.xe s1) X.xe s
abbrev PIE:=PIEG fun X=>X.calm=true
abbrev PI:=PIG fun X=>X.calm=true
theorem Vu{o:Obj}{n:String}{vs:fS}{Q:Unit->Shared->Prop}(ho:s.heap.get? it=some o)(hc:o.cls=.type n)(hd:o.data=.fields vs)
  (hn:["enumerate","zip","dict_itemiterator","dict_reverseitemiterator","odict_iterator","itertools.zip_longest","itertools.pairwise"].contains n=false)(hQ:Q () s):wpAny M A (letOwnedTupleGo tg (.ref it) u) Q E s:=by
 unfold letOwnedTupleGo;cases tg <;> first
  |exact ax hQ
  | (cases u <;> first
    |exact ax hQ
    | (refine ae (wpAny_load ho ?_)
       rw[hc,hd];show wpAny M A (if(["enumerate","zip","dict_itemiterator","dict_reverseitemiterator","odict_iterator","itertools.zip_longest","itertools.pairwise"].contains n && vs[0]? == some (rawInt _))=true then _ else _) Q E s;rw[aG (by intro h;rw[hn,Bool.false_and]at h;cases h)];exact ax hQ))
def Itl(K:fL)(a:Addr):It:=
 ⟨fun i H=>∃xs x,SqL K H a xs/\xs[i]?=some x,fun i H x H'=>H'=H/\∀xs,SqL K H a xs->xs[i]?=some x,fun i H=>∃xs,SqL K H a xs/\xs.length<=i⟩
def Itt(K:fL)(a:Addr):It:=
 ⟨fun i H=>∃xs x,SqT K H a xs/\xs[i]?=some x,fun i H x H'=>H'=H/\∀xs,SqT K H a xs->xs[i]?=some x,fun i H=>∃xs,SqT K H a xs/\xs.length<=i⟩
def Itr(lo:Int)(n:Nat):It:=⟨fun i _=>i<n,fun i H x H'=>H'=H/\x=.int (lo+i),fun i _=>n<=i⟩
theorem VP(a it:Addr):Turn P w K tg (Itl K a) [it] it (fun i h=>h.IsListIter it a i) where
 mem:=by simp
 obj:=fun i h st b hb=>by
  have e:b=it:=by simpa using hb
  subst e;obtain⟨o,e,c,d⟩:=st;exact⟨o,e,fun v z=>by rw[d]at z;cases z⟩
 keep:=fun i h h' st k=>st.at fun o e=>k it (by simp) o e
 item:=by
  intro X hP hw hK hc i pins s σ H E I hf st hg;subst hP hw hK;obtain⟨xs,x,hq,hx⟩:=hg;obtain⟨its,rv,p,hz⟩:=I.list hq;obtain⟨u,hu,ru⟩:=rv.get hx;obtain⟨f0,f1,f2,f3,f4,f5⟩:=hf it (by simp);refine wpAny_pyNext_list_item st p.isList (x:=u) (by simpa using hu) fun h' st' sb=>?_
  have I1:Inv X pins σ H { s with heap:=h' }:=I.turned (t':=s.toks) (fun b o hb e=>(sb.2 b hb).trans e) f0 f1 f3 f4 f5;obtain⟨o,e,c,d⟩:=id st';exact⟨u,rfl,Vu (s:={ s with heap:=h' }) e c d (by decide) ⟨x,H,I1,ru,⟨rfl,fun ys hy=>by rw[I.list_inj hy hq];exact hx⟩,st',fun b hb=>(hf b hb).1⟩⟩
 done:=by
  intro X hP hw hK hc i pins s σ H E I hf st hg;subst hP hw hK;obtain⟨xs,hq,hx⟩:=hg;obtain⟨its,rv,p,hz⟩:=I.list hq;obtain⟨f0,f1,f2,f3,f4,f5⟩:=hf it (by simp);have hl:=rv.length;exact wpAny_pyNext_list_end (I.ok.hd hc) st p.isList (by simp;omega) fun h' eb=>⟨rfl,I.turned (t':=s.toks) (fun b o hb e=>eb b o hb e) f0 f1 f3 f4 f5⟩
 self:=fun _ _ _ _ _ st h=>wpAny_pyIter_listiter st h
theorem K3(a it:Addr):Turn P w K tg (Itt K a) [it] it (fun i h=>h.IsTupleIter it a i) where
 mem:=by simp
 obj:=fun i h st b hb=>by
  have e:b=it:=by simpa using hb
  subst e;obtain⟨o,e,c,d⟩:=st;exact⟨o,e,fun v z=>by rw[d]at z;cases z⟩
 keep:=fun i h h' st k=>st.at fun o e=>k it (by simp) o e
 item:=by
  intro X hP hw hK hc i pins s σ H E I hf st hg;subst hP hw hK;obtain⟨xs,x,hq,hx⟩:=hg;obtain⟨its,rv,p,hz⟩:=I.tuple hq;obtain⟨u,hu,ru⟩:=rv.get hx;obtain⟨f0,f1,f2,f3,f4,f5⟩:=hf it (by simp);refine wpAny_pyNext_tuple_item st (show s.heap.IsTuple a its.toArray from p) (x:=u) (by simpa using hu) fun h' st' sb=>?_
  have I1:Inv X pins σ H { s with heap:=h' }:=I.turned (t':=s.toks) (fun b o hb e=>(sb.2 b hb).trans e) f0 f1 f3 f4 f5;obtain⟨o,e,c,d⟩:=id st';exact⟨u,rfl,Vu (s:={ s with heap:=h' }) e c d (by decide) ⟨x,H,I1,ru,⟨rfl,fun ys hy=>by rw[I.tuple_inj hy hq];exact hx⟩,st',fun b hb=>(hf b hb).1⟩⟩
 done:=by
  intro X hP hw hK hc i pins s σ H E I hf st hg;subst hP hw hK;obtain⟨xs,hq,hx⟩:=hg;obtain⟨its,rv,p,hz⟩:=I.tuple hq;obtain⟨f0,f1,f2,f3,f4,f5⟩:=hf it (by simp);have hl:=rv.length;exact wpAny_pyNext_tuple_end (I.ok.hd hc) st (show s.heap.IsTuple a its.toArray from p) (by simp;omega) fun h' eb=>⟨rfl,I.turned (t':=s.toks) (fun b o hb e=>eb b o hb e) f0 f1 f3 f4 f5⟩
 self:=fun _ _ _ _ _ st h=>wpAny_pyIter_tupleiter st h
theorem K4(it:Addr)(lo:Int)(n:Nat):Turn P w K tg (Itr lo n) [it] it (fun i h=>IsRangeIter h it (lo+(i:Nat) * 1) ((n:Int) - (i:Nat)) 1) where
 mem:=by simp
 obj:=fun i h st b hb=>by
  have e:b=it:=by simpa using hb
  subst e;exact⟨_,st,fun v z=>by
   have z':Data.fields _=Data.cell v:=z;cases z'⟩
 keep:=fun i h h' st k=>k it (by simp) _ st
 item:=by
  intro X hP hw hK hc i pins s σ H E I hf st hg;subst hP hw hK;obtain⟨f0,f1,f2,f3,f4,f5⟩:=hf it (by simp);have W:=Walks.range (prog:=X.prog) (w:=X.w) (I.ok.hd hc) it lo 1 n;refine W.item i s _ _ hg st fun v h' tk hv st' kk=>?_
  obtain⟨t,rfl⟩:=hv;have I1:Inv X pins σ H { s with heap:=h',toks:=tk }:=I.turned (fun b o hb e=>kk b o (by simpa using hb) e) f0 f1 f3 f4 f5;refine⟨_,rfl,Vu (s:={ s with heap:=h',toks:=tk }) (n:="range_iterator") st' rfl rfl (by decide) ⟨.int (lo+i),H,I1,⟨t,?_⟩,⟨rfl,rfl⟩,st',fun b hb=>(hf b hb).1⟩⟩;rw[Int.mul_one]
 done:=by
  intro X hP hw hK hc i pins s σ H E I hf st hg;subst hP hw hK;obtain⟨f0,f1,f2,f3,f4,f5⟩:=hf it (by simp);exact wpAny_pyNext_range_end (I.ok.hd hc) st (by have:n<=i:=hg;omega) fun h' eb=>⟨rfl,I.turned (t':=s.toks) (fun b o hb e=>eb b o hb e) f0 f1 f3 f4 f5⟩
 self:=fun _ _ _ _ _ st h=>wpAny_pyIter_rangeiter st h
section
variable{X:Cx}{tg:Expr}
def qge(K:fL)(tl:TE):TI:=fun σ H R=>tl σ H fun x H1=>∃a,x=.ref a/\(∃xs,SqL K H1 a xs)/\R (Itl K a) H1
def iTup(K:fL)(tl:TE):TI:=fun σ H R=>tl σ H fun x H1=>∃a,x=.ref a/\(∃xs,SqT K H1 a xs)/\R (Itt K a) H1
theorem qat(hl:PE X l tl):PI X tg l (qge X.K tl):=by
 intro pins s σ H R I h;refine thn (hl pins s σ H _ I h) fun v s1⟨x,H1,I1,r1,q1⟩=>?_
 obtain⟨a,e,⟨xs,hq⟩,q⟩:=q1;subst e;cases r1;obtain⟨its,rv,p,hz⟩:=I1.list hq;refine fm p.isList ?_;refine⟨s1.heap.objs.size,[s1.heap.objs.size],_,_,H1,rfl,I1.kept (t':=s1.toks) fun b o e=>ag _ e,VP a _,⟨_,a7 _ rfl,rfl,rfl⟩,fun b hb=>?_,q⟩;have e:b=s1.heap.objs.size:=by simpa using hb
 subst e;exact I1.fpOk (aj _) (I1.hok.fresh (aj _))
theorem qdn(hl:PE X l tl):PI X tg l (iTup X.K tl):=by
 intro pins s σ H R I h;refine thn (hl pins s σ H _ I h) fun v s1⟨x,H1,I1,r1,q1⟩=>?_
 obtain⟨a,e,⟨xs,hq⟩,q⟩:=q1;subst e;cases r1;obtain⟨its,rv,p,hz⟩:=I1.tuple hq;refine wpAny_pyIter_tuple (show s1.heap.IsTuple a its.toArray from p) ?_;refine⟨s1.heap.objs.size,[s1.heap.objs.size],_,_,H1,rfl,I1.kept (t':=s1.toks) fun b o e=>ag _ e,K3 a _,⟨_,a7 _ rfl,rfl,rfl⟩,fun b hb=>?_,q⟩;have e:b=s1.heap.objs.size:=by simpa using hb
 subst e;exact I1.fpOk (aj _) (I1.hok.fresh (aj _))
theorem W_{σ:St}{R:It->Hp->Prop}{lo hi:Int}{t u v:Tok}{tk:Nat}(I:Inv X pins σ H s)(h1:-(2 ^ 62)<=lo)(h2:lo<2 ^ 62)(h3:-(2 ^ 62)<=hi)(h4:hi<2 ^ 62)
  (q:R (Itr lo (hi - lo).toNat) H):wpAny (model X.prog X.w) X.A (pyIter (.ref s.heap.objs.size)) (PIE X pins σ tg R) E { s with heap:=s.heap.push { cls:=.type "range",data:=.fields #[.int lo t,.int hi u,.int 1 v] },toks:=tk }:=by
 refine wpAny_pyIter_range (IsRange.new ..) (small_one h1 h2 h3 h4) ?_;have I1:Inv X pins σ H { s with heap:=s.heap.push { cls:=.type "range",data:=.fields #[.int lo t,.int hi u,.int 1 v] },toks:=tk }:=I.kept fun b o e=>ag _ e
 refine⟨(s.heap.push { cls:=.type "range",data:=.fields #[.int lo t,.int hi u,.int 1 v] }).objs.size,[(s.heap.push { cls:=.type "range",data:=.fields #[.int lo t,.int hi u,.int 1 v] }).objs.size],_,_,H,rfl,
  I1.kept (t':=tk) fun b o e=>ag _ e,K4 _ lo (hi - lo).toNat,?_,fun b hb=>?_,q⟩
 ·have e1:lo+((0:Nat):Int) * 1=lo:=by simp
  have e2:(((hi - lo).toNat:Nat):Int) - ((0:Nat):Int)=Builtin.Range.rangeSize lo hi 1:=by rw[rangeSize_one];split <;> omega
  show IsRangeIter _ _ (lo+((0:Nat):Int) * 1) ((((hi - lo).toNat:Nat):Int) - ((0:Nat):Int)) 1;rw[e1,e2];exact a7 _ rfl
 ·have e:b=(s.heap.push { cls:=.type "range",data:=.fields #[.int lo t,.int hi u,.int 1 v] }).objs.size:=by simpa using hb
  subst e;exact I1.fpOk (aj _) (I1.hok.fresh (aj _))
def qgd(ta:TA):TI:=fun σ H R=>ta σ H fun vs H1=>∃j:Int,vs=[.int j]/\-(2 ^ 62)<=j/\j<2 ^ 62/\R (Itr 0 j.toNat) H1
theorem Xk{a:Expr}{ta:TA}{p:Pos}(hg:Gl X "range")(hm:X.mg "range"=none)(ha:PA X [a] ta)(hs:starEach [a] X.env=[(false,eval a X.env)]:=by rfl):PI X tg (.Call (.Name "range" p) [a] [] pos) (qgd ta):=by
 intro pins s σ H R I h;refine Call_ (ZE I hg hm boot_range (cW (thn (ha pos pins s σ H _ I h) fun us s1⟨vs,H1,I1,r1,q1⟩=>?_) hs rfl));obtain⟨j,e,q1,q2,q⟩:=q1;subst e;cases r1 with
 |cons r rr=>
  cases rr;obtain⟨t,rfl⟩:=r;exact call_range_1 (W_ I1 (by omega) (by omega) q1 q2 (by simpa using q))
def tFor(wi:TI)(g:TG)(tb:TS):TS:=fun D σ H=>wi σ H fun J H1=>∃W:Nat->Nat->St->Hp->Prop,(∃m,W 0 m σ H1)/\∀i m σ H,W i m σ H->
 (J.stop i H/\D.nx σ H)\/(J.go i H/\∃N:St->Hp->Prop,(∀σ' H',N σ' H'->∃m',m'<m/\W (i+1) m' σ' H')/\∀x H',J.yld i H x H'->g x σ H' fun σ2 H2=>tb { D with nx:=N,ct:=N,bk:=D.nx } σ2 H2)
def Zm(fp:fP)(h:Heap):fM:=fp.filterMap fun b=>(h.get? b).map fun o=>(b,o)
theorem vg{b:Addr}{o:Obj}(hb:b∈fp)(e:h.get? b=some o):(b,o)∈Zm fp h:=du.mpr ⟨b,hb,by rw[e];rfl⟩
theorem Xz{p:Addr×Obj}(hp:p∈Zm fp h):p.1∈fp/\h.get? p.1=some p.2:=by
 obtain⟨b,hb,e⟩:=du.mp hp;cases q:h.get? b with
 |none=>rw[q]at e;cases e
 |some o=>
  rw[q]at e;have e':(b,o)=p:=bY e;subst e';exact⟨hb,q⟩
theorem Inv.pinned{σ:St}(I:Inv X pins σ H s)(hf:∀b∈fp,FpOk X pins H b)(ho:∀b∈fp,∃o,s.heap.get? b=some o/\∀v,o.data≠.cell v):Inv X (pins++Zm fp s.heap) σ H s:=
 I.pins_of fun p hp=>(bZ.mp hp).elim (fun z=>I.pin p (ba _ z)) fun z=>by
  obtain⟨hb,e⟩:=Xz z;obtain⟨f0,f1,f2,_⟩:=hf p.1 hb;obtain⟨o,e',d⟩:=ho p.1 hb;rw[e]at e';cases e';exact⟨e,f0,f1,f2,d⟩
theorem Inv.unpinned{pl:fM}{σ:St}(I:Inv X (pins++pl) σ H s):Inv X pins σ H s:=I.pins_of fun p hp=>I.pin p (ba _ (bR _ hp))
theorem qdi{iter:Expr}{wi:TI}(hp:PassesOwn (model X.prog X.w) X.A X.env X.xe)(hc:X.calm=true)(hi:PI X tg iter wi)(hg:PG X tg g)(hb:PSs X body tb)
  (hs:∀x,foldedSetIterable iter X.env x=pure x:=by intro _;rfl):PS X (.For tg iter body [] pos) (tFor wi g tb):=by
 intro pins s σ H D I h;refine wpAny_For (thn (hi pins s σ H _ I h) fun v s1 h1=>thn h1 fun itv s2 h2=>?_) hs;obtain⟨it,fp,tn,J,H2,e,I2,T,st2,f2,W,⟨m0,w0⟩,turn⟩:=h2;subst e;have stat:∀{H':Hp},(∀b∈fp,H' b=none)->∀b∈fp,FpOk X pins H' b:=fun hn b hb=>⟨hn b hb,(f2 b hb).2⟩
 refine codeAny_forLoop_any (fun n s'=>∃i σ' H',Inv X pins σ' H' s'/\tn i s'.heap/\(∀b∈fp,H' b=none)/\W i n σ' H') ?_ m0 ⟨0,σ,H2,I2,st2,fun b hb=>(f2 b hb).1,w0⟩;rintro n s3 ⟨i,σ3,H3,I3,st3,fr3,w3⟩;rcases turn i n σ3 H3 w3 with⟨stop,qn⟩|⟨go,N,hN,step⟩
 ·refine cC hp (thn (T.done X rfl rfl rfl hc i pins s3 σ3 H3 X.xe I3 (stat fr3) st3 stop) fun r s4⟨hr,I4⟩=>?_)
  subst hr;exact eG ⟨σ3,H3,I4,qn⟩
 ·refine cC hp (thn (T.item X rfl rfl rfl hc i pins s3 σ3 H3 X.xe I3 (stat fr3) st3 go) fun r s4⟨u,hr,h4⟩=>?_)
  subst hr;refine cC hp (thn h4 fun _ s5⟨x,H5,I5,r5,y5,st5,fr5⟩=>?_);have I5':=I5.pinned (stat fr5) (T.obj _ _ st5);refine cC hp (thn (hg _ s5 σ3 H5 x u _ I5' r5 (step x H5 y5)) fun _ s6⟨σ6,H6,I6,q6⟩=>?_);refine cC hp (thn (hb _ s6 σ6 H6 _ I6 q6) fun f s7 q7=>?_);have again:∀{σ7:St}{H7:Hp},Inv X (pins++Zm fp s5.heap) σ7 H7 s7->N σ7 H7->∃m,m<n/\∃i σ' H',Inv X pins σ' H' s7/\tn i s7.heap/\(∀b∈fp,H' b=none)/\W i m σ' H':=fun{σ7 H7} I7 n7=>by
   obtain⟨m',hm,w7⟩:=hN σ7 H7 n7;refine⟨m',hm,i+1,σ7,H7,I7.unpinned,T.keep _ _ _ st5 fun b hb o e=>(I7.pin (b,o) (ba _ (ba _ (vg hb e)))).1,fun b hb=>?_,w7⟩;obtain⟨o,e,d⟩:=T.obj _ _ st5 b hb;exact(I7.pin (b,o) (ba _ (ba _ (vg hb e)))).2.1
  cases f with
  |next=>obtain⟨σ7,H7,I7,n7⟩:=q7;exact again I7 n7
  |cont=>obtain⟨σ7,H7,I7,n7⟩:=q7;exact again I7 n7
  |brk=>obtain⟨σ7,H7,I7,q7⟩:=q7;exact⟨σ7,H7,I7.unpinned,q7⟩
  |ret v=>obtain⟨x7,σ7,H7,I7,r7,q7⟩:=q7;exact⟨x7,σ7,H7,I7.unpinned,r7,q7⟩
end
abbrev R2:=V->V->Hp->VK->Prop
def OpR(X:Cx)(f:Value->Value->Sem Value)(r:R2):Prop:=
 ∀(pins:fM)(s:Shared)(σ:St)(H:Hp)(x y:V)(v u:Value)(Q:VK),Inv X pins σ H s->RelV x v->RelV y u->r x y H Q->
  wpAny (model X.prog X.w) X.A (f v u) (EP X pins σ Q) X.xe s
def UnR(X:Cx)(f:Value->Sem Value)(r:V->Hp->VK->Prop):Prop:=
 ∀(pins:fM)(s:Shared)(σ:St)(H:Hp)(x:V)(v:Value)(Q:VK),Inv X pins σ H s->RelV x v->r x H Q->
  wpAny (model X.prog X.w) X.A (f v) (EP X pins σ Q) X.xe s
def CallR(X:Cx)(f:Value)(r:List V->Hp->VK->Prop):Prop:=
 ∀(pins:fM)(s:Shared)(σ:St)(H:Hp)(xs:List V)(us:fQ)(Q:VK),Inv X pins σ H s->Vals xs us->r xs H Q->
  wpAny (model X.prog X.w) X.A (call f us) (EP X pins σ Q) X.xe s
def TruR(X:Cx)(r:V->Hp->(Bool->Hp->Prop)->Prop):Prop:=
 ∀(pins:fM)(s:Shared)(σ:St)(H:Hp)(x:V)(v:Value)(Q:Bool->Hp->Prop),Inv X pins σ H s->RelV x v->r x H Q->
  wpAny (model X.prog X.w) X.A (truthy v) (TP X pins σ Q) X.xe s
def tOp(r:R2)(ta tb:TE):TE:=fun σ H Q=>ta σ H fun x H1=>tb σ H1 fun y H2=>r x y H2 Q
def tUn(r:V->Hp->VK->Prop)(ta:TE):TE:=fun σ H Q=>ta σ H fun x H1=>r x H1 Q
def rI(C:Int->Int->Prop)(g:Int->Int->V):R2:=fun x y H Q=>∃i j,x=.int i/\y=.int j/\C i j/\Q (g i j) H
def rI0(g:Int->Int->V):R2:=fun x y H Q=>∃i j,x=.int i/\y=.int j/\Q (g i j) H
def rU(g:Int->V):V->Hp->VK->Prop:=fun x H Q=>∃i,x=.int i/\Q (g i) H
section
variable{X:Cx}{a b c:Expr}{ta tb tc:TE}{pos:Pos}
theorem binT(ha:PE X a ta)(hb:PE X b tb){σ:St}{R:V->V->Hp->Prop}(I:Inv X pins σ H s)
  (h:ta σ H fun x H1=>tb σ H1 fun y H2=>R x y H2)
  (hf:∀v u s2 x y H2,Inv X pins σ H2 s2->RelV x v->RelV y u->R x y H2->wpAny (model X.prog X.w) X.A (f v u) Q X.xe s2) :
  wpAny (model X.prog X.w) X.A (eval a X.env) (fun v s₁=>wpAny (model X.prog X.w) X.A (eval b X.env) (fun u s₂=>wpAny (model X.prog X.w) X.A (f v u) Q X.xe s₂) X.xe s₁) X.xe s:=by
 refine thn (ha pins s σ H _ I h) fun v s1⟨x,H1,I1,r1,q1⟩=>?_
 refine thn (hb pins s1 σ H1 _ I1 q1) fun u s2⟨y,H2,I2,r2,q2⟩=>?_
 exact hf v u s2 x y H2 I2 r1 r2 q2
theorem Zo{op:Operator}{r:R2}(ho:OpR X (binaryOp op) r)(ha:PE X a ta)(hb:PE X b tb):PE X (.BinOp a op b pos) (tOp r ta tb):=by
 intro pins s σ H Q I h;exact wpAny_BinOp (binT ha hb I h fun v u s2 x y H2 I2 rx ry q=>ho pins s2 σ H2 x y v u Q I2 rx ry q)
theorem qf3{op:UnaryOp}{r:V->Hp->VK->Prop}(ho:UnR X (unaryOp op) r)(ha:PE X a ta):PE X (.UnaryOp op a pos) (tUn r ta):=by
 intro pins s σ H Q I h;exact UnaryOp_ (thn (ha pins s σ H _ I h) fun v s1⟨x,H1,I1,r1,q1⟩=>ho pins s1 σ H1 x v Q I1 r1 q1)
theorem opI{C:Int->Int->Prop}{g:Int->Int->Int}
  (rule:∀(i j:Int)(t u:Tok)(s:Shared)(Q:fN)(E:fN),C i j->Q (.int (g i j) s.toks) { s with toks:=s.toks+1 }->wpAny (model X.prog X.w) X.A (f (.int i t) (.int j u)) Q E s) :
  OpR X f (rI C fun i j=>.int (g i j)):=by
 intro pins s σ H x y v u Q I rx ry h;obtain⟨i,j,rfl,rfl,hc,q⟩:=h;obtain⟨t,rfl⟩:=rx;obtain⟨t',rfl⟩:=ry;exact rule i j t t' s _ _ hc ⟨.int (g i j),H,I.tok _,⟨_,rfl⟩,q⟩
theorem opI0{g:Int->Int->Int}
  (rule:∀(i j:Int)(t u:Tok)(s:Shared)(Q:fN)(E:fN),Q (.int (g i j) s.toks) { s with toks:=s.toks+1 }->wpAny (model X.prog X.w) X.A (f (.int i t) (.int j u)) Q E s) :
  OpR X f (rI0 fun i j=>.int (g i j)):=by
 intro pins s σ H x y v u Q I rx ry h;obtain⟨i,j,rfl,rfl,q⟩:=h;obtain⟨t,rfl⟩:=rx;obtain⟨t',rfl⟩:=ry;exact rule i j t t' s _ _ ⟨.int (g i j),H,I.tok _,⟨_,rfl⟩,q⟩
theorem opB0{g:Int->Int->Bool}
  (rule:∀(i j:Int)(t u:Tok)(s:Shared)(Q:fN)(E:fN),Q (.bool (g i j)) s->wpAny (model X.prog X.w) X.A (f (.int i t) (.int j u)) Q E s) :
  OpR X f (rI0 fun i j=>.bl (g i j)):=by
 intro pins s σ H x y v u Q I rx ry h;obtain⟨i,j,rfl,rfl,q⟩:=h;obtain⟨t,rfl⟩:=rx;obtain⟨t',rfl⟩:=ry;exact rule i j t t' s _ _ ⟨.bl (g i j),H,I,rfl,q⟩
def CDiv(i j:Int):Prop:=0<j/\j<1073741824
def CPow(i j:Int):Prop:=0<=j/\j<=1000000/\i.natAbs<2 ^ 64
def CMul(i j:Int):Prop:=(-(2 ^ 64)<i/\i<2 ^ 64)\/(-(2 ^ 64)<j/\j<2 ^ 64)
theorem CMul.ok{i j:Int}(h:CMul i j):IntMulOk i j:=by
 rcases h with⟨h1,h2⟩|⟨h1,h2⟩
 ·exact .of_left (intBits_le_64 h1 h2)
 ·exact .of_right (intBits_le_64 h1 h2)
theorem qdx:OpR X (binaryOp .Add) (rI0 fun i j=>.int (i+j)):=opI0 fun _ _ _ _ _ _ _ q=>add_int q
theorem v6:OpR X (binaryOp .Sub) (rI0 fun i j=>.int (i - j)):=opI0 fun _ _ _ _ _ _ _ q=>sub_int q
theorem kW:OpR X (binaryOp .Mult) (rI CMul fun i j=>.int (i * j)):=opI fun _ _ _ _ _ _ _ hc q=>mul_int q hc.ok
theorem Jt:OpR X (binaryOp .FloorDiv) (rI CDiv fun i j=>.int (i / j)):=opI fun i j _ _ _ _ _ hc q=>by
 have h1:(0:Int)<j:=hc.1;have h2:j<1073741824:=hc.2;exact floordiv_int (by omega) (by rw[Int.fdiv_eq_ediv_of_nonneg i (by omega)];exact q) (.inl (PyProof.noPylong_small (by omega)))
theorem zE:OpR X (binaryOp .Mod) (rI (fun _ j=>0<j) fun i j=>.int (i % j)):=opI fun i j _ _ _ _ _ hc q=>by
 have h1:(0:Int)<j:=hc;exact mod_int' (by omega) (by rw[Int.fmod_eq_emod_of_nonneg i (by omega)];exact q)
theorem Zr:OpR X (binaryOp .Pow) (rI CPow fun i j=>.int (i ^ j.toNat)):=opI fun _ _ _ _ _ _ _ hc q=>pow_int_small hc.1 hc.2.1 hc.2.2 q
theorem unI{f:Value->Sem Value}{g:Int->Int}
  (rule:∀(i:Int)(t:Tok)(s:Shared)(Q:fN)(E:fN),Q (.int (g i) s.toks) { s with toks:=s.toks+1 }->wpAny (model X.prog X.w) X.A (f (.int i t)) Q E s) :
  UnR X f (rU fun i=>.int (g i)):=by
 intro pins s σ H x v Q I rx h;obtain⟨i,rfl,q⟩:=h;obtain⟨t,rfl⟩:=rx;exact rule i t s _ _ ⟨.int (g i),H,I.tok _,⟨_,rfl⟩,q⟩
theorem qcm:UnR X (unaryOp .USub) (rU fun i=>.int (-i)):=unI fun _ _ _ _ _ q=>neg_int q
theorem qet{σ:St}{Q:VK}{k k':Bool}(I:Inv X pins σ H s)(q:Q (.bl k) H)(e:k=k'):EP X pins σ Q (.bool k') s:=by
 subst e;exact⟨.bl k,H,I,rfl,q⟩
theorem Js:OpR X (compareOp .Lt) (rI0 fun i j=>.bl (decide (i<j))):=opB0 fun _ _ _ _ _ _ _ q=>lt_int q
theorem Qp:OpR X (compareOp .LtE) (rI0 fun i j=>.bl (decide (i<=j))):=opB0 fun _ _ _ _ _ _ _ q=>le_int q
theorem Yw:OpR X (compareOp .Gt) (rI0 fun i j=>.bl (decide (j<i))):=opB0 fun _ _ _ _ _ _ _ q=>gt_int q
theorem Yx:OpR X (compareOp .GtE) (rI0 fun i j=>.bl (decide (j<=i))):=opB0 fun _ _ _ _ _ _ _ q=>ge_int q
theorem Xs:OpR X (compareOp .Is) (fun x y H Q=>y=.non/\Q (.bl (decide (x=.non))) H):=by
 intro pins s σ H x y v u Q I rx ry h;obtain⟨rfl,q⟩:=h;cases ry;refine is_none_gen (qet I q ?_);cases x <;> first
  |(cases rx;rfl)
  |(obtain⟨t,rfl⟩:=rx;rfl)
theorem OpR.or{r:R2}(h:OpR X f r)(h':OpR X f r'):OpR X f (fun x y H Q=>r x y H Q\/r' x y H Q):=by
 intro pins s σ H x y v u Q I rx ry q;rcases q with q|q
 ·exact h pins s σ H x y v u Q I rx ry q
 ·exact h' pins s σ H x y v u Q I rx ry q
theorem qH(b:Expr)(h:op≠.In:=by decide)(h2:op≠.NotIn:=by decide):behindInMarks op b=false:=by
 have e1:(op == CmpOp.In)=false:=by cases op <;> first|rfl|exact absurd rfl h
 have e2:(op == CmpOp.NotIn)=false:=by cases op <;> first|rfl|exact absurd rfl h2
 cases b <;> simp[behindInMarks,e1,e2]
theorem qa1{r:R2}(ho:OpR X (compareOp op) r)(ha:PE X a ta)(hb:PE X b tb)(hm:behindInMarks op b=false):PE X (.Compare a [op] [b] pos) (tOp r ta tb):=by
 intro pins s σ H Q I h;exact wpAny_Compare1 (binT ha hb I h fun v u s2 x y H2 I2 rx ry q=>ho pins s2 σ H2 x y v u Q I2 rx ry q) hm
def u5(t:TE):TT:=fun σ H Q=>t σ H fun x H'=>∃k,x=.bl k/\Q k H'
theorem Xf{r:R2}(ho:OpR X (compareOp op) r)(ha:PE X a ta)(hb:PE X b tb)(hm:behindInMarks op b=false):PT X (.Compare a [op] [b] pos) (u5 (tOp r ta tb)):=by
 intro pins s σ H Q I h;refine wpAny_isTrue_Compare1 (thn (ha pins s σ H _ I h) fun v s1⟨x,H1,I1,r1,q1⟩=>thn (hb pins s1 σ H1 _ I1 q1) fun u s2⟨y,H2,I2,r2,q2⟩=>
  thn (ho pins s2 σ H2 x y v u _ I2 r1 r2 q2) fun c s3⟨z,H3,I3,r3,k,e,q3⟩=>?_) hm
 subst e;cases r3;exact bB ⟨H3,I3,q3⟩
def VU(r r':R2)(ta tb tc:TE):TE:=fun σ H Q=>ta σ H fun x H1=>tb σ H1 fun y H2=>r x y H2 fun z H3=>∃k,z=.bl k/\
 (if k=true then tc σ H3 fun w' H4=>r' y w' H4 Q else Q (.bl false) H3)
theorem Yt{r:R2}(ho:OpR X (compareOp op) r)(ho':OpR X (compareOp op') r')(ha:PE X a ta)(hb:PE X b tb)(hc:PE X c tc)
  (hm:lastMarks [op,op'] [b,c]=false:=by with_unfolding_all rfl):PE X (.Compare a [op,op'] [b,c] pos) (VU r r' ta tb tc):=by
 intro pins s σ H Q I h;refine Compare_chain (thn (ha pins s σ H _ I h) fun v s1⟨x,H1,I1,r1,q1⟩=>chain_link (thn (hb pins s1 σ H1 _ I1 q1) fun u s2⟨y,H2,I2,r2,q2⟩=>
  thn (ho pins s2 σ H2 x y v u _ I2 r1 r2 q2) fun d s3⟨z,H3,I3,r3,k,e,q3⟩=>?_)) hm
 subst e;cases r3;refine bB ?_;cases k with
 |false=>exact ite_ff ⟨.bl false,H3,I3,rfl,q3⟩
 |true=>exact ite_tt (chain_last (thn (hc pins s3 σ H3 _ I3 q3) fun w' s4⟨z',H4,I4,r4,q4⟩=>ho' pins s4 σ H4 y z' u w' Q I4 r2 r4 q4))
theorem Yd{r:R2}(ho:OpR X (compareOp op) r)(ho':OpR X (compareOp op') r')(ha:PE X a ta)(hb:PE X b tb)(hc:PE X c tc)
  (hm:lastMarks [op,op'] [b,c]=false:=by with_unfolding_all rfl):PT X (.Compare a [op,op'] [b,c] pos) (u5 (VU r r' ta tb tc)):=by
 intro pins s σ H Q I h;refine isTrue_chain (thn (ha pins s σ H _ I h) fun v s1⟨x,H1,I1,r1,q1⟩=>test_link (thn (hb pins s1 σ H1 _ I1 q1) fun u s2⟨y,H2,I2,r2,q2⟩=>
  thn (ho pins s2 σ H2 x y v u _ I2 r1 r2 q2) fun d s3⟨z,H3,I3,r3,k,e,q3⟩=>?_)) hm
 subst e;cases r3;refine bB ?_;cases k with
 |false=>
  obtain⟨k',e',q'⟩:=q3;cases e';exact ite_ff ⟨H3,I3,q'⟩
 |true=>
  refine ite_tt (test_last (thn (hc pins s3 σ H3 _ I3 q3) fun w' s4⟨z',H4,I4,r4,q4⟩=>thn (ho' pins s4 σ H4 y z' u w' _ I4 r2 r4 q4) fun d' s5⟨z2,H5,I5,r5,k2,e2,q5⟩=>?_));subst e2;cases r5;exact bB ⟨H5,I5,q5⟩
def TruV(K:fL)(x:V)(H:Hp)(k:Bool):Prop:=
 match x with
 |.non=>k=false
 |.bl b=>k=b
 |.int i=>k=(i != 0)
 |.str y=>y.length<=sizeLine/\k=((y.length:Int) != 0)
 |.byt y=>y.size<=sizeLine/\k=((y.size:Int) != 0)
 |.ref p=>(∃xs,SqL K H p xs/\k=!xs.isEmpty)\/(∃xs,SqT K H p xs/\k=!xs.isEmpty)\/∃kvs,H p=some (.dK kvs)/\k=!kvs.isEmpty
 |_=>False
theorem Vo{κ:Type}{kvs:List (κ×V)}{vs:List (κ×Value)}(r:KV kvs vs):(!vs.isEmpty)=!kvs.isEmpty:=by
 cases r <;> rfl
theorem yK{xs:List V}{its:fQ}(r:Vals xs its):(!its.toArray.isEmpty)=!xs.isEmpty:=by
 cases r <;> simp
theorem ZC:(sizeLine:Nat)<2 ^ 63:=by rw[eI];decide
theorem jY:TruR X (fun x H Q=>∃k,TruV X.K x H k/\Q k H):=by
 intro pins s σ H x v Q I rx h;obtain⟨k,e,q⟩:=h;have hl:=ZC;have hs:sizeLine=16777216:=eI;cases x with
 |non=>
  cases rx;have e':k=false:=e;subst e';exact truthy_none ⟨H,I,q⟩
 |bl b=>
  cases rx;have e':k=b:=e;subst e';exact bB ⟨H,I,q⟩
 |int i=>
  obtain⟨t,rfl⟩:=rx;have e':k=(i != 0):=e;subst e';exact PySem.P.truthy_int ⟨H,I,q⟩
 |str y=>
  obtain⟨t,rfl⟩:=rx;obtain⟨hy,e'⟩:y.length<=sizeLine/\k=((y.length:Int) != 0):=e;subst e';exact PySem.P.truthy_str (by omega) ⟨H,I.tok _,q⟩
 |byt y=>
  obtain⟨t,rfl⟩:=rx;obtain⟨hy,e'⟩:y.size<=sizeLine/\k=((y.size:Int) != 0):=e;subst e';exact PySem.W.truthy_bytes (by omega) ⟨H,I.tok _,q⟩
 |ref p=>
  cases rx;have e':(∃xs,SqL X.K H p xs/\k=!xs.isEmpty)\/(∃xs,SqT X.K H p xs/\k=!xs.isEmpty)\/∃kvs,H p=some (.dK kvs)/\k=!kvs.isEmpty:=e;rcases e' with⟨xs,hx,e'⟩|⟨xs,hx,e'⟩|⟨kvs,hx,e'⟩
  ·subst e'
   obtain⟨its,r,pl,hz⟩:=I.list hx;have hlen:=r.length;exact wpAny_truthy_list pl.isList (by simp only[av];omega) ⟨H,I.tok _,by rw[yK r];exact q⟩
  ·subst e'
   obtain⟨its,r,pl,hz⟩:=I.tuple hx;have hlen:=r.length;exact truthy_tuple pl (by simp only[av];omega) ⟨H,I.tok _,by rw[yK r];exact q⟩
  ·subst e'
   obtain⟨hz,hS,vs,r,m⟩:kvs.length<=sizeLine/\(p == sysModules)=false/\∃vs,KV kvs vs/\s.heap.DictOf (qF X.prog X.w) p vs:=I.hok p _ hx;have hlen:kvs.length=vs.length:=bX r;exact wpAny_truthy_dict hS m (by omega) ⟨H,I.tok _,by rw[Vo r];exact q⟩
 |_=>exact(show False from e).elim
theorem Kg(ha:PE X a ta)(he:∀whole,isTrue a X.env whole=(do let v <- whole;standAt a.pos;holding [v] (truthy v))) :
  PT X a (fun σ H Q=>ta σ H fun x H'=>∃k,TruV X.K x H' k/\Q k H'):=by
 intro pins s σ H Q I h;exact isTrue_plain (thn (ha pins s σ H _ I h) fun v s1⟨x,H1,I1,r1,q1⟩=>jY pins s1 σ H1 x v Q I1 r1 q1) (he _)
theorem Vc:OpR X (binaryOp .Add) (fun x y H Q=>∃i j,x=.str i/\y=.str j/\i.length+j.length<=sizeLine/\Q (.str (i++j)) H):=by
 intro pins s σ H x y v u Q I rx ry h;obtain⟨i,j,rfl,rfl,hz,q⟩:=h;obtain⟨t,rfl⟩:=rx;obtain⟨t',rfl⟩:=ry;exact add_str (fun t' tk=>⟨.str (i++j),H,I.tok _,⟨_,rfl⟩,q⟩) hz
theorem vals1{x:V}(r:Vals [x] us):∃u,us=[u]/\RelV x u:=by
 cases r with
 |cons r1 r2=>cases r2;exact⟨_,rfl,r1⟩
theorem vals2{x y:V}(r:Vals [x,y] us):∃u w',us=[u,w']/\RelV x u/\RelV y w':=by
 cases r with
 |cons r1 r2=>
  cases r2 with
  |cons r3 r4=>cases r4;exact⟨_,_,rfl,r1,r3⟩
theorem WG:CallR X (.type "int") (fun xs H Q=>(∃i,xs=[.int i]/\Q (.int i) H)\/∃k,xs=[.bl k]/\Q (.int (if k then 1 else 0)) H):=by
 intro pins s σ H xs us Q I r h;rcases h with⟨i,rfl,q⟩|⟨k,rfl,q⟩
 ·obtain⟨u,rfl,t,rfl⟩:=vals1 r
  exact call_int_int ⟨.int i,H,I,⟨_,rfl⟩,q⟩
 ·obtain⟨u,rfl,r1⟩:=vals1 r
  cases r1;exact call_int_bool ⟨.int (if k then 1 else 0),H,I.tok _,⟨_,rfl⟩,q⟩
def LenV(K:fL)(x:V)(H:Hp)(n:Nat):Prop:=
 match x with
 |.str y=>y.length<=sizeLine/\n=y.length
 |.byt y=>y.size<=sizeLine/\n=y.size
 |.ref p=>(∃xs,SqL K H p xs/\n=xs.length)\/∃xs,SqT K H p xs/\n=xs.length
 |_=>False
theorem KU:CallR X (.builtin "len") (fun xs H Q=>∃x n,xs=[x]/\LenV X.K x H n/\Q (.int n) H):=by
 intro pins s σ H xs us Q I r h;obtain⟨x,n,rfl,e,q⟩:=h;obtain⟨u,rfl,rx⟩:=vals1 r;have hl:=ZC;have hs:sizeLine=16777216:=eI;cases x with
 |str y=>
  obtain⟨t,rfl⟩:=rx;obtain⟨hy,e'⟩:y.length<=sizeLine/\n=y.length:=e;subst e';exact len_str (by omega) ⟨.int _,H,I.tok _,⟨_,rfl⟩,q⟩
 |byt y=>
  obtain⟨t,rfl⟩:=rx;obtain⟨hy,e'⟩:y.size<=sizeLine/\n=y.size:=e;subst e';exact PySem.W.len_bytes (by omega) ⟨.int _,H,I.tok _,⟨_,rfl⟩,q⟩
 |ref p=>
  cases rx;have e':(∃xs,SqL X.K H p xs/\n=xs.length)\/∃xs,SqT X.K H p xs/\n=xs.length:=e;rcases e' with⟨xs,hx,e'⟩|⟨xs,hx,e'⟩
  ·subst e'
   obtain⟨its,r',pl,hz⟩:=I.list hx;have hlen:=r'.length;exact Calls.call_len_list pl.isList (by simp only[av];omega) ⟨.int xs.length,H,I.tok _,⟨_,by simp only[av];rw[hlen]⟩,q⟩
  ·subst e'
   obtain⟨its,r',pl,hz⟩:=I.tuple hx;have hlen:=r'.length;exact len_tuple pl (by simp only[av];omega) ⟨.int xs.length,H,I.tok _,⟨_,by simp only[av];rw[hlen]⟩,q⟩
 |_=>exact(show False from e).elim
end
structure ObjM(h:Heap)(x dx C:Addr)(mA:fO):Prop where
 obj:h.get? x=some (PySem.W.instObj C dx)
 ns:h.Ns1 dx mA
 ne:dx≠x
theorem XJ(n:h.Ns1 dx mA):∃od,h.get? dx=some od/\∀name,PySem.W.lookIn name od=some (mA name):=by
 obtain⟨o,es,ep,ho,hd,hk,_,hm⟩:=n;refine⟨o,ho,fun name=>?_⟩;have e:=hm name;unfold nsFind findBy at e;rw[<- Array.find?_toList]at e;unfold PySem.W.lookIn;rw[hd];dsimp only
 split
 ·rename_i y q
  rw[q]at e;exact bU some e
 ·rename_i q
  rw[q]at e;have a:es.toList.any (·.refKey)=false:=by
   rw[List.any_eq_false];intro y hy;obtain⟨z,t,hkey⟩:=hk y (Array.mem_toList_iff.mp hy);simp[DictEntry.refKey,hkey]
  have a':¬ es.toList.any (·.refKey)=true:=by rw[a];exact cn
  rw[aG a'];exact bU some e
theorem ObjM.look{x:Addr}(I:ObjM h x dx C mA):∃od,PySem.W.InstAt h x (PySem.W.instObj C dx) C (some od)/\∀name,PySem.W.lookIn name od=some (mA name):=
 let⟨od,ho,hl⟩:=XJ I.ns
 ⟨od,⟨I.obj,rfl,rfl,ho⟩,hl⟩
section
variable{prog:Program}{w:World}{A:Around}{E:fN}{s:Shared}{K:fL}{x dx C f:Addr}{mA:fO}{name:Str}{v:Value}
theorem get_map{expr:Bool}(X:K.In s.heap)(I:ObjM s.heap x dx C mA)(hg:PySem.W.plainGet K C name=true)(hh:PySem.W.hasDictIn K C=true)
  (ha:PySem.W.findIn K (.ref C) name=some none)(hv:mA name=some v)(hv':PySem.W.handedIn v=true)(h:Q v { s with toks:=s.toks+1 }) :
  wpAny (model prog w) A (getAttr (.ref x) name expr) Q E s:=by
 obtain⟨od,J,hl⟩:=I.look;exact PySem.W.get_value X J (eJ hg).1 (PySem.W.findObj_own hh ha rfl (by rw[hl,hv])) hv' h
theorem YZ{Q:Value×fQ->Shared->Prop}(X:K.In s.heap)(I:ObjM s.heap x dx C mA)(hg:PySem.W.plainGet K C name=true)
  (hf:PySem.W.findIn K (.ref C) name=some (some (.ref f)))(ht:PySem.W.isFn K (.ref f)=true)(hv:mA name=none)(h:Q (.ref f,[.ref x]) s) :
  wpAny (model prog w) A (getMethod (.ref x) name pl) Q E s:=by
 obtain⟨od,J,hl⟩:=I.look;exact PySem.W.method_fn X J (eJ hg).1 (eJ hg).2 hf (bS.mp ht) (by show(PySem.W.lookIn name od).map (·.isSome)=some false;rw[hl,hv];rfl) h
theorem qac{ns:fT}{Q:Unit->Shared->Prop}(X:K.In s.heap)(I:ObjM s.heap x dx C mA)
  (hs:PySem.W.findIn K (.ref C) "__setattr__"=some (some (.builtin "object.__setattr__")))(hp:PySem.W.plainOver K C=true)(ht:PySem.W.takerIn K C name=some none)(hh:PySem.W.hasDictIn K C=true)
  (hw:PySem.Within mA ns)(hsz:ns.length<=sizeLine)
  (h:∀h',ObjM h' x dx C (fun y=>if y=name then some v else mA y)->Heap.SameBut dx s.heap h'->Q () { s with heap:=h',toks:=s.toks+2 }) :
  wpAny (model prog w) A (setAttr (.ref x) name v) Q E s:=by
 obtain⟨od,J,hl⟩:=I.look;refine PySem.W.set_plain X J hs (PySem.W.osa_open (s:={ s with toks:=s.toks+1 }) (r:=none) X J hp ht fun b=>?_);obtain⟨cd,hc,hd'⟩:=PySem.W.any_some hh;have hx:s.heap.get? x=some ⟨.ref C,some dx,.plain,#[]⟩:=I.obj;refine ae (ax (ae (ae (wpAny_loadPart hx (ae (PySem.W.Looks.here (s:={ s with toks:=s.toks+1 }) (PySem.W.looks_clsIn X hc) ?_))))));rw[hd'];refine ax (a:=some dx) (ae (ax (ae ?_)));refine wpAny_nsSet1 (s:={ s with toks:=s.toks+1 }) I.ns fun h' hn2 hs2=>?_
 obtain⟨oD,esD,epD,hoD,hdD,hcD⟩:=hn2.count (PySem.Within.cons name v hw);refine ae (wpAny_lookBehind hoD (by rw[hdD];exact pastItsLine_dict (aW hcD (by rw[ao];omega))) ?_);exact ax (h _ ⟨(hs2.2 _ (bc I.ne)).trans I.obj,hn2,I.ne⟩ hs2)
theorem YL{R:Result->Shared->Prop}{vs:fQ}(X:K.In s.heap)(hm:PySem.W.makesIn K C=true)
  (hi:PySem.W.findIn K (.ref C) "__init__"=some (some (.ref f)))(hf:PySem.W.typeIn K (.ref f)=some (.type "function"))
  (h:codeAny (model prog w) (A.under (.builtin "type.__call__" ⟨.ref C::vs,kw⟩)) (.call (.ref f) ⟨.ref (s.heap.objs.size+1)::vs,kw⟩) (PySem.W.InitBack (s.heap.objs.size+1) R)
   { s with heap:=(s.heap.push PySem.W.emptyDict).push (PySem.W.instObj C s.heap.objs.size) }) :
  codeAny (model prog w) A (.call (.ref C) ⟨vs,kw⟩) R s:=by
 obtain⟨hh,g,d,t,os⟩:=s;exact PySem.W.make_core (PySem.W.makes_of X hm) (dY X hi) (fun self=>PySem.W.bind_fn X self hf) (.inl rfl) h
end
def putF(f:Str)(v:V):List (Str×V)->List (Str×V)
 |[]=>[(f,v)]
 |(g,x)::r=>if g=f then(g,v)::r else(g,x)::putF f v r
theorem ya(f g:Str)(v:V):∀fs:List (Str×V),(putF f v fs).lookup g=if g=f then some v else fs.lookup g
 |[]=>by
  show List.lookup g [(f,v)]=_
  by_cases h:g=f
  ·have hb:(g == f)=true:=bS.mpr h
   simp only[List.lookup,hb,aH h]
  ·have hb:(g == f)=false:=bJ.mpr h
   simp only[List.lookup,hb,aG h]
 |(k,x)::r=>by
  have ih:=ya f g v r;rw[show putF f v ((k,x)::r)=(if k=f then(k,v)::r else(k,x)::putF f v r)from rfl]
  by_cases hk:k=f
  ·rw[aH hk]
   by_cases h:g=k
   ·have hb:(g == k)=true:=bS.mpr h
    simp only[List.lookup,hb,aH (h.trans hk)]
   ·have hb:(g == k)=false:=bJ.mpr h
    simp only[List.lookup,hb,aG (fun e:g=f=>h (e.trans hk.symm))]
  ·rw[aG hk]
   by_cases h:g=k
   ·have hb:(g == k)=true:=bS.mpr h
    simp only[List.lookup,hb,aG (fun e:g=f=>hk (h.symm.trans e))]
   ·have hb:(g == k)=false:=bJ.mpr h
    simp only[List.lookup,hb];exact ih
theorem yd(f:Str)(v:V):∀fs:List (Str×V),f∈(putF f v fs).map (·.1)/\∀g,g∈fs.map (·.1)->g∈(putF f v fs).map (·.1)
 |[]=>⟨by simp[putF],fun g h=>by simp at h⟩
 |(k,x)::r=>by
  obtain⟨i1,i2⟩:=yd f v r;rw[show putF f v ((k,x)::r)=(if k=f then(k,v)::r else(k,x)::putF f v r)from rfl]
  by_cases hk:k=f
  ·rw[aH hk]
   subst hk;exact⟨by simp,fun g h=>by simpa using h⟩
  ·rw[aG hk]
   refine⟨?_,fun g h=>?_⟩
   ·rw[a9]
    exact aD _ i1
   ·rw[a9]at h ⊢
    rcases ah.mp h with e|e
    ·exact ah.mpr (.inl e)
    ·exact aD _ (i2 g e)
theorem yb(f:Str)(v:V):∀fs:List (Str×V),(putF f v fs).length<=fs.length+1
 |[]=>by simp[putF]
 |(k,x)::r=>by
  have ih:=yb f v r;rw[show putF f v ((k,x)::r)=(if k=f then(k,v)::r else(k,x)::putF f v r)from rfl]
  by_cases hk:k=f
  ·rw[aH hk,ao,ao];omega
  ·rw[aG hk,ao,ao];omega
theorem RelO.some_of{o:Option Value}(r:RelO (some v) o):∃u,o=some u/\RelV v u:=by
 cases o with
 |none=>exact(show False from r).elim
 |some u=>exact⟨u,rfl,r⟩
theorem RelO.none_of{o:Option Value}(r:RelO none o):o=none:=by
 cases o with
 |none=>rfl
 |some u=>exact(show False from r).elim
theorem X3(r:RelV v u):PySem.W.handedIn u=true:=by
 cases v with
 |non=>cases (show u=Value.none from r);rfl
 |bl b=>cases (show u=Value.bool b from r);rfl
 |int i=>obtain⟨t,e⟩:=(show ∃t,u=Value.int i t from r);cases e;rfl
 |str x=>obtain⟨t,e⟩:=(show ∃t,u=Value.str x t from r);cases e;rfl
 |byt b=>obtain⟨t,e⟩:=(show ∃t,u=Value.bytes b t from r);cases e;rfl
 |flt b=>obtain⟨t,e⟩:=(show ∃t,u=Value.float b t from r);cases e;rfl
 |ref a=>cases (show u=Value.ref a from r);rfl
 |ty n=>cases (show u=Value.type n from r);rfl
section
variable{P:Program}{w:World}{H H':Hp}{h h':Heap}{a C dx:Addr}{fs fs':List (Str×V)}
theorem QE(hok:HOk P w H h)(e:H a=some (.ins C dx fs)):∃mA,ObjM h a dx C mA/\(∀f,RelO (fs.lookup f) (mA f))/\PySem.Within mA (fs.map (·.1))/\fs.length<=1000/\H dx=some (.own a):=by
 obtain⟨d,z,ne,ob,mA,n,r,q⟩:=(show ObjOk P w H h a (.ins C dx fs)from hok a _ e);exact⟨mA,⟨ob,n,ne⟩,r,q,z,d⟩
end
structure Cls(K:fL)(C:Addr):Prop where
 pg:PySem.W.plainGet K C Str.empty=true
 hd:PySem.W.hasDictIn K C=true
 po:PySem.W.plainOver K C=true
 sa:PySem.W.findIn K (.ref C) "__setattr__"=some (some (.builtin "object.__setattr__"))
theorem Cls.get(c:Cls K C)(f:Str):PySem.W.plainGet K C f=true:=c.pg
def NoAttr(K:fL)(C:Addr)(f:Str):Prop:=PySem.W.findIn K (.ref C) f=some none
theorem NoAttr.taker{f:Str}(n:NoAttr K C f):PySem.W.takerIn K C f=some none:=by
 unfold PySem.W.takerIn;rw[show PySem.W.findIn K (.ref C) f=some none from n];rfl
structure Meth(K:fL)(C:Addr)(m:Str)(f:Addr):Prop where
 at_:PySem.W.findIn K (.ref C) m=some (some (.ref f))
 fn:PySem.W.isFn K (.ref f)=true
 kp:PySem.W.keepIn K (.ref f)=true
section
variable{X:Cx}{pins:fM}{σ:St}{H:Hp}{s:Shared}{a C dx:Addr}{fs:List (Str×V)}{f:Str}{v:V}{A:Around}{E:fN}
theorem Vv{b:Bool}(I:Inv X pins σ H s)(e:H a=some (.ins C dx fs))(c:Cls X.K C)(n:NoAttr X.K C f)(l:fs.lookup f=some v)
  (h:∀u s',Inv X pins σ H s'->RelV v u->Q u s'):wpAny (model X.prog X.w) A (getAttr (.ref a) f b) Q E s:=by
 obtain⟨mA,O,r,_,_,_⟩:=QE I.hok e;obtain⟨u,hu,ru⟩:=RelO.some_of (v:=v) (o:=mA f) (by rw[<- l];exact r f);exact get_map I.kIn O (c.get f) c.hd n hu (X3 ru) (h u _ (I.tok _) ru)
theorem xG{m:Str}{g:Addr}{Q:Value×fQ->Shared->Prop}(I:Inv X pins σ H s)(e:H a=some (.ins C dx fs))(c:Cls X.K C)(k:Meth X.K C m g)(l:fs.lookup m=none)
  (h:Q (.ref g,[.ref a]) s):wpAny (model X.prog X.w) A (getMethod (.ref a) m pl) Q E s:=by
 obtain⟨mA,O,r,_,_,_⟩:=QE I.hok e;have hn:mA m=none:=RelO.none_of (by rw[<- l];exact r m);exact YZ I.kIn O (c.get m) k.at_ k.fn hn h
theorem K8{y:V}{Q:Unit->Shared->Prop}(I:Inv X pins σ H s)(e:H a=some (.ins C dx fs))(c:Cls X.K C)(n:NoAttr X.K C f)(hl:fs.length<1000)(ry:RelV y u)
  (h:∀s',Inv X pins σ (upd H a (.ins C dx (putF f y fs))) s'->Q () s'):wpAny (model X.prog X.w) A (setAttr (.ref a) f u) Q E s:=by
 obtain⟨mA,O,r,wi,_,ho⟩:=QE I.hok e;have hz:(fs.map (·.1)).length<=sizeLine:=by rw[ak,eI];omega
 refine qac I.kIn O c.sa c.po n.taker c.hd wi hz fun h' O' sb=>h _ ?_
 have hd:∃o,h'.get? dx=some o:=let⟨o,_,_,e',_⟩:=O'.ns;⟨o,e'⟩;refine I.write (x:=a) (e:=dx) (by rw[e];exact True.intro) (.inr ho) (fun b q hb z=>(sb.2 b hb).trans z) hd ?_;refine⟨by rw[qf O.ne];exact ho,?_,O.ne,O'.obj,_,O'.ns,fun g=>?_,fun g hg=>?_⟩
 ·have:=yb f y fs;omega
 ·show RelO ((putF f y fs).lookup g) (if g=f then some u else mA g)
  rw[ya]
  by_cases q:g=f
  ·rw[aH q,aH q];exact ry
  ·rw[aG q,aG q];exact r g
 ·by_cases q:g=f
  ·rw[q];exact(yd f y fs).1
  ·refine(yd f y fs).2 g (wi g fun z=>hg ?_)
   show(if g=f then some u else mA g)=none;rw[aG q];exact z
theorem Inv.made(I:Inv X pins σ H s):Inv X pins σ (upd (upd H s.heap.objs.size (.own (s.heap.objs.size+1))) (s.heap.objs.size+1) (.ins C s.heap.objs.size []))
  { s with heap:=(s.heap.push PySem.W.emptyDict).push (PySem.W.instObj C s.heap.objs.size) }:=by
 have e1:(s.heap.push PySem.W.emptyDict).get? s.heap.objs.size=some PySem.W.emptyDict:=a7 s.heap rfl;have e2:((s.heap.push PySem.W.emptyDict).push (PySem.W.instObj C s.heap.objs.size)).get? (s.heap.objs.size+1)=some (PySem.W.instObj C s.heap.objs.size):=by
  have:=a7 (s.heap.push PySem.W.emptyDict) (o:=PySem.W.instObj C s.heap.objs.size) rfl
  rwa [Heap.size_push]at this
 have e3:(s.heap.push PySem.W.emptyDict).Ns s.heap.objs.size (fun _=>none):=⟨PySem.W.emptyDict,#[],_,e1,rfl,(fun e he=>absurd he (by simp)),fun _=>rfl⟩;have I1:=I.laid (a:=s.heap.objs.size) (o:=.own (s.heap.objs.size+1)) (h':=s.heap.push PySem.W.emptyDict) (t':=s.toks) (fun b u q=>ag _ q) (aj _) ⟨_,e1⟩;refine I1.laid (a:=s.heap.objs.size+1) (o:=.ins C s.heap.objs.size []) (t':=s.toks) (fun b u q=>ag _ q) (Nat.le_of_eq (Heap.size_push _ _)) ?_;have ne:s.heap.objs.size≠s.heap.objs.size+1:=aI (cQ _);refine⟨by rw[qf ne,qi],bW _,ne,e2,fun _=>none,(Heap.Ns1.of_empty e3).at fun o q=>ag _ q,fun _=>True.intro,fun y hy=>absurd rfl hy⟩
theorem qcd{f:Str}{s:Shared}(hb:attributeBase e f env (eval e env)=eval e env)
  (h:wpAny (model prog w) A (eval e env) (fun o s₁=>wpAny (model prog w) A (getAttr o f true) Q E s₁) E s):wpAny (model prog w) A (eval (.Attribute e f pos) env) Q E s:=
 Attribute_any_ h (by rw[arm_eval_Attribute,hb])
end
def tFld(K:fL)(ta:TE)(f:Str):TE:=fun σ H Q=>ta σ H fun x H1=>∃a C dx fs v,x=.ref a/\H1 a=some (.ins C dx fs)/\Cls K C/\NoAttr K C f/\fs.lookup f=some v/\Q v H1
def sFld(K:fL)(ta tv:TE)(f:Str):TS:=fun D σ H=>tv σ H fun y H1=>ta σ H1 fun x H2=>∃a C dx fs,x=.ref a/\H2 a=some (.ins C dx fs)/\Cls K C/\NoAttr K C f/\fs.length<1000/\
 D.nx σ (upd H2 a (.ins C dx (putF f y fs)))
section
variable{X:Cx}{o e value:Expr}{f:Str}{pos pos' tpos:Pos}{ta tv:TE}
theorem qdt(he:PE X e ta)(hb:attributeBase e f X.env (eval e X.env)=eval e X.env):PE X (.Attribute e f pos) (tFld X.K ta f):=by
 intro pins s σ H Q I h;refine qcd hb (thn (he pins s σ H _ I h) fun u s1⟨x,H1,I1,rx,a,C,dx,fs,v,ex,ea,c,n,l,q⟩=>?_);subst ex;obtain rfl:u=Value.ref a:=rx;exact Vv I1 ea c n l fun u' s2 I2 ru=>⟨v,H1,I2,ru,q⟩
theorem qdj(ha:PE X o ta)(hv:PE X value tv)(hs:swapsWith value (some (.Attribute o f pos')) pos.line X.env=pure false):PS X (.Assign [.Attribute o f pos'] value pos) (sFld X.K ta tv f):=by
 intro pins s σ H D I h;refine plainObj_wpAny_Assign_Attribute (thn (hv pins s σ H _ I h) fun u s1⟨y,H1,I1,ry,q⟩=>thn (ha pins s1 σ H1 _ I1 q) fun ov s2⟨x,H2,I2,rx,a,C,dx,fs,ex,ea,c,n,l,q2⟩=>?_) hs;subst ex;obtain rfl:ov=Value.ref a:=rx;exact K8 I2 ea c n l ry fun s3 I3=>⟨σ,_,I3,q2⟩
end
section
variable{X:Cx}{pins:fM}{σ:St}{H:Hp}{s:Shared}{A:Around}{E:fN}{Q:fN}{c:Value}{b:Bool}
inductive TyOf(K:fL)(H:Hp):V->Value->Prop where
 |non:TyOf K H .non (.type "NoneType")
 |bl (x:Bool):TyOf K H (.bl x) (.type "bool")
 |int (i:Int):TyOf K H (.int i) (.type "int")
 |str (x:Str):TyOf K H (.str x) (.type "str")
 |flt (x:UInt64):TyOf K H (.flt x) (.type "float")
 |lst {a:Addr} {xs:List V} (e:H a=some (.lst xs)):TyOf K H (.ref a) (.type "list")
 |frz {a:Addr} {o:Obj} {xs:List V} (e:H a=some (.frz o (.lst xs))):TyOf K H (.ref a) (.type "list")
 |tup {a:Addr} {xs:List V} (e:H a=some (.tup xs)):TyOf K H (.ref a) (.type "tuple")
 |dK {a:Addr} {kvs:List (Key×V)} (e:H a=some (.dK kvs)):TyOf K H (.ref a) (.type "dict")
 |dT {a:Addr} {kvs:List (List Key×V)} (e:H a=some (.dT kvs)):TyOf K H (.ref a) (.type "dict")
 |ins {a C dx:Addr} {fs:List (Str×V)} (e:H a=some (.ins C dx fs)) (cl:Cls K C) (ha:PySem.W.findIn K (.ref C) "__class__"=some (some (.builtin "object.__class__")))
   (hn:PySem.W.specialIn K (.builtin "object.__class__") "__get__"=some (some (.builtin "getset_descriptor.__get__"))) (htk:PySem.W.takesIn K (.builtin "object.__class__")=some true)
   (hm:PySem.W.mroIn K C (.type "object")=some true):TyOf K H (.ref a) (.ref C)
theorem XS{x:V}{t:Value}(I:Inv X pins σ H s)(rx:RelV x u)(ty:TyOf X.K H x t)(e:PySem.W.kitOne X.K t c=some b)(h:∀tk,Q (.bool b) { s with toks:=tk }) :
  wpAny (model X.prog X.w) A (call (.builtin "isinstance") [u,c]) Q E s:=by
 cases ty with
 |non=>cases (show u=Value.none from rx);exact bu PySem.W.kitx_none I.kIn True.intro e (fun z=>nomatch z) h
 |bl y=>cases (show u=Value.bool y from rx);exact bu PySem.W.kitx_bool I.kIn True.intro e (fun z=>nomatch z) h
 |int i=>obtain⟨t,q⟩:=(show ∃t,u=Value.int i t from rx);cases q;exact bu PySem.W.kitx_int I.kIn True.intro e (fun z=>nomatch z) h
 |str y=>obtain⟨t,q⟩:=(show ∃t,u=Value.str y t from rx);cases q;exact bu PySem.W.kitx_str I.kIn True.intro e (fun z=>nomatch z) h
 |flt y=>obtain⟨t,q⟩:=(show ∃t,u=Value.float y t from rx);cases q;exact bu PySem.W.kitx_float I.kIn True.intro e (fun z=>nomatch z) h
 |@lst a xs ea=>
  cases (show u=Value.ref a from rx);obtain⟨_,_,n,_,h1⟩:=(show ObjOk X.prog X.w H s.heap a (.lst xs)from I.hok a _ ea);exact bu dC I.kIn ⟨_,h1,rfl⟩ e (fun z=>nomatch z) h
 |@frz a ob xs ea=>
  cases (show u=Value.ref a from rx);obtain⟨_,_,_,n,_,h1⟩:=(show ObjOk X.prog X.w H s.heap a (.frz ob (.lst xs))from I.hok a _ ea);exact bu dC I.kIn ⟨_,h1,rfl⟩ e (fun z=>nomatch z) h
 |@tup a xs ea=>
  cases (show u=Value.ref a from rx);obtain⟨_,_,_,p⟩:=(show ObjOk X.prog X.w H s.heap a (.tup xs)from I.hok a _ ea);obtain⟨o,h1,h2,_⟩:=p;exact bu PySem.W.kitx_tuple I.kIn ⟨o,h1,h2⟩ e (fun z=>nomatch z) h
 |@dK a kvs ea=>
  cases (show u=Value.ref a from rx);obtain⟨_,_,vs,_,p⟩:=(show ObjOk X.prog X.w H s.heap a (.dK kvs)from I.hok a _ ea);obtain⟨o,es,ep,h1,h2,_⟩:=p;exact bu dD I.kIn ⟨o,h1,h2.1⟩ e (fun z=>nomatch z) h
 |@dT a kvs ea=>
  cases (show u=Value.ref a from rx);obtain⟨_,_,xs,_,o,es,ep,h1,h2,_⟩:=(show ObjOk X.prog X.w H s.heap a (.dT kvs)from I.hok a _ ea);exact bu dD I.kIn ⟨o,h1,h2.1⟩ e (fun z=>nomatch z) h
 |@ins a C dx fs ea cl ha hn htk hm=>
  cases (show u=Value.ref a from rx);obtain⟨mA,O,_⟩:=QE I.hok ea;obtain⟨od,J,_⟩:=O.look;exact bu (PySem.W.kitx_own (cl.get _) cl.hd ha hn htk hm) I.kIn J e (fun z=>nomatch z) h
end
structure Room(k:Nat)(A:Around):Prop where
 hd:A.handled=none
 dp:A.depth+3 * k+5<recursionLimit
 un:A.units+16 * k+200<cLine
theorem Room.mono{j k:Nat}(r:Room k A)(h:j<=k):Room j A:=⟨r.hd,by have:=r.dp;omega,by have:=r.un;omega⟩
theorem Room.deeper{k:Nat}{A:Around}(r:Room (k+1) A)(env:Env):Room k (A.deeper env):=
 ⟨r.hd,by have:=r.dp;show A.depth+1+3 * k+5<_;omega,by have:=r.un;show A.units+3+16 * k+200<_;omega⟩
theorem Vh:(A.under (.builtin "type.__call__" ⟨.ref C::us,kw⟩)).depth=A.depth+1:=by
 first|rfl|simp[Around.under,Code.weight,Code.isCreation,Code.isGuard,Code.isCaller,Code.frames,Code.isFrame,guardIds]
theorem Vg:(A.under (.builtin "type.__call__" ⟨.ref C::us,kw⟩)).units=A.units+1:=by
 first|rfl|simp[Around.under,Code.cUnits,Code.frames,Code.isFrame]
theorem Room.make{k:Nat}(r:Room (k+1) A)(C:Addr)(us:fQ)(kw:List (Str×Value)):Room k (A.under (.builtin "type.__call__" ⟨.ref C::us,kw⟩)):=
 ⟨r.hd,by have:=r.dp;rw[Vh];omega,by have:=r.un;rw[Vg];omega⟩
theorem Room.depth{k:Nat}{A:Around}(r:Room k A):A.depth<recursionLimit:=by have:=r.dp;omega
theorem Room.units{k:Nat}{A:Around}(r:Room k A):A.units+64<cLine:=by have:=r.un;omega
def tNil:TA:=fun _ H Q=>Q [] H
def u7(ta:TE)(tr:TA):TA:=fun σ H Q=>ta σ H fun x H1=>tr σ H1 fun xs H2=>Q (x::xs) H2
section
variable{X:Cx}{e:Expr}{es:fU}{te:TE}{t:TA}{pos:Pos}
theorem zt:PA X [] tNil:=fun _ _ _ _ H Q I h=>cD ⟨[],H,I,.nil,h⟩
theorem qr(ha:PE X e te)(hr:PA X es t)(hs:starEach (e::es) X.env=(false,eval e X.env)::starEach es X.env:=by rfl):PA X (e::es) (u7 te t):=by
 intro pos pins s σ H Q I h;rw[hs];show wpAny _ _ (spliced ((false,eval e X.env)::backTo pos (starEach es X.env))) _ _ s;refine bG (thn (ha pins s σ H _ I h) fun u s1⟨x,H1,I1,r1,q1⟩=>?_);exact thn (hr pos pins s1 σ H1 _ I1 q1) fun us s2⟨xs,H2,I2,r2,q2⟩=>⟨x::xs,H2,I2,.cons r1 r2,q2⟩
def tTup(t:TA):TE:=fun σ H Q=>t σ H fun xs H1=>xs.length<=sizeLine/\∀p,H1 p=none->Q (.ref p) (upd H1 p (.tup xs))
def tLst(t:TA):TE:=fun σ H Q=>t σ H fun xs H1=>xs.length<=sizeLine/\∀p,H1 p=none->Q (.ref p) (upd H1 p (.lst xs))
theorem Xm{x1}(h:PA X es t):PE X (.Tuple es x1 pos) (tTup t):=by
 intro pins s σ H Q I hq;refine wpAny_Tuple_spliced (thn (h pos pins s σ H _ I hq) fun us s1⟨xs,H1,I1,r,z,q⟩=>⟨by rw[<- r.length];exact z,?_⟩);have hf:H1 s1.heap.objs.size=none:=I1.hok.fresh (aj _);refine⟨.ref s1.heap.objs.size,upd H1 s1.heap.objs.size (.tup xs),I1.laid (t':=s1.toks) (fun b u e=>ag _ e) (aj _) ?_,rfl,q _ hf⟩;exact⟨z,us,r,⟨_,a7 _ rfl,rfl,_,rfl⟩⟩
theorem xW(h:PA X es t):PE X (.List es pos) (tLst t):=by
 intro pins s σ H Q I hq;refine wpAny_List_spliced (thn (h pos pins s σ H _ I hq) fun us s1⟨xs,H1,I1,r,z,q⟩=>⟨by rw[<- r.length];exact z,?_⟩);have hf:H1 s1.heap.objs.size=none:=I1.hok.fresh (aj _);refine⟨.ref s1.heap.objs.size,upd H1 s1.heap.objs.size (.lst xs),I1.laid (t':=s1.toks) (fun b u e=>ag _ e) (aj _) ?_,rfl,q _ hf⟩;exact⟨z,us,0,r,a7 _ rfl⟩
end
abbrev Sp:=List V->Hp->VK->XK->Prop
abbrev CXT:=List Env->Hp->Shared->XK->fN
structure Env0(P:Program)(w:World)(K:fL)(mg:fO)(base:Heap)(A:Around)(outer:List Env)(s:Shared)(H:Hp):Prop where
 frames:A.frames=some outer
 mod:Mod K mg base
 bs:∀b o,base.get? b=some o->s.heap.get? b=some o/\H b=none
 bsz:base.objs.size<=s.heap.objs.size
 funs:s.heap.FunFrames base outer
 frf:∀b∈frs outer,H b=none
 hok:HOk P w H s.heap
 bare:AllBare s.gens
def CE(outer:List Env)(P:Program)(w:World)(H:Hp)(s:Shared)(Q:VK)(u:Value)(s':Shared):Prop:=
 ∃v H',s'.os=s.os/\AllBare s'.gens/\Un (frs outer) [] H H' s.heap s'.heap/\HOk P w H' s'.heap/\RelV v u/\Q v H'
def CR(CX:CXT)(outer:List Env)(P:Program)(w:World)(H:Hp)(s:Shared)(Q:VK)(E:XK)(r:Result)(s':Shared):Prop:=
 match r with
 |.ok (.ret u)=>CE outer P w H s Q u s'
 |.ok _=>False
 |.error e=>CX outer H s E e s'
structure FnOk(P:Program)(w:World)(K:fL)(mg:fO)(base:Heap)(CX:CXT)(k:Nat)(f:Addr)(fd:FuncData)(ps:fT)(sp:Sp):Prop where
 len:∀vs H Q E,sp vs H Q E->vs.length=ps.length
 run:∀(A:Around)(outer:List Env)(s:Shared)(H:Hp)(args:Args)(us:fQ)(vs:List V)(Q:VK)(E:XK),Room k A->Env0 P w K mg base A outer s H->BindsTo s fd args (ps.zip us)->Vals vs us->sp vs H Q E->
  codeAny (model P w) A (.call (.ref f) args) (CR CX outer P w H s Q E) s
theorem FnOk.imp{k:Nat}{f:Addr}{sp':Sp}(F:FnOk P w K mg base CX k f fd ps sp)
  (h:∀vs H Q E,sp' vs H Q E->sp vs H Q E):FnOk P w K mg base CX k f fd ps sp':=
 ⟨fun vs H Q E q=>F.len vs H Q E (h _ _ _ _ q),fun A outer s H args us vs Q E hr he hb hv hs=>F.run A outer s H args us vs Q E hr he hb hv (h _ _ _ _ hs)⟩
theorem Env0.make(e:Env0 P w K mg base A outer s H)(C:Addr)(us:fQ)(kw:List (Str×Value)) :
  Env0 P w K mg base (A.under (.builtin "type.__call__" ⟨.ref C::us,kw⟩)) outer s H:=⟨by first|exact e.frames|(simpa[Around.under,Code.envs,Code.isFrame,pushEnvs] using e.frames),e.mod,e.bs,e.bsz,e.funs,e.frf,e.hok,e.bare⟩
section
variable{X:Cx}{pins:fM}{σ:St}{H:Hp}{s s':Shared}
theorem Inv.env0(I:Inv X pins σ H s):Env0 X.prog X.w X.K X.mg X.base X.A X.stack s H:=
 ⟨I.ok.frames,I.ok.mod,I.bs,aW I.ok.bsz I.sz,I.stack,I.stkFree,I.hok,I.bare⟩
theorem Inv.after{Q:VK}(I:Inv X pins σ H s)(h:CE X.stack X.prog X.w H s Q u s'):EP X pins σ Q u s':=by
 obtain⟨v,H',os,bare,un,hok,r,q⟩:=h;obtain⟨hh,g,d,t,os'⟩:=s';obtain rfl:os'=s.os:=os;exact⟨v,H',I.call (h':=hh) (g':=g) (d':=d) (t':=t) (ch:=[]) un hok bare (fun b z=>absurd z (by simp)),r,q⟩
end
def qc0(sp:Sp)(dvs:List V)(E:XK)(t:TA):TE:=fun σ H Q=>t σ H fun vs H1=>sp (vs++dvs) H1 Q E
def qct(C:Addr)(m:Str)(sp:Sp)(dvs:List V)(E:XK)(ta:TE)(t:TA):TE:=fun σ H Q=>ta σ H fun x H1=>∃a dx fs,x=.ref a/\H1 a=some (.ins C dx fs)/\fs.lookup m=none/\
 t σ H1 fun vs H2=>sp (x::(vs++dvs)) H2 Q E
def qfo(C:Addr)(sp:Sp)(dvs:List V)(E:XK)(t:TA):TE:=fun σ H Q=>t σ H fun vs H1=>∀x dx,H1 x=none->H1 dx=none->dx≠x->
 sp (.ref x::(vs++dvs)) (upd (upd H1 dx (.own x)) x (.ins C dx [])) (fun v H2=>v=.non/\Q (.ref x) H2) E
def Binds(K:fL)(fd:FuncData)(ps:fT)(ds:fQ):Prop:=
 ∀(s:Shared)(us:fQ),K.In s.heap->(us++ds).length=ps.length->BindsTo s fd ⟨us,[]⟩ (ps.zip (us++ds))
theorem Binds.all(h:∀us:fQ,us.length=ps.length->bindArgs fd ⟨us,[]⟩=pure (ps.zip us)):Binds K fd ps []:=fun s us _ hl=>by
 rw[aQ]at hl ⊢;exact .of_eq (h us hl)
def wg(CX:CXT)(X:Cx)(E:XK):Prop:=∀(pins:fM)(σ:St)(H:Hp)(s:Shared)(e:Value)(s':Shared),Inv X pins σ H s->CX X.stack H s E e s'->X.xe e s'
section
variable{X:Cx}{CX:CXT}{k:Nat}{f C:Addr}{fd:FuncData}{ps:fT}{sp:Sp}{dvs:List V}{ds:fQ}{E:XK}{x m:Str}{p pos apos:Pos}{e o:Expr}{es:fU}{ta:TE}{t:TA}
theorem Kc{σ:St}{Q:VK}{vs:List V}(F:FnOk X.prog X.w X.K X.mg X.base CX k f fd ps sp)(hr:Room k X.A)(hb:Binds X.K fd ps ds)(hd:Vals dvs ds)(hx:wg CX X E)
  (I:Inv X pins σ H s)(r:Vals vs us)(h:sp (vs++dvs) H Q E):wpAny (model X.prog X.w) X.A (call (.ref f) us) (EP X pins σ Q) X.xe s:=by
 have r2:Vals (vs++dvs) (us++ds):=r.append hd;have hl:(us++ds).length=ps.length:=by rw[<- r2.length];exact F.len _ _ _ _ h
 refine fq (dJ (F.run X.A X.stack s H ⟨us,[]⟩ (us++ds) (vs++dvs) Q E hr I.env0 (hb s us I.kIn hl) r2 h) fun r s' hq=>?_);cases r with
 |error e=>exact hx pins σ H s e s' I hq
 |ok fl=>
  cases fl with
  |ret u=>exact I.after hq
  |next=>exact False.elim hq
  |brk=>exact False.elim hq
  |cont=>exact False.elim hq
theorem Jq(F:FnOk X.prog X.w X.K X.mg X.base CX k f fd ps sp)(hr:Room k X.A)(hg:Gl X x)(hm:X.mg x=some (.ref f))(hk:PySem.W.keepIn X.K (.ref f)=true)(hb:Binds X.K fd ps ds)(hd:Vals dvs ds)(hx:wg CX X E)
  (ha:PA X (e::es) t)(hdb:(x == ("__debug__":Str))=false:=by decide)(he:starEach (e::es) X.env=(false,eval e X.env)::starEach es X.env:=by rfl)(hpl:(backTo pos (starEach es X.env)).any (·.1)=false:=by rfl) :
  PE X (.Call (.Name x p) (e::es) [] pos) (qc0 sp dvs E t):=by
 intro pins s σ H Q I h;refine cq (kY I hg hm ?_ hdb);refine cS (h₀:=X.base) I.ok.mod.kin hk (thn (ha pos pins s σ H _ I h) fun us s1⟨vs,H1,I1,r,q⟩=>⟨I1.kIn,?_⟩) he hpl;exact Kc F hr hb hd hx I1 r q
theorem Yv(F:FnOk X.prog X.w X.K X.mg X.base CX k f fd ps sp)(hr:Room k X.A)(hg:Gl X x)(hm:X.mg x=some (.ref f))(hk:PySem.W.keepIn X.K (.ref f)=true)(hb:Binds X.K fd ps ds)(hd:Vals dvs ds)(hx:wg CX X E)
  (hdb:(x == ("__debug__":Str))=false:=by decide):PE X (.Call (.Name x p) [] [] pos) (qc0 sp dvs E tNil):=by
 intro pins s σ H Q I h;refine cq (kY I hg hm ?_ hdb);exact eK I.kIn hk (Kc (us:=[]) F hr hb hd hx I .nil h)
theorem qaw(he:PE X o ta)(c:Cls X.K C)(hm:Meth X.K C m f)(F:FnOk X.prog X.w X.K X.mg X.base CX k f fd ps sp)(hr:Room k X.A)(hb:Binds X.K fd ps ds)(hd:Vals dvs ds)(hx:wg CX X E)(ha:PA X (e::es) t)
  (hst:starEach (e::es) X.env=(false,eval e X.env)::starEach es X.env:=by rfl)(hpl:(backTo pos (starEach es X.env)).any (·.1)=false:=by rfl)
  (ht:eval (.Call (.Attribute o m apos) (e::es) [] pos) X.env=(do
   let ov <- eval o X.env
   standAt apos.atName
   let(f,first) <- holding [ov] (getMethod ov m pl)
   callWith pos f first (backTo pos (starEach (e::es) X.env)) (backToKw pos (keywordEach [] X.env))):=by rfl) :
  PE X (.Call (.Attribute o m apos) (e::es) [] pos) (qct C m sp dvs E ta t):=by
 intro pins s σ H Q I h;refine dM (pl:=pl) (thn (he pins s σ H _ I h) fun u s1⟨x,H1,I1,rx,a,dx,fs,ex,ea,l,q⟩=>?_) ht;subst ex;obtain rfl:u=Value.ref a:=rx;refine xG I1 ea c hm l ?_;refine cS (first:=[.ref a]) (h₀:=X.base) I.ok.mod.kin hm.kp (thn (ha pos pins s1 σ H1 _ I1 q) fun us s2⟨vs,H2,I2,r,q2⟩=>⟨I2.kIn,?_⟩) hst hpl;exact Kc (us:=.ref a::us) (vs:=.ref a::vs) F hr hb hd hx I2 (.cons rfl r) q2
theorem Ym(he:PE X o ta)(c:Cls X.K C)(hm:Meth X.K C m f)(F:FnOk X.prog X.w X.K X.mg X.base CX k f fd ps sp)(hr:Room k X.A)(hb:Binds X.K fd ps ds)(hd:Vals dvs ds)(hx:wg CX X E)
  (ht:eval (.Call (.Attribute o m apos) [] [] pos) X.env=(do
   let ov <- eval o X.env
   standAt apos.atName
   let(f,first) <- holding [ov] (getMethod ov m pl)
   callWith pos f first (backTo pos (starEach [] X.env)) (backToKw pos (keywordEach [] X.env))):=by rfl) :
  PE X (.Call (.Attribute o m apos) [] [] pos) (qct C m sp dvs E ta tNil):=by
 intro pins s σ H Q I h;refine dM (pl:=pl) (thn (he pins s σ H _ I h) fun u s1⟨x,H1,I1,rx,a,dx,fs,ex,ea,l,q⟩=>?_) ht;subst ex;obtain rfl:u=Value.ref a:=rx;refine xG I1 ea c hm l ?_;exact eK (first:=[.ref a]) I1.kIn hm.kp (Kc (us:=[.ref a]) (vs:=[.ref a]) F hr hb hd hx I1 (.cons rfl .nil) q)
structure Mk(K:fL)(C f:Addr):Prop where
 makes:PySem.W.makesIn K C=true
 init:PySem.W.findIn K (.ref C) "__init__"=some (some (.ref f))
 fn:PySem.W.isFn K (.ref f)=true
 kp:PySem.W.keepIn K (.ref C)=true
theorem W7{σ:St}{Q:VK}{vs:List V}(M:Mk X.K C f)(F:FnOk X.prog X.w X.K X.mg X.base CX k f fd ps sp)(hr:Room (k+1) X.A)(hb:Binds X.K fd ps ds)(hd:Vals dvs ds)
  (hx:wg CX X E)(I:Inv X pins σ H s)(r:Vals vs us)
  (h:∀x dx,H x=none->H dx=none->dx≠x->sp (.ref x::(vs++dvs)) (upd (upd H dx (.own x)) x (.ins C dx [])) (fun v H2=>v=.non/\Q (.ref x) H2) E) :
  wpAny (model X.prog X.w) X.A (call (.ref C) us) (EP X pins σ Q) X.xe s:=by
 have hq:=h (s.heap.objs.size+1) s.heap.objs.size (I.hok.fresh (eL _)) (I.hok.fresh (aj _)) (aI (cQ _));have I2:=Inv.made (C:=C) I;have r2:Vals (V.ref (s.heap.objs.size+1)::(vs++dvs)) (Value.ref (s.heap.objs.size+1)::(us++ds)):=.cons rfl (r.append hd);have hl:(Value.ref (s.heap.objs.size+1)::us++ds).length=ps.length:=by
  have e:=r2.length;rw[F.len _ _ _ _ hq]at e;exact e.symm
 refine fq (YL (f:=f) I.kIn M.makes M.init (bS.mp M.fn) (dJ (F.run _ X.stack _ _ ⟨Value.ref (s.heap.objs.size+1)::us,[]⟩ (Value.ref (s.heap.objs.size+1)::(us++ds)) _ _ E (hr.make C us [])
  (I2.env0.make C us []) (hb _ (Value.ref (s.heap.objs.size+1)::us) I2.kIn hl) r2 hq) fun r s' hq'=>?_))
 cases r with
 |error e=>exact hx pins σ _ _ e s' I2 hq'
 |ok fl=>
  cases fl with
  |ret u=>
   obtain⟨v,H',I3,rv,ev,q3⟩:=I2.after hq';subst ev;exact⟨rv,⟨V.ref (s.heap.objs.size+1),H',I3,rfl,q3⟩⟩
  |next=>exact False.elim hq'
  |brk=>exact False.elim hq'
  |cont=>exact False.elim hq'
theorem Yn(M:Mk X.K C f)(F:FnOk X.prog X.w X.K X.mg X.base CX k f fd ps sp)(hr:Room (k+1) X.A)(hg:Gl X x)(hm:X.mg x=some (.ref C))(hb:Binds X.K fd ps ds)(hd:Vals dvs ds)(hx:wg CX X E)
  (hdb:(x == ("__debug__":Str))=false:=by decide):PE X (.Call (.Name x p) [] [] pos) (qfo C sp dvs E tNil):=by
 intro pins s σ H Q I h;refine cq (kY I hg hm ?_ hdb);exact eK I.kIn M.kp (W7 (us:=[]) M F hr hb hd hx I .nil h)
end
section
variable{X:Cx}{CX:CXT}{k:Nat}{f C:Addr}{fd:FuncData}{ps ks:fT}{sp:Sp}{E:XK}{x m:Str}{p pos apos kpos:Pos}{e o:Expr}{es:fU}{kws:List Keyword}{te ta:TE}{t tk:TA}{nm:Option Str}
variable{g:fQ->fQ->fQ}{gV:List V->List V->List V}
end
structure FnScope(N P:fT)(sc:Scope):Prop where
 kind:sc.kind=.function
 co:sc.isCoroutine=false
 gen:sc.isGenerator=false
 nd:N.Nodup
 pre:N.take P.length=P
 par:∀x∈P,sc.names.lookup x=some .local\/sc.names.lookup x=some .cell
 nofree:∀y∈sc.names,y.2≠.free
theorem Ja{kindOf:Str->Option NameKind}{x:Str}:∀{binds:List (Str×Value)}{m:fO},(∀v,(x,v)∉binds)->bindL kindOf binds m x=m x
 |[],_,_=>rfl
 |(n,v)::r,m,h=>by
  unfold bindL;rw[Ja fun w hw=>h w (aD _ hw)]
  split
  ·have:x≠n:=by rintro rfl;exact h v aN
   simp[this]
  ·rfl
theorem Jb{kindOf:Str->Option NameKind}{x:Str}:∀{binds:List (Str×Value)}{m:fO},(∀v,(x,v)∉binds)->bindC kindOf binds m x=m x
 |[],_,_=>rfl
 |(n,v)::r,m,h=>by
  unfold bindC;rw[Jb fun w hw=>h w (aD _ hw)]
  split
  ·rfl
  ·have:x≠n:=by rintro rfl;exact h v aN
   simp[this]
theorem yv{kindOf:Str->Option NameKind}{x:Str}{v:Value}:∀{P:fT}{vs:fQ}{i:Nat}{m:fO},P.Nodup->P[i]?=some x->vs[i]?=some v->kindOf x=some .local->
  bindL kindOf (P.zip vs) m x=some v
 |[],_,_,_,_,h,_,_=>by simp at h
 |_::_,[],_,_,_,_,h,_=>by simp at h
 |p::P,w::vs,0,m,nd,h1,h2,hk=>by
  simp at h1 h2;subst h1;subst h2;show bindL kindOf ((p,w)::P.zip vs) m p=_;unfold bindL;rw[Ja fun v hv=>(bN.mp nd).1 (eM hv).1,aH hk];simp
 |p::P,w::vs,i+1,m,nd,h1,h2,hk=>by
  show bindL kindOf ((p,w)::P.zip vs) m x=_;unfold bindL;exact yv (i:=i) (bN.mp nd).2 (by simpa using h1) (by simpa using h2) hk
theorem yw{kindOf:Str->Option NameKind}{x:Str}{v:Value}:∀{P:fT}{vs:fQ}{i:Nat}{m:fO},P.Nodup->P[i]?=some x->vs[i]?=some v->kindOf x≠some .local->
  bindC kindOf (P.zip vs) m x=some v
 |[],_,_,_,_,h,_,_=>by simp at h
 |_::_,[],_,_,_,_,h,_=>by simp at h
 |p::P,w::vs,0,m,nd,h1,h2,hk=>by
  simp at h1 h2;subst h1;subst h2;show bindC kindOf ((p,w)::P.zip vs) m p=_;unfold bindC;rw[Jb fun v hv=>(bN.mp nd).1 (eM hv).1,aG hk];simp
 |p::P,w::vs,i+1,m,nd,h1,h2,hk=>by
  show bindC kindOf ((p,w)::P.zip vs) m x=_;unfold bindC;exact yw (i:=i) (bN.mp nd).2 (by simpa using h1) (by simpa using h2) hk
def start(N:fT)(vs:List V):St:=vs.map some++List.replicate (N.length - vs.length) none
def cxOf(CX:CXT)(P:Program)(w:World)(K:fL)(mg:fO)(base:Heap)(N:fT)(qual:Str)(scope:Scope)(f:Addr)(cd:Value)(A:Around)(outer:List Env)(s:Shared)(H:Hp)(E:XK):Cx where
 prog:=P
 w:=w
 K:=K
 mg:=mg
 base:=base
 A:=A.deeper (envOfC qual scope s.heap.objs.size f cd)
 N:=N
 s₀:=s
 H₀:=H
 env:=envOfC qual scope s.heap.objs.size f cd
 outer:=outer
 stack:=envOfC qual scope s.heap.objs.size f cd::outer
 ex:=[]
 calm:=true
 fn:=fun _=>true
 pn:=[]
 xe:=fun e s'=>wpAny (model P w) (A.deeper (envOfC qual scope s.heap.objs.size f cd)) (leaving (envOfC qual scope s.heap.objs.size f cd) e) (fun _ s''=>CX outer H s E e s'') (fun e' s''=>CX outer H s E e' s'') s'
theorem wH{sc:Scope}{n:Nat}{x:Str}(h:sc.names.lookup x=some .cell):∃c,(cellsFrom n sc.names []).lookup x=some c:=by
 have q:=dB sc.names n [] (.inl h);exact cE.mp q
theorem XX{f:Addr}{cd:Value}{s1:Shared}{E:XK}{vs:List V}
  (S:FnScope N ps scope)(hd:A.handled=none)(e0:Env0 P w K mg base A outer s H)(hl:vs.length=ps.length)(r:Vals vs us)
  (x:InCallC s s.heap.objs.size (bindL (envOfC qual scope s.heap.objs.size f cd).kindOf (ps.zip us) fun _=>none) (cellsFrom (s.heap.objs.size+1) scope.names []) (bindC (envOfC qual scope s.heap.objs.size f cd).kindOf (ps.zip us) fun _=>none) s1) :
  Inv (cxOf CX P w K mg base N qual scope f cd A outer s H E) [] (start N vs) H s1:=by
 have hpl:ps.length<=N.length:=by have:=bU List.length S.pre;rw[c7]at this;omega
 obtain⟨h1,tk,rfl,hk⟩:=x.done;have noA:∀b:Addr,b∉(cxOf CX P w K mg base N qual scope f cd A outer s H E).ex:=fun b z=>absurd (show b∈([]:fP)from z) (by simp)
 refine⟨⟨e0.mod,S.kind,rfl,rfl,aj _,fun y z c h1 h2=>?_,fun y hy=>?_,fun y c _ h=>?_,fun _=>hd,Around.frames_deeper e0.frames,.inr ⟨rfl,rfl⟩,fun b z=>absurd z (noA b),e0.bs,e0.bsz,fun b _ _=>noA b,fun b z=>absurd z (noA b),e0.funs,e0.frf⟩,
  rfl,e0.bare,Un.kept hk,⟨_,x.toInCall.ns,fun i y v h1 h2 h3=>?_⟩,fun y c h=>⟨_,x.cell y c h⟩,e0.hok.fresh (aj _),fun y c h=>?_,fun p hp=>absurd (show p∈([]:fM)from hp) (by simp),e0.hok.kept hk,?_⟩
 ·exact name_of_addr x.apart (aU h1) (aU h2)
 ·have hy:scope.names.lookup y=some .cell\/scope.names.lookup y=some .free:=hy
  rcases hy with hy|hy
  ·exact wH hy
  ·exact absurd rfl (S.nofree _ (aU hy))
 ·exact c9 (x.above y c (aU h))
 ·have hi:i<vs.length:=by
   unfold start at h2
   by_cases hi:i<vs.length
   ·exact hi
   ·rw[aJ (by simpa using hi)]at h2
    rw[cK]at h2
    split at h2 <;> cases h2
  have ha:vs[i]?=some v:=by
   unfold start at h2;rw[aB (by simpa using hi),aq]at h2;cases e:vs[i]? with
   |none=>rw[e]at h2;cases h2
   |some a=>rw[e]at h2;cases h2;rfl
  obtain⟨u,hu,rv⟩:=r.get ha;have hp:ps[i]?=some y:=by
   rw[<- S.pre,ft (by omega)];exact h1
  have ndP:ps.Nodup:=by rw[<- S.pre];exact S.nd.sublist (List.take_sublist _ _)
  refine⟨u,rv,?_⟩;rcases S.par y (aM hp)with k|k
  ·exact .inl ⟨k,yv ndP hp hu k⟩
  ·obtain⟨c,e⟩:=wH (n:=s.heap.objs.size+1) k
   refine .inr ⟨.inl k,c,e,?_⟩;have q:=x.cell y c e;rw[yw ndP hp hu (by show scope.names.lookup y≠_;rw[k];decide)]at q;exact q
 ·exact e0.hok.fresh (c9 (x.above y c (aU h)))
 ·unfold start
  show _=N.length;rw[ar,ak,bL];omega
theorem qer{k:Nat}{f:Addr}{name:Str}{params:Arguments}{dV kV doc pm cdv ct oc:Value}{an od:fR}
  {osl:Array (Option Value)}(lk:K.lookup f=some ⟨oc,od,.func (PySem.W.fnOf name qual params body scope dV kV doc pm an cdv ct),osl⟩)(hcd:PySem.W.codeIn K cdv qual=true)(S:FnScope N ps scope)
  (len:∀vs H Q E,sp vs H Q E->vs.length=ps.length)
  (hbody:∀(A:Around)(outer:List Env)(s:Shared)(H:Hp)(vs:List V)(Q:VK)(E:XK),Room k (A.deeper (envOfC qual scope s.heap.objs.size f cdv))->sp vs H Q E->
   ∃t,PSs (cxOf CX P w K mg base N qual scope f cdv A outer s H E) body t/\t { nx:=fun _ H'=>Q .non H',rt:=Q } (start N vs) H) :
  FnOk P w K mg base CX (k+1) f (PySem.W.fnOf name qual params body scope dV kV doc pm an cdv ct) ps sp:=by
 refine⟨len,fun A outer s H args us vs Q E hr e0 hb r hsp=>?_⟩;have hl:=len _ _ _ _ hsp;have KX:K.In s.heap:=e0.mod.kin.keeps fun b o e=>(e0.bs b o e).1
 have lim:s.heap.NoLimit:=e0.mod.nolimit.keeps fun b o e=>(e0.bs b o e).1
 have hkind:∀y∈ps.zip us,scope.names.lookup y.1=some .local\/(scope.names.lookup y.1=some .cell/\((cellsFrom (s.heap.objs.size+1) scope.names []).lookup y.1).isSome=true):=fun⟨n,v⟩ hy=>by
  rcases S.par n (eM hy).1 with q|q
  ·exact .inl q
  ·exact .inr ⟨q,dB _ _ _ (.inl q)⟩
 refine codeAny_call_function hr.depth (KX _ _ lk) rfl S.co S.gen rfl (PySem.W.codeRec_of KX hcd) (hb _ _ _ _ ?_);refine wpAny_newFunctionEnv_cells S.kind hkind fun env he s1 x=>?_
 subst he;refine⟨lim.keeps x.toInCall.keep,codeAny_func ?_⟩;obtain⟨t,ht,hq⟩:=hbody A outer s H vs Q E (hr.deeper _) hsp;have I:Inv (cxOf CX P w K mg base N qual scope f cdv A outer s H E) [] (start N vs) H s1:=XX S hr.hd e0 hl r x;refine bh (ht [] s1 (start N vs) H _ I hq) (fun fl s' hs=>?_) fun e s' hs=>hs
 have fin:∀{σ':St}{H':Hp}{v:V}{u:Value},Inv (cxOf CX P w K mg base N qual scope f cdv A outer s H E) [] σ' H' s'->RelV v u->Q v H'->CE outer P w H s Q u s':=
  fun{σ' H' v u} J rv q=>⟨v,H',J.os,J.bare,J.base,J.hok,rv,q⟩
 cases fl with
 |ret u=>
  obtain⟨v,σ',H',J,rv,q⟩:=hs;exact fin J rv q
 |next=>
  obtain⟨σ',H',J,q⟩:=hs;exact fin (v:=V.non) (u:=Value.none) J rfl q
 |brk=>
  obtain⟨_,_,_,q⟩:=hs;exact False.elim q
 |cont=>
  obtain⟨_,_,_,q⟩:=hs;exact False.elim q
section
variable{X:Cx}{x:Str}{p pos:Pos}{e:Expr}{es:fU}{t:TA}{id T:String}{r:List V->Hp->VK->Prop}
def tCB(r:List V->Hp->VK->Prop)(t:TA):TE:=fun σ H Q=>t σ H fun vs H1=>r vs H1 Q
theorem ky(hc:CallR X (.builtin id) r)(hg:Gl X x)(hm:X.mg x=none)(hv:bootBuiltins x=some (.builtin id))(ha:PA X (e::es) t)(hn:x≠"__name__":=by decide)(hdb:(x == ("__debug__":Str))=false:=by decide)
  (he:starEach (e::es) X.env=(false,eval e X.env)::starEach es X.env:=by rfl)(hpl:(backTo pos (starEach es X.env)).any (·.1)=false:=by rfl):PE X (.Call (.Name x p) (e::es) [] pos) (tCB r t):=by
 intro pins s σ H Q I h;refine cq (ZE I hg hm hv ?_ hn hdb);exact PyProof.Rows.callWith_builtin1 (thn (ha pos pins s σ H _ I h) fun us s1⟨vs,H1,I1,r1,q1⟩=>hc pins s1 σ H1 vs us Q I1 r1 q1) he hpl
theorem Zp(hc:CallR X (.type T) r)(hg:Gl X x)(hm:X.mg x=none)(hv:bootBuiltins x=some (.type T))(ha:PA X (e::es) t)(hn:x≠"__name__":=by decide)(hdb:(x == ("__debug__":Str))=false:=by decide)
  (he:starEach (e::es) X.env=(false,eval e X.env)::starEach es X.env:=by rfl)(hpl:(backTo pos (starEach es X.env)).any (·.1)=false:=by rfl):PE X (.Call (.Name x p) (e::es) [] pos) (tCB r t):=by
 intro pins s σ H Q I h;refine cq (ZE I hg hm hv ?_ hn hdb);exact cW (thn (ha pos pins s σ H _ I h) fun us s1⟨vs,H1,I1,r1,q1⟩=>hc pins s1 σ H1 vs us Q I1 r1 q1) he hpl
end
section
variable{κ:Type}[DecidableEq κ]
def valV(kvs:List (κ×V))(k:κ):Option V:=(kvs.find? fun kv=>decide (kv.1=k)).map (·.2)
def putK(kvs:List (κ×V))(k:κ)(v:V):List (κ×V):=
 if(kvs.any fun kv=>decide (kv.1=k))=true then kvs.map (fun kv=>if kv.1=k then(kv.1,v)else kv)else kvs++[(k,v)]
def yC(kvs:List (κ×V))(k:κ):List (κ×V):=kvs.filter fun kv=>decide (kv.1≠k)
theorem yW{p:κ×V}{r:List (κ×V)}{k:κ}(e:p.1=k):valV (p::r) k=some p.2:=by simp[valV,bw,e]
theorem yX{p:κ×V}{r:List (κ×V)}{k:κ}(e:¬ p.1=k):valV (p::r) k=valV r k:=by simp[valV,bw,e]
theorem JX(k:κ):∀kvs:List (κ×V),(kvs.any fun kv=>decide (kv.1=k))=(valV kvs k).isSome
 |[]=>rfl
 |p::r=>by
  rw[fF]
  by_cases e:p.1=k
  ·simp only[yW e,aX e,Bool.true_or,Option.isSome_some]
  ·rw[yX e,aK e,Bool.false_or];exact JX k r
theorem vN(kvs:List (κ×V))(k:κ)(v:V):(putK kvs k v).length<=kvs.length+1:=by
 unfold putK
 split
 ·rw[ak];omega
 ·rw[ar,ao,aR];omega
theorem RelO.isSome_eq{o:Option V}{u:Option Value}(r:RelO o u):o.isSome=u.isSome:=by
 cases o with
 |none=>cases u with
  |none=>rfl
  |some _=>exact(show False from r).elim
 |some _=>cases u with
  |none=>exact(show False from r).elim
  |some _=>rfl
theorem RelO.getD{o:Option V}{u:Option Value}{d:V}{d':Value}(r:RelO o u)(rd:RelV d d'):RelV (o.getD d) (u.getD d'):=by
 cases o with
 |none=>cases u with
  |none=>exact rd
  |some _=>exact(show False from r).elim
 |some _=>cases u with
  |none=>exact(show False from r).elim
  |some _=>exact r
theorem KV.val{kvs:List (κ×V)}{vs:List (κ×Value)}(r:KV kvs vs)(k:κ):RelO (valV kvs k) (valueAt vs k):=by
 unfold KV at r
 induction r with
 |nil=>exact True.intro
 |@cons p q ps qs h t ih=>
  obtain⟨h1,h2⟩:=h
  by_cases e:p.1=k
  ·have e':q.1=k:=h1.symm.trans e
   have b:valueAt (q::qs) k=some q.2:=by simp[valueAt,bw,e']
   rw[yW e,b];exact h2
  ·have e':¬ q.1=k:=fun z=>e (h1.trans z)
   have b:valueAt (q::qs) k=valueAt qs k:=by simp[valueAt,bw,e']
   rw[yX e,b];exact ih
theorem KV.any{kvs:List (κ×V)}{vs:List (κ×Value)}(r:KV kvs vs)(k:κ):(kvs.any fun kv=>decide (kv.1=k))=vs.any fun kv=>decide (kv.1=k):=by
 unfold KV at r
 induction r with
 |nil=>rfl
 |cons h t ih=>rw[fF,fF,ih,h.1]
theorem KV.repl{kvs:List (κ×V)}{vs:List (κ×Value)}(r:KV kvs vs)(k:κ){y:V}(ry:RelV y u) :
  KV (kvs.map fun kv=>if kv.1=k then(kv.1,y)else kv) (vs.map fun kv=>if kv.1=k then(kv.1,u)else kv):=by
 unfold KV at r ⊢
 induction r with
 |nil=>exact .nil
 |@cons p q ps qs h t ih=>
  rw[a9,a9];refine .cons ?_ ih;obtain⟨h1,h2⟩:=h
  by_cases e:p.1=k
  ·rw[aH e,aH (h1.symm.trans e)];exact⟨h1,ry⟩
  ·rw[aG e,aG (fun z=>e (h1.trans z))];exact⟨h1,h2⟩
theorem KV.put{kvs:List (κ×V)}{vs:List (κ×Value)}(r:KV kvs vs)(k:κ){y:V}(ry:RelV y u):KV (putK kvs k y) (stored vs k u):=by
 unfold putK stored;rw[r.any k]
 by_cases e:(vs.any fun kv=>decide (kv.1=k))=true
 ·rw[aH e,aH e];exact r.repl k ry
 ·rw[aG e,aG e];exact Paired.snoc r ⟨rfl,ry⟩
theorem KV.drop{kvs:List (κ×V)}{vs:List (κ×Value)}(r:KV kvs vs)(k:κ):KV (yC kvs k) (without vs k):=by
 unfold KV at r ⊢;unfold yC without
 induction r with
 |nil=>exact .nil
 |@cons p q ps qs h t ih=>
  obtain⟨h1,h2⟩:=h;rw[dP,dP]
  by_cases e:p.1=k
  ·have a:¬ decide (p.1≠k)=true:=by simp[e]
   have b:¬ decide (q.1≠k)=true:=by simp[h1.symm.trans e]
   rw[aG a,aG b];exact ih
  ·have e':¬ q.1=k:=fun z=>e (h1.trans z)
   have a:decide (p.1≠k)=true:=by simp[e]
   have b:decide (q.1≠k)=true:=by simp[e']
   rw[aH a,aH b];exact .cons ⟨h1,h2⟩ ih
theorem KV.length{kvs:List (κ×V)}{vs:List (κ×Value)}(r:KV kvs vs):kvs.length=vs.length:=bX r
theorem Y9(kvs:List (κ×V))(k:κ):(yC kvs k).length<=kvs.length:=List.length_filter_le _ _
end
theorem yB{k:Key}(r:RelV (kV k) u):(qF P w).is k u=true:=by
 cases k with
 |inl i=>obtain⟨t,e⟩:=(show ∃t,u=Value.int i t from r);subst e;exact Jy P w i t
 |inr x=>obtain⟨t,e⟩:=(show ∃t,u=Value.str x t from r);subst e;exact Jx P w x t
theorem ZP{P:Program}{w:World}:∀{ks:List Key}{us:fQ},Vals (ks.map kV) us->ItemsAre (qF P w) ks us
 |[],_,r=>by rw[cf]at r;cases r;exact .nil
 |k::ks,_,r=>by
  rw[a9]at r;cases r with
  |cons h t=>exact .cons (yB h) (ZP t)
abbrev KT(H:Hp):List (List Key×V)->List (List Key×Addr×Value)->Prop:=Paired fun p q=>p.1=q.1/\H q.2.1=some (.tup (p.1.map kV))/\RelV p.2 q.2.2
theorem KT.val(r:KT H kvs xs)(k:List Key):RelO (valV kvs k) ((atKey xs k).map (·.2)):=by
 induction r with
 |nil=>exact True.intro
 |@cons p q ps qs h t ih=>
  obtain⟨h1,_,h2⟩:=h
  by_cases e:p.1=k
  ·have e':q.1=k:=h1.symm.trans e
   have b:atKey (q::qs) k=some q.2:=by simp[atKey,bw,e']
   rw[yW e,b];exact h2
  ·have e':¬ q.1=k:=fun z=>e (h1.trans z)
   have b:atKey (q::qs) k=atKey qs k:=by simp[atKey,bw,e']
   rw[yX e,b];exact ih
theorem KT.repl(r:KT H kvs xs)(k:List Key){y:V}(ry:RelV y u) :
  KT H (kvs.map fun kv=>if kv.1=k then(kv.1,y)else kv) (xs.map (putAt k u)):=by
 induction r with
 |nil=>exact .nil
 |@cons p q ps qs h t ih=>
  rw[a9,a9];refine .cons ?_ ih;obtain⟨h1,h2,h3⟩:=h;unfold putAt
  by_cases e:p.1=k
  ·rw[aH e,aH (h1.symm.trans e)];exact⟨h1,h2,ry⟩
  ·rw[aG e,aG (fun z=>e (h1.trans z))];exact⟨h1,h2,h3⟩
theorem KT.put(r:KT H kvs xs)(k:List Key){b:Addr}{y:V}(hb:H b=some (.tup (k.map kV)))(ry:RelV y u) :
  KT H (putK kvs k y) (storedH xs k b u):=by
 have e:(kvs.any fun kv=>decide (kv.1=k))=(atKey xs k).isSome:=by
  rw[JX,(r.val k).isSome_eq,fu]
 unfold putK storedH;rw[e]
 by_cases q:(atKey xs k).isSome=true
 ·rw[aH q,aH q];exact r.repl k ry
 ·rw[aG q,aG q];exact Paired.snoc r ⟨rfl,hb,ry⟩
theorem KT.keeps(r:KT H kvs xs)(ht:∀b ys,H b=some (.tup ys)->H' b=some (.tup ys)):KT H' kvs xs:=
 Paired.mapP r fun _ _ z=>⟨z.1,ht _ _ z.2.1,z.2.2⟩
section
variable{P:Program}{w:World}{H:Hp}{h:Heap}{a:Addr}
theorem qc8{u:HO}(ok:HOk P w H h)(e:Rd H a u):ObjOk P w H h a u:=e.ok ok
theorem QO{kvs:List (Key×V)}(ok:HOk P w H h)(e:Rd H a (.dK kvs)):kvs.length<=sizeLine/\(a == sysModules)=false/\∃vs,KV kvs vs/\h.DictOf (qF P w) a vs:=
 show ObjOk P w H h a (.dK kvs)from qc8 ok e
theorem yD{kvs:List (Key×V)}(ok:HOk P w H h)(e:H a=some (.dK kvs)):kvs.length<=sizeLine/\(a == sysModules)=false/\∃vs,KV kvs vs/\h.DictOf (qF P w) a vs:=QO ok (.inl e)
theorem xZ{ks:List Key}(ok:HOk P w H h)(e:H a=some (.tup (ks.map kV))):(tupleKind (qF P w)).is h ks a:=by
 obtain⟨_,its,r,o,h1,h2,n,h3⟩:=(show ObjOk P w H h a (.tup (ks.map kV))from ok a _ e);exact⟨o,its.toArray,n,h1,h2,h3,by simpa using ZP r⟩
theorem ZU(ok:HOk P w H h)(e:Rd H a (.dT kvs)):kvs.length<=sizeLine/\(a == sysModules)=false/\
  ∃xs,KT H kvs xs/\h.DictOfH (tupleKind (qF P w)) a xs:=by
 obtain⟨z,y,xs,r,o,es,ep,h1,h2,h3,h4,h5⟩:=(show ObjOk P w H h a (.dT kvs)from qc8 ok e);refine⟨z,y,xs,r,o,es,ep,h1,h2,h3,h4,fun x hx=>?_,h5⟩;have all:∀{l:List (List Key×V)}{m:List (List Key×Addr×Value)},KT H l m->∀x∈m,(tupleKind (qF P w)).is h x.1 x.2.1:=by
  intro l m q
  induction q with
  |nil=>intro x hx;exact nomatch hx
  |@cons p q ps qs hq t ih=>
   intro x hx;rcases ah.mp hx with e|hx
   ·subst e
    exact xZ ok (by rw[<- hq.1];exact hq.2.1)
   ·exact ih x hx
 exact all r x hx
theorem qgq(ok:HOk P w H h)(e:H a=some (.dT kvs)):kvs.length<=sizeLine/\(a == sysModules)=false/\
  ∃xs,KT H kvs xs/\h.DictOfH (tupleKind (qF P w)) a xs:=ZU ok (.inl e)
end
def DGet(H:Hp)(a:Addr)(y:V)(r:Option V):Prop:=
 (∃kvs k,Rd H a (.dK kvs)/\y=kV k/\r=valV kvs k)\/∃kvs k b,Rd H a (.dT kvs)/\y=.ref b/\H b=some (.tup (k.map kV))/\r=valV kvs k
def DPut(H:Hp)(a:Addr)(y v:V)(H':Hp):Prop:=
 (∃kvs k,H a=some (.dK kvs)/\y=kV k/\kvs.length<sizeLine/\H'=upd H a (.dK (putK kvs k v)))\/
 ∃kvs k b,H a=some (.dT kvs)/\y=.ref b/\H b=some (.tup (k.map kV))/\kvs.length<sizeLine/\H'=upd H a (.dT (putK kvs k v))
theorem DGet.k{H:Hp}{a:Addr}{kvs:List (Key×V)}{k:Key}(e:H a=some (.dK kvs)):DGet H a (kV k) (valV kvs k):=.inl ⟨kvs,k,.inl e,rfl,rfl⟩
theorem DGet.t{b:Addr}{k:List Key}(e:H a=some (.dT kvs))(eb:H b=some (.tup (k.map kV))):DGet H a (.ref b) (valV kvs k):=.inr ⟨kvs,k,b,.inl e,rfl,eb,rfl⟩
theorem DPut.k{H:Hp}{a:Addr}{kvs:List (Key×V)}{k:Key}{v:V}(e:H a=some (.dK kvs))(hl:kvs.length<sizeLine):DPut H a (kV k) v (upd H a (.dK (putK kvs k v))):=.inl ⟨kvs,k,e,rfl,hl,rfl⟩
section
variable{X:Cx}{pins:fM}{σ:St}{H:Hp}{s:Shared}{a:Addr}{y v:V}{u r:Value}{o:Option V}{A:Around}{E:fN}
theorem Inv.big(I:Inv X pins σ H s):sysModules<s.heap.objs.size:=by
 have h:mainGlobals<s.heap.objs.size:=(I.mod.glob.keeps I.bk).lt;exact dm (by decide) h
theorem Z1(hu:A.units+1<cLine)(I:Inv X pins σ H s)(g:DGet H a y (some v))(ry:RelV y u)(h:∀w' s',Inv X pins σ H s'->RelV v w'->Q w' s') :
  wpAny (model X.prog X.w) A (getItem (.ref a) u) Q E s:=by
 rcases g with⟨kvs,k,e,ey,l⟩|⟨kvs,k,b,e,ey,eb,l⟩
 ·subst ey
  obtain⟨z,hd,vs,rel,dd⟩:=QO I.hok e;obtain⟨w',hw,rw'⟩:=RelO.some_of (v:=v) (o:=valueAt vs k) (by rw[l];exact rel.val k);exact wpAny_getItem_of (yB ry) dd.mapOf hw (h w' _ (I.tok _) rw')
 ·subst ey
  cases (show u=Value.ref b from ry);obtain⟨z,hd,xs,rel,dd⟩:=ZU I.hok e;obtain⟨w',hw,rw'⟩:=RelO.some_of (v:=v) (o:=(atKey xs k).map (·.2)) (by rw[l];exact rel.val k);obtain⟨p,hp,hp2⟩:=bf.mp hw;refine wpAny_getItem_heap (cu hu) (xZ I.hok eb) dd hp ?_;rw[hp2];exact h w' _ (I.tok _) rw'
theorem d_in(hu:A.units+1<cLine)(I:Inv X pins σ H s)(g:DGet H a y o)(ry:RelV y u)(h:∀s',Inv X pins σ H s'->Q (.bool o.isSome) s') :
  wpAny (model X.prog X.w) A (compareOp .In u (.ref a)) Q E s:=by
 rcases g with⟨kvs,k,e,ey,l⟩|⟨kvs,k,b,e,ey,eb,l⟩
 ·subst ey
  obtain⟨z,hd,vs,rel,dd⟩:=QO I.hok e;refine wpAny_in_of (yB ry) hd dd.mapOf ?_;rw[<- (rel.val k).isSome_eq,<- l];exact h _ (I.tok _)
 ·subst ey
  cases (show u=Value.ref b from ry);obtain⟨z,hd,xs,rel,dd⟩:=ZU I.hok e;refine wpAny_in_heap (cu hu) (xZ I.hok eb) hd dd ?_;have q:=(rel.val k).isSome_eq;rw[fu]at q;rw[<- q,<- l];exact h _ (I.tok _)
theorem QS(hu:A.units+1<cLine)(I:Inv X pins σ H s)(g:DGet H a y o)(ry:RelV y u)(h:∀s',Inv X pins σ H s'->Q (.bool (!o.isSome)) s') :
  wpAny (model X.prog X.w) A (compareOp .NotIn u (.ref a)) Q E s:=by
 rcases g with⟨kvs,k,e,ey,l⟩|⟨kvs,k,b,e,ey,eb,l⟩
 ·subst ey
  obtain⟨z,hd,vs,rel,dd⟩:=QO I.hok e;refine wpAny_notIn_of (yB ry) hd dd.mapOf ?_;rw[<- (rel.val k).isSome_eq,<- l];exact h _ (I.tok _)
 ·subst ey
  cases (show u=Value.ref b from ry);obtain⟨z,hd,xs,rel,dd⟩:=ZU I.hok e;refine wpAny_notIn_heap (cu hu) (xZ I.hok eb) hd dd ?_;have q:=(rel.val k).isSome_eq;rw[fu]at q;rw[<- q,<- l];exact h _ (I.tok _)
theorem QR{ob:HO}(I:Inv X pins σ H s)(mu:Mut (H a))(hs:Heap.SameBut a s.heap h')(he:∃q,h'.get? a=some q)(new:ObjOk X.prog X.w (upd H a ob) h' a ob) :
  Inv X pins σ (upd H a ob) { s with heap:=h',toks:=t' }:=
 I.write (x:=a) (e:=a) mu (.inl rfl) (fun b q hb z=>(hs.2 b hb).trans z) he new
theorem KO{kvs:List (Key×V)}{vs:List (Key×Value)}(z:kvs.length<=sizeLine)(hd:(a == sysModules)=false)(rel:KV kvs vs)(dd:h'.DictOf (qF P w) a vs) :
  ObjOk P w H' h' a (.dK kvs):=⟨z,hd,vs,rel,dd⟩
theorem Wu{Q:Unit->Shared->Prop}(hu:A.units+1<cLine)(I:Inv X pins σ H s)(g:DPut H a y v H')(ry:RelV y u)(rv:RelV v r)(h:∀s',Inv X pins σ H' s'->Q () s') :
  wpAny (model X.prog X.w) A (setItem (.ref a) u r) Q E s:=by
 rcases g with⟨kvs,k,e,ey,l,eH⟩|⟨kvs,k,b,e,ey,eb,l,eH⟩
 ·subst ey eH
  obtain⟨z,hd,vs,rel,dd⟩:=yD I.hok e;have hz:vs.length<=sizeLine:=by rw[<- rel.length];exact z
  have hl:(putK kvs k v).length<=sizeLine:=by have:=vN kvs k v;omega
  refine wpAny_setItem_pairs (hsz:=hz) (yB ry) dd fun h' dd' hs=>h _ ?_
  have he:∃q,h'.get? a=some q:=let⟨q,_,_,hq,_⟩:=dd';⟨q,hq⟩;exact QR I (by rw[e];exact True.intro) hs he (KO hl hd (rel.put k rv) dd')
 ·subst ey eH
  cases (show u=Value.ref b from ry);obtain⟨z,hd,xs,rel,dd⟩:=qgq I.hok e;have hz:xs.length<=sizeLine:=by rw[<- bX rel];exact z
  have hl:(putK kvs k v).length<=sizeLine:=by have:=vN kvs k v;omega
  refine wpAny_setItem_heap (hsz:=hz) (cu hu) (xZ I.hok eb) dd fun h' dd' hs=>h _ ?_
  obtain⟨q,es,ep,hq,h2,h3,h4,_,h5⟩:=dd';refine QR I (by rw[e];exact True.intro) hs ⟨q,hq⟩ ⟨hl,hd,_,(rel.put k eb rv).keeps fun c ys ec=>?_,q,es,ep,hq,h2,h3,h4,h5⟩;rw[qf (qf7 ec e (fun z=>nomatch z))];exact ec
end
section
variable{X:Cx}{pins:fM}{σ:St}{H:Hp}{s:Shared}{a:Addr}{kvs:List (Key×V)}{k:Key}{u:Value}{A:Around}{E:fN}
theorem qgt{more:fQ}(I:Inv X pins σ H s)(e:H a=some (.dK kvs))(ry:RelV (kV k) u)(l:valV kvs k=some v)(hm:more=[]\/∃x,more=[x])
  (h:∀w' s',Inv X pins σ (upd H a (.dK (yC kvs k))) s'->RelV v w'->Q w' s'):wpAny (model X.prog X.w) A (call (.builtin "dict.pop") (.ref a::u::more)) Q E s:=by
 obtain⟨z,hd,vs,rel,dd⟩:=yD I.hok e;obtain⟨w',hw,rw'⟩:=RelO.some_of (v:=v) (o:=valueAt vs k) (by rw[<- l];exact rel.val k);have hp:(keyPart u).isSome=true:=by
  cases k with
  |inl i=>obtain⟨t,q⟩:=(show ∃t,u=Value.int i t from ry);subst q;rfl
  |inr x=>obtain⟨t,q⟩:=(show ∃t,u=Value.str x t from ry);subst q;rfl
 have ha:argsOk "dict.pop" ⟨.ref a::u::more,[]⟩:=by
  rcases hm with q|⟨x,q⟩
  ·subst q;exact PySem.F.args_dict_pop_2 _ _
  ·subst q;exact PySem.F.args_dict_pop_3 _ _ _
 refine cy dN dd.typeIs PySem.F.entry_dict_pop ha (meets_dict_pop_there (qF X.prog X.w) a (yB ry) more hm hp)
  ⟨vs,w',dd,by rw[<- rel.length];exact z,hw,fun h' dd' hs=>h w' _ ?_ rw'⟩
 have he:∃q,h'.get? a=some q:=let⟨q,_,_,hq,_⟩:=dd';⟨q,hq⟩;exact QR I (by rw[e];exact True.intro) hs he (KO (aW (Y9 kvs k) z) hd (rel.drop k) dd')
theorem qe4{r:Value}(I:Inv X pins σ H s)(e:H a=some (.dK kvs))(ry:RelV (kV k) u)(l:valV kvs k=none)(h:∀s',Inv X pins σ H s'->Q r s') :
  wpAny (model X.prog X.w) A (call (.builtin "dict.pop") [.ref a,u,r]) Q E s:=by
 obtain⟨z,hd,vs,rel,dd⟩:=yD I.hok e;have hn:valueAt vs k=none:=RelO.none_of (by rw[<- l];exact rel.val k);have hp:(keyPart u).isSome=true:=by
  cases k with
  |inl i=>obtain⟨t,q⟩:=(show ∃t,u=Value.int i t from ry);subst q;rfl
  |inr x=>obtain⟨t,q⟩:=(show ∃t,u=Value.str x t from ry);subst q;rfl
 exact cy dN dd.typeIs PySem.F.entry_dict_pop (PySem.F.args_dict_pop_3 _ _ _) (meets_dict_pop_default (qF X.prog X.w) a (yB ry) hd hp r) ⟨vs,dd,hn,h _ (I.tok _)⟩
theorem qgu(I:Inv X pins σ H s)(e:Rd H a (.dK kvs))(h:∀t s',Inv X pins σ H s'->Q (.int kvs.length t) s'):wpAny (model X.prog X.w) A (call (.builtin "len") [.ref a]) Q E s:=by
 obtain⟨z,hd,vs,rel,dd⟩:=QO I.hok e;refine call_len_dict hd dd (by rw[<- rel.length];rw[eI]at z;omega) ?_;rw[<- rel.length];exact h _ _ (I.tok _)
end
def NoSl(i:Expr):Prop:=∀ov iv,subscripted i false ov iv=operate [ov,iv] (getItem ov iv)
theorem u9{value slice:Expr}{T id:String}
  (hl:typeLookup (.type T) "__getitem__"=pure (some (.builtin id)))(hs:NoSl slice)
  (h:wpAny (model prog w) A (eval value env) (fun o s₁=>wpAny (model prog w) A (eval slice env) (fun i s₂=>s₂.TypeIs o T/\wpAny (model prog w) A (getItem o i) Q E s₂) E s₁) E s) :
  wpAny (model prog w) A (eval (.Subscript value slice pos) env) Q E s:=by
 refine Subscript_ (bh h (fun o s₁ h₁=>bh h₁ (fun i s₂ h₂=>?_) fun _ _ x=>x) fun _ _ x=>x);obtain⟨hT,h₂⟩:=h₂;unfold subscriptTail;refine ae ?_;rw[getitemInPython_of_ne hT.not_modules];refine ae (wpAny_specialOf hT hl ?_);have fin:wpAny (model prog w) A (subscripted slice false o i) (fun r s₃=>wpAny (model prog w) A (letTemporaryGo value o r >>= fun _=>pure r) Q E s₃) E s₂:=by
  rw[hs o i];exact wpAny_operating (bh h₂ (fun r s₃ h₃=>ae (wpAny_letTemporaryGo (ax h₃))) fun _ _ x=>x)
 first
  |exact ax (ae fin)
  |exact ae (ax (ae fin))
  |exact ae fin
theorem yq{σ:St}{y:V}{o:Option V}(I:Inv X pins σ H s)(g:DGet H a y o):s.TypeIs (.ref a) "dict":=by
 rcases g with⟨kvs,k,e,_,_⟩|⟨kvs,k,b,e,_,_,_⟩
 ·obtain⟨_,_,vs,_,dd⟩:=QO I.hok e
  exact dd.typeIs
 ·obtain⟨_,_,xs,_,dd⟩:=ZU I.hok e
  exact dd.typeIs
def qfr(td ty:TE):TE:=fun σ H Q=>td σ H fun x H1=>ty σ H1 fun y H2=>∃a v,x=.ref a/\DGet H2 a y (some v)/\Q v H2
def qfu(td ty tv:TE):TS:=fun D σ H=>tv σ H fun v H1=>td σ H1 fun x H2=>ty σ H2 fun y H3=>∃a H4,x=.ref a/\DPut H3 a y v H4/\D.nx σ H4
section
variable{X:Cx}{o i e value:Expr}{pos pos' tpos:Pos}{td ty tv:TE}
theorem qay(hu:X.A.units+1<cLine)(ho:PE X o td)(hi:PE X i ty)(hs:NoSl i):PE X (.Subscript o i pos) (qfr td ty):=by
 intro pins s σ H Q I h;refine u9 eY.lookup hs (thn (ho pins s σ H _ I h) fun u s1⟨x,H1,I1,rx,q1⟩=>thn (hi pins s1 σ H1 _ I1 q1) fun iv s2⟨y,H2,I2,ry,a,v,ex,g,q2⟩=>?_);subst ex;obtain rfl:u=Value.ref a:=rx;exact⟨yq I2 g,Z1 hu I2 g ry fun w' s3 I3 rw'=>⟨v,H2,I3,rw',q2⟩⟩
theorem qao(hu:X.A.units+1<cLine)(ho:PE X o td)(hi:PE X i ty)(hv:PE X value tv)(hs:swapsWith value (some (.Subscript o i pos')) pos.line X.env=pure false) :
  PS X (.Assign [.Subscript o i pos'] value pos) (qfu td ty tv):=by
 intro pins s σ H D I h;refine wpAny_Assign_Subscript (thn (hv pins s σ H _ I h) fun r s1⟨v,H1,I1,rv,q1⟩=>thn (ho pins s1 σ H1 _ I1 q1) fun u s2⟨x,H2,I2,rx,q2⟩=>thn (hi pins s2 σ H2 _ I2 q2) fun iv s3⟨y,H3,I3,ry,a,H4,ex,g,q3⟩=>?_) hs;subst ex;obtain rfl:u=Value.ref a:=rx;exact Wu hu I3 g ry rv fun s4 I4=>⟨σ,H4,I4,q3⟩
end
theorem ub(h:Heap)(hb:sysModules<h.objs.size):ObjOk P w H (h.push { cls:=.type "dict",data:=.dict #[] }) h.objs.size (.dK []):=
 ⟨bW _,bJ.mpr (bc (aI hb)),[],.nil,Heap.DictOf.new h⟩
def uz:TE:=fun _ H Q=>∀p,H p=none->Q (.ref p) (upd H p (.dK []))
section
variable{X:Cx}{pos:Pos}
theorem kx:PE X (.Dict [] [] pos) uz:=fun pins s σ H Q I h=>
 wpAny_Dict_empty ⟨.ref s.heap.objs.size,_,I.laid (a:=s.heap.objs.size) (o:=.dK []) (t':=s.toks) (fun _ _ q=>ag _ q) (aj _) (ub s.heap I.big),rfl,h _ (I.hok.fresh (aj _))⟩
end
structure M1(X:Cx)(o:Expr)(m:Str)(apos:Pos)(e:Expr)(cpos:Pos):Prop where
 base:attributeBase o m X.env (eval o X.env)=eval o X.env
 few:((backTo cpos (starEach [e] X.env)).all (fun x=>!x.1) && (backToKw cpos (keywordEach [] X.env)).all (fun x=>x.1.isSome)
  && decide (([e]:fU).length+([]:List Keyword).length+(if([]:List Keyword).isEmpty then 0 else 1)<30))=true
 line:(apos.endLine == cpos.line)=true
 trees:backTo cpos (starEach [e] X.env)=[(false,eval e X.env)]
structure M2(X:Cx)(o:Expr)(m:Str)(apos:Pos)(e f:Expr)(cpos:Pos):Prop where
 base:attributeBase o m X.env (eval o X.env)=eval o X.env
 few:((backTo cpos (starEach [e,f] X.env)).all (fun x=>!x.1) && (backToKw cpos (keywordEach [] X.env)).all (fun x=>x.1.isSome)
  && decide (([e,f]:fU).length+([]:List Keyword).length+(if([]:List Keyword).isEmpty then 0 else 1)<30))=true
 line:(apos.endLine == cpos.line)=true
 trees:backTo cpos (starEach [e,f] X.env)=[(false,eval e X.env),(false,eval f X.env)]
def IsD(H:Hp)(a:Addr):Prop:=(∃kvs,Rd H a (.dK kvs))\/∃kvs,Rd H a (.dT kvs)
theorem Ky{σ:St}(I:Inv X pins σ H s)(d:IsD H a) :
  s.TypeIs (.ref a) "dict"/\(∀b,Value.ref a=.ref b->∃ob,s.heap.get? b=some ob/\ob.dict=none)/\(a == sysModules)=false:=by
 rcases d with⟨kvs,e⟩|⟨kvs,e⟩
 ·obtain⟨_,hd,vs,_,dd⟩:=QO I.hok e
  refine⟨dd.typeIs,fun b q=>?_,hd⟩;cases q;obtain⟨ob,_,_,h1,h2,_⟩:=dd;exact⟨ob,h1,h2.2.1⟩
 ·obtain⟨_,hd,xs,_,dd⟩:=ZU I.hok e
  refine⟨dd.typeIs,fun b q=>?_,hd⟩;cases q;obtain⟨ob,_,_,h1,h2,_⟩:=dd;exact⟨ob,h1,h2.2.1⟩
section
variable{X:Cx}{pins:fM}{σ:St}{H:Hp}{s:Shared}{a:Addr}{y d:V}{u r:Value}{o:Option V}{A:Around}{E:fN}
theorem qe6(hu:A.units+1<cLine)(I:Inv X pins σ H s)(g:DGet H a y o)(ry:RelV y u)(h:∀w' s',Inv X pins σ H s'->RelV (o.getD .non) w'->Q w' s') :
  wpAny (model X.prog X.w) A (call (.builtin "dict.get") [.ref a,u]) Q E s:=by
 rcases g with⟨kvs,k,e,ey,l⟩|⟨kvs,k,b,e,ey,eb,l⟩
 ·subst ey
  obtain⟨z,hd,vs,rel,dd⟩:=QO I.hok e;refine cy bM dd.typeIs cz (PySem.F.args_dict_get_2 _ _) (meets_dict_get (qF X.prog X.w) a (yB ry) hd) ⟨_,dd.mapOf,h _ _ (I.tok _) ?_⟩;rw[l];exact(rel.val k).getD rfl
 ·subst ey
  cases (show u=Value.ref b from ry);obtain⟨z,hd,xs,rel,dd⟩:=ZU I.hok e;refine cy bM dd.typeIs cz (PySem.F.args_dict_get_2 _ _) (meetsH_dict_get (tupleKind (qF X.prog X.w)) a b hd) ⟨cu hu,k,xs,xZ I.hok eb,dd,h _ _ (I.tok _) ?_⟩;rw[l];exact(rel.val k).getD rfl
theorem qe5(hu:A.units+1<cLine)(I:Inv X pins σ H s)(g:DGet H a y o)(ry:RelV y u)(rd:RelV d r)(h:∀w' s',Inv X pins σ H s'->RelV (o.getD d) w'->Q w' s') :
  wpAny (model X.prog X.w) A (call (.builtin "dict.get") [.ref a,u,r]) Q E s:=by
 rcases g with⟨kvs,k,e,ey,l⟩|⟨kvs,k,b,e,ey,eb,l⟩
 ·subst ey
  obtain⟨z,hd,vs,rel,dd⟩:=QO I.hok e;refine cy bM dd.typeIs cz (dw _ _ _) (meets_dict_get_default (qF X.prog X.w) a (yB ry) hd r) ⟨_,dd.mapOf,h _ _ (I.tok _) ?_⟩;rw[l];exact(rel.val k).getD rd
 ·subst ey
  cases (show u=Value.ref b from ry);obtain⟨z,hd,xs,rel,dd⟩:=ZU I.hok e;refine cy bM dd.typeIs cz (dw _ _ _) (meetsH_dict_get_default (tupleKind (qF X.prog X.w)) a b hd r) ⟨cu hu,k,xs,xZ I.hok eb,dd,h _ _ (I.tok _) ?_⟩;rw[l];exact(rel.val k).getD rd
end
def qcx(td ty:TE):TE:=fun σ H Q=>td σ H fun x H1=>∃a,x=.ref a/\IsD H1 a/\ty σ H1 fun y H2=>∃o,DGet H2 a y o/\Q (o.getD .non) H2
def qcv(td ty tx:TE):TE:=fun σ H Q=>td σ H fun x H1=>∃a,x=.ref a/\IsD H1 a/\ty σ H1 fun y H2=>tx σ H2 fun z H3=>∃kvs k,H3 a=some (.dK kvs)/\y=kV k/\
 (∀v,valV kvs k=some v->Q v (upd H3 a (.dK (yC kvs k))))/\(valV kvs k=none->Q z H3)
section
variable{X:Cx}{o e f:Expr}{apos cpos:Pos}{td ty tx:TE}
theorem Yr(hu:X.A.units+1<cLine)(ho:PE X o td)(he:PE X e ty)(m:M1 X o "get" apos e cpos):PE X (.Call (.Attribute o "get" apos) [e] [] cpos) (qcx td ty):=by
 intro pins s σ H Q I h;refine dE m.base m.few m.line bC bM PySem.F.type_dict_get (thn (ho pins s σ H _ I h) fun u s1⟨x,H1,I1,rx,a,ex,d,q1⟩=>?_);subst ex;obtain rfl:u=Value.ref a:=rx;obtain⟨t1,t2,_⟩:=Ky I1 d;refine⟨t1,t2,?_⟩;rw[m.trees];refine bo rfl (cw (bG (thn (he pins s1 σ H1 _ I1 q1) fun iv s2⟨y,H2,I2,ry,ov,g,q2⟩=>cD ?_)));exact qe6 hu I2 g ry fun w' s3 I3 rw'=>⟨_,H2,I3,rw',q2⟩
theorem Yp(ho:PE X o td)(he:PE X e ty)(hf:PE X f tx)(m:M2 X o "pop" apos e f cpos):PE X (.Call (.Attribute o "pop" apos) [e,f] [] cpos) (qcv td ty tx):=by
 intro pins s σ H Q I h;refine dE m.base m.few m.line bC dN PySem.F.type_dict_pop (thn (ho pins s σ H _ I h) fun u s1⟨x,H1,I1,rx,a,ex,d,q1⟩=>?_);subst ex;obtain rfl:u=Value.ref a:=rx;obtain⟨t1,t2,_⟩:=Ky I1 d;refine⟨t1,t2,?_⟩;rw[m.trees];refine bo rfl (cw (bG (thn (he pins s1 σ H1 _ I1 q1) fun iv s2⟨y,H2,I2,ry,q2⟩=>
  bG (thn (hf pins s2 σ H2 _ I2 q2) fun fv s3⟨z,H3,I3,rz,kvs,k,ea,ey,q3,q4⟩=>cD ?_))))
 subst ey;cases l:valV kvs k with
 |some v=>exact qgt I3 ea ry l (.inr ⟨fv,rfl⟩) fun w' s4 I4 rw'=>⟨v,_,I4,rw',q3 v l⟩
 |none=>exact qe4 I3 ea ry l fun s4 I4=>⟨z,H3,I4,rz,q4 l⟩
end
section
variable{X:Cx}{pins:fM}{σ:St}{H:Hp}{s:Shared}{a:Addr}{kvs:List (Key×V)}{A:Around}{E:fN}
end
section
variable{X:Cx}{pins:fM}{σ:St}{H:Hp}{s:Shared}{a:Addr}{y:V}{u:Value}{A:Around}{E:fN}
end
end L2
namespace HT
open PySem PyProof.Rows
variable{Q:fN}{sl:Addr}{vl vu:Value}{hi lo:Option Int}
section
open PySem.SeqAt
open PySem.AutoSeq1 (wpAny_loadPart')
open PySem.MeetsSeq PySem.MeetsSeq2 PySem.MeetsSeq3
end
section
variable{prog:Program}{w:World}{A:Around}{E:fN}{s:Shared}
theorem cat_tup{t b:Addr}{vs ws:fQ}(ht:IsTup s.heap t vs.toArray)(hb:IsTup s.heap b ws.toArray)(hv:vs≠[])
  (h1:ws=[]->Q (.ref t) s)(h2:ws≠[]->Q (.ref s.heap.objs.size) { s with heap:=s.heap.push { cls:=.type "tuple",data:=.seq (vs++ws).toArray } })
  (hsz:vs.length+ws.length<=sizeLine):wpAny (model prog w) A (binaryOp .Add (.ref t) (.ref b)) Q E s:=by
 obtain⟨⟨cls,dd,data,sl⟩,ho,hc,n,hd⟩:=id ht;obtain⟨⟨cls2,dd2,data2,sl2⟩,ho2,hc2,n2,hd2⟩:=id hb;simp only at hc hd hc2 hd2;subst hc hd hc2 hd2;have e:vs.toArray++ws.toArray=(vs++ws).toArray:=by simp
 by_cases hw:ws=[]
 ·exact concat_meets ⟨_,ho,rfl⟩ ⟨_,ho2,rfl⟩ noFill_tuple_add seq_tuple_add PySem.F.slot_tuple_add PySem.F.entry_tuple_add (fw _ _)
   (tuple_addW1 t b vs.toArray ws.toArray n n2 dd dd2 sl sl2 (by simpa using hv) (by simp[hw])) ⟨ho,ho2,h1 hw⟩
 ·refine concat_meets ⟨_,ho,rfl⟩ ⟨_,ho2,rfl⟩ noFill_tuple_add seq_tuple_add PySem.F.slot_tuple_add PySem.F.entry_tuple_add (fw _ _)
   (tuple_addW2 t b vs.toArray ws.toArray n n2 dd dd2 sl sl2 (by simpa using hv) (by simpa using hw) (by rw[av,av];exact hsz)) ⟨ho,ho2,?_⟩
  rw[e];exact h2 hw
def sIx(n d:Nat):Option Int->Nat
 |none=>d
 |some v=>if v<0 then(v+(n:Int)).toNat else min v.toNat n
theorem qc6(n d:Nat)(hd:d<=n)(o:Option Int):sIx n d o<=n:=by
 cases o with
 |none=>exact hd
 |some v=>
  show(if v<0 then(v+(n:Int)).toNat else min v.toNat n)<=n
  by_cases hv:v<0
  ·rw[aH hv];omega
  ·rw[aG hv];exact Nat.min_le_right _ _
theorem WC(v:Int)(n d:Nat):(if v<0 then max (v+(n:Int)) 0 else min v (n:Int))=((sIx n d (some v):Nat):Int):=by
 show(if v<0 then max (v+(n:Int)) 0 else min v (n:Int))=(((if v<0 then(v+(n:Int)).toNat else min v.toNat n):Nat):Int)
 by_cases hv:v<0
 ·simp only[aH hv];omega
 ·simp only[aG hv];omega
theorem VF(lo hi:Option Int)(n:Nat):Builtin.Slice.sliceAdjust lo hi 1 (n:Int)=(((sIx n 0 lo:Nat):Int),((sIx n n hi:Nat):Int)):=by
 have h1:¬ ((1:Int)<0):=by omega
 unfold Builtin.Slice.sliceAdjust;simp only[h1,cv];refine Prod.ext ?_ ?_
 ·cases lo with
  |none=>rfl
  |some v=>exact WC v n 0
 ·cases hi with
  |none=>rfl
  |some v=>exact WC v n n
theorem Va(i j:Nat):Builtin.Slice.slicePlaces (i:Int) (j:Int) 1=j - i:=by
 unfold Builtin.Slice.slicePlaces;have h1:(1:Int) > 0:=by omega
 simp only[h1,aP,Int.ediv_one]
 split <;> omega
theorem yG{v:Value}{o:Option Int}{Q:Option Int->Shared->Prop}(p:IsPart v o)(h:Q o s):wpAny (model prog w) A (Builtin.Slice.slicePartIndex v) Q E s:=by
 cases p with
 |none=>exact slicePart_none h
 |int i t=>exact slicePart_int h
theorem wm{n:Nat}{Q:Int×Int×Nat->Shared->Prop}(hs:s.heap.IsSliceOf sl vl vu .none)(pl:IsPart vl lo)(pu:IsPart vu hi)
  (h:Q (((sIx n 0 lo:Nat):Int),1,sIx n n hi - sIx n 0 lo) s):wpAny (model prog w) A (Builtin.Slice.sliceApplied (.ref sl) (pure (n:Int))) Q E s:=by
 obtain⟨os,hos,hcs,hds⟩:=id hs;unfold Builtin.Slice.sliceApplied Builtin.Slice.sliceFields;refine ae (ae (bF hos hds (x:=vl) rfl (ae (bF hos hds (x:=vu) rfl (ae (bF hos hds (x:=.none) rfl (ax ?_)))))));refine ae (slicePart_none ?_);show wpAny _ _ (if((1:Int) == 0)=true then _ else _) _ _ s;rw[aG (by decide)];refine ae (yG pl (ae (yG pu (ae (ax ?_)))));show wpAny _ _ (match Builtin.Slice.sliceAdjust lo hi 1 (n:Int)with|(lo,hi)=>pure (lo,(1:Int),Builtin.Slice.slicePlaces lo hi 1)) _ _ s;rw[VF lo hi n];show wpAny _ _ (pure (((sIx n 0 lo:Nat):Int),(1:Int),Builtin.Slice.slicePlaces ((sIx n 0 lo:Nat):Int) ((sIx n n hi:Nat):Int) 1)) _ _ s;rw[Va];exact ax h
theorem Yh(xs:fS)(i k:Nat):((List.range k).filterMap fun(m:Nat)=>xs[((i:Int)+(m:Int) * 1).toNat]?).toArray=((xs.toList.drop i).take k).toArray:=by
 have e:(fun(m:Nat)=>xs[((i:Int)+(m:Int) * 1).toNat]?)=fun m=>xs[i+m]?:=by
  funext m
  have:((i:Int)+(m:Int) * 1).toNat=i+m:=by omega
  rw[this]
 rw[e];have:=pick_run xs i k;rw[List.filterMap_map]at this;have e2:((fun x=>xs[x]?) ∘ fun x=>i+x)=fun m=>xs[i+m]?:=rfl
 rw[e2]at this;rw[this]
theorem getItem_tuple_cut{t:Addr}{items:fS}(ht:IsTup s.heap t items)(hs:s.heap.IsSliceOf sl vl vu .none)(pl:IsPart vl lo)(pu:IsPart vu hi)
  (hw:¬ (sIx items.size 0 lo=0/\sIx items.size items.size hi=items.size))
  (h:Q (.ref s.heap.objs.size) { s with heap:=s.heap.push { cls:=.type "tuple",data:=.seq ((items.toList.drop (sIx items.size 0 lo)).take (sIx items.size items.size hi - sIx items.size 0 lo)).toArray } })
  (hsz:items.size<=sizeLine):wpAny (model prog w) A (getItem (.ref t) (.ref sl)) Q E s:=by
 have htake:sizeOk (.seq ((items.toList.drop (sIx items.size 0 lo)).take (sIx items.size items.size hi - sIx items.size 0 lo)).toArray):=by
  show((items.toList.drop (sIx items.size 0 lo)).take (sIx items.size items.size hi - sIx items.size 0 lo)).toArray.size<=sizeLine;rw[av,c7,dQ,bK];omega
 have hj:sIx items.size items.size hi<=items.size:=qc6 _ _ (aj _) hi;obtain⟨os,hos,hcs,hds⟩:=id hs;have hTs:s.TypeIs (.ref sl) "slice":=⟨os,hos,hcs⟩;unfold getItem
 try with_reducible refine bj ?_
 first|refine ae (ax ?_)|skip
 refine ae (wpAny_sequenceKey ht.typeIs (by decide) ?_);refine ae (cM (name:=Str.ofString "__getitem__") ht.typeIs cF
  (dR cF ht.typeIs entry_tuple_getitem ?_ (args_tuple_getitem _ _)))
 show wpAny _ _ (Builtin.Tuple.tupleItemsOf (.ref t) >>= _) _ _ s;refine ae (tupleItemsOf_ ht ?_);refine ae (wpAny_typeOf hTs ?_);rw[aH (by decide)];refine ae (wm hs pl pu ?_);have hno:¬ ((((sIx items.size 0 lo:Nat):Int) == 0 && (1:Int) == 1 && (sIx items.size items.size hi - sIx items.size 0 lo) == items.size)=true):=by
  intro q;rw[b9,b9]at q;have q1:((sIx items.size 0 lo:Nat):Int)=0:=eq_of_beq q.1.1;have q2:sIx items.size items.size hi - sIx items.size 0 lo=items.size:=eq_of_beq q.2;exact hw ⟨by omega,by omega⟩
 show wpAny _ _ (if(((sIx items.size 0 lo:Nat):Int) == 0 && (1:Int) == 1 && (sIx items.size items.size hi - sIx items.size 0 lo) == items.size)=true then _ else _) _ _ s;rw[aG hno,Yh]
 first
  |exact ae (m:=Builtin.Tuple.tupleExact _) (bD (ax ⟨_,rfl,ax h⟩) htake)
  |exact ae (m:=Builtin.Tuple.tupleExact _) (bD (ae (ax (ax ⟨_,rfl,ax h⟩))) htake)
  |exact ae (ae (m:=Builtin.Tuple.tupleExact _) (bD (ax (ax ⟨_,rfl,ax h⟩)) htake))
  |exact ae (ae (m:=Builtin.Tuple.tupleExact _) (bD (ax ⟨_,rfl,ax h⟩) htake))
end
end HT
namespace L2
open PySem PySem.Spec PyProof.Rows
variable{α:Type}{its:fQ}{t':Nat}
abbrev TO:=St->Hp->(Option Int->Hp->Prop)->Prop
def PO(X:Cx)(e:Option Expr)(t:TO):Prop:=
 ∀(pins:fM)(s:Shared)(σ:St)(H:Hp)(Q:Option Int->Hp->Prop),Inv X pins σ H s->t σ H Q->
  wpAny (model X.prog X.w) X.A (evalPart e X.env) (fun u s'=>∃o H',Inv X pins σ H' s'/\IsPart u o/\Q o H') X.xe s
def u6:TO:=fun _ H Q=>Q none H
def qfm(t:TE):TO:=fun σ H Q=>t σ H fun x H1=>∃i,x=.int i/\Q (some i) H1
section
variable{X:Cx}{e:Expr}{te:TE}{lo hi:Option Expr}{tl th:TO}{pos p2:Pos}
theorem qaq:PO X none u6:=by
 intro pins s σ H Q I h;rw[evalPart_none];exact ax ⟨none,H,I,.none,h⟩
theorem qap(h:PE X e te):PO X (some e) (qfm te):=by
 intro pins s σ H Q I hw;rw[evalPart_some];refine thn (h pins s σ H _ I hw) fun u s1⟨x,H1,I1,r1,q1⟩=>?_
 obtain⟨i,rfl,q⟩:=q1;obtain⟨t,rfl⟩:=r1;exact⟨some i,H1,I1,.int i t,q⟩
def SlR(X:Cx)(r:V->Option Int->Option Int->Hp->VK->Prop):Prop:=
 ∀(pins:fM)(s:Shared)(σ:St)(H:Hp)(x:V)(v vl vu:Value)(lo hi:Option Int)(sl:Addr)(Q:VK),Inv X pins σ H s->RelV x v->s.heap.IsSliceOf sl vl vu .none->IsPart vl lo->IsPart vu hi->r x lo hi H Q->
  ∃T id,typeLookup (.type T) "__getitem__"=pure (some (.builtin id))/\s.TypeIs v T/\wpAny (model X.prog X.w) X.A (getItem v (.ref sl)) (EP X pins σ Q) X.xe s
theorem SlR.or{r r':V->Option Int->Option Int->Hp->VK->Prop}(h:SlR X r)(h':SlR X r'):SlR X (fun x lo hi H Q=>r x lo hi H Q\/r' x lo hi H Q):=by
 intro pins s σ H x v vl vu lo hi sl Q I rx hs pl pu q;rcases q with q|q
 ·exact h pins s σ H x v vl vu lo hi sl Q I rx hs pl pu q
 ·exact h' pins s σ H x v vl vu lo hi sl Q I rx hs pl pu q
def tSl(r:V->Option Int->Option Int->Hp->VK->Prop)(te:TE)(tl th:TO):TE:=fun σ H Q=>te σ H fun x H1=>tl σ H1 fun l H2=>th σ H2 fun u H3=>r x l u H3 Q
theorem Yk{r:V->Option Int->Option Int->Hp->VK->Prop}(hr:SlR X r)(he:PE X e te)(hl:PO X lo tl)(hu:PO X hi th):PE X (.Subscript e (.Slice lo hi none p2) pos) (tSl r te tl th):=by
 intro pins s σ H Q I h;refine Subscript_ (thn (he pins s σ H _ I h) fun v s1⟨x,H1,I1,r1,q1⟩=>?_);refine wpAny_Slice (thn (hl pins s1 σ H1 _ I1 q1) fun vl s2⟨l,H2,I2,pl,q2⟩=>thn (hu pins s2 σ H2 _ I2 q2) fun vu s3⟨u,H3,I3,pu,q3⟩=>?_);rw[evalPart_none];refine ax ?_;have I4:Inv X pins σ H3 { s3 with heap:=s3.heap.push { cls:=.type "slice",data:=.fields #[vl,vu,.none] } }:=I3.kept (t':=s3.toks) fun b ob q=>ag _ q
 obtain⟨T,id,hT,ht,hg⟩:=hr pins { s3 with heap:=s3.heap.push { cls:=.type "slice",data:=.fields #[vl,vu,.none] } } σ H3 x v vl vu l u s3.heap.objs.size Q I4 r1 (Heap.IsSliceOf.new ..) pl pu q3;show wpAny (model X.prog X.w) X.A (subscriptTail e (.Slice lo hi none p2) v (.ref s3.heap.objs.size)) (EP X pins σ Q) X.xe { s3 with heap:=s3.heap.push { cls:=.type "slice",data:=.fields #[vl,vu,.none] } };exact tail_any (ops:=[.ref s3.heap.objs.size,v]) ht hT hg (by with_unfolding_all rfl)
def cutV(xs:List V)(lo hi:Option Int):List V:=(xs.drop (HT.sIx xs.length 0 lo)).take (HT.sIx xs.length xs.length hi - HT.sIx xs.length 0 lo)
theorem yt(xs:List V)(lo hi:Option Int):(cutV xs lo hi).length<=xs.length:=by
 unfold cutV;rw[c7,dQ];omega
def rSlT(K:fL):V->Option Int->Option Int->Hp->VK->Prop:=fun x lo hi H Q=>∃a xs,x=.ref a/\SqT K H a xs/\
 ¬ (HT.sIx xs.length 0 lo=0/\HT.sIx xs.length xs.length hi=xs.length)/\∀p,H p=none->Q (.ref p) (upd H p (.tup (cutV xs lo hi)))
theorem qc2:SlR X (rSlT X.K):=by
 intro pins s σ H x v vl vu lo hi sl Q I rx hs pl pu h;obtain⟨a,xs,rfl,hx,hw,q⟩:=h;cases rx;obtain⟨its,r,ht,hz⟩:=I.tuple hx;have hlen:its.toArray.size=xs.length:=by rw[av];exact r.length.symm
 refine⟨"tuple",_,cF.lookup,ht.typeIs,?_⟩;refine HT.getItem_tuple_cut ht hs pl pu (by rw[hlen];exact hw) ?_ (by rw[hlen];exact hz);rw[hlen];refine⟨.ref s.heap.objs.size,_,I.laid (t':=s.toks) (o:=.tup (cutV xs lo hi)) (fun b ob q=>ag _ q) (aj _) ?_,rfl,q _ (I.hok.fresh (aj _))⟩;exact⟨aW (yt xs lo hi) hz,_,(r.drop (HT.sIx xs.length 0 lo)).take (HT.sIx xs.length xs.length hi - HT.sIx xs.length 0 lo),IsTup.new _ _⟩
def qc9(K:fL):R2:=fun x y H Q=>∃a b xs ys,x=.ref a/\y=.ref b/\SqT K H a xs/\SqT K H b ys/\xs≠[]/\xs.length+ys.length<=sizeLine/\
 (ys=[]->Q (.ref a) H)/\(ys≠[]->∀p,H p=none->Q (.ref p) (upd H p (.tup (xs++ys))))
theorem Vals.nil_iff{xs:List V}{us:fQ}(r:Vals xs us):us=[]↔xs=[]:=by
 cases r with
 |nil=>simp
 |cons _ _=>simp
theorem qa3:OpR X (binaryOp .Add) (qc9 X.K):=by
 intro pins s σ H x y v u Q I rx ry h;obtain⟨a,b,xs,ys,rfl,rfl,ha,hb,hx,hz,q1,q2⟩:=h;cases rx;cases ry;obtain⟨its,r1,p1,_⟩:=I.tuple ha;obtain⟨its2,r2,p2,_⟩:=I.tuple hb;refine HT.cat_tup p1 p2 (fun z=>hx (r1.nil_iff.mp z)) (fun z=>⟨.ref a,H,I,rfl,q1 (r2.nil_iff.mp z)⟩) (fun z=>?_) (by rw[<- r1.length,<- r2.length];exact hz);refine⟨.ref s.heap.objs.size,_,I.laid (t':=s.toks) (o:=.tup (xs++ys)) (fun b ob q=>ag _ q) (aj _) ?_,rfl,q2 (fun w=>z (r2.nil_iff.mpr w)) _ (I.hok.fresh (aj _))⟩;exact⟨by rw[ar];exact hz,_,r1.append r2,IsTup.new _ _⟩
end
def ixN(n:Nat)(i:Int):Option Nat:=if 0<=i then(if i<n then some i.toNat else none)else if -(n:Int)<=i then some (i+n).toNat else none
def atI{α:Type}(xs:List α)(i:Int):Option α:=(ixN xs.length i).bind fun j=>xs[j]?
theorem qbn{n:Nat}{i:Int}{j:Nat}(h:ixN n i=some j):seqIndex? i n=some j/\j<n/\-(n:Int)<=i/\i<n:=by
 unfold ixN at h
 by_cases h0:0<=i
 ·rw[aH h0]at h
  by_cases h1:i<n
  ·rw[aH h1]at h
   have e:i.toNat=j:=bY h;exact⟨by rw[seqIndex_of h0 h1,e],by omega,by omega,h1⟩
  ·rw[aG h1]at h;cases h
 ·rw[aG h0]at h
  by_cases h1:-(n:Int)<=i
  ·rw[aH h1]at h
   have e:(i+n).toNat=j:=bY h;exact⟨by rw[seqIndex_neg (by omega) h1,e],by omega,h1,by omega⟩
  ·rw[aG h1]at h;cases h
theorem JT{xs:List α}{i:Int}{v:α}(h:atI xs i=some v):∃j,seqIndex? i xs.length=some j/\xs[j]?=some v/\j<xs.length/\-(xs.length:Int)<=i/\i<xs.length:=by
 unfold atI at h;cases e:ixN xs.length i with
 |none=>rw[e]at h;cases h
 |some j=>
  rw[e]at h;obtain⟨h1,h2,h3,h4⟩:=qbn e;exact⟨j,h1,h,h2,h3,h4⟩
theorem WP{xs:List α}{j:Nat}{v:α}(h:xs[j]?=some v):atI xs (j:Int)=some v:=by
 have hj:j<xs.length:=(ai.mp h).1;have e:ixN xs.length (j:Int)=some j:=by
  unfold ixN;rw[aH (by omega),aH (by omega)];simp
 unfold atI;rw[e];exact h
def JU(b:Expr):Prop:=∀o i,subscripted b false o i=operate [o,i] (getItem o i)
def IxR(X:Cx)(r:R2):Prop:=
 ∀(value slice:Expr)(pins:fM)(s:Shared)(σ:St)(H:Hp)(x y:V)(v u:Value)(Q:VK),Inv X pins σ H s->RelV x v->RelV y u->r x y H Q->
  subscripted slice false v u=operate [v,u] (getItem v u)->wpAny (model X.prog X.w) X.A (subscriptTail value slice v u) (EP X pins σ Q) X.xe s
def MtR(X:Cx)(id:String)(r:V->List V->Hp->VK->Prop):Prop:=
 ∀(pins:fM)(s:Shared)(σ:St)(H:Hp)(x:V)(xs:List V)(v:Value)(us:fQ)(Q:VK),Inv X pins σ H s->RelV x v->Vals xs us->r x xs H Q->
  wpAny (model X.prog X.w) X.A (call (.builtin id) (v::us)) (EP X pins σ Q) X.xe s
section
variable{X:Cx}{a b:Expr}{ta tb:TE}{pos:Pos}
theorem IxR.or{r r':R2}(h:IxR X r)(h':IxR X r'):IxR X (fun x y H Q=>r x y H Q\/r' x y H Q):=by
 intro value slice pins s σ H x y v u Q I rx ry q hs;rcases q with q|q
 ·exact h value slice pins s σ H x y v u Q I rx ry q hs
 ·exact h' value slice pins s σ H x y v u Q I rx ry q hs
theorem qdr{r:R2}(hr:IxR X r)(ha:PE X a ta)(hb:PE X b tb)(hs:JU b):PE X (.Subscript a b pos) (tOp r ta tb):=by
 intro pins s σ H Q I h;exact Subscript_ (binT ha hb I h fun v u s2 x y H2 I2 rx ry q=>hr a b pins s2 σ H2 x y v u Q I2 rx ry q (hs _ _))
def rIxL(K:fL):R2:=fun x y H Q=>∃p xs i v,x=.ref p/\y=.int i/\SqL K H p xs/\atI xs i=some v/\Q v H
def rIxT(K:fL):R2:=fun x y H Q=>∃p xs i v,x=.ref p/\y=.int i/\SqT K H p xs/\atI xs i=some v/\Q v H
def rIxS:R2:=fun x y H Q=>∃z i c,x=.str z/\y=.int i/\z.length<=sizeLine/\atI z.cps.toList i=some c/\Q (.str ⟨#[c]⟩) H
theorem ix_list:IxR X (rIxL X.K):=by
 intro value slice pins s σ H x y v u Q I rx ry h hs;obtain⟨p,xs,i,z,rfl,rfl,hq,he,q⟩:=h;cases rx;obtain⟨t,rfl⟩:=ry;obtain⟨its,r,pl,hz⟩:=I.list hq;obtain⟨j,h1,h2,h3,h4,h5⟩:=JT he;obtain⟨w,ew,rw'⟩:=r.get h2;have hl:=r.length;have hn:=ZC;have fin:EP X pins σ Q w s:=⟨z,H,I,rw',q⟩
 by_cases h0:0<=i
 ·have hj:i.toNat=j:=by
   rw[seqIndex_of h0 h5]at h1;exact bY h1
  exact item_listR pl.isList h0 (by omega) (by rw[hj];simpa using ew) fin hs
 ·have hj:(i+(its.toArray.size:Int)).toNat=j:=by
   rw[seqIndex_neg (by omega) h4]at h1;rw[av,<- hl];exact bY h1
  exact subscriptTail_builtinR (x:=w) pl.isList.typeIs slot_list_getitem.lookup
   (wpAny_getItem_list_neg (Q:=fun r s'=>r=w/\EP X pins σ Q r s') pl.isList (by omega) (by rw[av] <;> omega) (by omega) (by rw[hj];simpa using ew) ⟨rfl,fin⟩) hs
theorem ix_tup:IxR X (rIxT X.K):=by
 intro value slice pins s σ H x y v u Q I rx ry h hs;obtain⟨p,xs,i,z,rfl,rfl,hq,he,q⟩:=h;cases rx;obtain⟨t,rfl⟩:=ry;obtain⟨its,r,pl,hz⟩:=I.tuple hq;obtain⟨j,h1,h2,h3,h4,h5⟩:=JT he;obtain⟨w,ew,rw'⟩:=r.get h2;have hl:=r.length;have hn:=ZC;have fin:EP X pins σ Q w s:=⟨z,H,I,rw',q⟩;exact subscriptTail_builtinR (x:=w) pl.typeIs slot_tuple_getitem.lookup
  (getItem_tuple (j:=j) (Q:=fun r s'=>r=w/\EP X pins σ Q r s') pl (by omega) (by omega) (by rw[av,<- hl];exact h1) (by simpa using ew) ⟨rfl,fin⟩) hs
theorem qeh:IxR X rIxS:=by
 intro value slice pins s σ H x y v u Q I rx ry h hs;obtain⟨z,i,c,rfl,rfl,hz,he,q⟩:=h;obtain⟨t,rfl⟩:=rx;obtain⟨t',rfl⟩:=ry;obtain⟨j,h1,h2,h3,h4,h5⟩:=JT he;have hl:z.cps.toList.length=z.length:=by simp[Str.length]
 rw[hl]at h1 h4 h5;have hn:=ZC;exact tail_any (typeIs_str s z t) slot_str_getitem.lookup (getItem_str (c:=c) (by
  have e1:decide (i < -(2 ^ 63:Int))=false:=aK (by omega);have e2:decide (i >= 2 ^ 63)=false:=aK (by omega);rw[e1,e2,Bool.or_false]) (by rw[h1];simpa using h2) ⟨.str ⟨#[c]⟩,H,I.tok _,⟨_,rfl⟩,q⟩) hs
def rIx(K:fL):R2:=fun x y H Q=>rIxL K x y H Q\/rIxT K x y H Q\/rIxS x y H Q
theorem ix_seq:IxR X (rIx X.K):=ix_list.or (ix_tup.or qeh)
theorem Zd(lo hi:Option Int)(n:Nat):(sliceBounds lo hi none n).1=((HT.sIx n 0 lo:Nat):Int)/\(sliceBounds lo hi none n).2.1=((HT.sIx n n hi:Nat):Int)/\(sliceBounds lo hi none n).2.2=1:=by
 refine⟨?_,?_,rfl⟩
 ·cases lo with
  |none=>simp[sliceBounds,HT.sIx]
  |some i=>
   simp only[sliceBounds,HT.sIx,Option.getD_none,show(1:Int) > 0 by decide,aP]
   by_cases h:i<0
   ·simp only[h,aP] <;> omega
   ·simp only[h,cv] <;> omega
 ·cases hi with
  |none=>simp[sliceBounds,HT.sIx]
  |some i=>
   simp only[sliceBounds,HT.sIx,Option.getD_none,show(1:Int) > 0 by decide,aP]
   by_cases h:i<0
   ·simp only[h,aP] <;> omega
   ·simp only[h,cv] <;> omega
theorem Qb(its:fQ)(lo hi:Option Int):slicePick its.toArray lo hi none=((its.drop (HT.sIx its.length 0 lo)).take (HT.sIx its.length its.length hi - HT.sIx its.length 0 lo)).toArray:=by
 obtain⟨h1,h2,h3⟩:=Zd lo hi its.toArray.size;unfold slicePick;rw[h1,h2,h3];simp only[sliceRange_one,pick_run,av] <;> rfl
def rSlL(K:fL):V->Option Int->Option Int->Hp->VK->Prop:=fun x lo hi H Q=>∃a xs,x=.ref a/\SqL K H a xs/\∀p,H p=none->Q (.ref p) (upd H p (.lst (cutV xs lo hi)))
theorem qab:SlR X (rSlL X.K):=by
 intro pins s σ H x v vl vu lo hi sl Q I rx hs pl pu h;obtain⟨a,xs,rfl,hx,q⟩:=h;cases rx;obtain⟨its,r,ht,hz⟩:=I.list hx;have hlen:=r.length;refine⟨"list",_,slot_list_getitem.lookup,ht.isList.typeIs,?_⟩;refine wpAny_getItem_list_slice ht.isList hs pl pu .none (by simp) ?_ (by rw[av] <;> omega);rw[Qb,<- hlen];refine⟨.ref s.heap.objs.size,_,I.laid (t':=s.toks) (o:=.lst (cutV xs lo hi)) (fun b ob q=>ag _ q) (aj _) ?_,rfl,q _ (I.hok.fresh (aj _))⟩;exact⟨aW (yt xs lo hi) hz,_,0,(r.drop (HT.sIx xs.length 0 lo)).take (HT.sIx xs.length xs.length hi - HT.sIx xs.length 0 lo),a7 _ rfl⟩
theorem CallR.or{f:Value}{r r':List V->Hp->VK->Prop}(h:CallR X f r)(h':CallR X f r'):CallR X f (fun xs H Q=>r xs H Q\/r' xs H Q):=by
 intro pins s σ H xs us Q I rs q;rcases q with q|q
 ·exact h pins s σ H xs us Q I rs q
 ·exact h' pins s σ H xs us Q I rs q
theorem QX:CallR X (.type "tuple") (fun xs H Q=>∃p ys,xs=[.ref p]/\((SqL X.K H p ys/\∀l,H l=none->Q (.ref l) (upd H l (.tup ys)))\/(SqT X.K H p ys/\Q (.ref p) H))):=by
 intro pins s σ H xs us Q I r h;obtain⟨p,ys,rfl,h⟩:=h;obtain⟨u,rfl,rx⟩:=vals1 r;cases rx;rcases h with⟨hq,q⟩|⟨hq,q⟩
 ·obtain⟨its,r',pl,hz⟩:=I.list hq
  have hlen:=r'.length;refine call_tuple_list pl.isList (fun h' kp=>?_) (by simp only[av] <;> omega);have I1:Inv X pins σ H { s with heap:=h' }:=I.kept (t':=s.toks) kp;have I2:Inv X pins σ (upd H h'.objs.size (.tup ys)) { s with heap:=h'.push { cls:=.type "tuple",data:=.seq its.toArray } }:=
   I1.laid (t':=s.toks) (fun b o e=>ag _ e) (aj _) (show ObjOk X.prog X.w _ _ _ (.tup ys)from⟨hz,its,r',IsTup.new _ _⟩)
  exact⟨.ref h'.objs.size,_,I2,rfl,q _ (I1.hok.fresh (aj _))⟩
 ·obtain⟨its,r',pl,hz⟩:=I.tuple hq
  exact call_tuple_same pl ⟨.ref p,H,I,rfl,q⟩
def tyV(K:fL)(T:String)(x:V)(H:Hp):Prop:=match x with
 |.str _=>T="str"
 |.int _=>T="int"
 |.ref p=>(T="list"/\∃xs,SqL K H p xs)\/(T="tuple"/\∃o,K.lookup p=some o/\o.cls=.type "tuple"/\o.dict=none)\/
   (T="dict"/\((∃kvs,H p=some (.dK kvs))\/∃kvs,H p=some (.dT kvs)))\/(T="set"/\∃S n,H p=some (.set S n))
 |_=>False
theorem JY{pins:fM}{σ:St}{H:Hp}{s:Shared}{T:String}{x:V}{v:Value}(I:Inv X pins σ H s)(r:RelV x v)(ty:tyV X.K T x H) :
  s.TypeIs v T/\∀a,v=.ref a->∃ob,s.heap.get? a=some ob/\ob.dict=none:=by
 cases x with
 |str z=>
  obtain⟨t,rfl⟩:=r;cases (show T="str" from ty);exact⟨typeIs_str s z t,fun _ e=>nomatch e⟩
 |int i=>
  obtain⟨t,rfl⟩:=r;cases (show T="int" from ty);exact⟨typeIs_int s i t,fun _ e=>nomatch e⟩
 |ref p=>
  cases r;rcases ty with⟨rfl,xs,hq⟩|⟨rfl,o,hk,hc,hd⟩|⟨rfl,hk⟩|⟨rfl,S,n,hk⟩
  ·obtain⟨its,_,pl,_⟩:=I.list hq
   refine⟨pl.isList.typeIs,fun a e=>?_⟩;cases e;obtain⟨o,n,e,c,hd,_⟩:=pl;exact⟨o,e,hd⟩
  ·refine⟨⟨o,I.kIn p o hk,hc⟩,fun a e=>?_⟩
   cases e;exact⟨o,I.kIn _ o hk,hd⟩
  ·have z:∃o,s.heap.get? p=some o/\o.ExactDict:=by
    rcases hk with⟨kvs,hk⟩|⟨kvs,hk⟩
    ·obtain⟨_,_,_,_,o,_,_,e,ex,_⟩:=I.hok p _ hk
     exact⟨o,e,ex⟩
    ·obtain⟨_,_,_,_,o,_,_,e,ex,_⟩:=I.hok p _ hk
     exact⟨o,e,ex⟩
   obtain⟨o,e,ex⟩:=z;refine⟨⟨o,e,ex.1⟩,fun a e2=>?_⟩;cases e2;exact⟨o,e,ex.2.1⟩
  ·obtain⟨o,_,_,_,e,ex,_⟩:=I.hok p _ hk
   refine⟨⟨o,e,ex.1⟩,fun a e2=>?_⟩;cases e2;exact⟨o,e,ex.2.1⟩
 |_=>exact False.elim ty
def tBM0(K:fL)(T:String)(r:V->List V->Hp->VK->Prop)(to:TE):TE:=fun σ H Q=>to σ H fun x H1=>tyV K T x H1/\r x [] H1 Q
def tBM(K:fL)(T:String)(r:V->List V->Hp->VK->Prop)(to:TE)(t:TA):TE:=fun σ H Q=>to σ H fun x H1=>tyV K T x H1/\t σ H1 fun xs H2=>r x xs H2 Q
variable{o e:Expr}{es:fU}{to:TE}{t:TA}{name:Str}{apos cpos:Pos}{T id:String}{r:V->List V->Hp->VK->Prop}
theorem uG(pa:PlainAttrs T)(slot:Slot T name id)(hty:typeOf (.builtin id)=pure (.type "method_descriptor"))(hm:MtR X id r)(ho:PE X o to)
  (hbase:attributeBase o name X.env (eval o X.env)=eval o X.env:=by rfl)(hline:(apos.endLine == cpos.line)=true:=by rfl):PE X (.Call (.Attribute o name apos) [] [] cpos) (tBM0 X.K T r to):=by
 intro pins s σ H Q I h;refine wpAny_Call_method0_late hbase hline (thn (ho pins s σ H _ I h) fun v s1⟨x,H1,I1,r1,ty,q1⟩=>?_);obtain⟨h1,h2⟩:=JY I1 r1 ty;exact⟨T,id,pa,slot,hty,h1,h2,bo rfl (eO (hm pins s1 σ H1 x [] v [] Q I1 r1 .nil q1))⟩
theorem Xo(pa:PlainAttrs T)(slot:Slot T name id)(hty:typeOf (.builtin id)=pure (.type "method_descriptor"))(hm:MtR X id r)(ho:PE X o to)(ha:PA X (e::es) t)
  (hbase:attributeBase o name X.env (eval o X.env)=eval o X.env:=by rfl)
  (hfew:((backTo cpos (starEach (e::es) X.env)).all (fun x=>!x.1) && (backToKw cpos (keywordEach [] X.env)).all (fun x=>x.1.isSome)
   && decide ((e::es).length+([]:List Keyword).length+(if([]:List Keyword).isEmpty then 0 else 1)<30))=true:=by rfl)
  (hline:(apos.endLine == cpos.line)=true:=by rfl)(hs:starEach (e::es) X.env=(false,eval e X.env)::starEach es X.env:=by rfl)(hplain:(backTo cpos (starEach es X.env)).any (·.1)=false:=by rfl) :
  PE X (.Call (.Attribute o name apos) (e::es) [] cpos) (tBM X.K T r to t):=by
 intro pins s σ H Q I h;refine wpAny_Call_method_late hbase hfew hline rfl (thn (ho pins s σ H _ I h) fun v s1⟨x,H1,I1,r1,ty,q1⟩=>?_);obtain⟨h1,h2⟩:=JY I1 r1 ty;refine⟨T,id,pa,slot,hty,h1,h2,?_⟩;have hA:=ha cpos pins s1 σ H1 _ I1 q1;rw[hs]at hA ⊢;refine bo (by show(false || (backTo cpos (starEach es X.env)).any (·.1))=false;rw[hplain] <;> rfl) (cw ?_);exact thn hA fun us s2⟨vs,H2,I2,r2,q2⟩=>hm pins s2 σ H2 x vs v us Q I2 r1 r2 q2
end
def MtM(X:Cx)(id:String)(r:V->List V->Hp->VK->Prop):Prop:=
 ∀(pins:fM)(s:Shared)(σ:St)(H:Hp)(x:V)(xs:List V)(v:Value)(us:fQ)(Q:VK),Inv X pins σ H s->RelV x v->Vals xs us->r x xs H Q->
  wpAny (model X.prog X.w) X.A (call (.builtin id) (v::us)) (EP X pins σ Q) X.xe s
theorem Vals.one:∀{x:V}{us:fQ},Vals [x] us->∃u,us=[u]/\RelV x u
 |_,_,.cons r .nil=>⟨_,rfl,r⟩
theorem Vals.rep{xs:List V}{us:fQ}(h:Vals xs us):∀k:Nat,Vals (List.replicate k xs).flatten (List.replicate k us).flatten
 |0=>.nil
 |k+1=>by
  rw[cN,cN,dF,dF];exact Vals.append h (Vals.rep h k)
theorem foldl_rep(its:fQ):∀(k:Nat)(acc:fQ),
  List.foldl (fun x1 x2=>x1++x2) acc.toArray (List.replicate k its.toArray)=(acc++(List.replicate k its).flatten).toArray
 |0,acc=>by simp
 |k+1,acc=>by
  have e:acc.toArray++its.toArray=(acc++its).toArray:=by simp
  have e2:(acc++its)++(List.replicate k its).flatten=acc++(List.replicate (k+1) its).flatten:=by
   rw[cN,dF,cG]
  rw[<- e2,<- foldl_rep its k (acc++its),<- e,cN,List.foldl_cons]
section
variable{X:Cx}{pins:fM}{σ:St}{H:Hp}{s:Shared}{l b:Addr}{xs ys zs:List V}
theorem Inv.lset{its':fQ}{n:Nat}{f:fS->fS}(I:Inv X pins σ H s)(hH:H l=some (.lst xs))
  (e:s.heap.get? l=some { cls:=.type "list",data:=.seq its.toArray n })(hf:f its.toArray=its'.toArray)(hv:Vals ys its')(hz:ys.length<=sizeLine) :
  Inv X pins σ (upd H l (.lst ys)) { s with heap:=s.heap.update l (Obj.mapSeq f),toks:=t' }:=by
 have q:=PySem.IsL.update e f;rw[hf]at q;refine I.write (x:=l) (e:=l) (by rw[hH];exact trivial) (.inl rfl) (fun b' u hb hu=>(aT s.heap (Obj.mapSeq f) (bc hb)).trans hu) ⟨_,q⟩ ?_;exact⟨hz,its',_,hv,q⟩
theorem Inv.lnew(I:Inv X pins σ H s)(hv:Vals ys its)(hz:ys.length<=sizeLine) :
  Inv X pins σ (upd H s.heap.objs.size (.lst ys)) { s with heap:=s.heap.push { cls:=.type "list",data:=.seq its.toArray },toks:=t' }:=
 I.laid (fun _ _ q=>ag _ q) (aj _) ⟨hz,its,0,hv,a7 _ rfl⟩
theorem Inv.fresh(I:Inv X pins σ H s):H s.heap.objs.size=none:=I.hok.fresh (aj _)
theorem Inv.lstM(I:Inv X pins σ H s)(hH:H l=some (.lst xs)):xs.length<=sizeLine/\∃(its:fQ)(n:Nat),Vals xs its/\xs.length=its.length/\s.heap.get? l=some { cls:=.type "list",data:=.seq its.toArray n }:=by
 obtain⟨z,its,n,r,e⟩:=I.hok l _ hH;exact⟨z,its,n,r,r.length,e⟩
theorem YF{n:Nat}(h:n<=sizeLine):Builtin.List.listTooLong n=false:=by
 unfold Builtin.List.listTooLong;exact aK (by omega)
end
section
variable{X:Cx}
def qai:V->List V->Hp->VK->Prop:=fun x vs H Q=>∃l xs y,x=.ref l/\vs=[y]/\H l=some (.lst xs)/\xs.length<sizeLine/\Q .non (upd H l (.lst (xs++[y])))
theorem v_:MtM X "list.append" qai:=by
 intro pins s σ H x vs v us Q I rx rv h;obtain⟨l,xs,y,rfl,rfl,hH,hz,q⟩:=h;cases rx;obtain⟨u,rfl,ru⟩:=rv.one;obtain⟨z,its,n,r,hl,e⟩:=I.lstM hH;refine call_meets F.slot_list_append ⟨_,e,rfl⟩ F.entry_list_append (F.args_list_append_2 _ _) (PySem.list_append l its.toArray n u (by rw[av];omega)) ⟨e,?_⟩;refine⟨.non,_,I.lset (its':=its++[u]) hH e (by simp) (r.append (.cons ru .nil)) ?_,rfl,q⟩;rw[ar,aY];omega
def rCat:R2:=fun x y H Q=>∃l b xs zs,x=.ref l/\y=.ref b/\H l=some (.lst xs)/\H b=some (.lst zs)/\xs.length+zs.length<=sizeLine/\∀p,H p=none->Q (.ref p) (upd H p (.lst (xs++zs)))
theorem yI:OpR X (binaryOp .Add) rCat:=by
 intro pins s σ H x y v u Q I rx ry h;obtain⟨l,b,xs,zs,rfl,rfl,hH,hB,hz,q⟩:=h;cases rx;cases ry;obtain⟨z,its,n,r,hl,e⟩:=I.lstM hH;obtain⟨z2,its2,n2,r2,hl2,e2⟩:=I.lstM hB;refine PySem.P.add_list e e2 ?_ (by rw[av,av];omega);have ea:its.toArray++its2.toArray=(its++its2).toArray:=by simp
 rw[ea];exact⟨.ref _,_,I.lnew (t':=s.toks) (r.append r2) (by rw[ar];omega),rfl,q _ I.fresh⟩
def rRep:R2:=fun x y H Q=>∃l k xs,x=.ref l/\y=.int k/\H l=some (.lst xs)/\-(2 ^ 63)<=k/\k<2 ^ 63/\xs.length * k.toNat<=sizeLine/\
 ∀p,H p=none->Q (.ref p) (upd H p (.lst (List.replicate k.toNat xs).flatten))
theorem len_rep(xs:List α)(k:Nat):(List.replicate k xs).flatten.length=k * xs.length:=by
 induction k with
 |zero=>simp
 |succ k ih=>rw[cN,dF,ar,ih,Nat.succ_mul,Nat.add_comm]
theorem qdw:OpR X (binaryOp .Mult) rRep:=by
 intro pins s σ H x y v u Q I rx ry h;obtain⟨l,k,xs,rfl,rfl,hH,h1,h2,hz,q⟩:=h;cases rx;obtain⟨t,rfl⟩:=ry;obtain⟨z,its,n,r,hl,e⟩:=I.lstM hH;have hlen:its.toArray.size * k.toNat<=sizeLine:=by rw[av,<- hl];exact hz
 have hcap:¬ its.toArray.size * k.toNat > (2 ^ 63 - 1) / 8:=by
  have:(sizeLine:Nat)<=(2 ^ 63 - 1) / 8:=by decide
  omega
 have hfit:¬ (!Builtin.List.listFitsIndex k)=true:=by
  rw[fitsIndex_both h1 h2];exact cn
 have hlong:¬ Builtin.List.listTooLong (its.toArray.size * k.toNat)=true:=by
  rw[YF hlen];exact cn
 have hnew:List.foldl (fun x1 x2=>x1++x2) #[] (List.replicate (if its.toArray.isEmpty=true then 0 else k.toNat) its.toArray)=(List.replicate k.toNat its).flatten.toArray:=by
  have f0:∀m:Nat,List.foldl (fun x1 x2=>x1++x2) #[] (List.replicate m its.toArray)=(List.replicate m its).flatten.toArray:=fun m=>by
   have:=foldl_rep its m [];rw[cH]at this;exact this
  rw[f0];cases its with
  |nil=>simp
  |cons a r'=>rw[aG (by simp)]
 refine wpAny_binaryOp_repeat_ref (T:="list") (U:="int") (by decide) ⟨_,e,rfl⟩ (fun s'=>typeIs_int s' k t) noFill_list_mul F.fills_int_mul F.slot_int_rmul repeat_list F.slot_int_index.lookup
  (call_meets F.slot_int_rmul (typeIs_int s k t) F.entry_int_rmul (F.args_int_rmul_2 _ _) (int___rmul___int_list k t l its.toArray n)
   ⟨e,rfl,⟨_,e,rfl⟩,call_meets F.slot_list_mul ⟨_,e,rfl⟩ F.entry_list_mul (F.args_list_mul_2 _ _) (AutoListH.list___mul___list_int_3 l its.toArray n k t hfit hcap hlong) ⟨e,?_⟩⟩)
 rw[hnew];exact⟨.ref _,_,I.lnew (t':=s.toks) (r.rep k.toNat) (by rw[len_rep,Nat.mul_comm];exact hz),rfl,q _ I.fresh⟩
end
section
variable{prog:Program}{w:World}{A:Around}{E:fN}{s:Shared}
end
section
variable{X:Cx}
end
end L2
namespace Att
open PySem PySem.W PySem.Calls PyProof.Rows
variable{P:Params}{h:Heap}{l:OpenLaw}
theorem yf:∀(ns:fV)(vs:fQ),WellAll P h vs (ns.map WData.int)->IntsAre vs ns:=by
 intro ns
 induction ns with
 |nil=>
  intro vs w;rw[cf]at w;cases w;exact .nil
 |cons n ns ih=>
  intro vs w;rw[a9]at w;cases w with
  |cons a b=>
   cases a;exact .cons _ _ (ih _ b)
theorem V0{n:Nat}(hn:l.most=some n){args:List WData}{vals:fQ}
  (hpre:l.row.toRowW.claim.pre args=true)(hwl:WellAll P h vals args) :
  ∃a vs ns,vals=[Value.ref a]/\args=[WData.list (ns.map WData.int)]/\h.get? a=some { cls:=.type "list",data:=.seq vs.toArray }/\IntsAre vs ns/\ns.length<=n:=by
 have hsh:WShape.hasAll [] args [.list .int]=true:=(pre_splitW hpre).1;have hc:l.pre.holds [] { args:=args }=true:=(pre_splitW hpre).2;obtain⟨d,r,rfl,h1,h2⟩:=hasAllW_cons hsh;obtain rfl:=hasAllW_nil h2;obtain⟨xs,rfl,h3⟩:=hasW_list h1;obtain⟨ns,rfl⟩:=items_int h3;have hlen:ns.length<=n:=by
  unfold OpenLaw.pre at hc;have h4:(WTm.not (.lt (.lit (.int (n:Int))) (.len (.arg 0)))).holds [] { args:=[.list (ns.map .int)] }=true:=by
   have h4:=(holds_andW hc).1;rw[hn]at h4;exact h4
  have h5:=condW_of h4 (w_not (w_lt w_lit (w_len_list (w_arg rfl))));rw[ak]at h5;refine dS fun q=>?_
  have q':(n:Int)<((ns.length:Nat):Int):=by omega
  first
   |(rw[aX q']at h5;exact absurd h5 (by decide))
   |(simp at h5;omega)
 cases hwl with
 |cons w1 w2=>
  cases w2;cases w1 with
  |list ho hall=>exact⟨_,_,ns,rfl,rfl,ho,yf ns _ hall,hlen⟩
theorem Xh(l:OpenLaw)(args:List WData):l.row.toRowW.claim.post args (.bool true) args=true:=
 postW_of (r:=l.row.toRowW) (X:=(true == true))
  (show WShape.has [] (.bool true) .bool=true by first|rfl|decide|simp[WShape.has,WShape.arms,WShape.armsAll])
  (show(WTm.eq .res (.lit (.bool true))).value [] { args:=args,res:=some (.bool true),after:=args }=some (.bool (true == true))from w_eq_bool (w_res rfl) w_lit) rfl
theorem attach_call{n:Nat}{q:Program}{loose:fT}{XP:(fO)->Heap->Prop}{YP:World->Heap->Prop}{d:DefRec}
  (hn:l.most=some n)(hdf:d.params.defaults=[])
  (call:∀(w:World)(s₀ s₁:Shared)(mg mb:fO)(fa:Addr)(o:Obj)(pm cd doc:Value)(a:Addr)(vs:fQ)(ns:fV),
   Ground q loose [] XP w s₀ mg mb s₁.heap->YP w s₁.heap->
   s₁.heap.get? fa=some o->o.data=.func (docDef d.name d.params d.body d.scope pm cd doc)->s₁.heap.CodeRec cd d.name->mg d.name=some (.ref fa)->
   s₁.heap.get? a=some { cls:=.type "list",data:=.seq vs.toArray }->IntsAre vs ns->ns.length<=n->s₁.gens=#[]->
   codeAny (model l.prog w) callerA (.call (.ref fa) ⟨[.ref a],[]⟩) (fun r s'=>r=.ok (.ret (.bool true))/\OldK s₁.heap s'.heap/\s'.os=s₁.os/\AllBare s'.gens) s₁) :
  WalkO q loose XP YP l.row.toRowW d [] (fun f vs=>PySem.call f vs):=by
 intro w s₀ s₁ mg mb G Y fa o pm cd doc dV kV ho hd hcd hD hmg hg args vals as hpre hlay hrd hwl hlo;obtain rfl:dV=.none:=Dflts.none hD hdf;obtain rfl:kV=.none:=Dflts.noKw hD;obtain⟨a,vs,ns,rfl,rfl,hobj,hints,hlen⟩:=V0 hn hpre hwl;refine enter_call (dJ (call w s₀ s₁ mg mb fa o pm cd doc a vs ns G Y ho (fd_plain hd) hcd hmg hobj hints hlen hg) fun r s' hq=>?_);obtain⟨rfl,h2,h3,h4⟩:=hq;exact⟨.inl ⟨.bool true,.bool true,[],rfl,fun _=>rfl,.bool true,Xh l _,fun _=>⟨List.Pairwise.nil,fun _ hm=>(nomatch hm)⟩⟩,h2,h3,h4⟩
section
variable{prog:Program}{w:World}{A:Around}{E:fN}{s:Shared}{K:Frag}
def ledger(h:Heap)(L d:Addr):fM:=(List.range h.objs.size).filterMap fun a=>if a=L\/a=d then none else(h.get? a).map fun o=>(a,o)
end
end Att
namespace L2
open PySem PySem.Spec PyProof.Rows
variable{qual:Str}{st:Stmt}{f:Addr}{fd:FuncData}{ps:fT}{A B:Prop}{H:Hp}
theorem Q_:∀{vs:fQ}{ns:fV},IntsAre vs ns->Vals (ns.map V.int) vs
 |_,_,.nil=>.nil
 |_,_,.cons n t h=>.cons ⟨t,rfl⟩ (Q_ h)
def jT(s:Stmt):Arguments:=match s with
 |.FunctionDef _ a _ _ _ _ _ _ _ _=>a
 |_=>{ posonlyargs:=[],args:=[],vararg:=none,kwonlyargs:=[],kw_defaults:=[],kwarg:=none,defaults:=[] }
def zZ(s:Stmt):List Stmt:=match s with
 |.FunctionDef _ _ b _ _ _ _ _ _ _=>b
 |_=>[]
def qm(s:Stmt):Scope:=match s with
 |.FunctionDef _ _ _ _ _ _ sc _ _ _=>sc
 |_=>{ kind:=.function,names:=[],isGenerator:=false,isCoroutine:=false }
abbrev CX0:CXT:=fun _ _ _ _ _ _=>False
abbrev E0:XK:=fun _ _ _=>False
theorem Jr{X:Cx}:wg CX0 X E0:=fun _ _ _ _ _ _ _ h=>h.elim
structure Fun(K:fL)(x qual:Str)(st:Stmt)(f:Addr)(fd:FuncData):Prop where
 ex:∃(oc:Value)(od:fR)(kV doc pm:Value)(an:fR)(cdv ct:Value)(osl:Array (Option Value)),
  fd=PySem.W.fnOf x qual (jT st) (zZ st) (qm st) .none kV doc pm an cdv ct/\K.lookup f=some ⟨oc,od,.func fd,osl⟩/\PySem.W.codeIn K cdv qual=true
 kp:PySem.W.keepIn K (.ref f)=true
section
variable{P:Program}{w:World}{K:fL}{mg:fO}{base:Heap}
theorem Fun.ok{x:Str}{N:fT}{k:Nat}{sp:Sp}(F:Fun K x qual st f fd)(S:FnScope N ps (qm st))(len:∀vs H Q E,sp vs H Q E->vs.length=ps.length)
  (hbody:∀(cdv:Value)(A:Around)(outer:List Env)(s:Shared)(H:Hp)(vs:List V)(Q:VK)(E:XK),Room k (A.deeper (envOfC qual (qm st) s.heap.objs.size f cdv))->sp vs H Q E->
   ∃t,PSs (cxOf CX0 P w K mg base N qual (qm st) f cdv A outer s H E).nox (zZ st) t/\t { nx:=fun _ H'=>Q .non H',rt:=Q } (start N vs) H):FnOk P w K mg base CX0 (k+1) f fd ps sp:=by
 obtain⟨oc,od,kV,doc,pm,an,cdv,ct,osl,rfl,lk,hcd⟩:=F.ex;refine qer lk hcd S len fun A outer s H vs Q E hr hsp=>?_
 obtain⟨t,h,q⟩:=hbody cdv A outer s H vs Q E hr hsp;exact⟨t,h.nox,q⟩
theorem Fun.binds{x:Str}(F:Fun K x qual st f fd)
  (h:∀(kV doc pm:Value)(an:fR)(cdv ct:Value)(us:fQ),us.length=ps.length->bindArgs (PySem.W.fnOf x qual (jT st) (zZ st) (qm st) .none kV doc pm an cdv ct) ⟨us,[]⟩=pure (ps.zip us)):Binds K fd ps []:=by
 obtain⟨oc,od,kV,doc,pm,an,cdv,ct,osl,rfl,lk,hcd⟩:=F.ex;exact .all (h kV doc pm an cdv ct)
theorem qeo{x:Str}{oc:Value}{od an:fR}{osl:Array (Option Value)}{kV doc pm cdv ct:Value}(l:K.lookup f=some ⟨oc,od,.func (PySem.W.fnOf x qual (jT st) (zZ st) (qm st) .none kV doc pm an cdv ct),osl⟩)
  (c:PySem.W.codeIn K cdv qual=true)(k:PySem.W.keepIn K (.ref f)=true):Fun K x qual st f (PySem.W.fnOf x qual (jT st) (zZ st) (qm st) .none kV doc pm an cdv ct):=⟨⟨oc,od,kV,doc,pm,an,cdv,ct,osl,rfl,l,c⟩,k⟩
end
theorem vY{n:Nat}(h:n<=1000):n<sizeLine:=eU h (by decide)
section
variable{X:Cx}
theorem pv(i:Nat){x:Str}{pos:Pos}(hN:X.N[i]?=some x:=by rfl)(hv:Vis X.env.scope x:=by first|exact Or.inl rfl|exact Or.inr (Or.inl rfl)|exact Or.inr (Or.inr rfl))(hd:(x == ("__debug__":Str))=false:=by decide)
  (hcd:(x == ("__classdict__":Str))=false:=by decide):PE X (.Name x pos) (tVar i):=Zn hN hv hd hcd
theorem Z6:CallR X (.builtin "len") (fun xs H Q=>∃a kvs,xs=[V.ref a]/\H a=some (.dK kvs)/\Q (.int kvs.length) H):=by
 intro pins s σ H xs us Q I r h;obtain⟨a,kvs,rfl,ha,q⟩:=h;obtain⟨u,rfl,ru⟩:=vals1 r;cases ru;exact qgu I (.inl ha) fun t s' I'=>⟨.int kvs.length,H,I',⟨t,rfl⟩,q⟩
end
theorem iteF(h:B):if false=true then A else B:=by
 rw[aG cn];exact h
theorem iteT(h:A):if true=true then A else B:=by
 rw[aH rfl];exact h
def Same(H H':Hp):Prop:=∀b o,H b=some o->H' b=some o
theorem Same.refl(H:Hp):Same H H:=fun _ _ h=>h
theorem Same.trans{H1 H2:Hp}(a:Same H H1)(b:Same H1 H2):Same H H2:=fun c o h=>b c o (a c o h)
theorem Same.free{H':Hp}(e:Same H H'){l:Addr}(h:H' l=Option.none):H l=Option.none:=by
 cases q:H l with
 |none=>rfl
 |some o=>
  rw[e l o q]at h;cases h
section
variable{κ:Type}[DecidableEq κ]
end
end L2
namespace X2
open PySem PySem.Spec PyProof.Rows L2
variable{H H':Hp}{xs:List V}{A B:Prop}{elt iter tg:Expr}{ifs:fU}{scope:Scope}{pos:Pos}{X:Cx}{cl:List (Str×Addr)}{T caps:fT}{ix:List Nat}{g:TG}{tt:TT}{te:TE}
theorem kG:bootBuiltins "isinstance"=some (.builtin "isinstance"):=by decide +kernel
theorem JP:bootBuiltins "list"=some (.type "list"):=by decide +kernel
theorem wI:bootBuiltins "tuple"=some (.type "tuple"):=by decide +kernel
theorem WK:bootBuiltins "int"=some (.type "int"):=by decide +kernel
theorem QY:bootBuiltins "bool"=some (.type "bool"):=by decide +kernel
theorem qfe:bootBuiltins "str"=some (.type "str"):=by decide +kernel
section
variable{X:Cx}
theorem WF:CallR X (.builtin "isinstance") (fun xs H Q=>∃x T t b,xs=[x,.ty T]/\TyOf X.K H x t/\PySem.W.kitOne X.K t (.type T)=some b/\Q (.bl b) H):=by
 intro pins s σ H xs us Q I r h;obtain⟨x,T,t,b,rfl,ty,e,q⟩:=h;obtain⟨u,w',rfl,ru,rw'⟩:=vals2 r;cases (show w'=Value.type T from rw');exact XS I ru ty e fun tk=>⟨.bl b,H,I.tok _,rfl,q⟩
theorem WE:CallR X (.builtin "isinstance") (fun xs H Q=>∃x p T1 T2,∃t:String,∃b,xs=[x,.ref p]/\H p=some (.tup [.ty T1,.ty T2])/\TyOf X.K H x (.type t)/\PySem.W.kitAny X.K (.type t) [.type T1,.type T2]=some b/\Q (.bl b) H):=by
 intro pins s σ H xs us Q I r h;obtain⟨x,p,T1,T2,t,b,rfl,hp,ty,e,q⟩:=h;obtain⟨u,w',rfl,ru,rw'⟩:=vals2 r;cases (show w'=Value.ref p from rw');obtain⟨_,its,rel,o,h1,h2,n,h3⟩:=(show ObjOk X.prog X.w H s.heap p (.tup [.ty T1,.ty T2])from I.hok p _ hp);obtain⟨a1,a2,rfl,e1,e2⟩:=vals2 rel;cases (show a1=Value.type T1 from e1);cases (show a2=Value.type T2 from e2);obtain⟨oc,od,odt,osl⟩:=o;cases (show oc=Value.type "tuple" from h2);cases (show odt=_ from h3);have fin:∀tk,EP X pins σ Q (.bool b) { s with toks:=tk }:=fun tk=>⟨.bl b,H,I.tok _,rfl,q⟩
 cases ty with
 |non=>cases (show u=Value.none from ru);exact bO PySem.W.kitx_none I.kIn True.intro h1 e (fun z=>nomatch z) fin
 |bl y=>cases (show u=Value.bool y from ru);exact bO PySem.W.kitx_bool I.kIn True.intro h1 e (fun z=>nomatch z) fin
 |int i=>obtain⟨t,q⟩:=(show ∃t,u=Value.int i t from ru);cases q;exact bO PySem.W.kitx_int I.kIn True.intro h1 e (fun z=>nomatch z) fin
 |str y=>obtain⟨t,q⟩:=(show ∃t,u=Value.str y t from ru);cases q;exact bO PySem.W.kitx_str I.kIn True.intro h1 e (fun z=>nomatch z) fin
 |flt y=>obtain⟨t,q⟩:=(show ∃t,u=Value.float y t from ru);cases q;exact bO PySem.W.kitx_float I.kIn True.intro h1 e (fun z=>nomatch z) fin
 |@lst a xs ea=>
  cases (show u=Value.ref a from ru);obtain⟨_,_,n,_,g1⟩:=(show ObjOk X.prog X.w H s.heap a (.lst xs)from I.hok a _ ea);exact bO dC I.kIn ⟨_,g1,rfl⟩ h1 e (fun z=>nomatch z) fin
 |@frz a ob xs ea=>
  cases (show u=Value.ref a from ru);obtain⟨_,_,_,n,_,g1⟩:=(show ObjOk X.prog X.w H s.heap a (.frz ob (.lst xs))from I.hok a _ ea);exact bO dC I.kIn ⟨_,g1,rfl⟩ h1 e (fun z=>nomatch z) fin
 |@tup a xs ea=>
  cases (show u=Value.ref a from ru);obtain⟨_,_,_,p⟩:=(show ObjOk X.prog X.w H s.heap a (.tup xs)from I.hok a _ ea);obtain⟨o,g1,g2,_⟩:=p;exact bO PySem.W.kitx_tuple I.kIn ⟨o,g1,g2⟩ h1 e (fun z=>nomatch z) fin
 |@dK a kvs ea=>
  cases (show u=Value.ref a from ru);obtain⟨_,_,vs,_,p⟩:=(show ObjOk X.prog X.w H s.heap a (.dK kvs)from I.hok a _ ea);obtain⟨o,es,ep,g1,g2,_⟩:=p;exact bO dD I.kIn ⟨o,g1,g2.1⟩ h1 e (fun z=>nomatch z) fin
 |@dT a kvs ea=>
  cases (show u=Value.ref a from ru);obtain⟨_,_,xs,_,o,es,ep,g1,g2,_⟩:=(show ObjOk X.prog X.w H s.heap a (.dT kvs)from I.hok a _ ea);exact bO dD I.kIn ⟨o,g1,g2.1⟩ h1 e (fun z=>nomatch z) fin
end
section
variable{K:fL}
abbrev kSub(a b:String):Option Bool:=if(Value.type a == Value.type b)=true then some true else if PySem.W.kitMeta b=true then(fastBuiltinMro a).map (·.contains (Value.type b))else none
theorem j0:PySem.W.kitOne K (.type "NoneType") (.type "tuple")=some false:=by
 show kSub "NoneType" "tuple"=some false;decide +kernel
theorem kj:PySem.W.kitOne K (.type "NoneType") (.type "list")=some false:=by
 show kSub "NoneType" "list"=some false;decide +kernel
theorem xF:PySem.W.kitOne K (.type "NoneType") (.type "bool")=some false:=by
 show kSub "NoneType" "bool"=some false;decide +kernel
theorem wv:PySem.W.kitOne K (.type "NoneType") (.type "int")=some false:=by
 show kSub "NoneType" "int"=some false;decide +kernel
theorem wu:PySem.W.kitOne K (.type "NoneType") (.type "str")=some false:=by
 show kSub "NoneType" "str"=some false;decide +kernel
theorem yc:PySem.W.kitAny K (.type "NoneType") [.type "tuple",.type "list"]=some false:=by
 simp only[PySem.W.kitAny,j0,kj]
theorem vF:PySem.W.kitOne K (.type "bool") (.type "tuple")=some false:=by
 show kSub "bool" "tuple"=some false;decide +kernel
theorem xj:PySem.W.kitOne K (.type "bool") (.type "list")=some false:=by
 show kSub "bool" "list"=some false;decide +kernel
theorem QB:PySem.W.kitOne K (.type "bool") (.type "bool")=some true:=by
 show kSub "bool" "bool"=some true;decide +kernel
theorem ZN:PySem.W.kitOne K (.type "bool") (.type "int")=some true:=by
 show kSub "bool" "int"=some true;decide +kernel
theorem ZM:PySem.W.kitOne K (.type "bool") (.type "str")=some false:=by
 show kSub "bool" "str"=some false;decide +kernel
theorem JI:PySem.W.kitAny K (.type "bool") [.type "tuple",.type "list"]=some false:=by
 simp only[PySem.W.kitAny,vF,xj]
theorem xh:PySem.W.kitOne K (.type "int") (.type "tuple")=some false:=by
 show kSub "int" "tuple"=some false;decide +kernel
theorem xY:PySem.W.kitOne K (.type "int") (.type "list")=some false:=by
 show kSub "int" "list"=some false;decide +kernel
theorem ZJ:PySem.W.kitOne K (.type "int") (.type "bool")=some false:=by
 show kSub "int" "bool"=some false;decide +kernel
theorem JG:PySem.W.kitOne K (.type "int") (.type "int")=some true:=by
 show kSub "int" "int"=some true;decide +kernel
theorem JF:PySem.W.kitOne K (.type "int") (.type "str")=some false:=by
 show kSub "int" "str"=some false;decide +kernel
theorem Vm:PySem.W.kitAny K (.type "int") [.type "tuple",.type "list"]=some false:=by
 simp only[PySem.W.kitAny,xh,xY]
theorem xf:PySem.W.kitOne K (.type "str") (.type "tuple")=some false:=by
 show kSub "str" "tuple"=some false;decide +kernel
theorem xX:PySem.W.kitOne K (.type "str") (.type "list")=some false:=by
 show kSub "str" "list"=some false;decide +kernel
theorem ZG:PySem.W.kitOne K (.type "str") (.type "bool")=some false:=by
 show kSub "str" "bool"=some false;decide +kernel
theorem JD:PySem.W.kitOne K (.type "str") (.type "int")=some false:=by
 show kSub "str" "int"=some false;decide +kernel
theorem JC:PySem.W.kitOne K (.type "str") (.type "str")=some true:=by
 show kSub "str" "str"=some true;decide +kernel
theorem Vl:PySem.W.kitAny K (.type "str") [.type "tuple",.type "list"]=some false:=by
 simp only[PySem.W.kitAny,xf,xX]
theorem vD:PySem.W.kitOne K (.type "list") (.type "tuple")=some false:=by
 show kSub "list" "tuple"=some false;decide +kernel
theorem xg:PySem.W.kitOne K (.type "list") (.type "list")=some true:=by
 show kSub "list" "list"=some true;decide +kernel
theorem Qz:PySem.W.kitOne K (.type "list") (.type "bool")=some false:=by
 show kSub "list" "bool"=some false;decide +kernel
theorem ZI:PySem.W.kitOne K (.type "list") (.type "int")=some false:=by
 show kSub "list" "int"=some false;decide +kernel
theorem ZH:PySem.W.kitOne K (.type "list") (.type "str")=some false:=by
 show kSub "list" "str"=some false;decide +kernel
theorem JE:PySem.W.kitAny K (.type "list") [.type "tuple",.type "list"]=some true:=by
 simp only[PySem.W.kitAny,vD,xg]
theorem kZ:PySem.W.kitOne K (.type "tuple") (.type "tuple")=some true:=by
 show kSub "tuple" "tuple"=some true;decide +kernel
theorem vC:PySem.W.kitOne K (.type "tuple") (.type "list")=some false:=by
 show kSub "tuple" "list"=some false;decide +kernel
theorem yA:PySem.W.kitOne K (.type "tuple") (.type "bool")=some false:=by
 show kSub "tuple" "bool"=some false;decide +kernel
theorem Qy:PySem.W.kitOne K (.type "tuple") (.type "int")=some false:=by
 show kSub "tuple" "int"=some false;decide +kernel
theorem Qx:PySem.W.kitOne K (.type "tuple") (.type "str")=some false:=by
 show kSub "tuple" "str"=some false;decide +kernel
theorem ZF:PySem.W.kitAny K (.type "tuple") [.type "tuple",.type "list"]=some true:=by
 simp only[PySem.W.kitAny,kZ,vC]
theorem vE:PySem.W.kitOne K (.type "dict") (.type "tuple")=some false:=by
 show kSub "dict" "tuple"=some false;decide +kernel
theorem xi:PySem.W.kitOne K (.type "dict") (.type "list")=some false:=by
 show kSub "dict" "list"=some false;decide +kernel
theorem QA:PySem.W.kitOne K (.type "dict") (.type "bool")=some false:=by
 show kSub "dict" "bool"=some false;decide +kernel
theorem ZL:PySem.W.kitOne K (.type "dict") (.type "int")=some false:=by
 show kSub "dict" "int"=some false;decide +kernel
theorem ZK:PySem.W.kitOne K (.type "dict") (.type "str")=some false:=by
 show kSub "dict" "str"=some false;decide +kernel
theorem JH:PySem.W.kitAny K (.type "dict") [.type "tuple",.type "list"]=some false:=by
 simp only[PySem.W.kitAny,vE,xi]
end
inductive Dt where
 |non|bl (b:Bool)|int (i:Int)|str (x:Str)|tup (ds:List Dt)|lst (ds:List Dt)
inductive Rep(H:Hp):V->Dt->Prop where
 |non:Rep H .non .non
 |bl (b:Bool):Rep H (.bl b) (.bl b)
 |int (i:Int):Rep H (.int i) (.int i)
 |str (x:Str):Rep H (.str x) (.str x)
 |tup {a:Addr} {xs:List V} {ds:List Dt} (e:H a=some (.tup xs)) (l:xs.length=ds.length) (r:∀(i:Nat) x d,xs[i]?=some x->ds[i]?=some d->Rep H x d):Rep H (.ref a) (.tup ds)
 |lst {a:Addr} {xs:List V} {ds:List Dt} (e:H a=some (.lst xs)) (l:xs.length=ds.length) (r:∀(i:Nat) x d,xs[i]?=some x->ds[i]?=some d->Rep H x d):Rep H (.ref a) (.lst ds)
theorem Rep.mono(s:Same H H'){v:V}{d:Dt}(r:Rep H v d):Rep H' v d:=by
 induction r with
 |non=>exact .non
 |bl b=>exact .bl b
 |int i=>exact .int i
 |str x=>exact .str x
 |tup e l r ih=>exact .tup (s _ _ e) l ih
 |lst e l r ih=>exact .lst (s _ _ e) l ih
def YW:Dt->Bool|.lst _=>true|_=>false
section
variable{K:fL}{H:Hp}{x:V}{d:Dt}
end
theorem zK{p:Addr}(h:H p=none)(o:HO):Same H (upd H p o):=fun b u q=>by rw[qf (zh q h)];exact q
theorem _root_.L2.Same.put(s:Same H H'){p:Addr}(h:H p=none)(o:HO):Same H (upd H' p o):=fun b u q=>by rw[qf (zh q h)];exact s b u q
theorem _root_.L2.Same.new(s:Same H H'){p:Addr}(h:H' p=none)(o:HO):Same H (upd H' p o):=s.put (s.free h) o
theorem small{n:Nat}(h:n<=1000):n<=sizeLine:=c9 (vY h)
theorem pick{i:Int}(h0:0<=i)(h1:i<xs.length):∃v,atI xs i=some v/\v∈xs:=by
 obtain⟨k,rfl⟩:=d8 h0;have hk:k<xs.length:=by omega
 exact⟨xs[k],WP (aa hk),cR hk⟩
theorem iteP{c:Prop}[Decidable c](h:c)(a:A):if c then A else B:=by rw[aH h];exact a
theorem iteN{c:Prop}[Decidable c](h:¬ c)(b:B):if c then A else B:=by rw[aG h];exact b
def isI:V->Bool|.int _=>true|_=>false
theorem Jo{i:Int}(hx:xs.all isI=true)(h0:0<=i)(h1:i<xs.length):∃z,atI xs i=some (.int z)/\V.int z∈xs:=by
 obtain⟨v,e,m⟩:=pick h0 h1;have q:=bA.mp hx v m;cases v with
 |int z=>exact⟨z,e,m⟩
 |_=>cases q
section
variable{prog:Program}{w:World}{A:Around}{E:fN}{R:Result->Shared->Prop}{s:Shared}
theorem Wz{it acc:Value}{env:Env}(W:Nat->Shared->Prop)
  (turn:∀n s,W n s->wpAny (model prog w) A (pyNext it) (fun r s1=>match r with
   |none=>R (.ok .next) s1
   |some v=>wpAny (model prog w) A (letOwnedTupleGo tg it v) (fun _ s2=>wpAny (model prog w) A (assign tg env v) (fun _ s3=>
     wpAny (model prog w) A (forIn ifs true fun c r=>if r=true then do let ok <- isTrue c env (eval c env);pure (ForInStep.yield ok)else pure (ForInStep.yield r)) (fun ok s4=>
      if ok=true then wpAny (model prog w) A (eval elt env) (fun x s5=>
       wpAny (model prog w) A (call (.builtin "list.append") [acc,x]) (fun _ s6=>∃m,m<n/\W m s6) (fun _ _=>False) s5) (fun _ _=>False) s4
      else ∃m,m<n/\W m s4) (fun _ _=>False) s3) (fun _ _=>False) s2) (fun _ _=>False) s1) (fun _ _=>False) s)
  (n:Nat)(h:W n s):codeAny (model prog w) A (.compLoop (.ListComp elt [⟨tg,iter,ifs,0⟩] scope pos) 0 it acc env) R s:=by
 have no:∀{α:Type}{t:Sem α}{Q:α->Shared->Prop}{E':fN}{s:Shared},wpAny (model prog w) A t Q (fun _ _=>False) s->wpAny (model prog w) A t Q E' s:=fun q=>bh q (fun _ _ z=>z) fun _ _ z=>z.elim
 refine codeAny_loop rfl W (fun n s hW=>?_) n h;show wpAny _ A ((compTurn (.ListComp elt [⟨tg,iter,ifs,0⟩] scope pos) 0 it acc env).onRaise (fun x=>do noteFrame x env;theTreesLotGoes x)) _ _ s;refine wpAny_noted ?_;rw[compTurn_list];refine ae (eh (ae (no (bh (turn n s hW) (fun r s1 h1=>?_) fun _ _ z=>z))));cases r with
 |none=>exact ax h1
 |some v=>
  refine ae (no (bh h1 (fun _ s2 h2=>?_) fun _ _ z=>z));refine ae (no (bh h2 (fun _ s3 h3=>?_) fun _ _ z=>z));refine ae (no (bh h3 (fun ok s4 h4=>?_) fun _ _ z=>z));cases ok with
  |true=>
   rw[aH rfl]at h4;rw[aH rfl];refine ae (ae (no (bh h4 (fun x s5 h5=>?_) fun _ _ z=>z)));exact ae (no (bh h5 (fun _ s6 h6=>ax (ax ⟨rfl,h6⟩)) fun _ _ z=>z))
  |false=>
   rw[aG (by decide)]at h4;rw[aG (by decide)];exact ax ⟨rfl,h4⟩
end
def qW(X:Cx)(scope:Scope)(cl:List (Str×Addr))(N:fT)(C:Addr)(s:Shared)(H:Hp)(fp:fP):Cx:=
 { X with N:=N,s₀:=s,H₀:=H,env:=compEnvC scope cl C X.env,outer:=X.stack,ex:=fp,fn:=fun _=>false,pn:=[],xe:=fun _ _=>False }
structure CompOk(X:Cx)(scope:Scope)(cl:List (Str×Addr))(T caps:fT)(ix:List Nat):Prop where
 kind:scope.kind=.function
 clos:closureFor scope X.env=pure cl
 nocell:∀y∈scope.names,y.2≠.cell
 names:∀y∈scope.names,y.2=.local->scope.names.lookup y.1=some .local
 ixs:ix.map (fun i=>X.N[i]?)=caps.map some
 capk:∀x∈caps,(relabel scope X.env).names.lookup x=some .cell/\X.env.scope.names.lookup x=some .cell/\cl.lookup x=X.env.cells.lookup x
 has:∀x,((relabel scope X.env).names.lookup x=some .cell\/(relabel scope X.env).names.lookup x=some .free)->∃c,cl.lookup x=some c
 sub:∀x c,cl.lookup x=some c->X.env.cells.lookup x=some c
def σC(T:fT)(ix:List Nat)(σ:L2.St):L2.St:=T.map (fun _=>none)++ix.map fun i=>(σ[i]?).join
section
variable{X:Cx}{scope:Scope}{cl:List (Str×Addr)}{T caps:fT}{ix:List Nat}{pins:fM}{σ:L2.St}{H H1:Hp}{s s2:Shared}{C:Addr}{fp:fP}
theorem VC(O:CompOk X scope cl T caps ix)(I:Inv X pins σ H s2)(J:Inv X pins σ H1 s)(un:Un (frs X.stack) fp H H1 s2.heap s.heap)(os:s.os=s2.os){m0:fO}(hC:s.heap.Ns C m0)(hCs:s2.heap.objs.size<=C)(hCn:H1 C=none)
  (hfp:∀b∈fp,FpOk X pins H b/\b<s2.heap.objs.size):Inv (qW X scope cl (T++caps) C s2 H fp) [] (σC T ix σ) H1 s:=by
 have li:ix.length=caps.length:=by have:=bU List.length O.ixs;simpa using this
 refine⟨⟨I.ok.mod,O.kind,I.ok.glob,I.ok.blt,hCs,fun x y c h1 h2=>I.ok.inj x y c (O.sub _ _ h1) (O.sub _ _ h2),O.has,fun x c h _=>(nomatch h),I.ok.hd,I.ok.frames,.inl rfl,fun b hb=>⟨aI (az (hfp b hb).2 hCs),fun x c e=>(hfp b hb).1.2.2.2.2.1 x c (O.sub _ _ e)⟩,
  I.bs,aW I.ok.bsz I.sz,fun b o e hb=>?_,fun b hb z=>?_,I.stack,I.stkFree⟩,os,J.bare,un,⟨m0,hC,fun i x v h1 h2 h3=>?_⟩,fun x c e=>J.cell x c (O.sub _ _ e),hCn,fun x c e=>J.freeC x c (O.sub _ _ e),fun p hp=>absurd (show p∈([]:fM)from hp) (by simp),J.hok,?_⟩
 ·rcases(hfp b hb).1.2.2.2.1 with z|z
  ·exact I.ok.noex b o e z
  ·exact absurd (az (au e) (aW I.ok.bsz z)) (bI _)
 ·rcases ah.mp (I.stkSub b z)with q|q
  ·exact(hfp b hb).1.2.1 q
  ·exact(hfp b hb).1.2.2.1 q
 ·have h1:(T++caps)[i]?=some x:=h1
  unfold σC at h2
  by_cases hi:i<T.length
  ·rw[aB (by simpa using hi),aq,aa hi]at h2
   cases h2
  ·rw[aJ (by simpa using hi),ak,aq]at h2
   rw[aJ (by omega)]at h1;obtain⟨k1,k2,k3⟩:=O.capk x (aM h1);have q:=bU (fun l=>l[i - T.length]?) O.ixs;simp only[aq,h1,bx]at q;cases e:ix[i - T.length]? with
   |none=>rw[e]at q;cases q
   |some j=>
    rw[e]at q h2;have q':X.N[j]?=some x:=by simpa using q
    have h2':(σ[j]?).join=some v:=by simpa using h2
    cases e2:σ[j]? with
    |none=>rw[e2]at h2';cases h2'
    |some o=>
     rw[e2]at h2';have h2'':o=some v:=h2';subst h2'';obtain⟨m,hn,hl⟩:=J.loc;obtain⟨u,r,l⟩:=hl j x v q' e2 (.inr (.inl k2));refine⟨u,r,?_⟩;rcases l with⟨hk,_⟩|⟨_,c,hc,hcell⟩
     ·have hk':X.env.scope.names.lookup x=some .local:=hk
      rw[k2]at hk';cases hk'
     ·exact .inr ⟨.inl k1,c,k3.trans hc,hcell⟩
 ·unfold σC
  show _=(T++caps).length;rw[ar,ar,ak,ak,li]
end
def PTs(X:Cx)(ifs:fU)(t:TT):Prop:=
 ∀(pins:fM)(s:Shared)(σ:L2.St)(H:Hp)(Q:Bool->Hp->Prop),Inv X pins σ H s->t σ H Q->
  wpAny (model X.prog X.w) X.A (forIn ifs true fun c r=>if r=true then do let ok <- isTrue c X.env (eval c X.env);pure (ForInStep.yield ok)else pure (ForInStep.yield r)) (TP X pins σ Q) X.xe s
def tAll:TT:=fun _ H Q=>Q true H
theorem qal:PTs X [] tAll:=fun _ _ _ H _ I h=>wpAny_tests_nil ⟨H,I,h⟩
theorem Xc{c:Expr}{t:TT}(h:PT X c t):PTs X [c] t:=fun pins s σ H Q I q=>wpAny_tests_one (h pins s σ H Q I q)
def K7(wi:TI)(g:TG)(tt:TT)(te:TE)(T:fT)(ix:List Nat):TE:=fun σ H Q=>wi σ H fun J H1=>∀D,H1 D=none->∃W:Nat->Nat->L2.St->List V->Hp->Prop,(∃m,W 0 m (σC T ix σ) [] (upd H1 D (.lst [])))/\
 ∀i m σ' xs H2,W i m σ' xs H2->H2 D=some (.lst xs)/\xs.length<sizeLine/\((J.stop i H2/\Q (.ref D) H2)\/
  (J.go i H2/\∀x H3,J.yld i H2 x H3->g x σ' H3 fun σ2 H4=>tt σ2 H4 fun b H5=>
   if b=true then te σ2 H5 fun y H6=>H6 D=some (.lst xs)/\∃m',m'<m/\W (i+1) m' σ2 (xs++[y]) (upd H6 D (.lst (xs++[y])))else ∃m',m'<m/\W (i+1) m' σ2 xs H5))
theorem kF{Gp:Cx->Prop}{pos2:Pos}{wi:TI}
  (O:CompOk X scope cl T caps ix)(hc:∀{pins:fM}{σ:L2.St}{H:Hp}{s:Shared}(C:Addr)(fp:fP),Inv X pins σ H s->Gp (qW X scope cl (T++caps) C s H fp))(hi:PIG Gp X tg iter wi)(hg:∀C s H fp,Gp (qW X scope cl (T++caps) C s H fp)->PG (qW X scope cl (T++caps) C s H fp) tg g)(ht:∀C s H fp,PTs (qW X scope cl (T++caps) C s H fp) ifs tt)
  (he:∀C s H fp,PE (qW X scope cl (T++caps) C s H fp) elt te)(hs:∀x,foldedSetIterable iter X.env x=pure x)
  {pins:fM}{s:Shared}{σ:L2.St}{Q:VK}{use:Option (Value->Sem Unit)}{QQ:fN}(I:Inv X pins σ H s)(h:K7 wi g tt te T ix σ H Q)
  (fin:∀(D C:Addr)(H3:Hp)(s4:Shared)(m:fO),Inv X pins σ H3 s4->s4.heap.Ns C m->H3 C=none->C≠X.env.locals->X.s₀.heap.objs.size<=C->(∀x c,X.env.cells.lookup x=some c->c≠C)->(∀p∈X.pn++pins,p.1≠C)->Q (.ref D) H3->compPost (model X.prog X.w) X.A X.xe use QQ (.ref D) C (.ok .next) s4) :
  wpAny (model X.prog X.w) X.A (comprehension (.ListComp elt [⟨tg,iter,ifs,0⟩] scope pos) scope X.env pos2 (newList []) false (eval iter X.env) use) QQ X.xe s:=by
 refine wpAny_comprehension_free (use:=use) rfl hs O.clos O.kind O.names (thn (hi pins s σ H _ I h) fun v s1 h1=>thn h1 fun itv s2 h2=>?_);obtain⟨it,fp,tn,J,H2,e,I2,T2,st2,f2,R2⟩:=h2;subst e;have hfp:∀b∈fp,FpOk X pins H2 b/\b<s2.heap.objs.size:=fun b hb=>⟨f2 b hb,by obtain⟨o,e,_⟩:=T2.obj _ _ st2 b hb;exact au e⟩
 refine bD (wpAny_newFunctionEnv O.nocell (fun y hy=>absurd hy (by simp)) (fun h₁ hns hsb=>?_) O.kind);dsimp only at hns hsb ⊢;generalize hG:s2.heap.push { cls:=.type "list",dict:=none,data:=.seq ([]:fQ).toArray }=G at hns hsb ⊢
 have hc2:=hc G.objs.size fp I2;have hCz:s2.heap.objs.size<G.objs.size:=by rw[<- hG,Heap.size_push];exact cQ _
 have old:∀b o,s2.heap.get? b=some o->h₁.get? b=some o:=fun b o e=>by
  have lt:=au e;exact hsb.extBut b o (aI (dm lt hCz)) (ag _ (hG▸ag _ e))
 have hD:h₁.get? s2.heap.objs.size=some { cls:=.type "list",dict:=none,data:=.seq ([]:fQ).toArray }:=hsb.extBut _ _ (aI hCz) (ag _ (hG▸a7 _ rfl));have nD:H2 s2.heap.objs.size=none:=I2.hok.fresh (aj _);have nC:H2 G.objs.size=none:=I2.hok.fresh (c9 hCz);obtain⟨W,⟨m0,w0⟩,turn⟩:=R2 s2.heap.objs.size nD;have J1:Inv X pins σ (upd H2 s2.heap.objs.size (.lst [])) { s2 with heap:=h₁,toks:=s2.toks+([]:List (Str×Value)).length }:=
  I2.laid (t':=s2.toks+([]:List (Str×Value)).length) old (aj _) (show ObjOk X.prog X.w _ h₁ _ (.lst [])from⟨bW _,[],0,.nil,hD⟩)
 have un:Un (frs X.stack) fp H2 (upd H2 s2.heap.objs.size (.lst [])) s2.heap h₁:=Un.laid old (aj _) nD;have hCn:(upd H2 s2.heap.objs.size (.lst [])) G.objs.size=none:=by rw[qf (aI hCz).symm];exact nC
 have K1:=VC (s:={ s2 with heap:=h₁,toks:=s2.toks+([]:List (Str×Value)).length }) O I2 J1 un rfl hns (c9 hCz) hCn hfp;have stat:∀{H':Hp},(∀b∈fp,H' b=none)->∀b∈fp,FpOk (qW X scope cl (T++caps) G.objs.size s2 H2 fp) [] H' b:=fun hn b hb=>
  ⟨hn b hb,aI (dm (hfp b hb).2 hCz),K1.ok.exfs b hb,.inl hb,fun x c e=>(K1.ok.exf b hb).2 x c e,fun p hp=>absurd (show p∈([]:fM)from hp) (by simp)⟩
 have start:∃(i:Nat)(σ':L2.St)(xs:List V)(H':Hp),Inv (qW X scope cl (T++caps) G.objs.size s2 H2 fp) [] σ' H' { s2 with heap:=h₁,toks:=s2.toks+([]:List (Str×Value)).length }/\tn i h₁/\(∀b∈fp,H' b=none)/\W i m0 σ' xs H':=
  ⟨0,_,[],_,K1,T2.keep _ _ _ st2 fun b _ o e=>old b o e,fun b hb=>by rw[qf (aI (hfp b hb).2)];exact(f2 b hb).1,w0⟩
 have loop:codeAny (model X.prog X.w) X.A (.compLoop (.ListComp elt [⟨tg,iter,ifs,0⟩] scope pos) 0 (.ref it) (.ref s2.heap.objs.size) (compEnvC scope cl G.objs.size X.env))
   (compPost (model X.prog X.w) X.A X.xe use QQ (.ref s2.heap.objs.size) G.objs.size) { s2 with heap:=h₁,toks:=s2.toks+([]:List (Str×Value)).length }:=by
  refine Wz (fun n s'=>∃(i:Nat)(σ':L2.St)(xs:List V)(H':Hp),Inv (qW X scope cl (T++caps) G.objs.size s2 H2 fp) [] σ' H' s'/\tn i s'.heap/\(∀b∈fp,H' b=none)/\W i n σ' xs H') ?_ m0 start;rintro n s3 ⟨i,σ3,xs,H3,I3,st3,fr3,w3⟩;obtain⟨hD3,hz3,tn3⟩:=turn i n σ3 xs H3 w3;rcases tn3 with⟨stop,qn⟩|⟨go,step⟩
  ·refine thn (T2.done (qW X scope cl (T++caps) G.objs.size s2 H2 fp) rfl rfl rfl hc2 i [] s3 σ3 H3 _ I3 (stat fr3) st3 stop) fun r s4⟨hr,I4⟩=>?_
   subst hr;obtain⟨m,hm,_⟩:=I4.loc;have B:Inv X pins σ H3 s4:=I2.call' I4.os I4.base I4.hok I4.bare fun b hb=>⟨(f2 b hb).2.2.2.1,(f2 b hb).2.1,(f2 b hb).2.2.2.2.1,(f2 b hb).2.2.2.2.2⟩
   refine fin s2.heap.objs.size G.objs.size H3 s4 m B hm I4.free ?_ (c9 (eU I2.sz hCz)) (fun x c e z=>?_) (fun p hp z=>?_) qn
   ·exact(aI (dm I2.lt hCz)).symm
   ·obtain⟨v,q⟩:=I2.cell x c e
    exact absurd z (aI (dm q.lt hCz))
   ·exact absurd z (aI (dm (au (I2.pin p hp).1) hCz))
  ·refine thn (T2.item (qW X scope cl (T++caps) G.objs.size s2 H2 fp) rfl rfl rfl hc2 i [] s3 σ3 H3 _ I3 (stat fr3) st3 go) fun r s4⟨u,hr,h4⟩=>?_
   subst hr;refine thn h4 fun _ s5⟨x,H5,I5,r5,y5,st5,fr5⟩=>?_
   have I5':=I5.pinned (stat fr5) (T2.obj _ _ st5);have back:∀{σ7:L2.St}{H7:Hp}{s7:Shared},Inv (qW X scope cl (T++caps) G.objs.size s2 H2 fp) ([]++Zm fp s5.heap) σ7 H7 s7->Inv (qW X scope cl (T++caps) G.objs.size s2 H2 fp) [] σ7 H7 s7/\tn (i+1) s7.heap/\∀b∈fp,H7 b=none:=fun{σ7 H7 s7} I7=>by
    refine⟨I7.unpinned,T2.keep _ _ _ st5 fun b hb o e=>(I7.pin (b,o) (ba _ (ba _ (vg hb e)))).1,fun b hb=>?_⟩;obtain⟨o,e,d⟩:=T2.obj _ _ st5 b hb;exact(I7.pin (b,o) (ba _ (ba _ (vg hb e)))).2.1
   refine thn (hg G.objs.size s2 H2 fp hc2 _ s5 σ3 H5 x u _ I5' r5 (step x H5 y5)) fun _ s6⟨σ6,H6,I6,q6⟩=>?_
   refine thn (ht G.objs.size s2 H2 fp _ s6 σ6 H6 _ I6 q6) fun ok s7⟨H7,I7,q7⟩=>?_
   cases ok with
   |true=>
    rw[aH rfl]at q7;rw[aH rfl];refine thn (he G.objs.size s2 H2 fp _ s7 σ6 H7 _ I7 q7) fun z s8⟨y,H8,I8,r8,hD8,m',hm',w8⟩=>?_
    refine thn (v_ _ s8 σ6 H8 (.ref s2.heap.objs.size) [y] _ [z] (fun _ H9=>H9=upd H8 s2.heap.objs.size (.lst (xs++[y]))) I8 rfl (.cons r8 .nil) ⟨_,xs,y,rfl,rfl,hD8,hz3,rfl⟩) fun _ s9⟨_,H9,I9,_,e9⟩=>?_
    subst e9;obtain⟨a1,a2,a3⟩:=back I9;exact⟨m',hm',i+1,σ6,xs++[y],_,a1,a2,a3,w8⟩
   |false=>
    rw[aG (by decide)]at q7;rw[aG (by decide)];obtain⟨m',hm',w7⟩:=q7;obtain⟨a1,a2,a3⟩:=back I7;exact⟨m',hm',i+1,σ6,xs,H7,a1,a2,a3,w7⟩
 exact codeAny_compStart_list loop (T2.self _ 0 _ _ _ (T2.keep _ _ _ st2 fun b _ o e=>old b o e) loop)
theorem qa0{wi:TI}
  (O:CompOk X scope cl T caps ix)(hc:X.calm=true)(hi:PI X tg iter wi)(hg:∀C s H fp,PG (qW X scope cl (T++caps) C s H fp) tg g)(ht:∀C s H fp,PTs (qW X scope cl (T++caps) C s H fp) ifs tt)
  (he:∀C s H fp,PE (qW X scope cl (T++caps) C s H fp) elt te)(hs:∀x,foldedSetIterable iter X.env x=pure x:=by intro _;rfl):PE X (.ListComp elt [⟨tg,iter,ifs,0⟩] scope pos) (K7 wi g tt te T ix):=by
 intro pins s σ H Q I h;rw[eval_ListComp];refine kF (use:=none) O (fun _ _ _=>hc) hi (fun C s H fp _=>hg C s H fp) ht he hs I h fun D C H3 s4 m B hm nC cL cs cc cp q=>?_
 exact⟨m,hm,fun h' hs'=>⟨.ref D,H3,B.turned (t':=s4.toks) (it:=C) (fun b o hb e=>hs'.extBut b o hb e) nC cL (.inr cs) cc cp,rfl,q⟩⟩
end X2
namespace M
open PySem PySem.Spec PyProof.Rows L2 X2
variable{K:fL}{H H' h:Hp}{a:Addr}{xs:List V}{v:V}{fp:fP}{u u':HO}{fr m:Bool}{X:Cx}{e iter tg:Expr}{t':TT}{σ:L2.St}{α β κ ν:Type}{Q:VK}{st:Stmt}{pins:fM}{s:Shared}{c2:Co}{A:Around}{N:fT}{Dn:Ends}{ts:fU}{Rr:It->Hp->Prop}
inductive D where
 |non|bl (b:Bool)|int (i:Int)|str (x:Str)|tup (ds:List D)|lst (ds:List D)|dic (kvs:List (Key×D))|dit (kvs:List (List Key×D))|obj (n:Nat)|scr (ds:List D)
structure Co where
 h:Hp
 ob:Nat->fR
structure Co.Le(c c':Co):Prop where
 h:Same c.h c'.h
 ob:∀n a,c.ob n=some a->c'.ob n=some a
theorem Co.Le.refl(c:Co):Co.Le c c:=⟨Same.refl _,fun _ _ e=>e⟩
theorem Co.Le.trans{a b c:Co}(x:Co.Le a b)(y:Co.Le b c):Co.Le a c:=⟨x.h.trans y.h,fun n z e=>y.ob n z (x.ob n z e)⟩
theorem Qd(s:Same H H')(h:SqL K H a xs):SqL K H' a xs:=by
 rcases h with(h|⟨o,h⟩)|h
 ·exact .inl (.inl (s _ _ h))
 ·exact .inl (.inr ⟨o,s _ _ h⟩)
 ·exact .inr h
theorem tupT(s:Same h H)(e:h a=some (.tup xs)):SqT K H a xs:=SqT.of (s _ _ e)
theorem lstT(s:Same h H)(e:h a=some (.lst xs)):SqL K H a xs:=SqL.of (s _ _ e)
inductive Rep(K:fL)(c:Co):V->D->Prop where
 |non:Rep K c .non .non
 |bl (b:Bool):Rep K c (.bl b) (.bl b)
 |int (i:Int):Rep K c (.int i) (.int i)
 |str (x:Str):Rep K c (.str x) (.str x)
 |tup {a:Addr} {xs:List V} {ds:List D} (e:c.h a=some (.tup xs)) (l:xs.length=ds.length) (r:∀(i:Nat) x d,xs[i]?=some x->ds[i]?=some d->Rep K c x d):Rep K c (.ref a) (.tup ds)
 |lst {a:Addr} {xs:List V} {ds:List D} (e:c.h a=some (.lst xs)) (l:xs.length=ds.length) (r:∀(i:Nat) x d,xs[i]?=some x->ds[i]?=some d->Rep K c x d):Rep K c (.ref a) (.lst ds)
 |dic {a:Addr} {ys:List (Key×V)} {kvs:List (Key×D)} (e:c.h a=some (.dK ys)) (l:ys.map (·.1)=kvs.map (·.1)) (nd:(kvs.map (·.1)).Nodup) (r:∀(i:Nat) p q,ys[i]?=some p->kvs[i]?=some q->Rep K c p.2 q.2):Rep K c (.ref a) (.dic kvs)
 |dit {a:Addr} {ys:List (List Key×V)} {kvs:List (List Key×D)} (e:c.h a=some (.dT ys)) (l:ys.map (·.1)=kvs.map (·.1)) (nd:(kvs.map (·.1)).Nodup) (r:∀(i:Nat) p q,ys[i]?=some p->kvs[i]?=some q->Rep K c p.2 q.2):Rep K c (.ref a) (.dit kvs)
 |obj {n:Nat} {a:Addr} (e:c.ob n=some a):Rep K c (.ref a) (.obj n)
 |scr {a:Addr} {xs:List V} {ds:List D} (e:SqL K c.h a xs) (l:xs.length=ds.length) (r:∀(i:Nat) x d,xs[i]?=some x->ds[i]?=some d->Rep K c x d):Rep K c (.ref a) (.scr ds)
theorem Rep.mono{c c':Co}(s:Co.Le c c'){d:D}(r:Rep K c v d):Rep K c' v d:=by
 induction r with
 |non=>exact .non
 |bl b=>exact .bl b
 |int i=>exact .int i
 |str x=>exact .str x
 |tup e l r ih=>exact .tup (s.h _ _ e) l ih
 |lst e l r ih=>exact .lst (s.h _ _ e) l ih
 |dic e l nd r ih=>exact .dic (s.h _ _ e) l nd ih
 |dit e l nd r ih=>exact .dit (s.h _ _ e) l nd ih
 |obj e=>exact .obj (s.ob _ _ e)
 |scr e l r ih=>exact .scr (Qd s.h e) l ih
structure Reps(K:fL)(c:Co)(xs:List V)(ds:List D):Prop where
 l:xs.length=ds.length
 r:∀(i:Nat) x d,xs[i]?=some x->ds[i]?=some d->Rep K c x d
theorem Reps.mono{K:fL}{c c':Co}(s:Co.Le c c'){xs:List V}{ds:List D}(r:Reps K c xs ds):Reps K c' xs ds:=⟨r.l,fun i x d a b=>(r.r i x d a b).mono s⟩
theorem Reps.nil{c:Co}:Reps K c [] []:=⟨rfl,fun _ _ _ h=>by simp at h⟩
theorem Reps.cons{K:fL}{c:Co}{x:V}{d:D}{xs:List V}{ds:List D}(h:Rep K c x d)(t:Reps K c xs ds):Reps K c (x::xs) (d::ds):=by
 refine⟨by simp[t.l],fun i y e a b=>?_⟩;cases i with
 |zero=>cases a;cases b;exact h
 |succ i=>exact t.r i y e (by simpa using a) (by simpa using b)
theorem Reps.uncons{c:Co}{d:D}{ds:List D}(h:Reps K c xs (d::ds)):∃x t,xs=x::t/\Rep K c x d/\Reps K c t ds:=by
 cases xs with
 |nil=>exact absurd h.l (by simp)
 |cons x t=>exact⟨x,t,rfl,h.r 0 x d rfl rfl,by have:=h.l;simpa using this,fun i y e a b=>h.r (i+1) y e (by simpa using a) (by simpa using b)⟩
theorem Reps.unnil{c:Co}(h:Reps K c xs []):xs=[]:=dU h.l
theorem Reps.append{c:Co}{ys:List V}{ds es:List D}(h:Reps K c xs ds)(t:Reps K c ys es):Reps K c (xs++ys) (ds++es):=by
 refine⟨by simp[h.l,t.l],fun i x d a b=>?_⟩
 by_cases hi:i<xs.length
 ·rw[aB hi]at a
  rw[aB (by rw[<- h.l];exact hi)]at b;exact h.r i x d a b
 ·rw[aJ (by omega)]at a
  rw[aJ (by have:=h.l;omega),<- h.l]at b;exact t.r _ x d a b
theorem Reps.at{c:Co}{ds:List D}(h:Reps K c xs ds){i:Nat}{d:D}(e:ds[i]?=some d):∃x,xs[i]?=some x/\Rep K c x d:=by
 have hi:i<xs.length:=by rw[h.l];exact(ai.mp e).1
 exact⟨xs[i],aa hi,h.r i _ d (aa hi) e⟩
theorem Reps.atV{c:Co}{ds:List D}(h:Reps K c xs ds){i:Nat}{x:V}(e:xs[i]?=some x):∃d,ds[i]?=some d/\Rep K c x d:=by
 have hi:i<ds.length:=by rw[<- h.l];exact(ai.mp e).1
 exact⟨ds[i],aa hi,h.r i x _ e (aa hi)⟩
theorem Reps.sub{c:Co}{ds:List D}(h:Reps K c xs ds)(p n:Nat):Reps K c ((xs.drop p).take n) ((ds.drop p).take n):=by
 refine⟨by rw[c7,c7,dQ,dQ,h.l],fun i x d a b=>?_⟩;rw[List.getElem?_take]at a b
 split at a
 ·rw[aH (by assumption)]at b
  rw[List.getElem?_drop]at a b;exact h.r _ x d a b
 ·cases a
def isT:HO->Bool
 |.tbl _=>true
 |_=>false
def noTb:Option HO->Option HO
 |some (.tbl _)=>none
 |o=>o
def Hn(H:Hp)(fp:fP):Hp:=fun a=>if a∈fp then none else noTb (H a)
theorem Hn.of(h:Hn H fp a=some u):H a=some u/\a∉fp/\isT u=false:=by
 unfold Hn at h
 split at h
 ·cases h
 ·rename_i hf
  cases e:H a with
  |none=>rw[e]at h;cases h
  |some o=>
   rw[e]at h;cases o <;> first
    |(cases h;done)
    |(cases h;exact⟨rfl,hf,rfl⟩)
theorem Hn.mk(h:H a=some u)(hf:a∉fp)(ht:isT u=false):Hn H fp a=some u:=by
 unfold Hn;rw[aG hf,h];cases u <;> first
  |rfl
  |cases ht
theorem Hn.same:Same (Hn H fp) H:=fun _ _ e=>(Hn.of e).1
theorem Hn.grow(s:Same H H'):Same (Hn H fp) (Hn H' fp):=fun a u e=>by
 obtain⟨h1,h2,h3⟩:=Hn.of e;exact Hn.mk (s _ _ h1) h2 h3
structure Xn where
 cls:Str
 args:List D
structure Wo where
 BS:Type
 BR:BS->Hp->Co->fP->Prop
 EA:Cx->Value->Value->fR->Shared->Hp->Prop
 XV:Xn->Value->fR->Hp->Co->Prop
 tabs:Hp->Prop
 still:Bool
 brS:∀b H c fp H' c',BR b H c fp->(∀a∈fp,H' a=H a)->Co.Le c c'->c'.ob=c.ob->(∀a∈fp,c'.h a=none)->BR b H' c' fp
 obh:still=false->∀b H c fp,BR b H c fp->Same c.h (Hn H fp)->(∀a∈fp,H a≠none)->∀n a,c.ob n=some a->H a≠none
 xvS:∀x k a H c c',XV x k a H c->Co.Le c c'->XV x k a H c'
 tabS:∀H H',tabs H->(∀a u,H a=some u->(∀xs,u≠.lst xs)->(∀xs,u≠.dK xs)->(∀xs,u≠.dT xs)->H' a=some u)->tabs H'
def Wo.EX(W:Wo)(X:Cx)(x:Xn)(ev:Value)(s:Shared)(H:Hp)(c:Co):Prop:=∃k a,W.EA X ev k a s H/\W.XV x k a H c
theorem Wo.exS(W:Wo)(X:Cx)(x:Xn)(ev:Value)(s:Shared)(H:Hp)(c c':Co)(h:W.EX X x ev s H c)(l:Co.Le c c'):W.EX X x ev s H c':=let⟨k,a,h1,h2⟩:=h;⟨k,a,h1,W.xvS _ _ _ _ _ _ h2 l⟩
structure SS(W:Wo) where
 v:List (Option D)
 b:W.BS
inductive R(W:Wo)(α:Type) where
 |ok (a:α) (b:W.BS)
 |exc (x:Xn) (b:W.BS)
 |bad
structure En where
 H:Hp
 c:Co
 fp:fP
structure FR(H:Hp)(c:Co)(fp:fP)(H':Hp)(c':Co)(fp':fP):Prop where
 le:Co.Le c c'
 nn:Same (Hn H fp) (Hn H' fp')
 out:∀a,Hn H fp a≠none->c.h a=none->c'.h a=none
 th:∀a,H' a=none->H a=none
 nob:∀n a,c.ob n=none->c'.ob n=some a->H a=none
theorem nobR{o:Nat->fR}{P:Addr->Prop}:∀n a,o n=none->o n=some a->P a:=fun _ _ h h'=>nomatch (h.symm.trans h')
theorem FR.refl{H:Hp}{c:Co}{fp:fP}:FR H c fp H c fp:=⟨.refl _,Same.refl _,fun _ _ e=>e,fun _ e=>e,nobR⟩
theorem FR.trans{H H1 H2:Hp}{c c1 c2:Co}{fp fp1 fp2:fP}(a:FR H c fp H1 c1 fp1)(b:FR H1 c1 fp1 H2 c2 fp2):FR H c fp H2 c2 fp2:=
 ⟨a.le.trans b.le,a.nn.trans b.nn,fun x hx hc=>b.out x (fun z=>hx (a.nn.free z)) (a.out x hx hc),fun x e=>a.th x (b.th x e),fun n x h0 h2=>by
  cases h1:c1.ob n with
  |none=>exact a.th x (b.nob n x h1 h2)
  |some y=>
   have:=b.le.ob n y h1;rw[h2]at this;cases this;exact a.nob n x h0 h1⟩
def OwnV(K:fL)(E:En)(H:Hp)(c:Co)(fp:fP)(x:V):D->Prop
 |.lst ds=>∃a xs,x=.ref a/\c.h a=none/\a∉fp/\E.H a=none/\H a=some (.lst xs)/\Reps K c xs ds
 |.dic kvs=>∃(a:Addr)(ys:List (Key×V)),x=.ref a/\c.h a=none/\a∉fp/\E.H a=none/\H a=some (.dK ys)/\ys.map (·.1)=kvs.map (·.1)/\(kvs.map (·.1)).Nodup/\Reps K c (ys.map (·.2)) (kvs.map (·.2))
 |.dit kvs=>∃(a:Addr)(ys:List (List Key×V)),x=.ref a/\c.h a=none/\a∉fp/\E.H a=none/\H a=some (.dT ys)/\ys.map (·.1)=kvs.map (·.1)/\(kvs.map (·.1)).Nodup/\Reps K c (ys.map (·.2)) (kvs.map (·.2))
 |d=>Rep K c x d
def k8:D->Bool
 |.lst _=>true
 |.dic _=>true
 |.dit _=>true
 |_=>false
structure SE(W:Wo)(E:En)(b:W.BS)(H:Hp)(c:Co)(fp:fP):Prop where
 core:Same c.h (Hn H fp)
 br:W.BR b H c fp
 tab:W.tabs H
 fph:∀a∈fp,∃u,H a=some u/\isT u=false
 obq:W.still=true->c.ob=E.c.ob
 fr0:FR E.H E.c E.fp H c fp
structure SR(W:Wo)(K:fL)(E:En)(O:List Nat)(g:SS W)(σ:L2.St)(H:Hp)(c:Co)(fp:fP):Prop extends SE W E g.b H c fp where
 frz:∀(i:Nat) d,i∉O->g.v[i]?=some (some d)->∃x,σ[i]?=some (some x)/\Rep K c x d
 own:∀(i:Nat) d,i∈O->g.v[i]?=some (some d)->∃x,σ[i]?=some (some x)/\OwnV K E H c fp x d
 dis:∀(i j:Nat) d e a,i∈O->j∈O->i≠j->g.v[i]?=some (some d)->g.v[j]?=some (some e)->k8 d=true->k8 e=true->σ[i]?=some (some (.ref a))->σ[j]?=some (some (.ref a))->False
 len:g.v.length=σ.length
def cm(m:Bool)(H:Hp)(c:Co)(fp:fP):Co:=if m=true then c else⟨Hn H fp,c.ob⟩
theorem FR.cm{m:Bool}{H H':Hp}{c c':Co}{fp fp':fP}(f:FR H c fp H' c' fp'):Co.Le (cm m H c fp) (cm m H' c' fp'):=by
 cases m with
 |true=>exact f.le
 |false=>exact⟨f.nn,f.le.ob⟩
section
variable{W:Wo}{K:fL}{E:En}{O:List Nat}{g:SS W}{b b':W.BS}{σ:L2.St}{H H':Hp}{c c':Co}{fp fp':fP}
theorem SE.bor(S:SE W E b H c fp):Co.Le (cm m H c fp) ⟨Hn H fp,c.ob⟩:=by
 cases m with
 |true=>exact⟨S.core,fun _ _ e=>e⟩
 |false=>exact .refl _
theorem SE.all(S:SE W E b H c fp):Same (cm m H c fp).h H:=S.bor.h.trans Hn.same
theorem OwnV.step(f:FR H c fp H' c' fp'){x:V}{d:D}(h:OwnV K E H c fp x d):OwnV K E H' c' fp' x d:=by
 cases d with
 |lst ds=>
  obtain⟨a,xs,e,hc,hf,he,hh,r⟩:=h;have hn:Hn H fp a=some (.lst xs):=Hn.mk hh hf rfl;obtain⟨h1,h2,_⟩:=Hn.of (f.nn _ _ hn);exact⟨a,xs,e,f.out a (by rw[hn];simp) hc,h2,he,h1,r.mono f.le⟩
 |dic kvs=>
  obtain⟨a,ys,e,hc,hf,he,hh,l,nd,r⟩:=h;have hn:Hn H fp a=some (.dK ys):=Hn.mk hh hf rfl;obtain⟨h1,h2,_⟩:=Hn.of (f.nn _ _ hn);exact⟨a,ys,e,f.out a (by rw[hn];simp) hc,h2,he,h1,l,nd,r.mono f.le⟩
 |dit kvs=>
  obtain⟨a,ys,e,hc,hf,he,hh,l,nd,r⟩:=h;have hn:Hn H fp a=some (.dT ys):=Hn.mk hh hf rfl;obtain⟨h1,h2,_⟩:=Hn.of (f.nn _ _ hn);exact⟨a,ys,e,f.out a (by rw[hn];simp) hc,h2,he,h1,l,nd,r.mono f.le⟩
 |non=>exact Rep.mono f.le h
 |bl b=>exact Rep.mono f.le h
 |int i=>exact Rep.mono f.le h
 |str x=>exact Rep.mono f.le h
 |tup ds=>exact Rep.mono f.le h
 |obj n=>exact Rep.mono f.le h
 |scr n=>exact Rep.mono f.le h
theorem SR.step(S:SR W K E O g σ H c fp)(f:FR H c fp H' c' fp')(S':SE W E b H' c' fp'):SR W K E O ⟨g.v,b⟩ σ H' c' fp':=
 ⟨S',fun i d hi e=>let⟨x,h1,h2⟩:=S.frz i d hi e;⟨x,h1,h2.mono f.le⟩,fun i d hi e=>let⟨x,h1,h2⟩:=S.own i d hi e;⟨x,h1,h2.step f⟩,S.dis,S.len⟩
theorem SE.fpc(S:SE W E b H c fp):∀a∈fp,c.h a=none:=fun a ha=>by
 cases e:c.h a with
 |none=>rfl
 |some u=>exact absurd ha (Hn.of (S.core _ _ e)).2.1
def Co.add(c:Co)(p:Addr)(u:HO):Co:=⟨upd c.h p u,c.ob⟩
theorem Co.add_le{c:Co}{p:Addr}(h:c.h p=none):Co.Le c (c.add p u):=⟨zK h u,fun _ _ e=>e⟩
theorem SE.free(S:SE W E b H c fp){p:Addr}(hp:H p=none):c.h p=none/\p∉fp:=by
 refine⟨S.core.trans Hn.same |>.free hp,fun hf=>?_⟩;obtain⟨u,e,_⟩:=S.fph p hf;rw[hp]at e;cases e
theorem kC{H:Hp}{fp:fP}{p:Addr}(hp:H p=none):Hn H fp p=none:=by
 unfold Hn;rw[hp]
 split <;> rfl
theorem SE.freeE(S:SE W E b H c fp){p:Addr}(hp:H p=none):E.H p=none:=S.fr0.th p hp
theorem KC{H:Hp}{fp:fP}{p:Addr}(hp:H p=none):Same (Hn H fp) (Hn (upd H p u) fp):=Hn.grow (zK hp u)
theorem FR.new(S:SE W E b H c fp){p:Addr}(hp:H p=none)(u:HO):FR H c fp (upd H p u) (c.add p u) fp:=
 ⟨Co.add_le (S.free hp).1,KC hp,fun a ha hc=>by
  show upd c.h p u a=none;rw[qf ?_]
  ·exact hc
  ·rintro rfl
   exact ha (kC hp),fun _ e=>(zK hp u).free e,nobR⟩
theorem FR.newO{p:Addr}(hp:H p=none)(u:HO):FR H c fp (upd H p u) c fp:=
 ⟨.refl _,KC hp,fun a _ hc=>hc,fun _ e=>(zK hp u).free e,nobR⟩
theorem VS{p:Addr}(t:W.tabs H)(hp:H p=none):W.tabs (upd H p u):=W.tabS _ _ t fun a w e _ _ _=>by rw[qf (zh e hp)];exact e
theorem SE.new(S:SE W E b H c fp){p:Addr}(hp:H p=none){u:HO}(hu:isT u=false):SE W E b (upd H p u) (c.add p u) fp:=by
 obtain⟨hc,hf⟩:=S.free hp;have ne:∀a∈fp,a≠p:=fun a ha z=>hf (z▸ha)
 refine⟨fun a w e=>?_,W.brS _ _ _ _ _ _ S.br (fun a ha=>qf (ne a ha)) (Co.add_le hc) rfl fun a ha=>?_,VS S.tab hp,fun a ha=>?_,S.obq,S.fr0.trans (FR.new S hp u)⟩
 ·by_cases h:a=p
  ·subst h
   have e':upd c.h a u a=some w:=e;rw[qi]at e';cases e';exact Hn.mk qi hf hu
  ·have e':upd c.h p u a=some w:=e
   rw[qf h]at e';exact KC hp _ _ (S.core _ _ e')
 ·show upd c.h p u a=none
  rw[qf (ne a ha)];exact S.fpc a ha
 ·obtain⟨w,e,z⟩:=S.fph a ha
  exact⟨w,(qf (ne a ha)).trans e,z⟩
theorem SE.newO(S:SE W E b H c fp){p:Addr}(hp:H p=none){u:HO}:SE W E b (upd H p u) c fp:=by
 obtain⟨hc,hf⟩:=S.free hp;have ne:∀a∈fp,a≠p:=fun a ha z=>hf (z▸ha)
 refine⟨S.core.trans (KC hp),W.brS _ _ _ _ _ _ S.br (fun a ha=>qf (ne a ha)) (.refl _) rfl S.fpc,VS S.tab hp,fun a ha=>?_,S.obq,S.fr0.trans (FR.newO hp u)⟩;obtain⟨w,e,z⟩:=S.fph a ha;exact⟨w,(qf (ne a ha)).trans e,z⟩
theorem SR.new(S:SR W K E O g σ H c fp){p:Addr}(hp:H p=none){u:HO}(hu:isT u=false):SR W K E O g σ (upd H p u) (c.add p u) fp:=S.step (b:=g.b) (FR.new S.toSE hp u) (S.toSE.new hp hu)
theorem SR.newO(S:SR W K E O g σ H c fp){p:Addr}(hp:H p=none){u:HO}:SR W K E O g σ (upd H p u) c fp:=S.step (b:=g.b) (FR.newO hp u) (S.toSE.newO hp)
end
def W1(T:Hp->Prop)(hT:∀H H',T H->(∀a u,H a=some u->(∀xs,u≠.lst xs)->(∀xs,u≠.dK xs)->(∀xs,u≠.dT xs)->H' a=some u)->T H')(B:Hp->Co->fP->Prop)(hB:∀H c fp H' c',B H c fp->(∀a∈fp,H' a=H a)->Co.Le c c'->(∀a∈fp,c'.h a=none)->B H' c' fp):Wo where
 BS:=Unit
 BR:=fun _ H c fp=>B H c fp
 EA:=fun _ _ _ _ _ _=>False
 XV:=fun _ _ _ _ _=>False
 tabs:=T
 still:=true
 brS:=fun _ H c fp H' c' h1 h2 h3 _ h4=>hB H c fp H' c' h1 h2 h3 h4
 obh:=fun h=>nomatch h
 xvS:=fun _ _ _ _ _ _ h _=>h
 tabS:=hT
def B0:Hp->Co->fP->Prop:=fun _ _ fp=>fp=[]
theorem hB0:∀H c fp H' c',B0 H c fp->(∀a∈fp,H' a=H a)->Co.Le c c'->(∀a∈fp,c'.h a=none)->B0 H' c' fp:=fun _ _ _ _ _ h _ _ _=>h
abbrev W0(T:Hp->Prop)(hT:∀H H',T H->(∀a u,H a=some u->(∀xs,u≠.lst xs)->(∀xs,u≠.dK xs)->(∀xs,u≠.dT xs)->H' a=some u)->T H'):Wo:=W1 T hT B0 hB0
def ql{W:Wo}{α β:Type}(f:SS W->R W α)(k:α->SS W->R W β):SS W->R W β:=fun g=>match f g with
 |.ok a b=>k a ⟨g.v,b⟩
 |.exc x b=>.exc x b
 |.bad=>.bad
def eOpt{W:Wo}{α:Type}(o:Option α):SS W->R W α:=fun g=>match o with
 |some d=>.ok d g.b
 |none=>.bad
def eRet{W:Wo}{α:Type}(a:α):SS W->R W α:=fun g=>.ok a g.b
def tG{W:Wo}{ν α:Type}(X:Cx)(E:En)(rel:Co->ν->α->Prop)(m:Bool)(O:List Nat)(f:SS W->R W α)(g:SS W)(c:Co)(fp:fP)(σ:L2.St)(H:Hp)(Q:ν->Hp->Prop):Prop:=
 SR W X.K E O g σ H c fp/\match f g with
  |.ok d b=>∀v H' c' fp',SR W X.K E O ⟨g.v,b⟩ σ H' c' fp'->FR H c fp H' c' fp'->rel (cm m H' c' fp') v d->Q v H'
  |.exc x b=>∀ev s' H' c' fp',Inv X [] σ H' s'->SR W X.K E O ⟨g.v,b⟩ σ H' c' fp'->FR H c fp H' c' fp'->W.EX X x ev s' H' c'->X.xe ev s'
  |.bad=>False
section
variable{W:Wo}{X:Cx}{E:En}{ν ν' α β:Type}{rel:Co->ν->α->Prop}{rel':Co->ν'->β->Prop}{m m':Bool}{O:List Nat}{g:SS W}{c:Co}{fp:fP}{σ:L2.St}{H:Hp}{Q:ν->Hp->Prop}{Q':ν'->Hp->Prop}
theorem tG.bind{f:SS W->R W α}{k:α->SS W->R W β}(h:tG X E rel' m' O (ql f k) g c fp σ H Q')
  (cont:∀d b v H1 c1 fp1,SR W X.K E O ⟨g.v,b⟩ σ H1 c1 fp1->FR H c fp H1 c1 fp1->rel (cm m H1 c1 fp1) v d->tG X E rel' m' O (k d) ⟨g.v,b⟩ c1 fp1 σ H1 Q'->Q v H1):tG X E rel m O f g c fp σ H Q:=by
 obtain⟨S,h⟩:=h;unfold ql at h;refine⟨S,?_⟩;cases e:f g with
 |bad=>rw[e]at h;exact h
 |exc x b=>rw[e]at h;exact h
 |ok d b=>
  rw[e]at h;intro v H1 c1 fp1 S1 F1 r1;refine cont d b v H1 c1 fp1 S1 F1 r1 ⟨S1,?_⟩;have h:match k d ⟨g.v,b⟩with
   |.ok d b=>∀v H' c' fp',SR W X.K E O ⟨g.v,b⟩ σ H' c' fp'->FR H c fp H' c' fp'->rel' (cm m' H' c' fp') v d->Q' v H'
   |.exc x b=>∀ev s' H' c' fp',Inv X [] σ H' s'->SR W X.K E O ⟨g.v,b⟩ σ H' c' fp'->FR H c fp H' c' fp'->W.EX X x ev s' H' c'->X.xe ev s'
   |.bad=>False:=h
  cases e2:k d ⟨g.v,b⟩with
  |bad=>rw[e2]at h;exact h
  |exc x b2=>rw[e2]at h;exact fun ev s' H' c' fp' I S' F' x'=>h ev s' H' c' fp' I S' (F1.trans F') x'
  |ok d2 b2=>rw[e2]at h;exact fun v H' c' fp' S' F' r'=>h v H' c' fp' S' (F1.trans F') r'
theorem tG.opt{o:Option β}(h:tG X E rel' m' O (eOpt o) g c fp σ H Q'):∃d,o=some d/\∀v H' c' fp',SR W X.K E O g σ H' c' fp'->FR H c fp H' c' fp'->rel' (cm m' H' c' fp') v d->Q' v H':=by
 obtain⟨S,h⟩:=h;cases o with
 |none=>exact h.elim
 |some d=>exact⟨d,rfl,h⟩
theorem tG.ret{d:β}(h:tG X E rel' m' O (eRet d) g c fp σ H Q'):∀v H' c' fp',SR W X.K E O g σ H' c' fp'->FR H c fp H' c' fp'->rel' (cm m' H' c' fp') v d->Q' v H':=h.2
end
structure Wr(p:Prop):Prop where
 h:p
def DEx(X:Cx)(W:Wo)(E:En)(m:Bool)(O:List Nat)(e:Expr)(f:SS W->R W D):Prop:=Wr (PE X e fun σ H Q=>∃g c fp,tG X E (Rep X.K) m O f g c fp σ H Q)
abbrev DE(W:Wo)(E:En)(m:Bool)(X:Cx)(O:List Nat)(e:Expr)(f:SS W->R W D):Prop:=DEx X W E m O e f
def DAx(X:Cx)(W:Wo)(E:En)(m:Bool)(O:List Nat)(es:fU)(f:SS W->R W (List D)):Prop:=Wr (PA X es fun σ H Q=>∃g c fp,tG X E (Reps X.K) m O f g c fp σ H Q)
abbrev DA(W:Wo)(E:En)(m:Bool)(X:Cx)(O:List Nat)(es:fU)(f:SS W->R W (List D)):Prop:=DAx X W E m O es f
def relB(_:Co)(x b:Bool):Prop:=x=b
def DTx(X:Cx)(W:Wo)(E:En)(O:List Nat)(e:Expr)(f:SS W->R W Bool):Prop:=Wr (PT X e fun σ H Q=>∃g c fp,tG X E relB true O f g c fp σ H Q)
abbrev DT(W:Wo)(E:En)(X:Cx)(O:List Nat)(e:Expr)(f:SS W->R W Bool):Prop:=DTx X W E O e f
def DWx(X:Cx)(W:Wo)(E:En)(O:List Nat)(e:Expr)(f:SS W->R W Bool):Prop:=Wr (PW X e fun σ H Q=>∃g c fp,tG X E relB true O f g c fp σ H Q)
abbrev DW(W:Wo)(E:En)(X:Cx)(O:List Nat)(e:Expr)(f:SS W->R W Bool):Prop:=DWx X W E O e f
theorem qy{t t':TE}(h:PE X e t)(w:∀σ H Q,t' σ H Q->t σ H Q):Wr (PE X e t'):=⟨fun pins s σ H Q I q=>h pins s σ H Q I (w σ H Q q)⟩
theorem xC{t:TT}(h:PT X e t)(w:∀σ H Q,t' σ H Q->t σ H Q):Wr (PT X e t'):=⟨fun pins s σ H Q I q=>h pins s σ H Q I (w σ H Q q)⟩
theorem V_{t:TT}(h:PW X e t)(w:∀σ H Q,t' σ H Q->t σ H Q):Wr (PW X e t'):=⟨fun whole pins s σ H Q I q=>h whole pins s σ H Q I (w σ H Q q)⟩
theorem Xp{es:fU}{t t':TA}(h:PA X es t)(w:∀σ H Q,t' σ H Q->t σ H Q):Wr (PA X es t'):=⟨fun pos pins s σ H Q I q=>h pos pins s σ H Q I (w σ H Q q)⟩
section
variable{W:Wo}{X:Cx}{E:En}{O:List Nat}{m m1 m2:Bool}{e a b:Expr}{f fa fb:SS W->R W D}{pos:Pos}
theorem qgv{c:Co}{g:SS W}(S:SR W X.K E O g σ H c fp):Co.Le (cm true H c fp) (cm m H c fp):=by
 cases m with
 |true=>exact .refl _
 |false=>exact S.toSE.bor (m:=true)
def eVar(i:Nat):SS W->R W D:=fun g=>eOpt ((g.v[i]?).join) g
theorem qa2{c:Co}(hc:Same c.h (Hn H fp)){x:V}{d:D}(h:OwnV K E H c fp x d):Rep K ⟨Hn H fp,c.ob⟩ x d:=by
 have le:Co.Le c ⟨Hn H fp,c.ob⟩:=⟨hc,fun _ _ e=>e⟩;cases d with
 |lst ds=>
  obtain⟨a,xs,rfl,_,hf,_,hh,r⟩:=h;exact .lst (Hn.mk hh hf rfl) r.l (r.mono le).r
 |dic kvs=>
  obtain⟨a,ys,rfl,_,hf,_,hh,l,nd,r⟩:=h;refine .dic (Hn.mk hh hf rfl) l nd fun i p q h1 h2=>(r.mono le).r i _ _ (by rw[aq,h1];rfl) (by rw[aq,h2];rfl)
 |dit kvs=>
  obtain⟨a,ys,rfl,_,hf,_,hh,l,nd,r⟩:=h;refine .dit (Hn.mk hh hf rfl) l nd fun i p q h1 h2=>(r.mono le).r i _ _ (by rw[aq,h1];rfl) (by rw[aq,h2];rfl)
 |non=>exact Rep.mono le h
 |bl b=>exact Rep.mono le h
 |int i=>exact Rep.mono le h
 |str x=>exact Rep.mono le h
 |tup ds=>exact Rep.mono le h
 |obj n=>exact Rep.mono le h
 |scr n=>exact Rep.mono le h
theorem join_some{o:Option (Option α)}{a:α}(h:o.join=some a):o=some (some a):=by
 cases o with
 |none=>cases h
 |some o=>exact bU some h
theorem qe0{i:Nat}(h:PE X e (tVar i))(hi:i∉O):DE W E true X O e (eVar i):=qy h fun σ H Q⟨g,c,fp,q⟩=>by
 obtain⟨d,e,k⟩:=tG.opt (o:=(g.v[i]?).join) q;obtain⟨x,h1,h2⟩:=q.1.frz i d hi (join_some e);exact⟨x,h1,k x H c fp q.1 .refl h2⟩
theorem JM{i:Nat}(h:PE X e (tVar i))(hi:i∈O):DE W E false X O e (eVar i):=qy h fun σ H Q⟨g,c,fp,q⟩=>by
 obtain⟨d,e,k⟩:=tG.opt (o:=(g.v[i]?).join) q;obtain⟨x,h1,h2⟩:=q.1.own i d hi (join_some e);exact⟨x,h1,k x H c fp q.1 .refl (qa2 q.1.core h2)⟩
def isAt:D->Option V
 |.non=>some .non
 |.bl b=>some (.bl b)
 |.int i=>some (.int i)
 |.str x=>some (.str x)
 |_=>none
theorem wf{c:Co}{d:D}(h:isAt d=some v):Rep K c v d:=by
 cases d <;> cases h <;> constructor
theorem uD{c:Co}{d:D}{x:V}(h:isAt d=some v)(r:Rep K c x d):x=v:=by
 cases r <;> cases h <;> rfl
def eC(d:D):SS W->R W D:=eRet d
theorem de_c{d:D}(h:PE X e (tC v))(hd:isAt d=some v):DE W E true X O e (eC d):=qy h fun σ H Q⟨g,c,fp,q⟩=>q.ret v H c fp q.1 .refl (wf hd)
def e1(op:D->Option D)(fa:SS W->R W D):SS W->R W D:=ql fa fun x=>eOpt (op x)
def e2(op:D->D->Option D)(fa fb:SS W->R W D):SS W->R W D:=ql fa fun x=>ql fb fun y=>eOpt (op x y)
def Op2(X:Cx)(r:R2)(op:D->D->Option D):Prop:=∀(H:Hp)(c:Co)(x y:V)(dx dy d:D)(Q:VK),Same c.h H->Rep X.K c x dx->Rep X.K c y dy->op dx dy=some d->(∀v,isAt d=some v->Q v H)->r x y H Q
theorem two{op:D->D->Option D}{g:SS W}{c:Co}{r:R2}(h:tG X E (Rep X.K) true O (e2 op fa fb) g c fp σ H Q)(hr:Op2 X r op) :
  tG X E (Rep X.K) m1 O fa g c fp σ H fun x H1=>∃g c fp,tG X E (Rep X.K) m2 O fb g c fp σ H1 fun y H2=>r x y H2 Q:=by
 refine h.bind fun d b v H1 c1 fp1 S1 F1 r1 h1=>⟨_,c1,fp1,h1.bind fun d' b' v' H2 c2 fp2 S2 F2 r2 h2=>?_⟩
 obtain⟨z,ez,k⟩:=h2.opt;refine hr H2 ⟨Hn H2 fp2,c2.ob⟩ v v' d d' z Q Hn.same ((r1.mono F2.cm).mono S2.toSE.bor) (r2.mono S2.toSE.bor) ez fun u hu=>k u H2 c2 fp2 S2 .refl (wf hu)
theorem q_{o:Operator}{r:R2}{op:D->D->Option D}(ho:OpR X (binaryOp o) r)(hr:Op2 X r op)(ha:DE W E m1 X O a fa)(hb:DE W E m2 X O b fb):DE W E true X O (.BinOp a o b pos) (e2 op fa fb):=
 qy (Zo ho ha.h hb.h) fun σ H Q⟨g,c,fp,q⟩=>⟨g,c,fp,two q hr⟩
theorem yP{o:CmpOp}{r:R2}{op:D->D->Option D}(ho:OpR X (compareOp o) r)(hr:Op2 X r op)(ha:DE W E m1 X O a fa)(hb:DE W E m2 X O b fb)(hm:behindInMarks o b=false):DE W E true X O (.Compare a [o] [b] pos) (e2 op fa fb):=
 qy (qa1 ho ha.h hb.h hm) fun σ H Q⟨g,c,fp,q⟩=>⟨g,c,fp,two q hr⟩
end
def NewV(H:Hp)(v:V)(d:D):Prop:=k8 d=true->∀a,v=.ref a->H a=none
def tO{W:Wo}(X:Cx)(E:En)(O:List Nat)(f:SS W->R W D)(g:SS W)(c:Co)(fp:fP)(σ:L2.St)(H:Hp)(Q:VK):Prop:=
 SR W X.K E O g σ H c fp/\match f g with
  |.ok d b=>∀v H' c' fp',SR W X.K E O ⟨g.v,b⟩ σ H' c' fp'->FR H c fp H' c' fp'->OwnV X.K E H' c' fp' v d->NewV H v d->Q v H'
  |.exc x b=>∀ev s' H' c' fp',Inv X [] σ H' s'->SR W X.K E O ⟨g.v,b⟩ σ H' c' fp'->FR H c fp H' c' fp'->W.EX X x ev s' H' c'->X.xe ev s'
  |.bad=>False
def DOx(X:Cx)(W:Wo)(E:En)(O:List Nat)(e:Expr)(f:SS W->R W D):Prop:=Wr (PE X e fun σ H Q=>∃g c fp,tO X E O f g c fp σ H Q)
abbrev DO(W:Wo)(E:En)(X:Cx)(O:List Nat)(e:Expr)(f:SS W->R W D):Prop:=DOx X W E O e f
section
variable{W:Wo}{K:fL}{X:Cx}{E:En}{O:List Nat}{g:SS W}{b:W.BS}{σ:L2.St}{H H':Hp}{c c':Co}{fp fp':fP}
theorem SE.give(S:SE W E b H c fp)(ha:H a=some u)(hu:isT u=false)(hc:c.h a=none)(hf:a∉fp)(he:E.H a=none):SE W E b H (c.add a u) fp:=by
 have ne:∀z∈fp,z≠a:=fun z hz q=>hf (q▸hz)
 refine⟨fun z w e=>?_,W.brS _ _ _ _ _ _ S.br (fun z hz=>rfl) (Co.add_le hc) rfl fun z hz=>?_,S.tab,S.fph,S.obq,S.fr0.le.trans (Co.add_le hc),S.fr0.nn,fun z hz hq=>?_,S.fr0.th,S.fr0.nob⟩
 ·by_cases h:z=a
  ·subst h
   have e':upd c.h z u z=some w:=e;rw[qi]at e';cases e';exact Hn.mk ha hf hu
  ·have e':upd c.h a u z=some w:=e
   rw[qf h]at e';exact S.core _ _ e'
 ·show upd c.h a u z=none
  rw[qf (ne z hz)];exact S.fpc z hz
 ·show upd c.h a u z=none
  rw[qf (fun q=>by subst q;exact hz (kC he))];exact S.fr0.out z hz hq
theorem Zq{x:V}{d:D}(h:OwnV K E H c fp x d)(hm:k8 d=true):∃a u,x=.ref a/\H a=some u/\isT u=false/\c.h a=none/\a∉fp/\E.H a=none/\∀c':Co,Co.Le c c'->c'.h a=some u->Rep K c' x d:=by
 cases d with
 |lst ds=>
  obtain⟨a,xs,rfl,hc,hf,he,hh,r⟩:=h;exact⟨a,_,rfl,hh,rfl,hc,hf,he,fun c' le e=>.lst e r.l (r.mono le).r⟩
 |dic kvs=>
  obtain⟨a,ys,rfl,hc,hf,he,hh,l,nd,r⟩:=h;exact⟨a,_,rfl,hh,rfl,hc,hf,he,fun c' le e=>.dic e l nd fun i p q h1 h2=>(r.mono le).r i _ _ (by rw[aq,h1];rfl) (by rw[aq,h2];rfl)⟩
 |dit kvs=>
  obtain⟨a,ys,rfl,hc,hf,he,hh,l,nd,r⟩:=h;exact⟨a,_,rfl,hh,rfl,hc,hf,he,fun c' le e=>.dit e l nd fun i p q h1 h2=>(r.mono le).r i _ _ (by rw[aq,h1];rfl) (by rw[aq,h2];rfl)⟩
 |non=>cases hm
 |bl b=>cases hm
 |int i=>cases hm
 |str x=>cases hm
 |tup ds=>cases hm
 |obj n=>cases hm
 |scr n=>cases hm
theorem Qo{x:V}{d:D}(h:OwnV K E H c fp x d)(hm:k8 d=false):Rep K c x d:=by
 cases d with
 |lst ds=>cases hm
 |dic kvs=>cases hm
 |dit kvs=>cases hm
 |non=>exact h
 |bl b=>exact h
 |int i=>exact h
 |str x=>exact h
 |tup ds=>exact h
 |obj n=>exact h
 |scr n=>exact h
theorem DO.de{f:SS W->R W D}(h:DO W E X O e f):DE W E true X O e f:=qy h.h fun σ H Q⟨g,c,fp,S,q⟩=>by
 refine⟨g,c,fp,S,?_⟩;cases e2:f g with
 |bad=>rw[e2]at q;exact q
 |exc x b2=>rw[e2]at q;exact q
 |ok d b2=>
  rw[e2]at q;intro v H' c' fp' S' F' o nw;cases hm:k8 d with
  |false=>exact q v H' c' fp' S' F' (Qo o hm)
  |true=>
   obtain⟨a,u,rfl,ha,hu,hc,hf,he,r⟩:=Zq o hm;have le:=Co.add_le (u:=u) hc;have nH:H a=none:=nw hm a rfl;have F2:FR H c fp H' (c'.add a u) fp':=⟨F'.le.trans le,F'.nn,fun z hz hq=>by
    show upd c'.h a u z=none;rw[qf (fun t=>by subst t;exact hz (kC nH))];exact F'.out z hz hq,F'.th,F'.nob⟩
   have S2:SR W X.K E O ⟨g.v,b2⟩ σ H' (c'.add a u) fp':=S.step F2 (S'.toSE.give ha hu hc hf he);exact q (.ref a) H' (c'.add a u) fp' S2 F2 (r _ le qi)
variable{m m1 m2:Bool}{e a:Expr}{es:fU}{f fa fb:SS W->R W D}{fs:SS W->R W (List D)}{pos:Pos}
def aNil:SS W->R W (List D):=eRet []
def qb(f:SS W->R W D)(fs:SS W->R W (List D)):SS W->R W (List D):=ql f fun x=>ql fs fun xs=>eRet (x::xs)
theorem qo:DA W E m X O [] aNil:=Xp zt fun σ H Q⟨g,c,fp,q⟩=>q.ret [] H c fp q.1 .refl .nil
theorem qa(ha:DE W E m1 X O e f)(hr:DA W E m X O es fs)(hm:m1=true\/m=false:=by first|exact Or.inl rfl|exact Or.inr rfl)(hs:starEach (e::es) X.env=(false,eval e X.env)::starEach es X.env:=by rfl):DA W E m X O (e::es) (qb f fs):=
 Xp (qr ha.h hr.h hs) fun σ H Q⟨g,c,fp,q⟩=>⟨g,c,fp,q.bind fun d b v H1 c1 fp1 S1 F1 r1 h1=>⟨_,c1,fp1,h1.bind fun d' b' v' H2 c2 fp2 S2 F2 r2 h2=>by
  refine h2.ret (v::v') H2 c2 fp2 S2 .refl (.cons ((r1.mono F2.cm).mono ?_) r2);rcases hm with rfl|rfl
  ·exact qgv S2
  ·exact S2.toSE.bor⟩⟩
def eTup(fs:SS W->R W (List D)):SS W->R W D:=ql fs fun ds=>eOpt (if ds.length<=1000 then some (.tup ds)else none)
def eLst(fs:SS W->R W (List D)):SS W->R W D:=ql fs fun ds=>eOpt (if ds.length<=1000 then some (.lst ds)else none)
theorem wW{ds:List D}{p:Addr}(h:c.h p=some (.tup xs))(r:Reps K c xs ds):Rep K c (.ref p) (.tup ds):=.tup h r.l r.r
theorem ja{p:Prop}[Decidable p]{x y:α}(h:(if p then some x else none)=some y):p/\x=y:=by
 split at h
 ·rename_i hp;exact⟨hp,bY h⟩
 ·cases h
theorem jf{k:Nat}(h:DA W E true X O es fs):DE W E true X O (.Tuple es k pos) (eTup fs):=qy (Xm h.h) fun σ H Q⟨g,c,fp,q⟩=>⟨g,c,fp,q.bind fun ds b xs H1 c1 fp1 S1 F1 r1 h1=>by
 obtain⟨d,e,k⟩:=h1.opt;obtain⟨hl,rfl⟩:=ja e;refine⟨by rw[r1.l];exact X2.small hl,fun p hp=>k _ _ (c1.add p _) fp1 (S1.new hp rfl) (FR.new S1.toSE hp _) (wW qi (r1.mono (Co.add_le (S1.toSE.free hp).1)))⟩⟩
theorem tO.bind{rel:Co->ν->α->Prop}{f:SS W->R W α}{k:α->SS W->R W D}{Q1:ν->Hp->Prop}(h:tO X E O (ql f k) g c fp σ H Q)
  (cont:∀d b v H1 c1 fp1,SR W X.K E O ⟨g.v,b⟩ σ H1 c1 fp1->FR H c fp H1 c1 fp1->rel (cm m H1 c1 fp1) v d->tO X E O (k d) ⟨g.v,b⟩ c1 fp1 σ H1 Q->Q1 v H1):tG X E rel m O f g c fp σ H Q1:=by
 obtain⟨S,h⟩:=h;unfold ql at h;refine⟨S,?_⟩;cases e:f g with
 |bad=>rw[e]at h;exact h
 |exc x b=>rw[e]at h;exact h
 |ok d b=>
  rw[e]at h;intro v H1 c1 fp1 S1 F1 r1;refine cont d b v H1 c1 fp1 S1 F1 r1 ⟨S1,?_⟩;have h:match k d ⟨g.v,b⟩with
   |.ok d b=>∀v H' c' fp',SR W X.K E O ⟨g.v,b⟩ σ H' c' fp'->FR H c fp H' c' fp'->OwnV X.K E H' c' fp' v d->NewV H v d->Q v H'
   |.exc x b=>∀ev s' H' c' fp',Inv X [] σ H' s'->SR W X.K E O ⟨g.v,b⟩ σ H' c' fp'->FR H c fp H' c' fp'->W.EX X x ev s' H' c'->X.xe ev s'
   |.bad=>False:=h
  cases e2:k d ⟨g.v,b⟩with
  |bad=>rw[e2]at h;exact h
  |exc x b2=>rw[e2]at h;exact fun ev s' H' c' fp' I S' F' x'=>h ev s' H' c' fp' I S' (F1.trans F') x'
  |ok d2 b2=>
   rw[e2]at h;exact fun v H' c' fp' S' F' r' nw=>h v H' c' fp' S' (F1.trans F') r' fun hm a ha=>F1.th a (nw hm a ha)
theorem tO.opt{o:Option D}(h:tO X E O (eOpt o) g c fp σ H Q):∃d,o=some d/\∀v H' c' fp',SR W X.K E O g σ H' c' fp'->FR H c fp H' c' fp'->OwnV X.K E H' c' fp' v d->NewV H v d->Q v H':=by
 obtain⟨S,h⟩:=h;cases o with
 |none=>exact h.elim
 |some d=>exact⟨d,rfl,h⟩
theorem tO.list{ds:List D}(h:tO X E O (eOpt (some (.lst ds))) g c fp σ H Q)(r:Reps X.K c xs ds)(p:Addr)(hp:H p=none):Q (.ref p) (upd H p (.lst xs)):=by
 obtain⟨S,k⟩:=h;exact k (.ref p) _ c fp (S.newO hp) (FR.newO hp _) ⟨p,xs,rfl,(S.toSE.free hp).1,(S.toSE.free hp).2,S.toSE.freeE hp,qi,r⟩ fun _ a e=>by cases e;exact hp
theorem z_(h:DA W E true X O es fs):DO W E X O (.List es pos) (eLst fs):=qy (xW h.h) fun σ H Q⟨g,c,fp,q⟩=>⟨g,c,fp,q.bind (rel:=Reps X.K) fun ds b xs H1 c1 fp1 S1 F1 r1 h1=>by
 obtain⟨d,e,k⟩:=h1.opt;obtain⟨hl,rfl⟩:=ja e;rw[aH hl]at h1;exact⟨by rw[r1.l];exact X2.small hl,fun p hp=>h1.list r1 p hp⟩⟩
def wy:SS W->R W D:=eRet (.dic [])
theorem xJ(h:PE X e uz):DO W E X O e wy:=qy h fun σ H Q⟨g,c,fp,S,k⟩=>fun p hp=>
 k (.ref p) _ c fp (S.newO hp) (FR.newO hp _) ⟨p,[],rfl,(S.toSE.free hp).1,(S.toSE.free hp).2,S.toSE.freeE hp,qi,rfl,.nil,.nil⟩ fun _ a e=>by cases e;exact hp
end
def allE(f:D->D->Option Bool):List D->List D->Option Bool
 |[],[]=>some true
 |x::xs,y::ys=>match f x y,allE f xs ys with
  |some b,some r=>some (b && r)
  |_,_=>none
 |_,_=>none
def eqN:Nat->D->D->Option Bool
 |0,_,_=>none
 |n+1,d,e=>match d,e with
  |.lst xs,.lst ys=>if xs.length=ys.length then allE (eqN n) xs ys else some false
  |.tup xs,.tup ys=>if xs.length=ys.length then allE (eqN n) xs ys else none
  |.non,.non=>some true
  |.bl a,.bl b=>some (a == b)
  |.int a,.int b=>some (a == b)
  |.str a,.str b=>some (a == b)
  |.non,.int _=>some false
  |.non,.str _=>some false
  |.non,.bl _=>some false
  |.non,.tup _=>some false
  |.non,.lst _=>some false
  |.int _,.non=>some false
  |.int _,.str _=>some false
  |.int _,.tup _=>some false
  |.int _,.lst _=>some false
  |.str _,.non=>some false
  |.str _,.int _=>some false
  |.str _,.bl _=>some false
  |.str _,.tup _=>some false
  |.str _,.lst _=>some false
  |.bl _,.non=>some false
  |.bl _,.str _=>some false
  |.tup _,.non=>some false
  |.tup _,.int _=>some false
  |.tup _,.str _=>some false
  |.tup _,.lst _=>some false
  |.lst _,.non=>some false
  |.lst _,.int _=>some false
  |.lst _,.str _=>some false
  |.lst _,.tup _=>some false
  |_,_=>none
theorem vU{f:D->D->Option Bool}:∀{xs ys:List D}{b:Bool},allE f xs ys=some b->∃e:Nat->Bool,(∀(j:Nat) x y,xs[j]?=some x->ys[j]?=some y->f x y=some (e j))/\b=(List.range xs.length).all e
 |[],[],b,h=>by cases h;exact⟨fun _=>true,fun j x y h=>by simp at h,rfl⟩
 |[],_::_,_,h=>by cases h
 |_::_,[],_,h=>by cases h
 |x::xs,y::ys,b,h=>by
  unfold allE at h;cases e1:f x y with
  |none=>rw[e1]at h;cases h
  |some b1=>
   cases e2:allE f xs ys with
   |none=>rw[e1,e2]at h;cases h
   |some r=>
    rw[e1,e2]at h;cases h;obtain⟨e,k,hr⟩:=vU e2;refine⟨fun j=>match j with|0=>b1|j+1=>e j,fun j u v hu hv=>?_,?_⟩
    ·cases j with
     |zero=>cases hu;cases hv;exact e1
     |succ j=>exact k j u v (by simpa using hu) (by simpa using hv)
    ·rw[hr,ao,List.range_succ_eq_map,List.all_cons,List.all_map]
     rfl
section
variable{X:Cx}{pins:fM}{σ:L2.St}{H:Hp}{s:Shared}{A:Around}{c:Co}
theorem kP:∀{xs:List V}{us:fQ}{j:Nat}{u:Value},Vals xs us->us[j]?=some u->∃x,xs[j]?=some x/\RelV x u
 |_,_,_,_,.nil,h=>by simp at h
 |_,_,0,_,.cons r _,h=>by cases h;exact⟨_,rfl,r⟩
 |_,_,j+1,u,.cons _ t,h=>by
  obtain⟨x,h1,h2⟩:=kP (j:=j) (u:=u) t (by simpa using h);exact⟨x,by simpa using h1,h2⟩
open SeqAt
theorem V8(I:Inv X pins σ H s)(hs:Same c.h H){x:V}{d e:D}(r:Rep X.K c x d):Rep X.K c x e->∀n b,eqN n d e=some b->b=true:=by
 induction r generalizing e with
 |non=>intro q n b h;cases q;cases n <;> cases h;rfl
 |bl b=>intro q n b' h;cases q;cases n <;> cases h;simp
 |int i=>intro q n b h;cases q;cases n <;> cases h;simp
 |str x=>intro q n b h;cases q;cases n <;> cases h;simp
 |@tup a xs ds ex l r ih=>
  intro q n b h;cases q with
  |@tup _ xs' es ex' l' r'=>
   obtain rfl:=I.tuple_inj (tupT hs ex) (tupT hs ex');cases n with
   |zero=>cases h
   |succ n=>
    have h':(if ds.length=es.length then allE (eqN n) ds es else none)=some b:=h;rw[aH (l.symm.trans l')]at h';obtain⟨e,k,hb⟩:=vU h';rw[hb,bA];intro j hj;have hj':j<ds.length:=by simpa using hj
    have hx:j<xs.length:=by omega
    have he:j<es.length:=by omega
    exact ih j _ _ (aa hx) (aa hj') (r' j _ _ (aa hx) (aa he)) n _ (k j _ _ (aa hj') (aa he))
  |@lst _ xs' es ex' l' r'=>cases n with
   |zero=>cases h
   |succ n=>
    exfalso;obtain⟨_,_,⟨o,e1,e2,_⟩,_⟩:=I.tuple (tupT hs ex);obtain⟨_,_,⟨o',n',e1',e2',_⟩,_⟩:=I.list (lstT hs ex');rw[e1]at e1';cases e1';rw[e2]at e2';injection e2' with z;exact absurd z (by decide)
  |dic=>cases n <;> cases h
  |dit=>cases n <;> cases h
  |obj=>cases n <;> cases h
  |scr=>cases n <;> cases h
 |@lst a xs ds ex l r ih=>
  intro q n b h;cases q with
  |@lst _ xs' es ex' l' r'=>
   obtain rfl:=I.list_inj (lstT hs ex) (lstT hs ex');cases n with
   |zero=>cases h
   |succ n=>
    have h':(if ds.length=es.length then allE (eqN n) ds es else some false)=some b:=h;rw[aH (l.symm.trans l')]at h';obtain⟨e,k,hb⟩:=vU h';rw[hb,bA];intro j hj;have hj':j<ds.length:=by simpa using hj
    have hx:j<xs.length:=by omega
    have he:j<es.length:=by omega
    exact ih j _ _ (aa hx) (aa hj') (r' j _ _ (aa hx) (aa he)) n _ (k j _ _ (aa hj') (aa he))
  |@tup _ xs' es ex' l' r'=>cases n with
   |zero=>cases h
   |succ n=>
    exfalso;obtain⟨_,_,⟨o,e1,e2,_⟩,_⟩:=I.tuple (tupT hs ex');obtain⟨_,_,⟨o',n',e1',e2',_⟩,_⟩:=I.list (lstT hs ex);rw[e1]at e1';cases e1';rw[e2]at e2';injection e2' with z;exact absurd z (by decide)
  |dic=>cases n <;> cases h
  |dit=>cases n <;> cases h
  |obj=>cases n <;> cases h
  |scr=>cases n <;> cases h
 |dic=>intro q n b h;cases n <;> cases e <;> cases h
 |dit=>intro q n b h;cases n <;> cases e <;> cases h
 |obj=>intro q n b h;cases n <;> cases e <;> cases h
 |scr=>intro q n b h;cases n <;> cases e <;> cases h
theorem ym(I:Inv X pins σ H s)(hs:Same c.h H):∀(n:Nat)(A:Around)(x y:V)(u v:Value)(d e:D)(b:Bool),A.units+n<cLine->Rep X.K c x d->Rep X.K c y e->RelV x u->RelV y v->eqN n d e=some b->RcAt A s u v b/\EqAt A s u v b
 |0,_,_,_,_,_,_,_,_,_,_,_,_,_,h=>by cases h
 |n+1,A,x,y,u,v,d,e,b,hu,rx,ry,ru,rv,h=>by
  have hu0:A.units<cLine:=by omega
  have hl:∀{a:Addr}{xs:List V},c.h a=some (.lst xs)->∃its:fQ,Vals xs its/\s.heap.IsList a its.toArray:=fun h=>by
   obtain⟨its,r,p,_⟩:=I.list (lstT hs h);exact⟨its,r,p.isList⟩
  have ht:∀{a:Addr}{xs:List V},c.h a=some (.tup xs)->∃its:fQ,Vals xs its/\s.heap.IsTuple a its.toArray:=fun h=>by
   obtain⟨its,r,p,_⟩:=I.tuple (tupT hs h);exact⟨its,r,p⟩
  cases rx with
  |non=>
   cases ru;cases ry with
   |non=>cases rv;cases h;exact⟨.none_none,.same _⟩
   |bl q=>cases rv;cases h;exact⟨.none_bool q,.none_bool q⟩
   |int q=>obtain⟨t,rfl⟩:=rv;cases h;exact⟨.none_int q t,.none_int q t⟩
   |str q=>obtain⟨t,rfl⟩:=rv;cases h;exact⟨.none_str q t,.none_str q t⟩
   |tup e' l r=>cases rv;cases h;obtain⟨its,_,p⟩:=ht e';exact⟨.none_tuple p hu0,.none_tuple p hu0⟩
   |lst e' l r=>cases rv;cases h;obtain⟨its,_,p⟩:=hl e';exact⟨.none_list p hu0,.none_list p hu0⟩
   |dic=>cases h
   |dit=>cases h
   |obj=>cases h
   |scr=>cases h
  |bl a=>
   cases ru;cases ry with
   |non=>cases rv;cases h;exact⟨.bool_none a,.bool_none a⟩
   |bl q=>cases rv;cases h;exact⟨.bool_bool a q,.bool_bool a q⟩
   |int q=>cases h
   |str q=>obtain⟨t,rfl⟩:=rv;cases h;exact⟨.bool_str a q t,.bool_str a q t⟩
   |tup e' l r=>cases h
   |lst e' l r=>cases h
   |dic=>cases h
   |dit=>cases h
   |obj=>cases h
   |scr=>cases h
  |int a=>
   obtain⟨t',rfl⟩:=ru;cases ry with
   |non=>cases rv;cases h;exact⟨.int_none a t',.int_none a t'⟩
   |bl q=>cases h
   |int q=>obtain⟨t,rfl⟩:=rv;cases h;exact⟨.int_int a t' q t,.int_int a t' q t⟩
   |str q=>obtain⟨t,rfl⟩:=rv;cases h;exact⟨.int_str a t' q t,.int_str a t' q t⟩
   |tup e' l r=>cases rv;cases h;obtain⟨its,_,p⟩:=ht e';exact⟨.int_tuple a t' p hu0,.int_tuple a t' p hu0⟩
   |lst e' l r=>cases rv;cases h;obtain⟨its,_,p⟩:=hl e';exact⟨.int_list a t' p hu0,.int_list a t' p hu0⟩
   |dic=>cases h
   |dit=>cases h
   |obj=>cases h
   |scr=>cases h
  |str a=>
   obtain⟨t',rfl⟩:=ru;cases ry with
   |non=>cases rv;cases h;exact⟨.str_none a t',.str_none a t'⟩
   |bl q=>cases rv;cases h;exact⟨.str_bool a t' q,.str_bool a t' q⟩
   |int q=>obtain⟨t,rfl⟩:=rv;cases h;exact⟨.str_int a t' q t,.str_int a t' q t⟩
   |str q=>obtain⟨t,rfl⟩:=rv;cases h;exact⟨.str_str a t' q t,.str_str a t' q t⟩
   |tup e' l r=>cases rv;cases h;obtain⟨its,_,p⟩:=ht e';exact⟨.str_tuple a t' p hu0,.str_tuple a t' p hu0⟩
   |lst e' l r=>cases rv;cases h;obtain⟨its,_,p⟩:=hl e';exact⟨.str_list a t' p hu0,.str_list a t' p hu0⟩
   |dic=>cases h
   |dit=>cases h
   |obj=>cases h
   |scr=>cases h
  |@tup a xs ds ex l r=>
   cases ru;obtain⟨its,vr,p⟩:=ht ex;cases ry with
   |non=>cases rv;cases h;exact⟨.tuple_none p hu0,.tuple_none p hu0⟩
   |bl q=>cases h
   |int q=>obtain⟨t,rfl⟩:=rv;cases h;exact⟨.tuple_int q t p hu0,.tuple_int q t p hu0⟩
   |str q=>obtain⟨t,rfl⟩:=rv;cases h;exact⟨.tuple_str q t p hu0,.tuple_str q t p hu0⟩
   |lst e' l r=>cases rv;cases h;obtain⟨its',_,p'⟩:=hl e';exact⟨.tuple_list p p' hu0,.tuple_list p p' hu0⟩
   |@tup a' xs' ds' ex' l' r'=>
    cases rv;obtain⟨its',vr',p'⟩:=ht ex';have h':(if ds.length=ds'.length then allE (eqN n) ds ds' else none)=some b:=h
    split at h'
    ·rename_i hlen
     obtain⟨e,k,hb⟩:=vU h';have s1:its.toArray.size=ds.length:=by rw[av,<- vr.length,l]
     have s2:its'.toArray.size=ds'.length:=by rw[av,<- vr'.length,l']
     have q:=RcAt.tuples (e:=e) p p' hu0 fun j h1 h2=>by
      obtain⟨x1,g1,w1⟩:=kP vr (j:=j) (u:=its[j]) (aa (by simpa using h1));obtain⟨x2,g2,w2⟩:=kP vr' (j:=j) (u:=its'[j]) (aa (by simpa using h2));have d1:j<ds.length:=by omega
      have d2:j<ds'.length:=by omega
      have:=(ym I hs n A.in1 x1 x2 _ _ ds[j] ds'[j] (e j) (by show A.units+1+n<_;omega) (r j _ _ g1 (aa d1)) (r' j _ _ g2 (aa d2)) w1 w2 (k j _ _ (aa d1) (aa d2))).2;simpa using this
     have hm:min its.toArray.size its'.toArray.size=ds.length:=by rw[s1,s2,hlen,Nat.min_self]
     rw[hm,s1,s2,hlen,c8,Bool.and_true]at q;rw[hlen]at hb;rw[<- hb]at q;refine⟨q,?_⟩
     by_cases haa:a=a'
     ·subst haa
      have:=V8 I hs (.tup ex l r) (.tup ex' l' r') (n+1) b h;subst this;exact .same _
     ·exact .of_refs haa q
    ·cases h'
   |dic=>cases h
   |dit=>cases h
   |obj=>cases h
   |scr=>cases h
  |@lst a xs ds ex l r=>
   cases ru;obtain⟨its,vr,p⟩:=hl ex;cases ry with
   |non=>cases rv;cases h;exact⟨.list_none p hu0,.list_none p hu0⟩
   |bl q=>cases h
   |int q=>obtain⟨t,rfl⟩:=rv;cases h;exact⟨.list_int q t p hu0,.list_int q t p hu0⟩
   |str q=>obtain⟨t,rfl⟩:=rv;cases h;exact⟨.list_str q t p hu0,.list_str q t p hu0⟩
   |tup e' l r=>cases rv;cases h;obtain⟨its',_,p'⟩:=ht e';exact⟨.list_tuple p p' hu0,.list_tuple p p' hu0⟩
   |@lst a' xs' ds' ex' l' r'=>
    cases rv;obtain⟨its',vr',p'⟩:=hl ex';have s1:its.toArray.size=ds.length:=by rw[av,<- vr.length,l]
    have s2:its'.toArray.size=ds'.length:=by rw[av,<- vr'.length,l']
    have h':(if ds.length=ds'.length then allE (eqN n) ds ds' else some false)=some b:=h
    split at h'
    ·rename_i hlen
     obtain⟨e,k,hb⟩:=vU h';have q:=RcAt.lists (e:=e) p p' (by rw[s1,s2,hlen]) hu0 fun j h1 h2=>by
      obtain⟨x1,g1,w1⟩:=kP vr (j:=j) (u:=its[j]) (aa (by simpa using h1));obtain⟨x2,g2,w2⟩:=kP vr' (j:=j) (u:=its'[j]) (aa (by simpa using h2));have d1:j<ds.length:=by omega
      have d2:j<ds'.length:=by omega
      have:=(ym I hs n A.in1 x1 x2 _ _ ds[j] ds'[j] (e j) (by show A.units+1+n<_;omega) (r j _ _ g1 (aa d1)) (r' j _ _ g2 (aa d2)) w1 w2 (k j _ _ (aa d1) (aa d2))).2;simpa using this
     rw[s1,<- hb]at q;refine⟨q,?_⟩
     by_cases haa:a=a'
     ·subst haa
      have:=V8 I hs (.lst ex l r) (.lst ex' l' r') (n+1) b h;subst this;exact .same _
     ·exact .of_refs haa q
    ·rename_i hlen
     cases h';have q:=RcAt.lists_lengths p p' (by rw[s1,s2];simpa using hlen) hu0;refine⟨q,?_⟩
     by_cases haa:a=a'
     ·subst haa
      obtain rfl:=I.list_inj (lstT hs ex) (lstT hs ex');exact absurd (l.symm.trans l') hlen
     ·exact .of_refs haa q
   |dic=>cases h
   |dit=>cases h
   |obj=>cases h
   |scr=>cases h
  |dic=>cases e <;> cases h
  |dit=>cases e <;> cases h
  |obj=>cases e <;> cases h
  |scr=>cases e <;> cases h
end
section
open PySem.SeqAt
open PySem.AutoSeq1 (wpAny_loadPart')
open PySem.MeetsSeq PySem.MeetsSeq2 PySem.MeetsSeq3 SeqRoads2
end
section
variable{X:Cx}{pins:fM}{σ:L2.St}{H:Hp}{s:Shared}{c:Co}
open SeqAt
end
inductive Ou(W:Wo) where
 |nx (g:SS W)
 |rt (d:D) (b:W.BS)
 |bk (g:SS W)
 |ct (g:SS W)
 |ex (x:Xn) (g:SS W)
 |bad
section
variable{W:Wo}{K:fL}{X:Cx}{E:En}{O O' O1 O2 OL:List Nat}{g:SS W}{b:W.BS}{σ:L2.St}{H H':Hp}{c c':Co}{fp fp':fP}
theorem SR.congr(S:SR W K E O g σ H c fp)(h:∀i,i∈O↔i∈O'):SR W K E O' g σ H c fp:=
 ⟨S.toSE,fun i d hi e=>S.frz i d (fun z=>hi ((h i).mp z)) e,fun i d hi e=>S.own i d ((h i).mpr hi) e,fun i j d e a hi hj=>S.dis i j d e a ((h i).mpr hi) ((h j).mpr hj),S.len⟩
theorem SR.freeze1(S:SR W K E O g σ H c fp)(i:Nat):∃c',Co.Le c c'/\SR W K E (O.filter (·≠i)) g σ H c' fp:=by
 have mem:∀j,j∈O.filter (·≠i)↔j∈O/\j≠i:=fun j=>by simp[cV]
 by_cases hi:i∈O
 ·by_cases hd:∃d,g.v[i]?=some (some d)/\k8 d=true
  ·obtain⟨d,hg,hm⟩:=hd
   obtain⟨x,hx,ow⟩:=S.own i d hi hg;obtain⟨a,u,rfl,ha,hu,hc,hf,he,r⟩:=Zq ow hm;have le:=Co.add_le (u:=u) hc;refine⟨c.add a u,le,S.toSE.give ha hu hc hf he,fun j e hj hq=>?_,fun j e hj hq=>?_,fun j k d e b hj hk=>S.dis j k d e b ((mem j).mp hj).1 ((mem k).mp hk).1,S.len⟩
   ·by_cases hji:j=i
    ·subst hji
     rw[hg]at hq;cases hq;exact⟨_,hx,r _ le qi⟩
    ·obtain⟨y,h1,h2⟩:=S.frz j e (fun z=>hj ((mem j).mpr ⟨z,hji⟩)) hq
     exact⟨y,h1,h2.mono le⟩
   ·obtain⟨hjO,hji⟩:=(mem j).mp hj
    obtain⟨y,h1,h2⟩:=S.own j e hjO hq;refine⟨y,h1,?_⟩;cases hme:k8 e with
    |false=>
     have:=(Qo h2 hme).mono le;cases e <;> first|exact this|cases hme
    |true=>
     have ne:∀z,y=.ref z->z≠a:=fun z ez q=>by subst q;subst ez;exact S.dis j i e d z hjO hi hji hq hg hme hm h1 hx
     have out:∀z,y=.ref z->c.h z=none->(c.add a u).h z=none:=fun z ez q=>by
      show upd c.h a u z=none;rw[qf (ne z ez)];exact q
     cases e with
     |lst ds=>obtain⟨z,xs,e1,e2,e3,e4,e5,e6⟩:=h2;exact⟨z,xs,e1,out z e1 e2,e3,e4,e5,e6.mono le⟩
     |dic ds=>obtain⟨z,xs,e1,e2,e3,e4,e5,e6,e7,e8⟩:=h2;exact⟨z,xs,e1,out z e1 e2,e3,e4,e5,e6,e7,e8.mono le⟩
     |dit ds=>obtain⟨z,xs,e1,e2,e3,e4,e5,e6,e7,e8⟩:=h2;exact⟨z,xs,e1,out z e1 e2,e3,e4,e5,e6,e7,e8.mono le⟩
     |non=>cases hme
     |bl _=>cases hme
     |int _=>cases hme
     |str _=>cases hme
     |tup _=>cases hme
     |obj _=>cases hme
     |scr _=>cases hme
  ·refine⟨c,.refl _,S.toSE,fun j e hj hq=>?_,fun j e hj hq=>S.own j e ((mem j).mp hj).1 hq,fun j k d e b hj hk=>S.dis j k d e b ((mem j).mp hj).1 ((mem k).mp hk).1,S.len⟩
   by_cases hji:j=i
   ·subst hji
    obtain⟨y,h1,h2⟩:=S.own j e hi hq;cases hme:k8 e with
    |false=>exact⟨y,h1,Qo h2 hme⟩
    |true=>exact absurd ⟨e,hq,hme⟩ hd
   ·exact S.frz j e (fun z=>hj ((mem j).mpr ⟨z,hji⟩)) hq
 ·exact⟨c,.refl _,S.congr fun j=>by rw[mem];exact⟨fun h=>⟨h,fun z=>hi (z▸h)⟩,fun h=>h.1⟩⟩
theorem SR.freeze(S:SR W K E O g σ H c fp)(hs:∀i∈O',i∈O):∃c',Co.Le c c'/\SR W K E O' g σ H c' fp:=by
 have go:∀(l P:List Nat)(c:Co),SR W K E P g σ H c fp->(∀i∈O',i∈P)->(∀i∈P,i∈l\/i∈O')->∃c',Co.Le c c'/\SR W K E O' g σ H c' fp:=by
  intro l
  induction l with
  |nil=>intro P c S h1 h2;exact⟨c,.refl _,S.congr fun i=>⟨fun h=>(h2 i h).elim (fun z=>nomatch z) id,h1 i⟩⟩
  |cons j l ih=>
   intro P c S h1 h2
   by_cases hj:j∈O'
   ·exact ih P c S h1 fun i hi=>(h2 i hi).elim (fun z=>by rcases ah.mp z with rfl|z;exact .inr hj;exact .inl z) .inr
   ·obtain⟨c1,l1,S1⟩:=S.freeze1 j
    obtain⟨c2,l2,S2⟩:=ih _ c1 S1 (fun i hi=>by simp only[cV,ne_eq,decide_not,Bool.not_eq_eq_eq_not,eA,decide_eq_false_iff_not];exact⟨h1 i hi,fun z=>hj (z▸hi)⟩)
     (fun i hi=>by
      simp only[cV,ne_eq,decide_not,Bool.not_eq_eq_eq_not,eA,decide_eq_false_iff_not]at hi;rcases h2 i hi.1 with z|z
      ·rcases ah.mp z with z|z
       ·exact absurd z hi.2
       ·exact .inl z
      ·exact .inr z)
    exact⟨c2,l1.trans l2,S2⟩
 exact go O O c S hs fun i hi=>.inl hi
def tSq(X:Cx)(E:En)(fr:Bool)(OL O':List Nat)(D:Ends)(c:Co)(o:Ou W):Prop:=match o with
 |.nx g'=>∀σ' H' c' fp',SR W X.K E O' g' σ' H' c' fp'->Co.Le c c'->D.nx σ' H'
 |.rt d b=>∀v H' c' fp',SE W E b H' c' fp'->(if fr=true then OwnV X.K E H' c' fp' v d else Rep X.K c' v d)->D.rt v H'
 |.bk g'=>∀σ' H' c' fp',SR W X.K E OL g' σ' H' c' fp'->Co.Le c c'->D.bk σ' H'
 |.ct g'=>∀σ' H' c' fp',SR W X.K E OL g' σ' H' c' fp'->Co.Le c c'->D.ct σ' H'
 |.ex x g'=>∀ev σ' s' H' c' fp',Inv X [] σ' H' s'->SR W X.K E [] g' σ' H' c' fp'->Co.Le c c'->W.EX X x ev s' H' c'->X.xe ev s'
 |.bad=>False
theorem tSq.mono{D:Ends}{o:Ou W}(l:Co.Le c c')(q:tSq X E fr OL O' D c o):tSq X E fr OL O' D c' o:=by
 cases o with
 |nx g'=>exact fun σ' H' c2 fp' S' l'=>q σ' H' c2 fp' S' (l.trans l')
 |rt d b=>exact q
 |bk g'=>exact fun σ' H' c2 fp' S' l'=>q σ' H' c2 fp' S' (l.trans l')
 |ct g'=>exact fun σ' H' c2 fp' S' l'=>q σ' H' c2 fp' S' (l.trans l')
 |ex x g'=>exact fun ev σ' s' H' c2 fp' I S' l' x'=>q ev σ' s' H' c2 fp' I S' (l.trans l') x'
 |bad=>exact q
def tSx(X:Cx)(E:En)(fr:Bool)(OL O:List Nat)(f:SS W->Ou W)(O':List Nat)(g:SS W)(c:Co)(fp:fP):TS:=fun D σ H=>SR W X.K E O g σ H c fp/\tSq X E fr OL O' D c (f g)
def tS(X:Cx)(E:En)(fr:Bool)(OL O:List Nat)(f:SS W->Ou W)(O':List Nat):TS:=fun D σ H=>∃g c fp,tSx X E fr OL O f O' g c fp D σ H
def DSx(X:Cx)(W:Wo)(E:En)(fr:Bool)(OL:List Nat)(O:List Nat)(st:Stmt)(f:SS W->Ou W)(O':List Nat):Prop:=Wr (PS X st (tS X E fr OL O f O'))
abbrev DS(W:Wo)(E:En)(fr:Bool)(OL:List Nat)(X:Cx)(O:List Nat)(st:Stmt)(f:SS W->Ou W)(O':List Nat):Prop:=DSx X W E fr OL O st f O'
def DSsx(X:Cx)(W:Wo)(E:En)(fr:Bool)(OL:List Nat)(O:List Nat)(sts:List Stmt)(f:SS W->Ou W)(O':List Nat):Prop:=Wr (PSs X sts (tS X E fr OL O f O'))
abbrev DSs(W:Wo)(E:En)(fr:Bool)(OL:List Nat)(X:Cx)(O:List Nat)(sts:List Stmt)(f:SS W->Ou W)(O':List Nat):Prop:=DSsx X W E fr OL O sts f O'
theorem zT{t t':TS}(h:PS X st t)(w:∀D σ H,t' D σ H->t D σ H):Wr (PS X st t'):=⟨fun pins s σ H D I q=>h pins s σ H D I (w D σ H q)⟩
theorem Kh{st:List Stmt}{t t':TS}(h:PSs X st t)(w:∀D σ H,t' D σ H->t D σ H):Wr (PSs X st t'):=⟨fun pins s σ H D I q=>h pins s σ H D I (w D σ H q)⟩
variable{fr:Bool}{st:Stmt}{sts rest:List Stmt}{f h:SS W->Ou W}
theorem tS.weak(hs:∀i∈O1,i∈O)(hp:∀i∈O2,i∈O'){D:Ends}(q:tS X E fr OL O f O2 D σ H):tS X E fr OL O1 f O' D σ H:=by
 obtain⟨g,c,fp,S,q⟩:=q;obtain⟨c',le,S'⟩:=S.freeze hs;refine⟨g,c',fp,S',?_⟩;cases e:f g with
 |nx g'=>
  rw[e]at q;intro σ2 H2 c2 fp2 S2 l2;obtain⟨c3,l3,S3⟩:=S2.freeze hp;exact q _ _ _ _ S3 ((le.trans l2).trans l3)
 |rt d b=>rw[e]at q;exact q
 |bk g'=>rw[e]at q;exact q.mono le
 |ct g'=>rw[e]at q;exact q.mono le
 |ex x g'=>rw[e]at q;exact q.mono le
 |bad=>rw[e]at q;exact q
theorem DS.weak(hh:DS W E fr OL X O1 st f O')(hs:∀i∈O1,i∈O:=by decide)(hp:∀i∈O2,i∈O':=by decide):DS W E fr OL X O st f O2:=zT hh.h fun D σ H q=>q.weak hs hp
def sNil:SS W->Ou W:=fun g=>.nx g
def sSeq(f h:SS W->Ou W):SS W->Ou W:=fun g=>match f g with
 |.nx g'=>h g'
 |.rt d b=>.rt d b
 |.bk g'=>.bk g'
 |.ct g'=>.ct g'
 |.ex x g'=>.ex x g'
 |.bad=>.bad
theorem qC:DSs W E fr OL X O [] sNil O:=Kh qam fun D σ H⟨g,c,fp,S,q⟩=>q σ H c fp S (.refl _)
theorem qh(h1:DS W E fr OL X O st f O'):DSs W E fr OL X O [st] f O':=⟨Qk h1.h⟩
theorem qc(h1:DS W E fr OL X O st f O1)(h2:DSs W E fr OL X O1 rest h O'):DSs W E fr OL X O (st::rest) (sSeq f h) O':=Kh (jZ h1.h h2.h) fun D σ H⟨g,c,fp,S,q⟩=>by
 refine⟨g,c,fp,S,?_⟩;unfold sSeq at q;cases e:f g with
 |nx g'=>rw[e]at q;exact fun σ' H' c' fp' S' l'=>⟨g',c',fp',S',q.mono l'⟩
 |rt d b=>rw[e]at q;exact q
 |bk g'=>rw[e]at q;exact q
 |ct g'=>rw[e]at q;exact q
 |ex x g'=>rw[e]at q;exact q
 |bad=>rw[e]at q;exact q
def zc{α:Type}(f:SS W->R W α)(k:α->SS W->Ou W):SS W->Ou W:=fun g=>match f g with
 |.ok a b=>k a ⟨g.v,b⟩
 |.exc x b=>.ex x ⟨g.v,b⟩
 |.bad=>.bad
theorem tSx.bind{rel:Co->ν->α->Prop}{fa:SS W->R W α}{k:α->SS W->Ou W}{D:Ends}{Q:ν->Hp->Prop}(q:tSx X E fr OL O (zc fa k) O' g c fp D σ H)
  (cont:∀d b v H1 c1 fp1,FR H c fp H1 c1 fp1->rel (cm m H1 c1 fp1) v d->tSx X E fr OL O (k d) O' ⟨g.v,b⟩ c1 fp1 D σ H1->Q v H1):tG X E rel m O fa g c fp σ H Q:=by
 obtain⟨S,q⟩:=q;refine⟨S,?_⟩;unfold zc at q;cases e:fa g with
 |bad=>rw[e]at q;exact q
 |exc x b=>
  rw[e]at q;intro ev s' H' c' fp' I S' F' x';obtain⟨c2,l2,S2⟩:=S'.freeze (O':=[]) (fun i h=>nomatch h);exact q ev σ s' H' c2 fp' I S2 (F'.le.trans l2) (W.exS _ _ _ _ _ _ _ x' l2)
 |ok d b=>
  rw[e]at q;exact fun v H1 c1 fp1 S1 F1 r1=>cont d b v H1 c1 fp1 F1 r1 ⟨S1,q.mono F1.le⟩
theorem tSx.bindO{fa:SS W->R W D}{k:D->SS W->Ou W}{D:Ends}(q:tSx X E fr OL O (zc fa k) O' g c fp D σ H)
  (cont:∀d b v H1 c1 fp1,FR H c fp H1 c1 fp1->OwnV X.K E H1 c1 fp1 v d->NewV H v d->tSx X E fr OL O (k d) O' ⟨g.v,b⟩ c1 fp1 D σ H1->Q v H1):tO X E O fa g c fp σ H Q:=by
 obtain⟨S,q⟩:=q;refine⟨S,?_⟩;unfold zc at q;cases e:fa g with
 |bad=>rw[e]at q;exact q
 |exc x b=>
  rw[e]at q;intro ev s' H' c' fp' I S' F' x';obtain⟨c2,l2,S2⟩:=S'.freeze (O':=[]) (fun i h=>nomatch h);exact q ev σ s' H' c2 fp' I S2 (F'.le.trans l2) (W.exS _ _ _ _ _ _ _ x' l2)
 |ok d b=>
  rw[e]at q;exact fun v H1 c1 fp1 S1 F1 r1 nw=>cont d b v H1 c1 fp1 F1 r1 nw ⟨S1,q.mono F1.le⟩
def put(g:SS W)(i:Nat)(d:D):SS W:=⟨g.v.set i (some d),g.b⟩
theorem SR.set(S:SR W K E O g σ H c fp){i:Nat}{d:D}{x:V}(r:Rep K c x d):SR W K E (O.filter (·≠i)) (put g i d) (σ.set i (some x)) H c fp:=by
 have mem:∀j,j∈O.filter (·≠i)↔j∈O/\j≠i:=fun j=>by simp[cV]
 have other:∀{j:Nat}{e:D},j≠i->(g.v.set i (some d))[j]?=some (some e)->g.v[j]?=some (some e):=fun hj h=>by rw[ay (bc hj)]at h;exact h
 refine⟨S.toSE,fun j e hj hq=>?_,fun j e hj hq=>?_,fun j k d1 e a hj hk hjk h1 h2 m1 m2 h3 h4=>?_,by show(g.v.set i (some d)).length=_;rw[aS,aS];exact S.len⟩
 ·by_cases hji:j=i
  ·subst hji
   have hq:(g.v.set j (some d))[j]?=some (some e):=hq;have hl:j<g.v.length:=by
    have:=(ai.mp hq).1;rw[aS]at this;exact this
   rw[aA hl]at hq;cases hq;exact⟨x,aA (by rw[<- S.len];exact hl),r⟩
  ·obtain⟨y,h1,h2⟩:=S.frz j e (fun z=>hj ((mem j).mpr ⟨z,hji⟩)) (other hji hq)
   exact⟨y,by rw[ay (bc hji)];exact h1,h2⟩
 ·obtain⟨hjO,hji⟩:=(mem j).mp hj
  obtain⟨y,h1,h2⟩:=S.own j e hjO (other hji hq);exact⟨y,by rw[ay (bc hji)];exact h1,h2⟩
 ·obtain⟨hjO,hji⟩:=(mem j).mp hj
  obtain⟨hkO,hki⟩:=(mem k).mp hk;rw[ay (bc hji)]at h3;rw[ay (bc hki)]at h4;exact S.dis j k d1 e a hjO hkO hjk (other hji h1) (other hki h2) m1 m2 h3 h4
theorem Xq{x:V}{d:D}(h:OwnV K E H c fp x d)(hm:k8 d=true)(e:x=.ref a):H a≠none:=by
 obtain⟨a',u,e',ha,_⟩:=Zq h hm;cases e.symm.trans e';rw[ha];simp
theorem SR.setO(S:SR W K E O g σ H c fp){i:Nat}{d:D}{x:V}(o:OwnV K E H c fp x d)(nw:∀j e y,j∈O->g.v[j]?=some (some e)->k8 e=true->σ[j]?=some (some y)->k8 d=true->y≠x):SR W K E (i::O) (put g i d) (σ.set i (some x)) H c fp:=by
 have other:∀{j:Nat}{e:D},j≠i->(g.v.set i (some d))[j]?=some (some e)->g.v[j]?=some (some e):=fun hj h=>by rw[ay (bc hj)]at h;exact h
 have self:∀{e:D},(g.v.set i (some d))[i]?=some (some e)->e=d/\i<σ.length:=fun hq=>by
  have hl:i<g.v.length:=by
   have:=(ai.mp hq).1;rw[aS]at this;exact this
  rw[aA hl]at hq;cases hq;exact⟨rfl,by rw[<- S.len];exact hl⟩
 refine⟨S.toSE,fun j e hj hq=>?_,fun j e hj hq=>?_,fun j k d1 e a hj hk hjk h1 h2 m1 m2 h3 h4=>?_,by show(g.v.set i (some d)).length=_;rw[aS,aS];exact S.len⟩
 ·have hji:j≠i:=fun z=>hj (by rw[z];exact aN ..)
  obtain⟨y,h1,h2⟩:=S.frz j e (fun z=>hj (aD _ z)) (other hji hq);exact⟨y,by rw[ay (bc hji)];exact h1,h2⟩
 ·by_cases hji:j=i
  ·subst hji
   obtain⟨rfl,hl⟩:=self hq;exact⟨x,aA hl,o⟩
  ·obtain⟨y,h1,h2⟩:=S.own j e ((ah.mp hj).resolve_left hji) (other hji hq)
   exact⟨y,by rw[ay (bc hji)];exact h1,h2⟩
 ·by_cases hji:j=i
  ·subst hji
   have hki:k≠j:=bc hjk;obtain⟨rfl,hl⟩:=self h1;rw[aA hl]at h3;rw[ay (bc hki)]at h4;cases h3;exact nw k e _ ((ah.mp hk).resolve_left hki) (other hki h2) m2 h4 m1 rfl
  ·rw[ay (bc hji)]at h3
   by_cases hki:k=i
   ·subst hki
    obtain⟨rfl,hl⟩:=self h2;rw[aA hl]at h4;cases h4;exact nw j d1 _ ((ah.mp hj).resolve_left hji) (other hji h1) m1 h3 m2 rfl
   ·rw[ay (bc hki)]at h4
    exact S.dis j k d1 e a ((ah.mp hj).resolve_left hji) ((ah.mp hk).resolve_left hki) hjk (other hji h1) (other hki h2) m1 m2 h3 h4
def sSet(i:Nat)(f:SS W->R W D):SS W->Ou W:=zc f fun d g=>.nx (put g i d)
variable{e:Expr}{fe:SS W->R W D}{pos pos':Pos}{i:Nat}{x:Str}
theorem qT(hN:X.N.Nodup)(hi:X.N[i]?=some x)(hx:Loc X.env.scope x)(he:DE W E true X O e fe)(hs:swapsWith e (some (.Name x pos')) pos.line X.env=pure false:=by rfl)(hf:X.fn x=true\/X.env.scope.names.lookup x=some .local:=by first|exact .inl rfl|exact .inr rfl|assumption) :
  DS W E fr OL X O (.Assign [.Name x pos'] e pos) (sSet i fe) (O.filter (·≠i)):=zT (vB hN hi hx he.h hs hf) fun D σ H⟨g,c,fp,q⟩=>⟨g,c,fp,q.bind fun d b v H1 c1 fp1 F1 r1 q1=>q1.2 _ _ c1 fp1 (q1.1.set r1) (.refl _)⟩
theorem Wf(hN:X.N.Nodup)(hi:X.N[i]?=some x)(hx:Loc X.env.scope x)(he:DO W E X O e fe)(hs:swapsWith e (some (.Name x pos')) pos.line X.env=pure false:=by rfl)(hf:X.fn x=true\/X.env.scope.names.lookup x=some .local:=by first|exact .inl rfl|exact .inr rfl|assumption) :
  DS W E fr OL X O (.Assign [.Name x pos'] e pos) (sSet i fe) (i::O):=zT (vB hN hi hx he.h hs hf) fun D σ H⟨g,c,fp,q⟩=>⟨g,c,fp,q.bindO fun d b v H1 c1 fp1 F1 o1 nw q1=>q1.2 _ _ c1 fp1 (q1.1.setO o1 fun j e y hj hg hm hy hd=>by
   rintro rfl;obtain⟨z,hz,ow⟩:=q.1.own j e hj hg;cases hy.symm.trans hz;obtain⟨a,u,rfl,_⟩:=Zq o1 hd;exact Xq ow hm rfl (nw hd a rfl)) (.refl _)⟩
def sRet(f:SS W->R W D):SS W->Ou W:=zc f fun d g=>.rt d g.b
theorem qY(he:DE W E true X O e fe):DS W E false OL X O (.Return (some e) pos) (sRet fe) O':=zT (uF he.h) fun D σ H⟨g,c,fp,q⟩=>⟨g,c,fp,q.bind fun d b v H1 c1 fp1 F1 r1 q1=>q1.2 v _ c1 fp1 q1.1.toSE r1⟩
def sIf(t:SS W->R W Bool)(f h:SS W->Ou W):SS W->Ou W:=zc t fun b g=>if b=true then f g else h g
theorem zd{t:SS W->R W Bool}{e:Expr}{as bs:List Stmt}(ht:DT W E X O e t)(ha:DSs W E fr OL X O as f O')(hb:DSs W E fr OL X O bs h O'):DS W E fr OL X O (.If e as bs pos) (sIf t f h) O':=zT (qf1 ht.h ha.h hb.h) fun D σ H⟨g,c,fp,q⟩=>⟨g,c,fp,q.bind fun d b v H1 c1 fp1 F1 r1 q1=>by
 have r1:v=d:=r1;subst r1;cases v with
 |true=>exact⟨_,c1,fp1,q1⟩
 |false=>exact⟨_,c1,fp1,q1⟩⟩
def zC(f:SS W->R W D):SS W->Ou W:=zc f fun _ g=>.nx g
theorem zG(he:DE W E m X O e fe)(hs:swapsWith e none pos.line X.env=pure false:=by rfl):DS W E fr OL X O (.Expr e pos) (zC fe) O:=zT (Jm he.h hs) fun D σ H⟨g,c,fp,q⟩=>⟨g,c,fp,q.bind fun d b v H1 c1 fp1 F1 r1 q1=>q1.2 _ _ c1 fp1 q1.1 (.refl _)⟩
end
section
variable{W:Wo}{K:fL}{X:Cx}{E:En}{O O' O1 O2 OL:List Nat}{g:SS W}{b:W.BS}{σ:L2.St}{H H':Hp}{c c':Co}{fp fp':fP}{fr:Bool}{m m1 m2:Bool}{pos:Pos}{e a:Expr}{es:fU}
variable{fa fb fe:SS W->R W D}{ta tb:SS W->R W Bool}
def asB:D->Option Bool
 |.bl b=>some b
 |_=>none
def qCmp(op:D->D->Option D)(fa fb:SS W->R W D):SS W->R W Bool:=ql (e2 op fa fb) fun d=>eOpt (asB d)
theorem bind_assoc{γ:Type}(f:SS W->R W α)(k:α->SS W->R W β)(h:β->SS W->R W γ):ql (ql f k) h=ql f fun a=>ql (k a) h:=by
 funext g
 unfold ql;cases f g <;> rfl
theorem jq{o:CmpOp}{r:R2}{op:D->D->Option D}{a b:Expr}(ho:OpR X (compareOp o) r)(hr:Op2 X r op)(ha:DE W E m1 X O a fa)(hb:DE W E m2 X O b fb)(hm:behindInMarks o b=false):DT W E X O (.Compare a [o] [b] pos) (qCmp op fa fb):=
 xC (Xf ho ha.h hb.h hm) fun σ H Q⟨g,c,fp,q⟩=>⟨g,c,fp,by
  unfold qCmp e2 at q;simp only[bind_assoc]at q;refine q.bind fun d b v H1 c1 fp1 S1 F1 r1 h1=>⟨_,c1,fp1,h1.bind fun d' b' v' H2 c2 fp2 S2 F2 r2 h2=>?_⟩
  obtain⟨S,h2⟩:=h2;unfold ql at h2;cases ez:op d d' with
  |none=>rw[ez]at h2;exact h2.elim
  |some z=>
   rw[ez]at h2;refine hr H2 ⟨Hn H2 fp2,c2.ob⟩ v v' d d' z _ Hn.same ((r1.mono F2.cm).mono S2.toSE.bor) (r2.mono S2.toSE.bor) ez fun u hu=>?_
   cases z with
   |bl k=>cases hu;exact⟨k,rfl,h2 k H2 c2 fp2 S2 .refl rfl⟩
   |_=>exact h2.elim⟩
def truD:D->Option Bool
 |.non=>some false
 |.bl b=>some b
 |.int i=>some (i != 0)
 |.str y=>if y.length<=1000000 then some (!(y.cps.toList.isEmpty))else none
 |.lst ds=>some (!ds.isEmpty)
 |.tup ds=>some (!ds.isEmpty)
 |.dic ds=>some (!ds.isEmpty)
 |_=>none
theorem QI{xs:List α}{ys:List β}(h:xs.length=ys.length):xs.isEmpty=ys.isEmpty:=by
 cases xs <;> cases ys <;> simp at h ⊢
theorem u3{x:V}{d:D}{k:Bool}(hs:Same c.h H)(r:Rep K c x d)(h:truD d=some k):TruV K x H k:=by
 cases r with
 |non=>cases h;rfl
 |bl b=>cases h;rfl
 |int i=>cases h;rfl
 |str y=>
  obtain⟨h1,h2⟩:=ja (show(if y.length<=1000000 then some (!(y.cps.toList.isEmpty))else none)=some k from h);refine⟨aW h1 (by decide),?_⟩;rw[<- h2];have e:y.length=y.cps.toList.length:=(bK).symm;rw[e];cases y.cps.toList with
  |nil=>rfl
  |cons a l=>simp;omega
 |tup e l r=>cases h;exact .inr (.inl ⟨_,tupT hs e,by rw[QI l]⟩)
 |lst e l r=>cases h;exact .inl ⟨_,lstT hs e,by rw[QI l]⟩
 |dic e l nd r=>
  have hl:=bU List.length l;rw[ak,ak]at hl;cases h;exact .inr (.inr ⟨_,hs _ _ e,by rw[QI hl]⟩)
 |dit e l nd r=>cases h
 |obj e=>cases h
 |scr e=>cases h
def qTru(f:SS W->R W D):SS W->R W Bool:=ql f fun d=>eOpt (truD d)
theorem vH(h:DE W E m X O e fe)(he:∀whole,isTrue e X.env whole=(do let v <- whole;standAt e.pos;holding [v] (truthy v)):=by intro _;rfl):DT W E X O e (qTru fe):=xC (Kg h.h he) fun σ H Q⟨g,c,fp,q⟩=>⟨g,c,fp,q.bind fun d b v H1 c1 fp1 S1 F1 r1 h1=>by
 obtain⟨k,ek,hq⟩:=h1.opt;exact⟨k,u3 S1.toSE.all r1 ek,hq k H1 c1 fp1 S1 .refl rfl⟩⟩
def qNot(t:SS W->R W Bool):SS W->R W Bool:=ql t fun b=>eRet (!b)
theorem wb(h:DT W E X O e ta):DT W E X O (.UnaryOp .Not e pos) (qNot ta):=xC (qdh h.h) fun σ H Q⟨g,c,fp,q⟩=>⟨g,c,fp,q.bind fun d b v H1 c1 fp1 S1 F1 r1 h1=>by
 have r1:v=d:=r1;subst r1;exact h1.ret _ H1 c1 fp1 S1 .refl rfl⟩
def qAnd(t u:SS W->R W Bool):SS W->R W Bool:=ql t fun b=>if b=true then u else eRet false
def qOr(t u:SS W->R W Bool):SS W->R W Bool:=ql t fun b=>if b=true then eRet true else u
theorem Wb(h:DT W E X O a ta):DW W E X O (.BoolOp .And [a] pos) ta:=⟨qaj h.h⟩
theorem ZT(h:DT W E X O a ta):DW W E X O (.BoolOp .Or [a] pos) ta:=⟨qdc h.h⟩
theorem uP{b:Expr}{rest:fU}(ha:DT W E X O a ta)(hb:DW W E X O (.BoolOp .And (b::rest) pos) tb):DW W E X O (.BoolOp .And (a::b::rest) pos) (qAnd ta tb):=V_ (qdd ha.h hb.h) fun σ H Q⟨g,c,fp,q⟩=>⟨g,c,fp,q.bind fun d b v H1 c1 fp1 S1 F1 r1 h1=>by
 have r1:v=d:=r1;subst r1;cases v with
 |true=>exact⟨_,c1,fp1,h1⟩
 |false=>exact h1.ret _ H1 c1 fp1 S1 .refl rfl⟩
theorem VA{b:Expr}{rest:fU}(ha:DT W E X O a ta)(hb:DW W E X O (.BoolOp .Or (b::rest) pos) tb):DW W E X O (.BoolOp .Or (a::b::rest) pos) (qOr ta tb):=V_ (qfz ha.h hb.h) fun σ H Q⟨g,c,fp,q⟩=>⟨g,c,fp,q.bind fun d b v H1 c1 fp1 S1 F1 r1 h1=>by
 have r1:v=d:=r1;subst r1;cases v with
 |true=>exact h1.ret _ H1 c1 fp1 S1 .refl rfl
 |false=>exact⟨_,c1,fp1,h1⟩⟩
theorem DW.dt(h:DW W E X O e ta):DT W E X O e ta:=⟨PW.pt h.h⟩
def eAnd(fa fb:SS W->R W D):SS W->R W D:=ql fa fun d=>match d with
 |.bl true=>fb
 |.bl false=>eRet (.bl false)
 |_=>fun _=>.bad
theorem KP{op}(h:DE W E m X O a fa):DE W E m X O (.BoolOp op [a] pos) fa:=⟨qdq h.h⟩
theorem qc7{x:V}{k:Bool}(r:Rep K c x (.bl k)):x=.bl k:=by cases r;rfl
theorem Z0{b:Expr}{rest:fU}(ha:DE W E m1 X O a fa)(hb:DE W E true X O (.BoolOp .And (b::rest) pos) fb):DE W E true X O (.BoolOp .And (a::b::rest) pos) (eAnd fa fb):=qy (qdu ha.h hb.h) fun σ H Q⟨g,c,fp,q⟩=>⟨g,c,fp,q.bind fun d b v H1 c1 fp1 S1 F1 r1 h1=>by
 cases d with
 |bl k=>
  cases qc7 r1;cases k with
  |true=>exact⟨true,rfl,⟨_,c1,fp1,h1⟩⟩
  |false=>exact⟨false,rfl,h1.ret _ H1 c1 fp1 S1 .refl (.bl false)⟩
 |_=>exact h1.2.elim⟩
def onI(f:Int->Int->Option D):D->D->Option D|.int i,.int j=>f i j|_,_=>none
theorem kz{f:Int->Int->Option D}{x y z:D}(h:onI f x y=some z):∃i j,x=.int i/\y=.int j:=by
 cases x with
 |int i=>
  cases y with
  |int j=>exact⟨i,j,rfl,rfl⟩
  |_=>cases h
 |_=>cases h
def subI:D->D->Option D:=onI fun i j=>some (.int (i - j))
def mulI:D->D->Option D:=onI fun i j=>if(-(2 ^ 64)<i/\i<2 ^ 64)\/(-(2 ^ 64)<j/\j<2 ^ 64)then some (.int (i * j))else none
def yg:D->D->Option D:=onI fun i j=>if 0<j/\j<1073741824 then some (.int (i / j))else none
def modI:D->D->Option D:=onI fun i j=>if 0<j then some (.int (i % j))else none
def powI:D->D->Option D:=onI fun i j=>if 0<=j/\j<=1000000/\i.natAbs<2 ^ 64 then some (.int (i ^ j.toNat))else none
def ltI:D->D->Option D:=onI fun i j=>some (.bl (decide (i<j)))
def leI:D->D->Option D:=onI fun i j=>some (.bl (decide (i<=j)))
def gtI:D->D->Option D:=onI fun i j=>some (.bl (decide (j<i)))
def geI:D->D->Option D:=onI fun i j=>some (.bl (decide (j<=i)))
theorem Qi{x:V}{i:Int}(r:Rep K c x (.int i)):x=.int i:=by cases r;rfl
theorem Qh{x:V}{i:Str}(r:Rep K c x (.str i)):x=.str i:=by cases r;rfl
theorem int2{op:D->D->Option D}(h:∀x y z,op x y=some z->∃i j,x=.int i/\y=.int j){dx dy d:D}{x y:V}(rx:Rep K c x dx)(ry:Rep K c y dy)(e:op dx dy=some d):∃i j,x=.int i/\y=.int j/\dx=.int i/\dy=.int j:=by
 obtain⟨i,j,rfl,rfl⟩:=h _ _ _ e;exact⟨i,j,Qi rx,Qi ry,rfl,rfl⟩
theorem Qu:Op2 X (rI0 fun i j=>.int (i - j)) subI:=fun H c x y dx dy d Q hs rx ry e k=>by
 obtain⟨i,j,rfl,rfl,rfl,rfl⟩:=int2 (op:=subI) (fun x y z h=>kz h) rx ry e;cases e;exact⟨i,j,rfl,rfl,k _ rfl⟩
theorem o_lt:Op2 X (rI0 fun i j=>.bl (decide (i<j))) ltI:=fun H c x y dx dy d Q hs rx ry e k=>by
 obtain⟨i,j,rfl,rfl,rfl,rfl⟩:=int2 (op:=ltI) (fun x y z h=>kz h) rx ry e;cases e;exact⟨i,j,rfl,rfl,k _ rfl⟩
theorem o_le:Op2 X (rI0 fun i j=>.bl (decide (i<=j))) leI:=fun H c x y dx dy d Q hs rx ry e k=>by
 obtain⟨i,j,rfl,rfl,rfl,rfl⟩:=int2 (op:=leI) (fun x y z h=>kz h) rx ry e;cases e;exact⟨i,j,rfl,rfl,k _ rfl⟩
theorem o_gt:Op2 X (rI0 fun i j=>.bl (decide (j<i))) gtI:=fun H c x y dx dy d Q hs rx ry e k=>by
 obtain⟨i,j,rfl,rfl,rfl,rfl⟩:=int2 (op:=gtI) (fun x y z h=>kz h) rx ry e;cases e;exact⟨i,j,rfl,rfl,k _ rfl⟩
theorem o_ge:Op2 X (rI0 fun i j=>.bl (decide (j<=i))) geI:=fun H c x y dx dy d Q hs rx ry e k=>by
 obtain⟨i,j,rfl,rfl,rfl,rfl⟩:=int2 (op:=geI) (fun x y z h=>kz h) rx ry e;cases e;exact⟨i,j,rfl,rfl,k _ rfl⟩
theorem w6:Op2 X (rI CMul fun i j=>.int (i * j)) mulI:=fun H c x y dx dy d Q hs rx ry e k=>by
 obtain⟨i,j,rfl,rfl,rfl,rfl⟩:=int2 (op:=mulI) (fun x y z h=>kz h) rx ry e;obtain⟨h,rfl⟩:=ja e;exact⟨i,j,rfl,rfl,h,k _ rfl⟩
theorem XB:Op2 X (rI CDiv fun i j=>.int (i / j)) yg:=fun H c x y dx dy d Q hs rx ry e k=>by
 obtain⟨i,j,rfl,rfl,rfl,rfl⟩:=int2 (op:=yg) (fun x y z h=>kz h) rx ry e;obtain⟨h,rfl⟩:=ja e;exact⟨i,j,rfl,rfl,h,k _ rfl⟩
theorem jK:Op2 X (rI (fun _ j=>0<j) fun i j=>.int (i % j)) modI:=fun H c x y dx dy d Q hs rx ry e k=>by
 obtain⟨i,j,rfl,rfl,rfl,rfl⟩:=int2 (op:=modI) (fun x y z h=>kz h) rx ry e;obtain⟨h,rfl⟩:=ja e;exact⟨i,j,rfl,rfl,h,k _ rfl⟩
theorem XA:Op2 X (rI CPow fun i j=>.int (i ^ j.toNat)) powI:=fun H c x y dx dy d Q hs rx ry e k=>by
 obtain⟨i,j,rfl,rfl,rfl,rfl⟩:=int2 (op:=powI) (fun x y z h=>kz h) rx ry e;obtain⟨h,rfl⟩:=ja e;exact⟨i,j,rfl,rfl,h,k _ rfl⟩
def deep:Nat:=30
def rEqG(X:Cx):R2:=fun x y H Q=>∃c dx dy b,Same c.h H/\Rep X.K c x dx/\Rep X.K c y dy/\eqN deep dx dy=some b/\Q (.bl b) H
def rNeG(X:Cx):R2:=fun x y H Q=>∃c dx dy b,Same c.h H/\Rep X.K c x dx/\Rep X.K c y dy/\eqN deep dx dy=some b/\Q (.bl (!b)) H
theorem zB(hu:X.A.units+deep<cLine):OpR X (compareOp .Eq) (rEqG X):=fun pins s σ H x y v u Q I rx ry⟨c,dx,dy,b,hs,r1,r2,he,q⟩=>
 (ym I hs deep X.A x y v u dx dy b hu r1 r2 rx ry he).1 X.prog X.w X.xe _ ⟨.bl b,H,I,rfl,q⟩
def eqD(d e:D):Option D:=(eqN deep d e).map .bl
def neD(d e:D):Option D:=(eqN deep d e).map fun b=>.bl (!b)
theorem o_eq:Op2 X (rEqG X) eqD:=fun H c x y dx dy d Q hs rx ry e k=>by
 unfold eqD at e;cases q:eqN deep dx dy with
 |none=>rw[q]at e;cases e
 |some b=>rw[q]at e;cases e;exact⟨c,dx,dy,b,hs,rx,ry,q,k _ rfl⟩
open SeqAt in
theorem qa9(I:Inv X pins σ H s)(hs:Same c.h H)(n:Nat)(A:Around)(x y:V)(u v:Value)(d e:D)(b:Bool)(hu:A.units+n<cLine)(rx:Rep X.K c x d)(ry:Rep X.K c y e)(ru:RelV x u)(rv:RelV y v)(h:eqN n d e=some b):RcNeAt A s u v (!b):=by
 cases n with
 |zero=>cases h
 |succ n=>
  have hu0:A.units<cLine:=by omega
  have hl:∀{a:Addr}{xs:List V},c.h a=some (.lst xs)->∃its:fQ,Vals xs its/\s.heap.IsList a its.toArray:=fun h=>by
   obtain⟨its,r,p,_⟩:=I.list (lstT hs h);exact⟨its,r,p.isList⟩
  have ht:∀{a:Addr}{xs:List V},c.h a=some (.tup xs)->∃its:fQ,Vals xs its/\s.heap.IsTuple a its.toArray:=fun h=>by
   obtain⟨its,r,p,_⟩:=I.tuple (tupT hs h);exact⟨its,r,p⟩
  have items:∀{xs xs':List V}{ds ds':List D}{its its':fQ}{e:Nat->Bool},xs.length=ds.length->xs'.length=ds'.length->(∀(i:Nat) x d,xs[i]?=some x->ds[i]?=some d->Rep X.K c x d)->(∀(i:Nat) x d,xs'[i]?=some x->ds'[i]?=some d->Rep X.K c x d)->Vals xs its->Vals xs' its'->
    (∀(j:Nat) x y,ds[j]?=some x->ds'[j]?=some y->eqN n x y=some (e j))->∀j(h1:j<its.toArray.size)(h2:j<its'.toArray.size),EqAt A.in1 s its.toArray[j] its'.toArray[j] (e j):=by
   intro xs xs' ds ds' its its' e l l' r r' vr vr' k j h1 h2;obtain⟨x1,g1,w1⟩:=kP vr (j:=j) (u:=its[j]) (aa (by simpa using h1));obtain⟨x2,g2,w2⟩:=kP vr' (j:=j) (u:=its'[j]) (aa (by simpa using h2));have s1:its.toArray.size=ds.length:=by rw[av,<- vr.length,l]
   have s2:its'.toArray.size=ds'.length:=by rw[av,<- vr'.length,l']
   have d1:j<ds.length:=by omega
   have d2:j<ds'.length:=by omega
   have:=(ym I hs n A.in1 x1 x2 _ _ ds[j] ds'[j] (e j) (by show A.units+1+n<_;omega) (r j _ _ g1 (aa d1)) (r' j _ _ g2 (aa d2)) w1 w2 (k j _ _ (aa d1) (aa d2))).2;simpa using this
  cases rx with
  |non=>
   cases ru;cases ry with
   |non=>cases rv;cases h;exact .none_none
   |bl q=>cases rv;cases h;exact .none_bool q
   |int q=>obtain⟨t,rfl⟩:=rv;cases h;exact .none_int q t
   |str q=>obtain⟨t,rfl⟩:=rv;cases h;exact .none_str q t
   |tup e' l r=>cases rv;cases h;obtain⟨its,_,p⟩:=ht e';exact .none_tuple p hu0
   |lst e' l r=>cases rv;cases h;obtain⟨its,_,p⟩:=hl e';exact .none_list p hu0
   |dic=>cases h
   |dit=>cases h
   |obj=>cases h
   |scr=>cases h
  |bl a=>
   cases ru;cases ry with
   |non=>cases rv;cases h;exact .bool_none a
   |bl q=>cases rv;cases h;exact .bool_bool a q
   |str q=>obtain⟨t,rfl⟩:=rv;cases h;exact .bool_str a q t
   |_=>cases h
  |int a=>
   obtain⟨t',rfl⟩:=ru;cases ry with
   |non=>cases rv;cases h;exact .int_none a t'
   |bl q=>cases h
   |int q=>obtain⟨t,rfl⟩:=rv;cases h;exact .int_int a t' q t
   |str q=>obtain⟨t,rfl⟩:=rv;cases h;exact .int_str a t' q t
   |tup e' l r=>cases rv;cases h;obtain⟨its,_,p⟩:=ht e';exact .int_tuple a t' p hu0
   |lst e' l r=>cases rv;cases h;obtain⟨its,_,p⟩:=hl e';exact .int_list a t' p hu0
   |dic=>cases h
   |dit=>cases h
   |obj=>cases h
   |scr=>cases h
  |str a=>
   obtain⟨t',rfl⟩:=ru;cases ry with
   |non=>cases rv;cases h;exact .str_none a t'
   |bl q=>cases rv;cases h;exact .str_bool a t' q
   |int q=>obtain⟨t,rfl⟩:=rv;cases h;exact .str_int a t' q t
   |str q=>obtain⟨t,rfl⟩:=rv;cases h;exact .str_str a t' q t
   |tup e' l r=>cases rv;cases h;obtain⟨its,_,p⟩:=ht e';exact .str_tuple a t' p hu0
   |lst e' l r=>cases rv;cases h;obtain⟨its,_,p⟩:=hl e';exact .str_list a t' p hu0
   |dic=>cases h
   |dit=>cases h
   |obj=>cases h
   |scr=>cases h
  |@tup a xs ds ex l r=>
   cases ru;obtain⟨its,vr,p⟩:=ht ex;cases ry with
   |non=>cases rv;cases h;exact .tuple_none p hu0
   |bl q=>cases h
   |int q=>obtain⟨t,rfl⟩:=rv;cases h;exact .tuple_int q t p hu0
   |str q=>obtain⟨t,rfl⟩:=rv;cases h;exact .tuple_str q t p hu0
   |lst e' l r=>cases rv;cases h;obtain⟨its',_,p'⟩:=hl e';exact .tuple_list p p' hu0
   |@tup a' xs' ds' ex' l' r'=>
    cases rv;obtain⟨its',vr',p'⟩:=ht ex';have h':(if ds.length=ds'.length then allE (eqN n) ds ds' else none)=some b:=h
    split at h'
    ·rename_i hlen
     obtain⟨e,k,hb⟩:=vU h';have s1:its.toArray.size=ds.length:=by rw[av,<- vr.length,l]
     have s2:its'.toArray.size=ds'.length:=by rw[av,<- vr'.length,l']
     have q:=RcNeAt.tuples (e:=e) p p' hu0 (items l l' r r' vr vr' k);have hm:min its.toArray.size its'.toArray.size=ds.length:=by rw[s1,s2,hlen,Nat.min_self]
     rw[hm,s1,s2,hlen,c8,Bool.and_true]at q;rw[hlen]at hb;rw[<- hb]at q;exact q
    ·cases h'
   |dic=>cases h
   |dit=>cases h
   |obj=>cases h
   |scr=>cases h
  |@lst a xs ds ex l r=>
   cases ru;obtain⟨its,vr,p⟩:=hl ex;cases ry with
   |non=>cases rv;cases h;exact .list_none p hu0
   |bl q=>cases h
   |int q=>obtain⟨t,rfl⟩:=rv;cases h;exact .list_int q t p hu0
   |str q=>obtain⟨t,rfl⟩:=rv;cases h;exact .list_str q t p hu0
   |tup e' l r=>cases rv;cases h;obtain⟨its',_,p'⟩:=ht e';exact .list_tuple p p' hu0
   |@lst a' xs' ds' ex' l' r'=>
    cases rv;obtain⟨its',vr',p'⟩:=hl ex';have s1:its.toArray.size=ds.length:=by rw[av,<- vr.length,l]
    have s2:its'.toArray.size=ds'.length:=by rw[av,<- vr'.length,l']
    have h':(if ds.length=ds'.length then allE (eqN n) ds ds' else some false)=some b:=h
    split at h'
    ·rename_i hlen
     obtain⟨e,k,hb⟩:=vU h';have q:=RcNeAt.lists (e:=e) p p' (by rw[s1,s2,hlen]) hu0 (items l l' r r' vr vr' k);rw[s1,<- hb]at q;exact q
    ·rename_i hlen
     cases h';exact RcNeAt.lists_lengths p p' (by rw[s1,s2];simpa using hlen) hu0
   |dic=>cases h
   |dit=>cases h
   |obj=>cases h
   |scr=>cases h
  |dic=>cases e <;> cases h
  |dit=>cases e <;> cases h
  |obj=>cases e <;> cases h
  |scr=>cases e <;> cases h
theorem Km(hu:X.A.units+deep<cLine):OpR X (compareOp .NotEq) (rNeG X):=fun pins s σ H x y v u Q I rx ry⟨c,dx,dy,b,hs,r1,r2,he,q⟩=>
 qa9 I hs deep X.A x y v u dx dy b hu r1 r2 rx ry he X.prog X.w X.xe _ ⟨.bl (!b),H,I,rfl,q⟩
theorem o_ne:Op2 X (rNeG X) neD:=fun H c x y dx dy d Q hs rx ry e k=>by
 unfold neD at e;cases q:eqN deep dx dy with
 |none=>rw[q]at e;cases e
 |some b=>rw[q]at e;cases e;exact⟨c,dx,dy,b,hs,rx,ry,q,k _ rfl⟩
def isND:D->D->Option D|d,.non=>some (.bl (match d with|.non=>true|_=>false))|_,_=>none
theorem qa7:Op2 X (fun x y H Q=>y=.non/\Q (.bl (decide (x=.non))) H) isND:=fun H c x y dx dy d Q hs rx ry e k=>by
 cases ry <;> first|cases e|skip
 refine⟨rfl,?_⟩;cases rx <;> exact k _ rfl
def za:D->Option Key
 |.int i=>some (.inl i)
 |.str x=>some (.inr x)
 |_=>none
def zV:List D->Option (List Key)
 |[]=>some []
 |d::ds=>match za d,zV ds with|some k,some ks=>some (k::ks)|_,_=>none
def anyE(f:D->Option Bool):List D->Option Bool
 |[]=>some false
 |x::xs=>match f x,anyE f xs with
  |some b,some r=>some (b || r)
  |_,_=>none
def qK{κ:Type}[DecidableEq κ](kvs:List (κ×D))(k:κ):Option D:=(kvs.find? fun p=>decide (p.1=k)).map (·.2)
def inD(x:D):D->Option Bool
 |.lst ds=>anyE (fun d=>eqN deep d x) ds
 |.tup ds=>anyE (fun d=>eqN deep d x) ds
 |.dic kvs=>match za x with|some k=>some (qK kvs k).isSome|none=>none
 |.dit kvs=>match x with|.tup ks=>(match zV ks with|some k=>some (qK kvs k).isSome|none=>none)|_=>none
 |.str z=>match x with|.str y=>some (!(Builtin.Str.occurrences z y 0 z.length 1).isEmpty)|_=>none
 |_=>none
theorem WR{f:D->Option Bool}:∀{xs:List D}{b:Bool},anyE f xs=some b->(∀x∈xs,∃v,f x=some v)/\(b=true↔∃x∈xs,f x=some true)
 |[],b,h=>by cases h;exact⟨fun _ h=>(nomatch h),by simp⟩
 |x::xs,b,h=>by
  unfold anyE at h;cases e1:f x with
  |none=>rw[e1]at h;cases h
  |some b1=>
   cases e2:anyE f xs with
   |none=>rw[e1,e2]at h;cases h
   |some r=>
    rw[e1,e2]at h;cases h;obtain⟨k1,k2⟩:=WR e2;refine⟨fun y hy=>?_,?_⟩
    ·rcases ah.mp hy with rfl|hy
     ·exact⟨_,e1⟩
     ·exact k1 y hy
    ·rw[fE,k2]
     constructor
     ·rintro(rfl|⟨y,hy,q⟩)
      ·exact⟨x,aN ..,e1⟩
      ·exact⟨y,aD _ hy,q⟩
     ·rintro⟨y,hy,q⟩
      rcases ah.mp hy with rfl|hy
      ·rw[e1]at q;cases q;exact .inl rfl
      ·exact .inr ⟨y,hy,q⟩
theorem vL{x:V}{d:D}{k:Key}(r:Rep K c x d)(h:za d=some k):x=kV k:=by
 cases r <;> cases h <;> rfl
theorem wV:∀{ds:List D}{xs:List V}{ks:List Key},Reps K c xs ds->zV ds=some ks->xs=ks.map kV
 |[],xs,ks,r,h=>by cases h;rw[r.unnil];rfl
 |d::ds,xs,ks,r,h=>by
  obtain⟨x,t,rfl,r1,r2⟩:=r.uncons;unfold zV at h;cases e1:za d with
  |none=>rw[e1]at h;cases h
  |some k=>
   cases e2:zV ds with
   |none=>rw[e1,e2]at h;cases h
   |some kk=>
    rw[e1,e2]at h;cases h;rw[vL r1 e1,wV r2 e2];rfl
theorem wF[DecidableEq κ]{ys:List (κ×V)}{kvs:List (κ×D)}{k:κ}(l:ys.map (·.1)=kvs.map (·.1))(r:∀(i:Nat) p q,ys[i]?=some p->kvs[i]?=some q->Rep K c p.2 q.2):(qK kvs k=none/\valV ys k=none)\/∃d v,qK kvs k=some d/\valV ys k=some v/\Rep K c v d:=by
 induction ys generalizing kvs with
 |nil=>
  cases kvs with
  |nil=>exact .inl ⟨rfl,rfl⟩
  |cons q kvs=>cases l
 |cons p ys ih=>
  cases kvs with
  |nil=>cases l
  |cons q kvs=>
   simp only[a9,cX]at l;obtain⟨hk,l⟩:=l;unfold qK valV;rw[bw,bw]
   by_cases e:q.1=k
   ·have e':p.1=k:=hk.trans e
    simp only[e,e',decide_true];exact .inr ⟨q.2,p.2,rfl,rfl,r 0 p q rfl rfl⟩
   ·have e':¬ p.1=k:=fun z=>e (hk.symm.trans z)
    simp only[e,e',decide_false];exact ih l fun i p' q' h1 h2=>r (i+1) p' q' (by simpa using h1) (by simpa using h2)
theorem xL{a:Addr}{x:V}{d dk:D}{o:Option D}(hs:Same c.h H)(rd:Rep K c (.ref a) d)(hs2:Same c2.h H)(rx:Rep K c2 x dk)(h:(∃kvs k,d=.dic kvs/\za dk=some k/\o=qK kvs k)\/(∃kvs ks k,d=.dit kvs/\dk=.tup ks/\zV ks=some k/\o=qK kvs k)) :
  (o=none/\DGet H a x none)\/∃dv v,o=some dv/\DGet H a x (some v)/\Rep K c v dv:=by
 rcases h with⟨kvs,k,rfl,hk,ho⟩|⟨kvs,ks,k,rfl,rfl,hk,ho⟩
 ·cases rd with
  |dic e l nd r=>
   have ex:=vL rx hk;have g:=DGet.k (k:=k) (hs _ _ e);rw[<- ex]at g;rcases wF (k:=k) l r with⟨h1,h2⟩|⟨dv,v,h1,h2,h3⟩
   ·rw[h2]at g;exact .inl ⟨ho.trans h1,g⟩
   ·rw[h2]at g;exact .inr ⟨dv,v,ho.trans h1,g,h3⟩
 ·cases rd with
  |dit e l nd r=>
   cases rx with
   |tup e2 l2 r2=>
    have ex:=wV ⟨l2,r2⟩ hk;subst ex;have g:=DGet.t (k:=k) (hs _ _ e) (hs2 _ _ e2);rcases wF (k:=k) l r with⟨h1,h2⟩|⟨dv,v,h1,h2,h3⟩
    ·rw[h2]at g;exact .inl ⟨ho.trans h1,g⟩
    ·rw[h2]at g;exact .inr ⟨dv,v,ho.trans h1,g,h3⟩
def rInG(X:Cx)(neg:Bool):R2:=fun x y H Q=>∃c dx dy b,Same c.h H/\Rep X.K c x dx/\Rep X.K c y dy/\inD dx dy=some b/\Q (.bl (if neg then !b else b)) H
open SeqAt in
open Classical in
theorem xa(I:Inv X pins σ H s)(hs:Same c.h H)(hu:A.units+deep<cLine){x:V}{v:Value}{dx:D}{ds:List D}{its:fQ}{b:Bool}(rx:Rep X.K c x dx)(rv:RelV x v)(rs:Reps X.K c xs ds)(vr:Vals xs its)(h:anyE (fun d=>eqN deep d dx) ds=some b) :
  ∃e:Value->Bool,(∀y,y∈its.toArray->EqAt A s y v (e y))/\its.toArray.any e=b:=by
 obtain⟨k1,k2⟩:=WR h;have at':∀j u,its[j]?=some u->∃y d,ds[j]?=some d/\Rep X.K c y d/\RelV y u:=fun j u hj=>by
  obtain⟨y,h1,h2⟩:=kP vr hj;obtain⟨d,h3,h4⟩:=rs.atV h1;exact⟨y,d,h3,h4,h2⟩
 have eqv:∀{y:V}{u:Value}{d:D}{q:Bool},Rep X.K c y d->RelV y u->eqN deep d dx=some q->EqAt A s u v q:=fun r1 r2 q=>(ym I hs deep A _ x _ v _ dx _ hu r1 rx r2 rv q).2
 refine⟨fun u=>decide (∃(j:Nat)(d:D)(y:V),its[j]?=some u/\ds[j]?=some d/\Rep X.K c y d/\RelV y u/\eqN deep d dx=some true),fun u hu'=>?_,?_⟩
 ·have hu':u∈its:=by simpa using hu'
  obtain⟨j,hj⟩:=List.mem_iff_getElem?.mp hu';obtain⟨y,d,h1,h2,h3⟩:=at' j u hj
  by_cases q:∃(j:Nat)(d:D)(y:V),its[j]?=some u/\ds[j]?=some d/\Rep X.K c y d/\RelV y u/\eqN deep d dx=some true
  ·show EqAt A s u v (decide _)
   rw[aX q];obtain⟨_,d',y',_,_,z1,z2,z3⟩:=q;exact eqv z1 z2 z3
  ·show EqAt A s u v (decide _)
   rw[aK q];obtain⟨w,hw⟩:=k1 d (aM h1);cases w with
   |true=>exact absurd ⟨j,d,y,hj,h1,h2,h3,hw⟩ q
   |false=>exact eqv h2 h3 hw
 ·apply Bool.eq_iff_iff.mpr
  rw[k2,Array.any_eq_true'];constructor
  ·rintro⟨u,hu',hd⟩
   obtain⟨j,d,y,z0,z1,z2,z3,z4⟩:=fy hd;exact⟨d,aM z1,z4⟩
  ·rintro⟨d,hd,q⟩
   obtain⟨j,hj⟩:=List.mem_iff_getElem?.mp hd;obtain⟨y,h1,h2⟩:=rs.at hj;obtain⟨u,h3,h4⟩:=vr.get h1;exact⟨u,by simpa using aM h3,aX ⟨j,d,y,h3,hj,h2,h4,q⟩⟩
theorem QF(hu:A.units+40<cLine):A.in1.units+deep<cLine:=by
 show A.units+1+30<_;omega
theorem Xu(hu:X.A.units+40<cLine):OpR X (compareOp .In) (rInG X false):=by
 rintro pins s σ H x y v u Q I rx ry ⟨c,dx,dy,b,hs,r1,r2,he,q⟩;have fin:EP X pins σ Q (.bool b) s:=⟨.bl b,H,I,rfl,q⟩;cases r2 with
 |lst ex l r=>
  cases ry;obtain⟨its,vr,p,_⟩:=I.list (lstT hs ex);obtain⟨e,h1,h2⟩:=xa I hs (QF hu) r1 rx ⟨l,r⟩ vr he;exact SeqAt.in_listAt e p.isList h1 (by rw[h2];exact fin)
 |tup ex l r=>
  cases ry;obtain⟨its,vr,p,_⟩:=I.tuple (tupT hs ex);obtain⟨e,h1,h2⟩:=xa I hs (QF hu) r1 rx ⟨l,r⟩ vr he;exact SeqAt.in_tupleAt e p h1 (by rw[h2];exact fin)
 |@dic a ys kvs ex l nd r=>
  cases ry;unfold inD at he;cases hk:za dx with
  |none=>rw[hk]at he;cases he
  |some k=>
   rw[hk]at he;have he:some (qK kvs k).isSome=some b:=he;cases he;rcases xL hs (.dic ex l nd r) hs r1 (.inl ⟨kvs,k,rfl,hk,rfl⟩)with⟨h1,h2⟩|⟨dv,w,h1,h2,h3⟩
   ·refine d_in (by omega) I h2 rx fun s3 I3=>⟨.bl false,H,I3,rfl,?_⟩
    rw[h1]at q;exact q
   ·refine d_in (by omega) I h2 rx fun s3 I3=>⟨.bl true,H,I3,rfl,?_⟩
    rw[h1]at q;exact q
 |@dit a ys kvs ex l nd r=>
  cases ry;cases dx with
  |tup ks=>
   have he:(match zV ks with|some k=>some (qK kvs k).isSome|none=>none)=some b:=he;cases hk:zV ks with
   |none=>rw[hk]at he;cases he
   |some k=>
    rw[hk]at he;have he:some (qK kvs k).isSome=some b:=he;cases he;rcases xL hs (.dit ex l nd r) hs r1 (.inr ⟨kvs,ks,k,rfl,rfl,hk,rfl⟩)with⟨h1,h2⟩|⟨dv,w,h1,h2,h3⟩
    ·refine d_in (by omega) I h2 rx fun s3 I3=>⟨.bl false,H,I3,rfl,?_⟩
     rw[h1]at q;exact q
    ·refine d_in (by omega) I h2 rx fun s3 I3=>⟨.bl true,H,I3,rfl,?_⟩
     rw[h1]at q;exact q
  |_=>cases he
 |str z=>
  obtain⟨t,rfl⟩:=ry;cases dx with
  |str y=>
   cases Qh r1;obtain⟨t',rfl⟩:=rx;cases he;exact in_str fin
  |_=>cases he
 |_=>cases he
theorem v7(hu:X.A.units+40<cLine):OpR X (compareOp .NotIn) (rInG X true):=by
 rintro pins s σ H x y v u Q I rx ry ⟨c,dx,dy,b,hs,r1,r2,he,q⟩;have fin:EP X pins σ Q (.bool (!b)) s:=⟨.bl (!b),H,I,rfl,q⟩;cases r2 with
 |lst ex l r=>
  cases ry;obtain⟨its,vr,p,_⟩:=I.list (lstT hs ex);obtain⟨e,h1,h2⟩:=xa I hs (QF hu) r1 rx ⟨l,r⟩ vr he;exact SeqAt.notIn_listAt e p.isList h1 (by rw[h2];exact fin)
 |tup ex l r=>
  cases ry;obtain⟨its,vr,p,_⟩:=I.tuple (tupT hs ex);obtain⟨e,h1,h2⟩:=xa I hs (QF hu) r1 rx ⟨l,r⟩ vr he;exact SeqAt.notIn_tupleAt e p h1 (by rw[h2];exact fin)
 |@dic a ys kvs ex l nd r=>
  cases ry;unfold inD at he;cases hk:za dx with
  |none=>rw[hk]at he;cases he
  |some k=>
   rw[hk]at he;have he:some (qK kvs k).isSome=some b:=he;cases he;rcases xL hs (.dic ex l nd r) hs r1 (.inl ⟨kvs,k,rfl,hk,rfl⟩)with⟨h1,h2⟩|⟨dv,w,h1,h2,h3⟩
   ·refine QS (by omega) I h2 rx fun s3 I3=>⟨.bl true,H,I3,rfl,?_⟩
    rw[h1]at q;exact q
   ·refine QS (by omega) I h2 rx fun s3 I3=>⟨.bl false,H,I3,rfl,?_⟩
    rw[h1]at q;exact q
 |@dit a ys kvs ex l nd r=>
  cases ry;cases dx with
  |tup ks=>
   have he:(match zV ks with|some k=>some (qK kvs k).isSome|none=>none)=some b:=he;cases hk:zV ks with
   |none=>rw[hk]at he;cases he
   |some k=>
    rw[hk]at he;have he:some (qK kvs k).isSome=some b:=he;cases he;rcases xL hs (.dit ex l nd r) hs r1 (.inr ⟨kvs,ks,k,rfl,rfl,hk,rfl⟩)with⟨h1,h2⟩|⟨dv,w,h1,h2,h3⟩
    ·refine QS (by omega) I h2 rx fun s3 I3=>⟨.bl true,H,I3,rfl,?_⟩
     rw[h1]at q;exact q
    ·refine QS (by omega) I h2 rx fun s3 I3=>⟨.bl false,H,I3,rfl,?_⟩
     rw[h1]at q;exact q
  |_=>cases he
 |str z=>
  obtain⟨t,rfl⟩:=ry;cases dx with
  |str y=>
   cases Qh r1;obtain⟨t',rfl⟩:=rx;cases he;exact notIn_str fin
  |_=>cases he
 |_=>cases he
def inO(x y:D):Option D:=(inD x y).map .bl
def ninO(x y:D):Option D:=(inD x y).map fun b=>.bl (!b)
theorem o_in:Op2 X (rInG X false) inO:=fun H c x y dx dy d Q hs rx ry e k=>by
 unfold inO at e;cases q:inD dx dy with
 |none=>rw[q]at e;cases e
 |some b=>rw[q]at e;cases e;exact⟨c,dx,dy,b,hs,rx,ry,q,k _ rfl⟩
theorem YE:Op2 X (rInG X true) ninO:=fun H c x y dx dy d Q hs rx ry e k=>by
 unfold ninO at e;cases q:inD dx dy with
 |none=>rw[q]at e;cases e
 |some b=>rw[q]at e;cases e;exact⟨c,dx,dy,b,hs,rx,ry,q,k _ rfl⟩
def ixD:D->D->Option D
 |.scr ds,.int i=>atI ds i
 |.lst ds,.int i=>atI ds i
 |.tup ds,.int i=>atI ds i
 |.str z,.int i=>if z.length<=1000000 then(atI z.cps.toList i).map fun c=>.str ⟨#[c]⟩else none
 |.dic kvs,k=>match za k with|some k=>qK kvs k|none=>none
 |.dit kvs,.tup ks=>match zV ks with|some k=>qK kvs k|none=>none
 |_,_=>none
def rIxG(X:Cx):R2:=fun x y H Q=>rIx X.K x y H Q\/∃a v,x=.ref a/\DGet H a y (some v)/\Q v H
theorem qbm(hu:X.A.units+1<cLine):IxR X (fun x y H Q=>∃a v,x=.ref a/\DGet H a y (some v)/\Q v H):=by
 intro value slice pins s σ H x y v u Q I rx ry h hs;obtain⟨a,w,rfl,g,q⟩:=h;cases rx;exact tail_any (yq I g) eY.lookup (Z1 hu I g ry fun w' s3 I3 rw'=>⟨w,H,I3,rw',q⟩) hs
theorem ixG(hu:X.A.units+1<cLine):IxR X (rIxG X):=ix_seq.or (qbm hu)
theorem wL{ds:List D}{i:Int}{d:D}(r:Reps K c xs ds)(h:atI ds i=some d):∃x,atI xs i=some x/\Rep K c x d:=by
 unfold atI at h ⊢;rw[r.l];cases e:ixN ds.length i with
 |none=>rw[e]at h;cases h
 |some j=>
  rw[e]at h;obtain⟨x,h1,h2⟩:=r.at (show ds[j]?=some d from h);exact⟨x,h1,h2⟩
theorem qei{x y:V}{dx dy d:D}(hs:Same c.h H)(rx:Rep X.K c x dx)(hs2:Same c2.h H)(ry:Rep X.K c2 y dy)(h:ixD dx dy=some d)(k:∀v,Rep X.K c v d->Q v H):rIxG X x y H Q:=by
 cases rx with
 |lst ex l r=>
  cases ry <;> first|cases h|skip
  obtain⟨v,h1,h2⟩:=wL ⟨l,r⟩ (show atI _ _=some d from h);exact .inl (.inl ⟨_,_,_,v,rfl,rfl,lstT hs ex,h1,k v h2⟩)
 |scr ex l r=>
  cases ry <;> first|cases h|skip
  obtain⟨v,h1,h2⟩:=wL ⟨l,r⟩ (show atI _ _=some d from h);exact .inl (.inl ⟨_,_,_,v,rfl,rfl,Qd hs ex,h1,k v h2⟩)
 |tup ex l r=>
  cases ry <;> first|cases h|skip
  obtain⟨v,h1,h2⟩:=wL ⟨l,r⟩ (show atI _ _=some d from h);exact .inl (.inr (.inl ⟨_,_,_,v,rfl,rfl,tupT hs ex,h1,k v h2⟩))
 |str z=>
  cases ry with
  |int i=>
   have h':(if z.length<=1000000 then(atI z.cps.toList i).map fun c=>D.str ⟨#[c]⟩else none)=some d:=h
   split at h'
   ·rename_i hz
    cases e:atI z.cps.toList i with
    |none=>rw[e]at h';cases h'
    |some q=>
     rw[e]at h';cases h';exact .inl (.inr (.inr ⟨z,i,q,rfl,rfl,aW hz (by decide),e,k _ (.str _)⟩))
   ·cases h'
  |_=>cases h
 |@dic a ys kvs ex l nd r=>
  have h':(match za dy with|some k=>qK kvs k|none=>none)=some d:=h;cases hk:za dy with
  |none=>rw[hk]at h';cases h'
  |some q=>
   rw[hk]at h';rcases xL hs (.dic ex l nd r) hs2 ry (.inl ⟨kvs,q,rfl,hk,rfl⟩)with⟨h1,h2⟩|⟨dv,w,h1,h2,h3⟩
   ·rw[show qK kvs q=some d from h']at h1;cases h1
   ·rw[show qK kvs q=some d from h']at h1
    cases h1;exact .inr ⟨a,w,rfl,h2,k w h3⟩
 |@dit a ys kvs ex l nd r=>
  cases dy with
  |tup ks=>
   have h':(match zV ks with|some k=>qK kvs k|none=>none)=some d:=h;cases hk:zV ks with
   |none=>rw[hk]at h';cases h'
   |some q=>
    rw[hk]at h';rcases xL hs (.dit ex l nd r) hs2 ry (.inr ⟨kvs,ks,q,rfl,rfl,hk,rfl⟩)with⟨h1,h2⟩|⟨dv,w,h1,h2,h3⟩
    ·rw[show qK kvs q=some d from h']at h1;cases h1
    ·rw[show qK kvs q=some d from h']at h1
     cases h1;exact .inr ⟨a,w,rfl,h2,k w h3⟩
  |_=>cases h
 |_=>cases h
theorem qD{b:Expr}(hu:X.A.units+1<cLine)(ha:DE W E m X O a fa)(hb:DE W E m2 X O b fb)(hs:JU b:=by intro _ _;rfl):DE W E m X O (.Subscript a b pos) (e2 ixD fa fb):=
 qy (qdr (ixG hu) ha.h hb.h hs) fun σ H Q⟨g,c,fp,q⟩=>⟨g,c,fp,q.bind fun d b v H1 c1 fp1 S1 F1 r1 h1=>⟨_,c1,fp1,h1.bind fun d' b' v' H2 c2 fp2 S2 F2 r2 h2=>by
  obtain⟨z,ez,k⟩:=h2.opt;exact qei S2.toSE.all (r1.mono F2.cm) S2.toSE.all r2 ez fun u hu=>k u H2 c2 fp2 S2 .refl hu⟩⟩
end
def spP(K:fL)(T:Hp->Prop)(n:Nat)(fr:Bool)(F:List D->Option D):Sp:=fun vs H Q EX=>vs.length=n/\∃c ds,Same c.h (Hn H [])/\T H/\Reps K c vs ds/\∃d,F ds=some d/\
 ∀v H' c',FR H c [] H' c' []->c'.ob=c.ob->Same c'.h (Hn H' [])->T H'->(if fr=true then OwnV K ⟨H,c,[]⟩ H' c' [] v d else Rep K c' v d)->Q v H'
def zA{W:Wo}(n:Nat)(ds:List D)(b:W.BS):SS W:=⟨ds.map some++List.replicate (n - ds.length) none,b⟩
section
variable{W:Wo}{K:fL}{X:Cx}{E:En}{O O' O1 O2 OL:List Nat}{g:SS W}{b:W.BS}{σ:L2.St}{H H':Hp}{c c':Co}{fp fp':fP}{fr:Bool}{m m1 m2:Bool}{pos:Pos}{e a:Expr}{es:fU}
variable{fa fb fe:SS W->R W D}{fs:SS W->R W (List D)}{ta tb:SS W->R W Bool}
theorem Qa{vs:List V}{ds:List D}(S:SE W E b H c fp)(r:Reps K c vs ds):SR W K E [] (zA N.length ds b) (L2.start N vs) H c fp:=by
 refine⟨S,fun i d _ h=>?_,fun i d hi=>(nomatch hi),fun i j d e a hi=>(nomatch hi),?_⟩
 ·unfold zA at h
  have h:(ds.map some++List.replicate (N.length - ds.length) none)[i]?=some (some d):=h
  by_cases hi:i<ds.length
  ·rw[aB (by simpa using hi),aq]at h
   have hd:ds[i]?=some d:=by
    cases q:ds[i]? with
    |none=>rw[q]at h;cases h
    |some z=>rw[q]at h;cases h;rfl
   obtain⟨x,h1,h2⟩:=r.at hd;refine⟨x,?_,h2⟩;unfold L2.start;rw[aB (by rw[ak,r.l];exact hi),aq,h1];rfl
  ·rw[aJ (by simpa using hi),cK]at h
   split at h <;> cases h
 ·unfold zA L2.start
  rw[ar,ar,ak,ak,bL,bL,r.l]
def QZ{T:Hp->Prop}{hT}{B:Hp->Co->fP->Prop}{hB}(n:Nat)(f:SS (W1 T hT B hB)->Ou (W1 T hT B hB)):List D->Option D:=fun ds=>match f (zA n ds ())with
 |.rt d _=>some d
 |.nx _=>some .non
 |_=>none
theorem Y3{T:Hp->Prop}{hT}{P:Program}{w:World}{mg:fO}{base:Heap}{x qual:Str}{f:Addr}{fd:FuncData}{ps:fT}{k n:Nat}{body:SS (W0 T hT)->Ou (W0 T hT)}(F:Fun K x qual st f fd)(Sc:FnScope N ps (qm st))(hn:n=ps.length)
  (h:∀(cdv:Value)(A:Around)(outer:List Env)(s:Shared)(H:Hp)(EX:XK)(E:En),Room k (A.deeper (envOfC qual (qm st) s.heap.objs.size f cdv))->DSs (W0 T hT) E fr [] (cxOf CX0 P w K mg base N qual (qm st) f cdv A outer s H EX).nox [] (zZ st) body O') :
  FnOk P w K mg base CX0 (k+1) f fd ps (spP K T n fr (QZ N.length body)):=by
 refine F.ok Sc (fun vs H Q EX q=>by rw[<- hn];exact q.1) fun cdv A outer s H vs Q EX hr q=>?_
 obtain⟨_,c,ds,co,tb,r,d,e,q⟩:=q;refine⟨_,(h cdv A outer s H EX ⟨H,c,[]⟩ hr).h,zA N.length ds (W:=W0 T hT) (),c,[],Qa ⟨co,rfl,tb,fun a ha=>(nomatch ha),fun _=>rfl,.refl⟩ r,?_⟩;unfold QZ at e;cases eb:body (zA N.length ds ())with
 |rt d' b'=>
  rw[eb]at e;cases e;intro v H' c' fp' S' r';cases (show fp'=[] from S'.br);exact q v H' c' S'.fr0 (S'.obq rfl) S'.core S'.tab r'
 |nx g'=>
  rw[eb]at e;cases e;intro σ' H' c' fp' S' _;cases (show fp'=[] from S'.br);exact q .non H' c' S'.fr0 (S'.obq rfl) S'.core S'.tab (by cases fr with|true=>exact Rep.non (K:=K) (c:=c')|false=>exact Rep.non (K:=K) (c:=c'))
 |ex x g'=>rw[eb]at e;cases e
 |bk g'=>rw[eb]at e;cases e
 |ct g'=>rw[eb]at e;cases e
 |bad=>rw[eb]at e;cases e
def wz(n:Nat)(F:List D->Option D)(fs:SS W->R W (List D)):SS W->R W D:=ql fs fun ds=>eOpt (if ds.length=n then F ds else none)
def atO(o:Option D):Option D:=o.bind fun d=>(isAt d).bind fun _=>some d
theorem hn_nil{H:Hp}{fp:fP}:Same (Hn H fp) (Hn H []):=fun a u e=>by
 obtain⟨h1,_,h3⟩:=Hn.of e;exact Hn.mk h1 (aE) h3
theorem K_(S:SE W E b H c fp)(f:FR H c [] H' c' [])(ho:c'.ob=c.ob)(co:Same c'.h (Hn H' []))(tab:W.tabs H'):SE W E b H' c' fp/\FR H c fp H' c' fp:=by
 have keep:∀a u,H a=some u->isT u=false->H' a=some u:=fun a u e z=>(Hn.of (f.nn _ _ (Hn.mk e (aE) z))).1
 have fpo:∀a∈fp,c'.h a=none:=fun a ha=>by
  obtain⟨u,e,z⟩:=S.fph a ha;exact f.out a (by rw[Hn.mk e (aE) z];simp) (S.fpc a ha)
 have F:FR H c fp H' c' fp:=⟨f.le,fun a u e=>by
  obtain⟨h1,h2,h3⟩:=Hn.of e;exact Hn.mk (keep a u h1 h3) h2 h3,fun a ha hc=>f.out a (fun z=>ha (hn_nil.free z)) hc,f.th,f.nob⟩
 refine⟨⟨fun a u e=>?_,W.brS _ _ _ _ _ _ S.br (fun a ha=>?_) f.le ho fpo,tab,fun a ha=>?_,fun z=>ho.trans (S.obq z),S.fr0.trans F⟩,F⟩
 ·obtain⟨h1,_,h3⟩:=Hn.of (co _ _ e)
  exact Hn.mk h1 (fun z=>by rw[fpo a z]at e;cases e) h3
 ·obtain⟨u,e,z⟩:=S.fph a ha
  rw[keep a u e z,e]
 ·obtain⟨u,e,z⟩:=S.fph a ha
  exact⟨u,keep a u e z,z⟩
variable{k n:Nat}{f:Addr}{fd:FuncData}{ps:fT}{F:List D->Option D}{x:Str}{p:Pos}{T:Hp->Prop}
theorem qb8{ds:List D}{vs:List V}(hT:W.tabs=T)(r1:Reps X.K c vs ds)(h1:tG X E (Rep X.K) true O (eOpt (if ds.length=n then F ds else none)) g c fp σ H Q):spP X.K T n false F (vs++[]) H Q E0:=by
 subst hT;have S:=h1.1;obtain⟨d,e,k⟩:=h1.opt;rw[aQ]
 split at e
 ·rename_i hl
  refine⟨by rw[r1.l];exact hl,c,ds,S.core.trans hn_nil,S.tab,r1,d,e,fun v H' c' f ho co tb r=>?_⟩;obtain⟨S',F'⟩:=K_ S.toSE f ho co tb;exact k v H' c' fp (S.step F' S') F' r
 ·cases e
section
variable(hr:Room k X.A)(hg:Gl X x)(hm:X.mg x=some (.ref f))(hk:PySem.W.keepIn X.K (.ref f)=true)(hb:Binds X.K fd ps [])(hT:W.tabs=T:=by rfl)(hd:(x == ("__debug__":Str))=false:=by decide)
  (hs:starEach (e::es) X.env=(false,eval e X.env)::starEach es X.env:=by rfl)(hplain:(backTo pos (starEach es X.env)).any (·.1)=false:=by rfl)
include hr hg hm hk hb hT hd hs hplain
theorem yr(G:FnOk X.prog X.w X.K X.mg X.base CX0 k f fd ps (spP X.K T n false F))(ha:DA W E true X O (e::es) fs):DE W E true X O (.Call (.Name x p) (e::es) [] pos) (wz n F fs):=
 qy (Jq G hr hg hm hk hb .nil Jr ha.h hd hs hplain) fun σ H Q⟨g,c,fp,q⟩=>⟨g,c,fp,q.bind fun ds b vs H1 c1 fp1 S1 F1 r1 h1=>qb8 hT r1 h1⟩
end
end
def qbp:HO->Bool
 |.lst _=>true
 |.dK _=>true
 |.dT _=>true
 |_=>false
section
variable{W:Wo}{K:fL}{X:Cx}{E:En}{O O' O1 O2 OL:List Nat}{g:SS W}{b:W.BS}{σ:L2.St}{H H':Hp}{c c':Co}{fp fp':fP}{fr:Bool}{m m1 m2:Bool}{pos:Pos}{e a:Expr}{es:fU}
variable{fa fb fe:SS W->R W D}{fs:SS W->R W (List D)}{ta tb:SS W->R W Bool}
theorem SE.mut(S:SE W E b H c fp){a:Addr}(ha:H a=some u)(hu:qbp u=true)(hc:c.h a=none)(hf:a∉fp)(he:Hn E.H E.fp a=none):SE W E b (upd H a u') c fp:=by
 have ne:∀z∈fp,z≠a:=fun z hz q=>hf (q▸hz)
 refine⟨fun z w e=>?_,W.brS _ _ _ _ _ _ S.br (fun z hz=>qf (ne z hz)) (.refl _) rfl S.fpc,W.tabS _ _ S.tab fun z w e n1 n2 n3=>?_,fun z hz=>?_,S.obq,S.fr0.le,fun z w e=>?_,S.fr0.out,fun z e=>?_,S.fr0.nob⟩
 ·obtain⟨h1,h2,h3⟩:=Hn.of (S.core _ _ e)
  exact Hn.mk ((qf fun q=>by subst q;rw[hc]at e;cases e).trans h1) h2 h3
 ·refine(qf fun q=>?_).trans e
  subst q;rw[ha]at e;cases e;cases u <;> first|exact n1 _ rfl|exact n2 _ rfl|exact n3 _ rfl|cases hu
 ·obtain⟨w,e,q⟩:=S.fph z hz
  exact⟨w,(qf (ne z hz)).trans e,q⟩
 ·obtain⟨h1,h2,h3⟩:=Hn.of (S.fr0.nn _ _ e)
  refine Hn.mk ((qf fun q=>?_).trans h1) h2 h3;subst q;rw[he]at e;cases e
 ·apply S.fr0.th
  by_cases q:z=a
  ·subst q;rw[qi]at e;cases e
  ·rw[qf q]at e;exact e
theorem Xr{x:V}{d:D}{a:Addr}(o:OwnV K E H c fp x d)(h:k8 d=true->x≠.ref a):OwnV K E (upd H a u) c fp x d:=by
 cases d with
 |lst ds=>obtain⟨z,xs,e1,e2,e3,e4,e5,e6⟩:=o;exact⟨z,xs,e1,e2,e3,e4,(qf fun q=>h rfl (by rw[e1,q])).trans e5,e6⟩
 |dic ds=>obtain⟨z,xs,e1,e2,e3,e4,e5,e6⟩:=o;exact⟨z,xs,e1,e2,e3,e4,(qf fun q=>h rfl (by rw[e1,q])).trans e5,e6⟩
 |dit ds=>obtain⟨z,xs,e1,e2,e3,e4,e5,e6⟩:=o;exact⟨z,xs,e1,e2,e3,e4,(qf fun q=>h rfl (by rw[e1,q])).trans e5,e6⟩
 |non=>exact o
 |bl _=>exact o
 |int _=>exact o
 |str _=>exact o
 |tup _=>exact o
 |obj _=>exact o
 |scr _=>exact o
theorem SR.mutT(S:SR W K E O g σ H c fp){a:Addr}(ha:H a=some u)(hu:qbp u=true)(hc:c.h a=none)(hf:a∉fp)(he:Hn E.H E.fp a=none)(hE:E.H a≠none):SR W K E O g σ (upd H a u') c fp:=by
 refine⟨S.toSE.mut ha hu hc hf he,S.frz,fun j e hj hq=>?_,S.dis,S.len⟩;obtain⟨y,h1,h2⟩:=S.own j e hj hq;refine⟨y,h1,Xr h2 fun q z=>?_⟩;subst z;cases e with
 |lst ds=>obtain⟨z,xs,e1,e2,e3,e4,e5,e6⟩:=h2;cases e1;exact hE e4
 |dic ds=>obtain⟨z,xs,e1,e2,e3,e4,e5,e6⟩:=h2;cases e1;exact hE e4
 |dit ds=>obtain⟨z,xs,e1,e2,e3,e4,e5,e6⟩:=h2;cases e1;exact hE e4
 |_=>cases q
theorem SR.mut(S:SR W K E O g σ H c fp){i:Nat}{d d':D}{a:Addr}{u u':HO}(hi:i∈O)(hg:g.v[i]?=some (some d))(hm:k8 d=true)(hx:σ[i]?=some (some (.ref a)))(ha:H a=some u)(hu:qbp u=true)(hc:c.h a=none)(hf:a∉fp)(he:E.H a=none)(o:OwnV K E (upd H a u') c fp (.ref a) d') :
  SR W K E O (put g i d') σ (upd H a u') c fp:=by
 have hl:i<g.v.length:=(ai.mp hg).1;have other:∀{j:Nat}{e:D},j≠i->(g.v.set i (some d'))[j]?=some (some e)->g.v[j]?=some (some e):=fun hj h=>by rw[ay (bc hj)]at h;exact h
 have old:∀{j:Nat}{e:D},(g.v.set i (some d'))[j]?=some (some e)->k8 e=true->∃e',g.v[j]?=some (some e')/\k8 e'=true:=fun{j e} h q=>by
  by_cases hj:j=i
  ·subst hj;exact⟨d,hg,hm⟩
  ·exact⟨e,other hj h,q⟩
 refine⟨S.toSE.mut ha hu hc hf (kC he),fun j e hj hq=>?_,fun j e hj hq=>?_,fun j k d1 e b hj hk hjk h1 h2 m1 m2 h3 h4=>?_,by show(g.v.set i (some d')).length=_;rw[aS];exact S.len⟩
 ·have hji:j≠i:=fun z=>hj (z▸hi)
  exact S.frz j e hj (other hji hq)
 ·by_cases hji:j=i
  ·subst hji
   have hq:(g.v.set j (some d'))[j]?=some (some e):=hq;rw[aA hl]at hq;cases hq;exact⟨_,hx,o⟩
  ·obtain⟨y,h1,h2⟩:=S.own j e hj (other hji hq)
   refine⟨y,h1,Xr h2 fun q z=>?_⟩;subst z;exact S.dis j i e d a hj hi hji (other hji hq) hg q hm h1 hx
 ·obtain⟨e1,q1,q2⟩:=old h1 m1
  obtain⟨e2,q3,q4⟩:=old h2 m2;exact S.dis j k e1 e2 b hj hk hjk q1 q3 q2 q4 h3 h4
def W6(i:Nat)(k:D->SS W->Ou W):SS W->Ou W:=fun g=>match(g.v[i]?).join with
 |some d=>k d g
 |none=>.bad
theorem tSx.recv{fr:Bool}{i:Nat}{k:D->SS W->Ou W}(q:tSx X E fr OL O (W6 i k) O' g c fp Dn σ H):∃d,g.v[i]?=some (some d)/\tSx X E fr OL O (k d) O' g c fp Dn σ H:=by
 obtain⟨S,q⟩:=q;unfold W6 at q;cases e:(g.v[i]?).join with
 |none=>rw[e]at q;exact q.elim
 |some d=>rw[e]at q;exact⟨d,join_some e,S,q⟩
def big:Nat:=10000000
theorem xv{n:Nat}(h:n<big):n<sizeLine:=dm h (by decide)
def sPut(i:Nat)(o:Option D):SS W->Ou W:=fun g=>match o with
 |some d=>.nx (put g i d)
 |none=>.bad
theorem tSx.put{fr:Bool}{i:Nat}{o:Option D}{Dn:Ends}(q:tSx X E fr OL O (sPut i o) O' g c fp Dn σ H):∃d,o=some d/\∀σ' H' c' fp',SR W X.K E O' (put g i d) σ' H' c' fp'->Co.Le c c'->Dn.nx σ' H':=by
 cases o with
 |none=>exact q.2.elim
 |some d=>exact⟨d,rfl,q.2⟩
def sApp(i:Nat)(f:SS W->R W D):SS W->Ou W:=W6 i fun d=>match d with
 |.lst ds=>zc f fun y=>sPut i (if ds.length<big then some (.lst (ds++[y]))else none)
 |_=>fun _=>.bad
theorem Wh{i:Nat}{apos cpos:Pos}(hx:PE X a (tVar i))(hi:i∈O)(he:DE W E true X O e fe)
  (hbase:attributeBase a "append" X.env (eval a X.env)=eval a X.env:=by rfl)
  (hfew:((backTo cpos (starEach [e] X.env)).all (fun x=>!x.1) && (backToKw cpos (keywordEach [] X.env)).all (fun x=>x.1.isSome) && decide ([e].length+([]:List Keyword).length+(if([]:List Keyword).isEmpty then 0 else 1)<30))=true:=by rfl)
  (hline:(apos.endLine == cpos.line)=true:=by rfl)(hs:starEach [e] X.env=(false,eval e X.env)::starEach [] X.env:=by rfl)(hplain:(backTo cpos (starEach [] X.env)).any (·.1)=false:=by rfl)
  (hsw:swapsWith (.Call (.Attribute a "append" apos) [e] [] cpos) none pos.line X.env=pure false:=by rfl):DS W E fr OL X O (.Expr (.Call (.Attribute a "append" apos) [e] [] cpos) pos) (sApp i fe) O:=
 zT (Jm (Xo cO dq dr v_ hx (qr he.h zt hs) hbase hfew hline hs hplain) hsw) fun Dn σ H⟨g,c,fp,q⟩=>by
  obtain⟨d,hg,q1⟩:=q.recv;cases d with
  |lst ds=>
   obtain⟨v,hv,o⟩:=q.1.own i _ hi hg;obtain⟨z,xs,rfl,hc,hf,he',hh,rs⟩:=id o;refine⟨_,hv,.inl ⟨rfl,_,SqL.of hh⟩,g,c,fp,q1.bind fun y b vy H1 c1 fp1 F1 r1 q2=>?_⟩;obtain⟨d',ed,k⟩:=q2.put;obtain⟨hl,rfl⟩:=ja ed;obtain⟨z',xs',ez,hc',hf',he'',hh',rs'⟩:=o.step F1;cases ez;refine⟨z,xs',vy,rfl,rfl,hh',by rw[rs'.l];exact xv hl,k σ _ c1 fp1 (q2.1.mut hi hg rfl hv hh' rfl hc' hf' he'' ⟨z,_,rfl,hc',hf',he'',qi,rs'.append (.cons r1 .nil)⟩) (.refl _)⟩
  |_=>exact q1.2.elim
def putD{κ:Type}[DecidableEq κ](kvs:List (κ×D))(k:κ)(v:D):List (κ×D):=if(kvs.any fun kv=>decide (kv.1=k))=true then kvs.map fun kv=>if kv.1=k then(kv.1,v)else kv else kvs++[(k,v)]
theorem Xb[DecidableEq κ]{ys:List (κ×V)}{kvs:List (κ×D)}{k:κ}{d:D}(l:ys.map (·.1)=kvs.map (·.1))(r:Reps K c (ys.map (·.2)) (kvs.map (·.2)))(rv:Rep K c v d):(putK ys k v).map (·.1)=(putD kvs k d).map (·.1)/\Reps K c ((putK ys k v).map (·.2)) ((putD kvs k d).map (·.2)):=by
 have ea:(ys.any fun kv=>decide (kv.1=k))=(kvs.any fun kv=>decide (kv.1=k)):=by
  have h1:(ys.any fun kv=>decide (kv.1=k))=(ys.map (·.1)).any fun z=>decide (z=k):=by rw[List.any_map];rfl
  have h2:(kvs.any fun kv=>decide (kv.1=k))=(kvs.map (·.1)).any fun z=>decide (z=k):=by rw[List.any_map];rfl
  rw[h1,h2,l]
 unfold putK putD;rw[ea]
 split
 ·rename_i h0
  clear ea h0
  induction ys generalizing kvs with
  |nil=>cases kvs with
   |nil=>exact⟨rfl,.nil⟩
   |cons q kvs=>cases l
  |cons p ys ih=>cases kvs with
   |nil=>cases l
   |cons q kvs=>
    simp only[a9,cX]at l;obtain⟨hk,l⟩:=l;obtain⟨w,t,e,r1,r2⟩:=Reps.uncons (show Reps K c (p.2::ys.map (·.2)) (q.2::kvs.map (·.2))from r);cases e;obtain⟨i1,i2⟩:=ih l r2
    by_cases hq:q.1=k
    ·have hp:p.1=k:=hk.trans hq
     simp only[a9,aH hq,aH hp];exact⟨by rw[hk,i1],.cons rv i2⟩
    ·have hp:¬ p.1=k:=fun z=>hq (hk.symm.trans z)
     simp only[a9,aG hq,aG hp];exact⟨by rw[hk,i1],.cons r1 i2⟩
 ·rw[bz,bz,bz,bz,l]
  exact⟨rfl,r.append (.cons rv .nil)⟩
theorem Zz[DecidableEq κ]{kvs:List (κ×D)}{k:κ}{d:D}(h:(kvs.map (·.1)).Nodup):((putD kvs k d).map (·.1)).Nodup:=by
 unfold putD
 split
 ·rw[List.map_map]
  have:(Prod.fst ∘ fun kv:κ×D=>if kv.1=k then(kv.1,d)else kv)=Prod.fst:=by
   funext p
   show(if p.1=k then(p.1,d)else p).1=p.1
   split <;> rfl
  rw[this];exact h
 ·rename_i q
  rw[bz,f7];refine⟨h,by simp,fun z hz y hy=>?_⟩;simp only[a9,cf,cT]at hy;subst hy;obtain⟨p,hp,rfl⟩:=aZ.mp hz;exact fun w=>q (dW.mpr ⟨p,hp,by simpa using w⟩)
def gD(W:Wo)(K:fL)(E:En)(O:List Nat)(p:D->SS W->Option (SS W))(O':List Nat):TG:=fun v σ H Q=>∃g c fp d g',SR W K E O g σ H c fp/\Rep K c v d/\p d g=some g'/\g'.b=g.b/\∀σ',SR W K E O' g' σ' H c fp->Q σ' H
def DGx(X:Cx)(W:Wo)(E:En)(O:List Nat)(tg:Expr)(p:D->SS W->Option (SS W))(O':List Nat):Prop:=Wr (PG X tg (gD W X.K E O p O'))
abbrev DG(W:Wo)(E:En)(X:Cx)(O:List Nat)(tg:Expr)(p:D->SS W->Option (SS W))(O':List Nat):Prop:=DGx X W E O tg p O'
def DGsx(X:Cx)(W:Wo)(E:En)(O:List Nat)(ts:fU)(p:List D->SS W->Option (SS W))(O':List Nat):Prop:=Wr (PGs X ts fun vs σ H Q=>∃g c fp ds g',SR W X.K E O g σ H c fp/\Reps X.K c vs ds/\p ds g=some g'/\g'.b=g.b/\∀σ',SR W X.K E O' g' σ' H c fp->Q σ' H)
abbrev DGs(W:Wo)(E:En)(X:Cx)(O:List Nat)(ts:fU)(p:List D->SS W->Option (SS W))(O':List Nat):Prop:=DGsx X W E O ts p O'
theorem Jp{t t':TG}(h:PG X tg t)(w:∀v σ H Q,t' v σ H Q->t v σ H Q):Wr (PG X tg t'):=⟨fun pins s σ H v u Q I r q=>h pins s σ H v u Q I r (w v σ H Q q)⟩
theorem Kj{t t':TGs}(h:PGs X ts t)(w:∀v σ H Q,t' v σ H Q->t v σ H Q):Wr (PGs X ts t'):=⟨fun pins s σ H v u Q I r q=>h pins s σ H v u Q I r (w v σ H Q q)⟩
def qA(i:Nat):D->SS W->Option (SS W):=fun d g=>some (put g i d)
theorem qz{i:Nat}(h:PG X e (Y0 i)):DG W E X O e (qA i) (O.filter (·≠i)):=Jp h fun v σ H Q⟨g,c,fp,d,g',S,r,e,_,k⟩=>by
 cases e;exact k _ (S.set r)
def pNil:List D->SS W->Option (SS W):=fun ds g=>match ds with|[]=>some g|_=>none
def qM(p:D->SS W->Option (SS W))(ps:List D->SS W->Option (SS W)):List D->SS W->Option (SS W):=fun ds g=>match ds with|d::r=>(p d g).bind (ps r)|[]=>none
def wA(p:D->SS W->Option (SS W)):Prop:=∀d g g',p d g=some g'->g'.b=g.b
theorem qd{i:Nat}:wA (W:=W) (qA i):=fun d g g' e=>by cases e;rfl
theorem kE:DGs W E X O [] pNil O:=Kj Xl fun v σ H Q⟨g,c,fp,ds,g',S,r,e,_,k⟩=>by
 cases ds with
 |nil=>cases e;exact⟨r.unnil,k σ S⟩
 |cons=>cases e
theorem qB{p:D->SS W->Option (SS W)}{ps:List D->SS W->Option (SS W)}(kp:wA p)(h1:DG W E X O e p O1)(h2:DGs W E X O1 ts ps O')(hs:(assignEach (e::ts) X.env).map (·.2)=assign e X.env::(assignEach ts X.env).map (·.2):=by rfl):DGs W E X O (e::ts) (qM p ps) O':=Kj (Qm h1.h h2.h hs) fun v σ H Q⟨g,c,fp,ds,g',S,r,e,eb,k⟩=>by
 cases ds with
 |nil=>cases e
 |cons d ds=>
  obtain⟨x,t,rfl,r1,r2⟩:=r.uncons;unfold qM at e;cases q:p d g with
  |none=>simp only[q]at e;cases e
  |some g1=>
   simp only[q]at e;have b1:=kp _ _ _ q;exact⟨x,t,rfl,g,c,fp,d,g1,S,r1,q,b1,fun σ' S'=>⟨g1,c,fp,ds,g',S',r2,e,eb.trans b1.symm,k⟩⟩
def pTup(n:Nat)(ps:List D->SS W->Option (SS W)):D->SS W->Option (SS W):=fun d g=>match d with|.tup ds=>if ds.length=n then ps ds g else none|_=>none
theorem wc{n k:Nat}{ps:List D->SS W->Option (SS W)}(hc:X.calm=true)(h:DGs W E X O ts ps O')(hn:(assignEach ts X.env).length=n:=by rfl)(hst:(assignEach ts X.env).findIdx? (·.1)=none:=by rfl):DG W E X O (.Tuple ts k pos) (pTup n ps) O':=Jp (qdo hc h.h hn hst) fun v σ H Q⟨g,c,fp,d,g',S,r,e,eb,kk⟩=>by
 cases r with
 |@tup z xs ds ex l rr=>
  have e:(if ds.length=n then ps ds g else none)=some g':=e
  split at e
  ·rename_i hl
   exact⟨z,xs,rfl,SqT.of (S.toSE.all (m:=true) _ _ ex),by rw[l];exact hl,g,c,fp,ds,g',S,⟨l,rr⟩,e,eb,kk⟩
  ·cases e
 |_=>cases e
theorem jH{n:Nat}{ps:List D->SS W->Option (SS W)}(h:∀ds g g',ps ds g=some g'->g'.b=g.b):wA (W:=W) (pTup n ps):=fun d g g' e=>by
 cases d with
 |tup ds=>
  have e:(if ds.length=n then ps ds g else none)=some g':=e
  split at e
  ·exact h _ _ _ e
  ·cases e
 |_=>cases e
theorem z5:∀ds g g',pNil (W:=W) ds g=some g'->g'.b=g.b:=fun ds g g' e=>by
 cases ds with
 |nil=>cases e;rfl
 |cons=>cases e
theorem qu{p:D->SS W->Option (SS W)}{ps:List D->SS W->Option (SS W)}(kp:wA p)(h:∀ds g g',ps ds g=some g'->g'.b=g.b):∀ds g g',qM p ps ds g=some g'->g'.b=g.b:=fun ds g g' e=>by
 cases ds with
 |nil=>cases e
 |cons d ds=>
  unfold qM at e;cases q:p d g with
  |none=>simp only[q]at e;cases e
  |some g1=>simp only[q]at e;exact(h _ _ _ e).trans (kp _ _ _ q)
def sAsg(p:D->SS W->Option (SS W))(f:SS W->R W D):SS W->Ou W:=zc f fun d g=>match p d g with
 |some g'=>.nx g'
 |none=>.bad
theorem KM{p:D->SS W->Option (SS W)}(kp:wA p)(he:DE W E true X O e fe)(hg:DG W E X O tg p O')(hs:swapsWithSole [tg] e pos.line X.env=pure false:=by rfl)(hw:swappedStores [tg] e X.env=pure none:=by rfl)(h1:(assignEach [tg] X.env).map (·.2)=[assign tg X.env]:=by rfl) :
  DS W E fr OL X O (.Assign [tg] e pos) (sAsg p fe) O':=zT (qdk he.h hg.h hs hw h1) fun Dn σ H⟨g,c,fp,q⟩=>⟨g,c,fp,q.bind fun d b v H1 c1 fp1 F1 r1 q1=>by
 obtain⟨S1,q1⟩:=q1;cases e:p d ⟨g.v,b⟩with
 |none=>simp only[e]at q1;exact q1.elim
 |some g'=>
  simp only[e]at q1;exact⟨_,c1,fp1,d,g',S1,r1,e,kp _ _ _ e,fun σ' S'=>q1 σ' H1 c1 fp1 S' (.refl _)⟩⟩
structure Walk(K:fL)(J:It)(c:Co)(ds:List D):Prop where
 go:∀i H1 c1,Co.Le c c1->Same c1.h H1->i<ds.length->J.go i H1/\∀x H2,J.yld i H1 x H2->∃d,ds[i]?=some d/\((H2=H1/\Rep K c1 x d)\/∃p u,H1 p=none/\isT u=false/\H2=upd H1 p u/\Rep K (c1.add p u) x d)
 stop:∀i H1 c1,Co.Le c c1->Same c1.h H1->ds.length<=i->J.stop i H1
def tI(X:Cx)(E:En)(O:List Nat)(f:SS W->R W (List D))(g:SS W)(c:Co)(fp:fP)(σ:L2.St)(H:Hp)(Rr:It->Hp->Prop):Prop:=
 SR W X.K E O g σ H c fp/\match f g with
  |.ok ds b=>∀J H' c' fp',SR W X.K E O ⟨g.v,b⟩ σ H' c' fp'->FR H c fp H' c' fp'->Walk X.K J c' ds->Rr J H'
  |.exc x b=>∀ev s' H' c' fp',Inv X [] σ H' s'->SR W X.K E O ⟨g.v,b⟩ σ H' c' fp'->FR H c fp H' c' fp'->W.EX X x ev s' H' c'->X.xe ev s'
  |.bad=>False
def DIx(X:Cx)(W:Wo)(E:En)(O:List Nat)(tg iter:Expr)(f:SS W->R W (List D)):Prop:=Wr (PI X tg iter fun σ H Rr=>∃g c fp,tI X E O f g c fp σ H Rr)
abbrev DI(W:Wo)(E:En)(X:Cx)(O:List Nat)(tg iter:Expr)(f:SS W->R W (List D)):Prop:=DIx X W E O tg iter f
theorem xD{t t':TI}(h:PI X tg iter t)(w:∀σ H Rr,t' σ H Rr->t σ H Rr):Wr (PI X tg iter t'):=⟨fun pins s σ H Rr I q=>h pins s σ H Rr I (w σ H Rr q)⟩
theorem PI.or{t t':TI}(h:PI X tg iter t)(h':PI X tg iter t'):PI X tg iter (fun σ H Rr=>t σ H Rr\/t' σ H Rr):=fun pins s σ H Rr I q=>q.elim (h pins s σ H Rr I) (h' pins s σ H Rr I)
theorem tI.bind{rel:Co->ν->α->Prop}{f:SS W->R W α}{k:α->SS W->R W (List D)}{Q:ν->Hp->Prop}(h:tI X E O (ql f k) g c fp σ H Rr)
  (cont:∀d b v H1 c1 fp1,SR W X.K E O ⟨g.v,b⟩ σ H1 c1 fp1->FR H c fp H1 c1 fp1->rel (cm m H1 c1 fp1) v d->tI X E O (k d) ⟨g.v,b⟩ c1 fp1 σ H1 Rr->Q v H1):tG X E rel m O f g c fp σ H Q:=by
 obtain⟨S,h⟩:=h;unfold ql at h;refine⟨S,?_⟩;cases e:f g with
 |bad=>rw[e]at h;exact h
 |exc x b=>rw[e]at h;exact h
 |ok d b=>
  rw[e]at h;intro v H1 c1 fp1 S1 F1 r1;refine cont d b v H1 c1 fp1 S1 F1 r1 ⟨S1,?_⟩;have h:match k d ⟨g.v,b⟩with
   |.ok ds b=>∀J H' c' fp',SR W X.K E O ⟨g.v,b⟩ σ H' c' fp'->FR H c fp H' c' fp'->Walk X.K J c' ds->Rr J H'
   |.exc x b=>∀ev s' H' c' fp',Inv X [] σ H' s'->SR W X.K E O ⟨g.v,b⟩ σ H' c' fp'->FR H c fp H' c' fp'->W.EX X x ev s' H' c'->X.xe ev s'
   |.bad=>False:=h
  cases e2:k d ⟨g.v,b⟩with
  |bad=>rw[e2]at h;exact h
  |exc x b2=>rw[e2]at h;exact fun ev s' H' c' fp' I S' F' x'=>h ev s' H' c' fp' I S' (F1.trans F') x'
  |ok d2 b2=>rw[e2]at h;exact fun J H' c' fp' S' F' w=>h J H' c' fp' S' (F1.trans F') w
theorem tI.opt{o:Option (List D)}(h:tI X E O (eOpt o) g c fp σ H Rr):∃ds,o=some ds/\∀J H' c' fp',SR W X.K E O g σ H' c' fp'->FR H c fp H' c' fp'->Walk X.K J c' ds->Rr J H':=by
 cases o with
 |none=>exact h.2.elim
 |some ds=>exact⟨ds,rfl,h.2⟩
def qad:D->Option (List D)
 |.lst ds=>some ds
 |.tup ds=>some ds
 |_=>none
theorem VI{z:Addr}{ds:List D}(e:c.h z=some (.lst xs))(r:Reps K c xs ds):Walk K (Itl K z) c ds:=by
 refine⟨fun i H1 c1 le s hi=>?_,fun i H1 c1 le s hi=>⟨xs,SqL.of (s _ _ (le.h _ _ e)),by rw[r.l];exact hi⟩⟩;have hx:i<xs.length:=by rw[r.l];exact hi
 have sq:SqL K H1 z xs:=SqL.of (s _ _ (le.h _ _ e));refine⟨⟨xs,xs[i],sq,aa hx⟩,fun x H2⟨eH,y⟩=>⟨ds[i],aa hi,.inl ⟨eH,?_⟩⟩⟩;exact(r.mono le).r i x _ (y xs sq) (aa hi)
theorem WY{z:Addr}{ds:List D}(e:c.h z=some (.tup xs))(r:Reps K c xs ds):Walk K (Itt K z) c ds:=by
 refine⟨fun i H1 c1 le s hi=>?_,fun i H1 c1 le s hi=>⟨xs,SqT.of (s _ _ (le.h _ _ e)),by rw[r.l];exact hi⟩⟩;have hx:i<xs.length:=by rw[r.l];exact hi
 have sq:SqT K H1 z xs:=SqT.of (s _ _ (le.h _ _ e));refine⟨⟨xs,xs[i],sq,aa hx⟩,fun x H2⟨eH,y⟩=>⟨ds[i],aa hi,.inl ⟨eH,?_⟩⟩⟩;exact(r.mono le).r i x _ (y xs sq) (aa hi)
def iSeq(f:SS W->R W D):SS W->R W (List D):=ql f fun d=>eOpt (qad d)
theorem ZX(h:DE W E true X O e fe):DI W E X O tg e (iSeq fe):=xD (PI.or (qat h.h) (qdn h.h)) fun σ H Rr⟨g,c,fp,q⟩=>by
 obtain⟨S,q⟩:=q;have q0:tI X E O (iSeq fe) g c fp σ H Rr:=⟨S,q⟩;unfold iSeq ql at q;cases ef:fe g with
 |bad=>rw[ef]at q;exact q.elim
 |exc y b=>exact .inl ⟨g,c,fp,S,by rw[ef]at q ⊢;exact q⟩
 |ok d b=>
  rw[ef]at q;cases d with
  |lst ds=>exact .inl ⟨g,c,fp,S,by rw[ef];intro v H1 c1 fp1 S1 F1 r1;cases r1 with|lst ex l r=>exact⟨_,rfl,⟨_,SqL.of (S1.toSE.all (m:=true) _ _ ex)⟩,q _ H1 c1 fp1 S1 F1 (VI ex ⟨l,r⟩)⟩⟩
  |tup ds=>exact .inr ⟨g,c,fp,S,by rw[ef];intro v H1 c1 fp1 S1 F1 r1;cases r1 with|tup ex l r=>exact⟨_,rfl,⟨_,SqT.of (S1.toSE.all (m:=true) _ _ ex)⟩,q _ H1 c1 fp1 S1 F1 (WY ex ⟨l,r⟩)⟩⟩
  |_=>exact q.elim
def rngD(lo:Int)(n:Nat):List D:=(List.range n).map fun(k:Nat)=>D.int (lo+(k:Int))
theorem WZ{lo:Int}{n:Nat}:Walk K (Itr lo n) c (rngD lo n):=by
 have hl:(rngD lo n).length=n:=by unfold rngD;rw[ak,List.length_range]
 refine⟨fun i H1 c1 le s hi=>?_,fun i H1 c1 le s hi=>by rw[hl]at hi;exact hi⟩;rw[hl]at hi;refine⟨hi,fun x H2⟨eH,ex⟩=>⟨.int (lo+(i:Int)),?_,.inl ⟨eH,by rw[ex];exact .int _⟩⟩⟩;unfold rngD;rw[aq,eP hi];rfl
def rng1:List D->Option (List D)
 |[.int j]=>if -(2 ^ 62)<=j/\j<2 ^ 62 then some (rngD 0 j.toNat)else none
 |_=>none
def zX(fs:SS W->R W (List D)):SS W->R W (List D):=ql fs fun ds=>eOpt (rng1 ds)
theorem jD{x:Expr}{p:Pos}(hg:Gl X "range")(hm:X.mg "range"=none)(ha:DA W E m X O [x] fs)(hs:starEach [x] X.env=[(false,eval x X.env)]:=by rfl):DI W E X O tg (.Call (.Name "range" p) [x] [] pos) (zX fs):=xD (Xk hg hm ha.h hs) fun σ H Rr⟨g,c,fp,q⟩=>⟨g,c,fp,q.bind (rel:=Reps X.K) fun ds b vs H1 c1 fp1 S1 F1 r1 h1=>by
 obtain⟨l,el,k⟩:=h1.opt;cases ds with
 |nil=>cases el
 |cons d ds=>
  cases d with
  |int j=>
   cases ds with
   |nil=>
    obtain⟨y,t,rfl,r2,r3⟩:=r1.uncons;cases Qi r2;cases r3.unnil;obtain⟨hb,rfl⟩:=ja el;exact⟨j,rfl,hb.1,hb.2,k _ H1 c1 fp1 S1 .refl WZ⟩
   |cons=>cases el
  |_=>cases el⟩
def forD(p:D->SS W->Option (SS W))(f:SS W->Ou W):List D->SS W->Ou W
 |[],g=>.nx g
 |d::ds,g=>match p d g with
  |none=>.bad
  |some g1=>match f g1 with
   |.nx g2=>forD p f ds g2
   |.ct g2=>forD p f ds g2
   |.bk g2=>.nx g2
   |.rt d b=>.rt d b
   |.ex x g2=>.ex x g2
   |.bad=>.bad
def sFor(fi:SS W->R W (List D))(p:D->SS W->Option (SS W))(f:SS W->Ou W):SS W->Ou W:=zc fi fun ds=>forD p f ds
theorem tSx.bindI{fr:Bool}{fi:SS W->R W (List D)}{k:List D->SS W->Ou W}(q:tSx X E fr OL O (zc fi k) O' g c fp Dn σ H)
  (cont:∀ds b J H1 c1 fp1,Walk X.K J c1 ds->tSx X E fr OL O (k ds) O' ⟨g.v,b⟩ c1 fp1 Dn σ H1->Rr J H1):tI X E O fi g c fp σ H Rr:=by
 obtain⟨S,q⟩:=q;refine⟨S,?_⟩;unfold zc at q;cases e:fi g with
 |bad=>rw[e]at q;exact q
 |exc x b=>
  rw[e]at q;intro ev s' H' c' fp' I S' F' x';obtain⟨c2,l2,S2⟩:=S'.freeze (O':=[]) (fun i h=>nomatch h);exact q ev σ s' H' c2 fp' I S2 (F'.le.trans l2) (W.exS _ _ _ _ _ _ _ x' l2)
 |ok ds b=>
  rw[e]at q;exact fun J H1 c1 fp1 S1 F1 w=>cont ds b J H1 c1 fp1 w ⟨S1,q.mono F1.le⟩
theorem SR.yield(S:SR W K E O g σ H c fp){x:V}{d:D}(h:(H'=H/\Rep K c x d)\/∃p u,H p=none/\isT u=false/\H'=upd H p u/\Rep K (c.add p u) x d):∃c',SR W K E O g σ H' c' fp/\Rep K c' x d/\Co.Le c c'/\FR H c fp H' c' fp:=by
 rcases h with⟨rfl,r⟩|⟨p,u,hp,hu,rfl,r⟩
 ·exact⟨c,S,r,.refl _,.refl⟩
 ·exact⟨c.add p u,S.new hp hu,r,Co.add_le (S.toSE.free hp).1,FR.new S.toSE hp u⟩
theorem qep{fi:SS W->R W (List D)}{p:D->SS W->Option (SS W)}{f:SS W->Ou W}(kp:wA p)(q:tSx X E fr OL O (sFor fi p f) O g c fp Dn σ H):tFor (fun σ H Rr=>tI X E O fi g c fp σ H Rr) (gD W X.K E O p O1) (tS X E fr O O1 f O) Dn σ H:=q.bindI fun ds b J H1 c1 fp1 w q1=>by
 have all:∀{g:SS W}{σ:L2.St}{H:Hp}{c:Co}{fp:fP},SR W X.K E O g σ H c fp->Same c.h H:=fun S=>S.toSE.all (m:=true)
 refine⟨fun i mm σ2 H2=>mm=ds.length - i/\i<=ds.length/\∃g2 c2 fp2,Co.Le c1 c2/\tSx X E fr OL O (forD p f (ds.drop i)) O g2 c2 fp2 Dn σ2 H2,⟨ds.length,by simp,bW _,_,c1,fp1,.refl _,by rw[eZ];exact q1⟩,?_⟩;rintro i mm σ2 H2 ⟨rfl,hi',g2,c2,fp2,le,S2,q2⟩
 by_cases hlt:i<ds.length
 ·right
  obtain⟨go,yl⟩:=w.go i H2 c2 le (all S2) hlt;refine⟨go,fun σ3 H3=>∃m',m'<ds.length - i/\m'=ds.length - (i+1)/\i+1<=ds.length/\∃g2 c2 fp2,Co.Le c1 c2/\tSx X E fr OL O (forD p f (ds.drop (i+1))) O g2 c2 fp2 Dn σ3 H3,fun σ3 H3 h=>h,fun x H3 y=>?_⟩;obtain⟨d,hd,yy⟩:=yl x H3 y;obtain⟨c3,S3,r3,le3,_⟩:=S2.yield yy;have ed:ds.drop i=d::ds.drop (i+1):=by
   obtain⟨h1,h2⟩:=ai.mp hd;rw[<- h2];exact dg h1
  rw[ed]at q2;unfold forD at q2;cases ep:p d g2 with
  |none=>simp only[ep]at q2;exact q2.elim
  |some g3=>
   simp only[ep]at q2;refine⟨g2,c3,fp2,d,g3,S3,r3,ep,kp _ _ _ ep,fun σ4 S4=>⟨g3,c3,fp2,S4,?_⟩⟩;have next:∀{g5:SS W}{σ5:L2.St}{H5:Hp}{c5:Co}{fp5:fP},Co.Le c3 c5->SR W X.K E O g5 σ5 H5 c5 fp5->tSq X E fr OL O Dn c2 (forD p f (ds.drop (i+1)) g5)->∃m',m'<ds.length - i/\m'=ds.length - (i+1)/\i+1<=ds.length/\∃g2 c2 fp2,Co.Le c1 c2/\tSx X E fr OL O (forD p f (ds.drop (i+1))) O g2 c2 fp2 Dn σ5 H5:=
    fun l5 S5 q5=>⟨_,by omega,rfl,hlt,_,_,_,(le.trans le3).trans l5,S5,q5.mono (le3.trans l5)⟩
   cases ef:f g3 with
   |nx g5=>simp only[ef]at q2;exact fun σ5 H5 c5 fp5 S5 l5=>next l5 S5 q2
   |ct g5=>simp only[ef]at q2;exact fun σ5 H5 c5 fp5 S5 l5=>next l5 S5 q2
   |bk g5=>simp only[ef]at q2;exact fun σ5 H5 c5 fp5 S5 l5=>q2 σ5 H5 c5 fp5 S5 (le3.trans l5)
   |rt d5 b5=>simp only[ef]at q2;exact q2
   |ex x5 g5=>simp only[ef]at q2;exact fun ev σ' s' H' c' fp' I S' l' x'=>q2 ev σ' s' H' c' fp' I S' (le3.trans l') x'
   |bad=>simp only[ef]at q2;exact q2
 ·left
  have e:i=ds.length:=by omega
  subst e;rw[List.drop_length]at q2;exact⟨w.stop _ H2 c2 le (all S2) (aj _),q2 σ2 H2 c2 fp2 S2 (.refl _)⟩
theorem xq{fi:SS W->R W (List D)}{p:D->SS W->Option (SS W)}{body:List Stmt}{f:SS W->Ou W}(hp:PassesOwn (model X.prog X.w) X.A X.env X.xe)(hc:X.calm=true)(kp:wA p)(hi:DI W E X O tg iter fi)(hg:DG W E X O tg p O1)(hb:DSs W E fr O X O1 body f O)
  (hs:∀x,foldedSetIterable iter X.env x=pure x:=by intro _;rfl):DS W E fr OL X O (.For tg iter body [] pos) (sFor fi p f) O:=zT (qdi hp hc hi.h hg.h hb.h hs) fun Dn σ H⟨g,c,fp,q⟩=>⟨g,c,fp,qep kp q⟩
end
end M
namespace X2
open PySem PySem.Spec PyProof.Rows L2
theorem qan{X:Cx}{elt tg iter:Expr}{ifs:fU}{scope:Scope}{pos spos py:Pos}{cl:List (Str×Addr)}{T caps:fT}{ix:List Nat}{wi:TI}{g:TG}{tt:TT}{te:TE}{i:Nat}{y:Str}(hN:X.N.Nodup)(hi':X.N[i]?=some y)(hx:Loc X.env.scope y)
  (O:CompOk X scope cl T caps ix)(hc:X.calm=true)(hi:PI X tg iter wi)(hg:∀C s H fp,PG (qW X scope cl (T++caps) C s H fp) tg g)(ht:∀C s H fp,PTs (qW X scope cl (T++caps) C s H fp) ifs tt)
  (he:∀C s H fp,PE (qW X scope cl (T++caps) C s H fp) elt te)(hs:∀x,foldedSetIterable iter X.env x=pure x:=by intro _;rfl)
  (hsw:swapsWith (.ListComp elt [⟨tg,iter,ifs,0⟩] scope pos) (some (.Name y py)) spos.line X.env=pure true:=by rfl)
  (hf:X.fn y=true\/X.env.scope.names.lookup y=some .local:=by first|exact .inl rfl|exact .inr rfl|assumption) :
  PS X (.Assign [.Name y py] (.ListComp elt [⟨tg,iter,ifs,0⟩] scope pos) spos) (tAsg (K7 wi g tt te T ix) (Y0 i)):=by
 intro pins s σ H D I h;rw[exec_Assign_Name_used _ _ _ _ hsw];refine ae (eh (ae ?_));show wpAny _ X.A (do let _ <- comprehension (.ListComp elt [⟨tg,iter,ifs,0⟩] scope pos) scope X.env _ (newList []) false (eval iter X.env) (some (assign (.Name y py) X.env))) _ _ s;refine ae (bh (kF (QQ:=fun _ s'=>SP X pins D .next s') O (fun _ _ _=>hc) hi (fun C s H fp _=>hg C s H fp) ht he hs I h ?_) (fun _ s' hq=>ax (ax hq)) fun _ _ e=>e);intro A C H3 s4 m B hm nC cL cs cc cp q;show wpAny _ _ (assign (.Name y py) X.env (.ref A)) _ _ _;refine wpAny_assign_Name (Zc B hN hi' hx (v:=.ref A) rfl (fun s5 I5 hsb=>?_) hf);obtain⟨a,sb,ha⟩:=hsb;have ne:C≠a:=by
  rcases ha with z|z
  ·rw[z];exact cL
  ·exact(cc _ _ z).symm
 refine⟨m,hm.sameBut sb ne,fun h' hs'=>?_⟩;exact⟨_,H3,I5.turned (t':=s5.toks) (it:=C) (fun b o hb e=>hs'.extBut b o hb e) nC cL (.inr cs) cc cp,q⟩
end X2
namespace M
open PySem PySem.Spec PyProof.Rows L2 X2
variable{T:fT}{ix:List Nat}{q:Nat}{Q:VK}
section
variable{W:Wo}{K:fL}{X:Cx}{E:En}{O O' O1 O2 OL:List Nat}{g:SS W}{b:W.BS}{σ:L2.St}{H H':Hp}{c c':Co}{fp fp':fP}{fr:Bool}{m m1 m2:Bool}{pos:Pos}{e a:Expr}{es:fU}
variable{fa fb fe:SS W->R W D}{fs:SS W->R W (List D)}{ta tb:SS W->R W Bool}
def xP(t:SS W->R W Bool)(f:SS W->Ou W):Nat->SS W->Ou W
 |0,_=>.bad
 |n+1,g=>match t g with
  |.ok true b=>(match f ⟨g.v,b⟩with
   |.nx g2=>xP t f n g2
   |.ct g2=>xP t f n g2
   |.bk g2=>.nx g2
   |.rt d b=>.rt d b
   |.ex x g2=>.ex x g2
   |.bad=>.bad)
  |.ok false b=>.nx ⟨g.v,b⟩
  |.exc x b=>.ex x ⟨g.v,b⟩
  |.bad=>.bad
def Vw:Nat:=5000000
def Zj(t:SS W->R W Bool)(f:SS W->Ou W):SS W->Ou W:=fun g=>xP t f Vw g
theorem KL{tst:Expr}{body:List Stmt}{t:SS W->R W Bool}{f:SS W->Ou W}(hp:PassesOwn (model X.prog X.w) X.A X.env X.xe)(ht:DT W E X O tst t)(hb:DSs W E fr O X O body f O):DS W E fr OL X O (.While tst body [] pos) (Zj t f) O:=zT (Ye hp ht.h hb.h) fun Dn σ H⟨g,c,fp,S,q⟩=>by
 refine⟨fun n σ2 H2=>∃g2 c2 fp2,SR W X.K E O g2 σ2 H2 c2 fp2/\tSq X E fr OL O Dn c2 (xP t f n g2),⟨Vw,g,c,fp,S,q⟩,?_⟩;rintro n σ2 H2 ⟨g2,c2,fp2,S2,q2⟩;cases n with
 |zero=>exact q2.elim
 |succ n=>
  refine⟨g2,c2,fp2,S2,?_⟩;unfold xP at q2;cases et:t g2 with
  |bad=>simp only[et]at q2;exact q2
  |exc x b=>
   simp only[et]at q2;intro ev s' H' c' fp' I S' F' x';obtain⟨c3,l3,S3⟩:=S'.freeze (O':=[]) (fun i h=>nomatch h);exact q2 ev σ2 s' H' c3 fp' I S3 (F'.le.trans l3) (W.exS _ _ _ _ _ _ _ x' l3)
  |ok k b=>
   intro v H3 c3 fp3 S3 F3 r3;have r3:v=k:=r3;subst r3;cases v with
   |false=>simp only[et]at q2;exact q2 σ2 H3 c3 fp3 S3 F3.le
   |true=>
    simp only[et]at q2;show if true=true then _ else _
    rw[aH rfl];refine⟨fun σ4 H4=>∃m',m'<n+1/\∃g2 c2 fp2,SR W X.K E O g2 σ4 H4 c2 fp2/\tSq X E fr OL O Dn c2 (xP t f m' g2),fun _ _ h=>h,⟨_,c3,fp3,S3,?_⟩⟩;cases ef:f ⟨g2.v,b⟩with
    |nx g5=>simp only[ef]at q2;exact fun σ5 H5 c5 fp5 S5 l5=>⟨n,cQ _,g5,c5,fp5,S5,q2.mono (F3.le.trans l5)⟩
    |ct g5=>simp only[ef]at q2;exact fun σ5 H5 c5 fp5 S5 l5=>⟨n,cQ _,g5,c5,fp5,S5,q2.mono (F3.le.trans l5)⟩
    |bk g5=>simp only[ef]at q2;exact fun σ5 H5 c5 fp5 S5 l5=>q2 σ5 H5 c5 fp5 S5 (F3.le.trans l5)
    |rt d5 b5=>simp only[ef]at q2;exact q2
    |ex x5 g5=>simp only[ef]at q2;exact fun ev σ' s' H' c' fp' I S' l' x'=>q2 ev σ' s' H' c' fp' I S' (F3.le.trans l') x'
    |bad=>simp only[ef]at q2;exact q2
def capD(T:Nat)(ix:List Nat)(g:SS W):SS W:=⟨List.replicate T none++ix.map (fun i=>(g.v[i]?).join),g.b⟩
def k_(p:D->SS W->Option (SS W))(t:SS W->R W Bool)(f:SS W->R W D):List D->SS W->List D->R W (List D)
 |[],g,acc=>.ok acc g.b
 |d::ds,g,acc=>match p d g with
  |none=>.bad
  |some g1=>match t g1 with
   |.ok true b=>(match f ⟨g1.v,b⟩with
    |.ok y b2=>if acc.length<big then k_ p t f ds ⟨g1.v,b2⟩ (acc++[y])else .bad
    |_=>.bad)
   |.ok false b=>k_ p t f ds ⟨g1.v,b⟩ acc
   |_=>.bad
theorem xt{p:D->SS W->Option (SS W)}{t:SS W->R W Bool}{f:SS W->R W D}{g:SS W}{acc:List D}:k_ p t f [] g acc=.ok acc g.b:=rfl
theorem vo{p:D->SS W->Option (SS W)}{t:SS W->R W Bool}{f:SS W->R W D}{g:SS W}{acc:List D}{d:D}{ds:List D}:k_ p t f (d::ds) g acc=match p d g with
  |none=>.bad
  |some g1=>match t g1 with
   |.ok true b=>(match f ⟨g1.v,b⟩with
    |.ok y b2=>if acc.length<big then k_ p t f ds ⟨g1.v,b2⟩ (acc++[y])else .bad
    |_=>.bad)
   |.ok false b=>k_ p t f ds ⟨g1.v,b⟩ acc
   |_=>.bad:=rfl
def jI(T:Nat)(ix:List Nat)(fi:SS W->R W (List D))(p:D->SS W->Option (SS W))(t:SS W->R W Bool)(f:SS W->R W D):SS W->R W D:=ql fi fun ds g=>match k_ p t f ds (capD T ix g) []with
 |.ok out b=>.ok (.lst out) b
 |.exc x b=>.exc x b
 |.bad=>.bad
def capO(T:Nat)(ix O:List Nat):List Nat:=(List.range ix.length).filterMap fun j=>if ix.getD j 0∈O then some (T+j)else none
theorem mem_capO{T:Nat}{O:List Nat}:q∈capO T ix O↔∃j,j<ix.length/\q=T+j/\ix.getD j 0∈O:=by
 unfold capO;rw[du];constructor
 ·rintro⟨j,hj,h⟩
  split at h
  ·rename_i h2;cases h;exact⟨j,eX.mp hj,rfl,h2⟩
  ·cases h
 ·rintro⟨j,hj,rfl,h⟩
  exact⟨j,eX.mpr hj,by rw[aH h]⟩
theorem QW{T:Nat}{d:D}(h:(capD T ix g).v[q]?=some (some d)):∃j,j<ix.length/\q=T+j/\g.v[ix.getD j 0]?=some (some d):=by
 unfold capD at h;have h:(List.replicate T none++ix.map (fun i=>(g.v[i]?).join))[q]?=some (some d):=h
 by_cases hq:q<T
 ·rw[aB (by simpa using hq),cK]at h
  split at h <;> cases h
 ·rw[aJ (by simpa using hq),bL,aq]at h
  cases e:ix[q - T]? with
  |none=>rw[e]at h;cases h
  |some i=>
   rw[e]at h;have h:(g.v[i]?).join=some d:=by simpa using h
   have hj:=(ai.mp e).1;refine⟨q - T,hj,by omega,?_⟩;have:ix.getD (q - T) 0=i:=by rw[bE,e];rfl
   rw[this];exact join_some h
theorem capσ{j:Nat}{x:V}(hj:j<ix.length)(h:σ[ix.getD j 0]?=some (some x)):(σC T ix σ)[T.length+j]?=some (some x):=by
 unfold σC;rw[aJ (by simp),ak,cP,aq,aa hj];have:ix.getD j 0=ix[j]:=by rw[bE,aa hj];rfl
 rw[this]at h;simp[h]
theorem SR.enter(nd:ix.Nodup)(S:SR W K E O g σ H c fp):SR W K E (capO T.length ix O) (capD T.length ix g) (σC T ix σ) H c fp:=by
 refine⟨S.toSE,fun q d hq h=>?_,fun q d hq h=>?_,fun q r d e a hq hr hqr h1 h2 m1 m2 h3 h4=>?_,?_⟩
 ·obtain⟨j,hj,rfl,hg⟩:=QW h
  obtain⟨x,h1,h2⟩:=S.frz _ d (fun z=>hq (mem_capO.mpr ⟨j,hj,rfl,z⟩)) hg;exact⟨x,capσ hj h1,h2⟩
 ·obtain⟨j,hj,rfl,hg⟩:=QW h
  obtain⟨j',hj',e,hO⟩:=mem_capO.mp hq;have:j'=j:=by omega
  subst this;obtain⟨x,h1,h2⟩:=S.own _ d hO hg;exact⟨x,capσ hj h1,h2⟩
 ·obtain⟨j,hj,rfl,hg⟩:=QW h1
  obtain⟨k,hk,rfl,hg2⟩:=QW h2;obtain⟨j',hj',e1,hO⟩:=mem_capO.mp hq;obtain⟨k',hk',e2,hO2⟩:=mem_capO.mp hr;have:j'=j:=by omega
  subst this;have:k'=k:=by omega
  subst this;obtain⟨x,x1,x2⟩:=S.own _ d hO hg;obtain⟨y,y1,y2⟩:=S.own _ e hO2 hg2;rw[capσ hj x1]at h3;rw[capσ hk y1]at h4;cases h3;cases h4;refine S.dis _ _ d e a hO hO2 (fun z=>hqr ?_) hg hg2 m1 m2 x1 y1;rw[bE,bE,aa hj,aa hk]at z;have z:ix[j']=ix[k']:=z;have z2:ix[j']?=ix[k']?:=by rw[aa hj,aa hk,z]
  rw[(f9 hj nd).mp z2]
 ·unfold capD σC
  show(List.replicate T.length none++ix.map _).length=_;rw[ar,ar,ak,ak,bL,ak]
def DTsx(X:Cx)(W:Wo)(E:En)(O:List Nat)(ifs:fU)(t:SS W->R W Bool):Prop:=Wr (PTs X ifs fun σ H Q=>∃g c fp,tG X E relB true O t g c fp σ H Q)
abbrev DTs(W:Wo)(E:En)(X:Cx)(O:List Nat)(ifs:fU)(t:SS W->R W Bool):Prop:=DTsx X W E O ifs t
def qAll:SS W->R W Bool:=eRet true
theorem yp:DTs W E X O [] qAll:=⟨fun pins s σ H Q I⟨g,c,fp,q⟩=>qal pins s σ H Q I (q.ret true H c fp q.1 .refl rfl)⟩
theorem Wd(h:DT W E X O e ta):DTs W E X O [e] ta:=⟨fun pins s σ H Q I q=>Xc h.h pins s σ H Q I q⟩
def tN{ν α:Type}(K:fL)(E:En)(rel:Co->ν->α->Prop)(O:List Nat)(f:SS W->R W α)(g:SS W)(c:Co)(fp:fP)(σ:L2.St)(H:Hp)(Q:ν->Hp->Prop):Prop:=
 SR W K E O g σ H c fp/\match f g with
  |.ok d b=>∀v H' c' fp',SR W K E O ⟨g.v,b⟩ σ H' c' fp'->FR H c fp H' c' fp'->rel c' v d->Q v H'
  |_=>False
theorem tN.tG{ν α:Type}{rel:Co->ν->α->Prop}{f:SS W->R W α}{Q:ν->Hp->Prop}(h:tN X.K E rel O f g c fp σ H Q):tG X E rel true O f g c fp σ H Q:=by
 obtain⟨S,h⟩:=h;refine⟨S,?_⟩;cases e:f g with
 |bad=>rw[e]at h;exact h
 |exc x b=>rw[e]at h;exact h.elim
 |ok d b=>rw[e]at h;exact h
def Ent(E:En)(z:Addr):En:=⟨upd E.H z (.tbl #[]),E.c,E.fp⟩
theorem X_{z:Addr}(he:E.H z=none):Hn (Ent E z).H (Ent E z).fp=Hn E.H E.fp:=by
 funext a
 unfold Hn Ent;show(if a∈E.fp then none else noTb (upd E.H z (.tbl #[]) a))=_
 by_cases h:a=z
 ·subst h
  rw[qi,he];rfl
 ·rw[qf h]
theorem SR.into{z:Addr}(S:SR W K E O g σ H c fp)(hz:H z=none){u:HO}:SR W K (Ent E z) O g σ (upd H z u) c fp:=by
 have S':=S.newO hz (u:=u);have he:=S.toSE.freeE hz;refine⟨⟨S'.core,S'.br,S'.tab,S'.fph,S'.obq,S'.fr0.le,by rw[X_ he];exact S'.fr0.nn,fun a ha hc=>S'.fr0.out a (by rw[<- X_ he];exact ha) hc,fun a ha=>?_,fun n a h0 h1=>by
  cases hs:W.still with
  |true=>have q:=S.obq hs;rw[q]at h1;exact nomatch (h0.symm.trans h1)
  |false=>
   have ne:a≠z:=fun q=>W.obh hs _ _ _ _ S.br S.core (fun a ha=>by obtain⟨u,e,_⟩:=S.fph a ha;rw[e];simp) n a h1 (by rw[q];exact hz)
   exact(qf ne).trans (S.fr0.nob n a h0 h1)⟩,S'.frz,fun j e hj hq=>?_,S'.dis,S'.len⟩
 ·have na:a≠z:=fun q=>by subst q;rw[qi]at ha;cases ha
  show upd E.H z (.tbl #[]) a=none;rw[qf na];exact S'.fr0.th a ha
 ·obtain⟨y,h1,h2⟩:=S.own j e hj hq
  refine⟨y,h1,?_⟩;have ne:∀a,H a≠none->a≠z:=fun a h q=>h (q▸hz)
  have ee:∀a,a≠z->E.H a=none->(Ent E z).H a=none:=fun a n q=>(qf n).trans q
  cases e with
  |lst ds=>obtain⟨a,xs,e1,e2,e3,e4,e5,e6⟩:=h2;have n:=ne a (by rw[e5];simp);exact⟨a,xs,e1,e2,e3,ee a n e4,(qf n).trans e5,e6⟩
  |dic ds=>obtain⟨a,xs,e1,e2,e3,e4,e5,e6⟩:=h2;have n:=ne a (by rw[e5];simp);exact⟨a,xs,e1,e2,e3,ee a n e4,(qf n).trans e5,e6⟩
  |dit ds=>obtain⟨a,xs,e1,e2,e3,e4,e5,e6⟩:=h2;have n:=ne a (by rw[e5];simp);exact⟨a,xs,e1,e2,e3,ee a n e4,(qf n).trans e5,e6⟩
  |non=>exact h2
  |bl _=>exact h2
  |int _=>exact h2
  |str _=>exact h2
  |tup _=>exact h2
  |obj _=>exact h2
  |scr _=>exact h2
abbrev gDA(W:Wo)(K:fL)(O:List Nat)(p:D->SS W->Option (SS W))(O':List Nat):TG:=fun v σ H Q=>∃E,gD W K E O p O' v σ H Q
abbrev tNA(K:fL)(O:List Nat)(t:SS W->R W Bool):TT:=fun σ H Q=>∃E g c fp,tN K E relB O t g c fp σ H Q
abbrev tNE(K:fL)(O:List Nat)(f:SS W->R W D):TE:=fun σ H Q=>∃E g c fp,tN K E (Rep K) O f g c fp σ H Q
structure WalkC(K:fL)(J:It)(H:Hp)(c:Co)(fp:fP)(ds:List D):Prop where
 go:∀i H1 c1 fp1,FR H c fp H1 c1 fp1->Same c1.h H1->i<ds.length->J.go i H1/\∀x H2,J.yld i H1 x H2->∃d,ds[i]?=some d/\((H2=H1/\Rep K c1 x d)\/∃p u,H1 p=none/\isT u=false/\H2=upd H1 p u/\Rep K (c1.add p u) x d)
 stop:∀i H1 c1 fp1,FR H c fp H1 c1 fp1->Same c1.h H1->ds.length<=i->J.stop i H1
theorem Walk.toC{J:It}{ds:List D}(w:Walk K J c ds):WalkC K J H c fp ds:=⟨fun i H1 c1 fp1 f s hi=>w.go i H1 c1 f.le s hi,fun i H1 c1 fp1 f s hi=>w.stop i H1 c1 f.le s hi⟩
def tIC(X:Cx)(E:En)(O:List Nat)(f:SS W->R W (List D))(g:SS W)(c:Co)(fp:fP)(σ:L2.St)(H:Hp)(Rr:It->Hp->Prop):Prop:=
 SR W X.K E O g σ H c fp/\match f g with
  |.ok ds b=>∀J H' c' fp',SR W X.K E O ⟨g.v,b⟩ σ H' c' fp'->FR H c fp H' c' fp'->WalkC X.K J H' c' fp' ds->Rr J H'
  |.exc x b=>∀ev s' H' c' fp',Inv X [] σ H' s'->SR W X.K E O ⟨g.v,b⟩ σ H' c' fp'->FR H c fp H' c' fp'->W.EX X x ev s' H' c'->X.xe ev s'
  |.bad=>False
theorem tIC.toI{f:SS W->R W (List D)}{Rr:It->Hp->Prop}(q:tIC X E O f g c fp σ H Rr):tI X E O f g c fp σ H Rr:=by
 obtain⟨S,q⟩:=q;refine⟨S,?_⟩;cases e:f g with
 |bad=>rw[e]at q;exact q
 |exc x b=>rw[e]at q;exact q
 |ok ds b=>rw[e]at q;exact fun J H' c' fp' S' F' w=>q J H' c' fp' S' F' w.toC
def DICx(X:Cx)(W:Wo)(E:En)(O:List Nat)(tg iter:Expr)(f:SS W->R W (List D)):Prop:=Wr (PI X tg iter fun σ H Rr=>∃g c fp,tIC X E O f g c fp σ H Rr)
abbrev DIC(W:Wo)(E:En)(X:Cx)(O:List Nat)(tg iter:Expr)(f:SS W->R W (List D)):Prop:=DICx X W E O tg iter f
theorem DI.toC{tg iter:Expr}{f:SS W->R W (List D)}(h:DI W E X O tg iter f):DIC W E X O tg iter f:=xD h.h fun σ H Rr⟨g,c,fp,q⟩=>⟨g,c,fp,q.toI⟩
inductive CIL(W:Wo)(K:fL)(E:En)(O:List Nat)(p:D->SS W->Option (SS W))(t:SS W->R W Bool)(f:SS W->R W D)(ds:List D)(H1:Hp)(c1:Co)(fp1:fP)(z:Addr)(r:R W (List D))(i mm:Nat)(σ2:L2.St)(xs:List V)(H2:Hp):Prop
 |mk (g2:SS W) (c2:Co) (fp2:fP) (acc:List D) (h0:mm=ds.length - i) (h1:i<=ds.length) (h2:SR W K E O g2 σ2 H2 c2 fp2) (h3:FR H1 c1 fp1 H2 c2 fp2) (h4:H2 z=some (.lst xs)) (h5:c2.h z=none) (h6:z∉fp2) (h7:Reps K c2 xs acc) (h8:acc.length<=big) (h9:r=k_ p t f (ds.drop i) g2 acc):CIL W K E O p t f ds H1 c1 fp1 z r i mm σ2 xs H2
theorem uj{fi:SS W->R W (List D)}{p:D->SS W->Option (SS W)}{t:SS W->R W Bool}{f:SS W->R W D}(nd:ix.Nodup)(kp:wA p)(hsub:∀i∈capO T.length ix O,i∈O1)(hsup:∀i∈O1,i∈capO T.length ix O)
  (q:tO X E O (jI T.length ix fi p t f) g c fp σ H Q):K7 (fun σ H Rr=>tIC X E O fi g c fp σ H Rr) (gDA W X.K (capO T.length ix O) p O1) (tNA X.K O1 t) (tNE X.K O1 f) T ix σ H Q:=by
 obtain⟨S,q⟩:=q;unfold jI ql at q;refine⟨S,?_⟩;cases ei:fi g with
 |bad=>rw[ei]at q;exact q
 |exc x b=>rw[ei]at q;exact q
 |ok ds b=>
  rw[ei]at q;intro J H1 c1 fp1 S1 F1 w z nz;have hz:c1.h z=none/\z∉fp1:=S1.toSE.free nz;have ez:E.H z=none:=S1.toSE.freeE nz;have nH:H z=none:=F1.th z nz;have ez1:Hn (Ent E z).H (Ent E z).fp z=none:=by rw[X_ ez];exact kC ez
  have ez2:(Ent E z).H z≠none:=by show upd E.H z (.tbl #[]) z≠none;rw[qi];simp
  have q:match(match k_ p t f ds (capD T.length ix ⟨g.v,b⟩) []with
    |.ok out b=>R.ok (D.lst out) b
    |.exc x b=>.exc x b
    |.bad=>.bad)with
   |.ok d b=>∀v H' c' fp',SR W X.K E O ⟨g.v,b⟩ σ H' c' fp'->FR H c fp H' c' fp'->OwnV X.K E H' c' fp' v d->NewV H v d->Q v H'
   |.exc x b=>∀ev s' H' c' fp',Inv X [] σ H' s'->SR W X.K E O ⟨g.v,b⟩ σ H' c' fp'->FR H c fp H' c' fp'->W.EX X x ev s' H' c'->X.xe ev s'
   |.bad=>False:=q
  refine⟨CIL W X.K (Ent E z) (capO T.length ix O) p t f ds H1 c1 fp1 z (k_ p t f ds (capD T.length ix ⟨g.v,b⟩) []),
   ⟨ds.length,.mk _ c1 fp1 [] (by simp) (bW _) ((S1.into nz).enter nd) (FR.newO nz _) qi hz.1 hz.2 .nil (bW _) (by rw[eZ])⟩,?_⟩
  rintro i mm σ2 xs H2 ⟨g2,c2,fp2,acc,rfl,hi',S2,F2,h2D,hc2,hf2,rs,hacc,eq⟩;refine⟨h2D,by rw[rs.l];exact eU hacc (by decide),?_⟩
  by_cases hlt:i<ds.length
  ·right
   obtain⟨go,yl⟩:=w.go i H2 c2 fp2 F2 (S2.toSE.all (m:=true)) hlt;refine⟨go,fun x H3 y=>?_⟩;obtain⟨d,hd,yy⟩:=yl x H3 y;obtain⟨c3,S3,r3,le3,F3⟩:=S2.yield yy;have ed:ds.drop i=d::ds.drop (i+1):=by
    obtain⟨h1,h2⟩:=ai.mp hd;rw[<- h2];exact dg h1
   have kD:∀{Ha Hb:Hp}{ca cb:Co}{fa fb:fP},FR Ha ca fa Hb cb fb->Ha z=some (.lst xs)->ca.h z=none->z∉fa->Hb z=some (.lst xs)/\cb.h z=none/\z∉fb:=fun F h1 h2 h3=>by
    have hn:=Hn.mk h1 h3 rfl;obtain⟨z1,z2,_⟩:=Hn.of (F.nn _ _ hn);exact⟨z1,F.out z (by rw[hn];simp) h2,z2⟩
   obtain⟨h3D,hc3,hf3⟩:=kD F3 h2D hc2 hf2;rw[ed,vo]at eq;cases ep:p d g2 with
   |none=>simp only[ep]at eq;rw[eq]at q;exact q.elim
   |some g3=>
    simp only[ep]at eq;refine⟨Ent E z,g2,c3,fp2,d,g3,S3,r3,ep,kp _ _ _ ep,fun σ4 S4=>?_⟩;refine⟨Ent E z,g3,c3,fp2,S4,?_⟩;cases et:t g3 with
    |bad=>simp only[et]at eq;rw[eq]at q;exact q.elim
    |exc x5 b5=>simp only[et]at eq;rw[eq]at q;exact q.elim
    |ok k b5=>
     intro v H5 c5 fp5 S5 F5 rv;have rv:v=k:=rv;subst rv;obtain⟨h5D,hc5,hf5⟩:=kD F5 h3D hc3 hf3;have F15:FR H1 c1 fp1 H5 c5 fp5:=F2.trans (F3.trans F5);cases v with
     |false=>
      simp only[et]at eq;show if false=true then _ else _
      rw[aG (by decide)];exact⟨_,by omega,.mk ⟨g3.v,b5⟩ c5 fp5 acc rfl hlt (S5.congr fun i=>⟨hsup i,hsub i⟩) F15 h5D hc5 hf5 (rs.mono (F3.le.trans F5.le)) hacc eq⟩
     |true=>
      simp only[et]at eq;show if true=true then _ else _
      rw[aH rfl];refine⟨Ent E z,_,c5,fp5,S5,?_⟩;cases ef:f ⟨g3.v,b5⟩with
      |bad=>simp only[ef]at eq;rw[eq]at q;exact q.elim
      |exc x6 b6=>simp only[ef]at eq;rw[eq]at q;exact q.elim
      |ok y6 b6=>
       simp only[ef]at eq;intro vy H6 c6 fp6 S6 F6 r6;obtain⟨h6D,hc6,hf6⟩:=kD F6 h5D hc5 hf5
       by_cases hb:acc.length<big
       ·rw[aH hb]at eq
        refine⟨h6D,_,by omega,.mk ⟨g3.v,b6⟩ c6 fp6 (acc++[y6]) rfl hlt ((S6.mutT h6D rfl hc6 hf6 ez1 ez2).congr fun i=>⟨hsup i,hsub i⟩) ?_ qi hc6 hf6 ((rs.mono ((F3.le.trans F5.le).trans F6.le)).append (.cons r6 .nil)) (by rw[ar,aY];exact hb) eq⟩;have F16:=F15.trans F6;refine⟨F16.le,fun a u e=>?_,F16.out,fun a e=>F16.th a ?_,F16.nob⟩
        ·obtain⟨h1,h2,h3⟩:=Hn.of (F16.nn _ _ e)
         exact Hn.mk ((qf fun qq=>by subst qq;rw[kC nz]at e;cases e).trans h1) h2 h3
        ·by_cases qq:a=z
         ·subst qq;rw[qi]at e;cases e
         ·rw[qf qq]at e;exact e
       ·rw[aG hb]at eq;rw[eq]at q;exact q.elim
  ·left
   have e:i=ds.length:=by omega
   subst e;rw[List.drop_length,xt]at eq;rw[eq]at q;have SE2:SE W E g2.b H2 c2 fp2:=⟨S2.core,S2.br,S2.tab,S2.fph,S2.obq,S1.fr0.trans F2⟩;refine⟨w.stop _ H2 c2 fp2 F2 (S2.toSE.all (m:=true)) (aj _),q (.ref z) H2 c2 fp2 (S1.step F2 SE2) (F1.trans F2) ⟨z,xs,rfl,hc2,hf2,ez,h2D,rs⟩ fun _ a ea=>by cases ea;exact nH⟩
theorem Wy{fi:SS W->R W (List D)}{p:D->SS W->Option (SS W)}{t:SS W->R W Bool}{f:SS W->R W D}(nd:ix.Nodup)(kp:wA p)(hsub:∀i∈capO T.length ix O,i∈O1)(hsup:∀i∈O1,i∈capO T.length ix O)
  (q:tO X E O (jI T.length ix fi p t f) g c fp σ H Q):K7 (fun σ H Rr=>∃g c fp,tIC X E O fi g c fp σ H Rr) (gDA W X.K (capO T.length ix O) p O1) (tNA X.K O1 t) (tNE X.K O1 f) T ix σ H Q:=⟨g,c,fp,uj nd kp hsub hsup q⟩
section
variable{elt tg iter:Expr}{ifs:fU}{scope:Scope}{cl:List (Str×Addr)}{T caps:fT}{ix:List Nat}{fi:SS W->R W (List D)}{p:D->SS W->Option (SS W)}{t:SS W->R W Bool}{f:SS W->R W D}
theorem qe8(hg:∀E C s H fp,DG W E (qW X scope cl (T++caps) C s H fp) (capO T.length ix O) tg p O1):∀C s H fp,PG (qW X scope cl (T++caps) C s H fp) tg (gDA W X.K (capO T.length ix O) p O1):=fun C s H fp pins s' σ H' v u Q I r⟨E,q⟩=>(hg E C s H fp).h pins s' σ H' v u Q I r q
theorem qe7(ht:∀E C s H fp,DTs W E (qW X scope cl (T++caps) C s H fp) O1 ifs t):∀C s H fp,PTs (qW X scope cl (T++caps) C s H fp) ifs (tNA X.K O1 t):=fun C s H fp pins s' σ H' Q I⟨E,g,c,fp',q⟩=>(ht E C s H fp).h pins s' σ H' Q I ⟨g,c,fp',tN.tG (X:=qW X scope cl (T++caps) C s H fp) q⟩
theorem qe9(he:∀E C s H fp,DE W E true (qW X scope cl (T++caps) C s H fp) O1 elt f):∀C s H fp,PE (qW X scope cl (T++caps) C s H fp) elt (tNE X.K O1 f):=fun C s H fp pins s' σ H' Q I⟨E,g,c,fp',q⟩=>(he E C s H fp).h pins s' σ H' Q I ⟨g,c,fp',tN.tG (X:=qW X scope cl (T++caps) C s H fp) q⟩
theorem xK(Ok:CompOk X scope cl T caps ix)(hc:X.calm=true)(nd:ix.Nodup)(kp:wA p)(hi:DIC W E X O tg iter fi)(hg:∀E C s H fp,DG W E (qW X scope cl (T++caps) C s H fp) (capO T.length ix O) tg p O1)(hsub:∀i∈capO T.length ix O,i∈O1)(hsup:∀i∈O1,i∈capO T.length ix O)
  (ht:∀E C s H fp,DTs W E (qW X scope cl (T++caps) C s H fp) O1 ifs t)(he:∀E C s H fp,DE W E true (qW X scope cl (T++caps) C s H fp) O1 elt f)(hs:∀x,foldedSetIterable iter X.env x=pure x:=by intro _;rfl) :
  DO W E X O (.ListComp elt [⟨tg,iter,ifs,0⟩] scope pos) (jI T.length ix fi p t f):=qy (qa0 Ok hc hi.h (qe8 hg) (qe7 ht) (qe9 he) hs) fun σ H Q⟨g,c,fp,q⟩=>Wy nd kp hsub hsup q
theorem Y8{i:Nat}{y:Str}{spos py:Pos}(hN:X.N.Nodup)(hi':X.N[i]?=some y)(hx:Loc X.env.scope y)(Ok:CompOk X scope cl T caps ix)(hc:X.calm=true)(nd:ix.Nodup)(kp:wA p)(hi:DIC W E X O tg iter fi)(hg:∀E C s H fp,DG W E (qW X scope cl (T++caps) C s H fp) (capO T.length ix O) tg p O1)(hsub:∀i∈capO T.length ix O,i∈O1)(hsup:∀i∈O1,i∈capO T.length ix O)
  (ht:∀E C s H fp,DTs W E (qW X scope cl (T++caps) C s H fp) O1 ifs t)(he:∀E C s H fp,DE W E true (qW X scope cl (T++caps) C s H fp) O1 elt f)(hs:∀x,foldedSetIterable iter X.env x=pure x:=by intro _;rfl)
  (hsw:swapsWith (.ListComp elt [⟨tg,iter,ifs,0⟩] scope pos) (some (.Name y py)) spos.line X.env=pure true:=by rfl)(hf:X.fn y=true\/X.env.scope.names.lookup y=some .local:=by first|exact .inl rfl|exact .inr rfl|assumption) :
  DS W E fr OL X O (.Assign [.Name y py] (.ListComp elt [⟨tg,iter,ifs,0⟩] scope pos) spos) (sSet i (jI T.length ix fi p t f)) (i::O):=zT (qan hN hi' hx Ok hc hi.h (qe8 hg) (qe7 ht) (qe9 he) hs hsw hf) fun D σ H⟨g,c,fp,q⟩=>Wy nd kp hsub hsup (q.bindO fun d b v H1 c1 fp1 F1 o1 nw q1=>q1.2 _ _ c1 fp1 (q1.1.setO o1 fun j e y hj hg hm hy hd=>by
   rintro rfl;obtain⟨z,hz,ow⟩:=q.1.own j e hj hg;cases hy.symm.trans hz;obtain⟨a,u,rfl,_⟩:=Zq o1 hd;exact Xq ow hm rfl (nw hd a rfl)) (.refl _))
end
end
section
variable{prog:Program}{w:World}{A:Around}{R:Result->Shared->Prop}{it:Addr}{fs ws:fP}{n:Nat}{Pv:Nat->Value->Prop}{St:Nat->Heap->Prop}
end
section
variable{W:Wo}{K:fL}{X:Cx}{E:En}{O:List Nat}{g:SS W}{σ:L2.St}{H:Hp}{c:Co}{fp:fP}{m:Bool}{pos:Pos}{e:Expr}{es:fU}{fs:SS W->R W (List D)}
end
end M
namespace X2
open PySem PySem.Spec PyProof.Rows L2
variable{X:Cx}{ts:fT}{t':Nat}{fp:fP}
section
variable{X:Cx}
theorem y_:∀{texts:fT}{us:fQ},Vals (texts.map V.str) us->∃l:List (Str×Tok),us=strValues l/\l.map (·.1)=texts
 |[],_,.nil=>⟨[],rfl,rfl⟩
 |x::r,_,.cons ⟨t,e⟩ q=>by
  obtain⟨l,h1,h2⟩:=y_ q;subst e h1 h2;exact⟨(x,t)::l,rfl,rfl⟩
theorem XG:MtR X "str.join" (fun x xs H Q=>∃sep p texts,x=.str sep/\xs=[.ref p]/\H p=some (.lst (texts.map V.str))/\JoinOk sep texts=true/\Q (.str (Txt.join sep texts)) H):=by
 intro pins s σ H x xs v us Q I rx rv h;obtain⟨sep,p,texts,rfl,rfl,hp,ok,q⟩:=h;obtain⟨t,rfl⟩:=rx;obtain⟨u,rfl,ru⟩:=vals1 rv;cases (show u=Value.ref p from ru);obtain⟨its,r,pl,_⟩:=I.list (SqL.of (K:=X.K) hp);obtain⟨l,rfl,h2⟩:=y_ r;exact SC.join pl.isList h2 ok fun t' k=>⟨.str _,H,I.tok _,⟨t',rfl⟩,q⟩
end
theorem wd{scope:Scope}{cl:List (Str×Addr)}{T caps:fT}{ix:List Nat}(kind:scope.kind=.function)(clos:closureFor scope X.env=pure cl)(nocell:∀y∈scope.names,y.2≠.cell)
  (names:∀y∈scope.names,y.2=.local->scope.names.lookup y.1=some .local)(ixs:ix.map (fun i=>X.N[i]?)=caps.map some)
  (capk:∀x∈caps,(relabel scope X.env).names.lookup x=some .cell/\X.env.scope.names.lookup x=some .cell/\cl.lookup x=X.env.cells.lookup x)
  (has:((relabel scope X.env).names.all fun p=>match p.2 with|.cell=>(cl.lookup p.1).isSome|.free=>(cl.lookup p.1).isSome|_=>true)=true)
  (sub:∀p∈cl,X.env.cells.lookup p.1=some p.2):CompOk X scope cl T caps ix:=by
 refine⟨kind,clos,nocell,names,ixs,capk,fun x h=>?_,fun x c h=>sub (x,c) (aU h)⟩;rcases h with h|h
 ·have q:=bA.mp has _ (aU h)
  exact cE.mp q
 ·have q:=bA.mp has _ (aU h)
  exact cE.mp q
theorem Xe{a:Expr}{ta:TE}(K:fL)(h:X.K=K)(ha:PE X a ta)(he:∀whole,isTrue a X.env whole=(do let v <- whole;standAt a.pos;holding [v] (truthy v))):PT X a (fun σ H Q=>ta σ H fun x H'=>∃k,TruV K x H' k/\Q k H'):=by subst h;exact Kg ha he
section
variable{X:Cx}{tg:Expr}
end
section
variable{prog:Program}{w:World}{A:Around}{E:fN}{s:Shared}
end
def abc:Str:="abcdefghijklmnopqrstuvwxyz"
def abc9:Str:=(abc++("0123456789":Str))
theorem WT:abc.cps.toList.length=26:=by decide +kernel
theorem ux:abc9.cps.toList.length=36:=by decide +kernel
theorem qbk(h:∀t∈ts,t.length=1)(hl:ts.length<=20):JoinOk ("":Str) ts=true:=by
 unfold JoinOk;have e:=PySem.StrLaws.joinFits (sep:=("":Str)) (texts:=ts) (B:=1) (fun y hy=>by rw[h y hy];exact aj _) (by
  have z:("":Str).length=0:=by decide +kernel
  rw[z];omega)
 rw[e];rfl
theorem YT(h:∀t∈ts,t.length=1):(Txt.join ("":Str) ts).length=ts.length:=by
 have z:("":Str).length=0:=by decide +kernel
 have e:=size_glued ("":Str) ts;rw[z,Nat.mul_zero,Nat.add_zero]at e;refine e.trans ?_;clear e
 induction ts with
 |nil=>rfl
 |cons t r ih=>
  rw[a9,List.sum_cons,ao,h t (ah.mpr (.inl rfl)),ih fun t ht=>h t (ah.mpr (.inr ht))];omega
theorem len_app(x y:Str):(x++y).length=x.length+y.length:=by
 show(x.cps++y.cps).size=x.cps.size+y.cps.size;exact Array.size_append
theorem qfd:bootBuiltins "zip"=some (.type "zip"):=by decide +kernel
section
variable{X:Cx}{pins:fM}{σ:L2.St}{H:Hp}{s:Shared}{h':Heap}
theorem _root_.L2.Inv.turnedL(I:Inv X pins σ H s)(k:∀b o,b∉fp->s.heap.get? b=some o->h'.get? b=some o)(hf:∀b∈fp,FpOk X pins H b):Inv X pins σ H { s with heap:=h',toks:=t' }:=by
 have nit:∀b u,H b=some u->b∉fp:=fun b u e z=>by rw[(hf b z).1]at e;cases e
 refine I.step (g':=s.gens) (d':=s.drawn) (ch:=fp) (fun b hb=>?_) (fun b o _ _ hc e _=>k b o hc e) (fun b o _ _ hc e _=>⟨o.slots,k b o hc e⟩) (fun _ _ _ _ n=>n)
  (fun b o hc e=>⟨o,k b o hc e⟩) (fun _ _ e=>e) (fun _ _ _ e=>e) (fun b ps e=>⟨#[],by rw[e];simp⟩) (fun m hm=>?_) (fun b u e=>?_) I.bare
 ·obtain⟨f0,f1,f2,f3,f4,f5⟩:=hf b hb
  exact⟨f3,f1,f4,f5⟩
 ·obtain⟨o,es,ep,ho,r⟩:=hm
  exact⟨o,es,ep,k _ o (fun z=>(hf _ z).2.1 rfl) ho,r⟩
 ·refine(I.hok b u e).stay (fun c v hc q=>k c v ?_ q) (fun _ q=>q) fun _ _ q=>q
  rcases hc with z|z
  ·rw[z];exact nit b u e
  ·exact nit c _ z
theorem _root_.L2.Inv.turnedPair{x y:V}{u v:Value}(I:Inv X pins σ H s)(rx:RelV x u)(ry:RelV y v)(lt:∀b∈fp,b<s.heap.objs.size)(k:∀b o,b∉fp->s.heap.get? b=some o->h'.get? b=some o)(hT:h'.get? s.heap.objs.size=some { cls:=.type "tuple",data:=.seq #[u,v] })(hf:∀b∈fp,FpOk X pins H b) :
  Inv X pins σ (upd H s.heap.objs.size (.tup [x,y])) { s with heap:=h',toks:=t' }/\H s.heap.objs.size=none/\∀b∈fp,(upd H s.heap.objs.size (.tup [x,y])) b=none:=by
 have hn:H s.heap.objs.size=none:=I.hok.fresh (aj _);have fr:∀b∈fp,(upd H s.heap.objs.size (.tup [x,y])) b=none:=fun b hb=>by rw[qf (aI (lt b hb))];exact(hf b hb).1
 have J:Inv X pins σ (upd H s.heap.objs.size (.tup [x,y])) { s with heap:=s.heap.push { cls:=.type "tuple",data:=.seq #[u,v] },toks:=t' }:=by
  refine I.laid (fun b o e=>ag _ e) (aj _) ⟨by simp only[ao,aR];rw[eI];decide,[u,v],.cons rx (.cons ry .nil),?_⟩;exact⟨_,a7 s.heap rfl,rfl,0,rfl⟩
 refine⟨J.turnedL (fun b o hb e=>?_) (fun b hb=>⟨fr b hb,(hf b hb).2⟩),hn,fr⟩;rcases Heap.get?_push_cases e with⟨z,z'⟩|z
 ·subst z z'
  exact hT
 ·exact k b o hb z
end
structure Z5(z TI TO i1 i2:Addr):Prop where
 TIz:TI≠z
 TOz:TO≠z
 i1z:i1≠z
 i2z:i2≠z
 TITO:TI≠TO
 TIi1:TI≠i1
 TIi2:TI≠i2
 TOi1:TO≠i1
 TOi2:TO≠i2
 i12:i1≠i2
theorem qcl(n:Nat):Z5 (n+4) (n+2) (n+3) n (n+1):=
 ⟨(by show(n+2:Nat)≠n+4;omega),(by show(n+3:Nat)≠n+4;omega),(by show(n:Nat)≠n+4;omega),(by show(n+1:Nat)≠n+4;omega),(by show(n+2:Nat)≠n+3;omega),(by show(n+2:Nat)≠n;omega),(by show(n+2:Nat)≠n+1;omega),(by show(n+3:Nat)≠n;omega),(by show(n+3:Nat)≠n+1;omega),(by show(n:Nat)≠n+1;omega)⟩
theorem Z5.apart{z TI TO i1 i2 l1 l2:Addr}{h:Heap}{a b f:Value}{k1 k2:Nat}{xs ys:fS}{n1 n2:Addr}(Z:Z5 z TI TO i1 i2)(hz:IsZip h z TI TO f)(hO:IsPair h TO a b)(h1:h.IsListIter i1 n1 k1)(h2:h.IsListIter i2 n2 k2)(p1:h.IsList l1 xs)(p2:h.IsList l2 ys):ZipApart z TI TO i1 i2 l1 l2:=by
 have df:∀{l c:Addr}{o:Obj}{vs:fS},h.IsList l vs->h.get? c=some o->o.cls≠.type "list"->l≠c:=fun{l c o vs} p q nc e=>by
  obtain⟨ol,q1,c1,_⟩:=p;subst e;rw[q]at q1;cases q1;exact nc c1
 obtain⟨o1,e1,c1,_⟩:=h1;obtain⟨o2,e2,c2,_⟩:=h2;have n1:o1.cls≠.type "list":=by rw[c1];simp
 have n2:o2.cls≠.type "list":=by rw[c2];simp
 exact⟨Z.TIz,Z.TOz,Z.i1z,Z.i2z,Z.TITO,Z.TIi1,Z.TIi2,Z.TOi1,Z.TOi2,Z.i12,df p1 hz (by simp),df p1 hO (by simp),df p1 e1 n1,df p1 e2 n2,df p2 hz (by simp),df p2 hO (by simp),df p2 e1 n1,df p2 e2 n2⟩
def WU(K:fL)(a b:Addr):It:=
 ⟨fun i H=>∃xs ys x y,SqL K H a xs/\SqL K H b ys/\xs[i]?=some x/\ys[i]?=some y,fun i H x H'=>∃T u v,H T=none/\(∀xs,SqL K H a xs->xs[i]?=some u)/\(∀ys,SqL K H b ys->ys[i]?=some v)/\x=.ref T/\H'=upd H T (.tup [u,v]),fun i H=>∃xs ys,SqL K H a xs/\SqL K H b ys/\(xs.length<=i\/ys.length<=i)⟩
def iZip(K:fL)(ta:TA):TI:=fun σ H R=>ta σ H fun vs H1=>∃a b,vs=[.ref a,.ref b]/\(∃xs,SqL K H1 a xs)/\(∃ys,SqL K H1 b ys)/\R (WU K a b) H1
end X2
namespace M
open PySem PySem.Spec PyProof.Rows L2 X2
variable{Q:VK}{p2:Pos}
section
variable{W:Wo}{K:fL}{X:Cx}{E:En}{O O' O1 O2 OL:List Nat}{g:SS W}{b:W.BS}{σ:L2.St}{H H':Hp}{c c':Co}{fp fp':fP}{fr:Bool}{m m1 m2:Bool}{pos:Pos}{e a:Expr}{es:fU}
variable{fa fb fe:SS W->R W D}{fs:SS W->R W (List D)}{ta tb:SS W->R W Bool}
theorem OpR.or{f:Value->Value->Sem Value}{r r':R2}(h:OpR X f r)(h':OpR X f r'):OpR X f (fun x y H Q=>r x y H Q\/r' x y H Q):=fun pins s σ H x y v u Q I rx ry q=>q.elim (h pins s σ H x y v u Q I rx ry) (h' pins s σ H x y v u Q I rx ry)
def addD:D->D->Option D
 |.int i,.int j=>some (.int (i+j))
 |.str x,.str y=>if x.length+y.length<=1000000 then some (.str (x++y))else none
 |.lst xs,.lst ys=>if xs.length+ys.length<=big then some (.lst (xs++ys))else none
 |.tup xs,.tup ys=>if xs.length+ys.length<=big/\xs.isEmpty=false then some (.tup (xs++ys))else none
 |_,_=>none
def qda(X:Cx):R2:=fun x y H Q=>(rI0 fun i j=>.int (i+j)) x y H Q\/(∃i j,x=.str i/\y=.str j/\i.length+j.length<=sizeLine/\Q (.str (i++j)) H)\/rCat x y H Q\/qc9 X.K x y H Q
theorem qa4:OpR X (binaryOp .Add) (qda X):=OpR.or qdx (OpR.or Vc (OpR.or yI qa3))
theorem qcj{x y:V}{dx dy d:D}(S:SE W E b H c fp)(rx:Rep X.K c x dx)(ry:Rep X.K c y dy)(h:addD dx dy=some d)(k1:∀v,Rep X.K c v d->k8 d=false->Q v H)(k2:∀p us ds,d=.tup ds->H p=none->Reps X.K c us ds->Q (.ref p) (upd H p (.tup us)))(k3:∀p us ds,d=.lst ds->H p=none->Reps X.K c us ds->Q (.ref p) (upd H p (.lst us))):qda X x y H Q:=by
 have bl:big<=sizeLine:=by decide
 cases rx with
 |int i=>
  cases ry <;> first|cases h|skip
  exact .inl ⟨_,_,rfl,rfl,k1 _ (.int _) rfl⟩
 |str i=>
  cases ry with
  |str j=>
   obtain⟨hl,rfl⟩:=ja (show(if i.length+j.length<=1000000 then some (D.str (i++j))else none)=some d from h);exact .inr (.inl ⟨i,j,rfl,rfl,aW hl (by decide),k1 _ (.str _) rfl⟩)
  |_=>cases h
 |@lst p xs ds ex l r=>
  cases ry with
  |@lst p' xs' ds' ex' l' r'=>
   obtain⟨hl,rfl⟩:=ja (show(if ds.length+ds'.length<=big then some (D.lst (ds++ds'))else none)=some d from h);exact .inr (.inr (.inl ⟨p,p',xs,xs',rfl,rfl,S.all (m:=true) _ _ ex,S.all (m:=true) _ _ ex',by rw[l,l'];exact aW hl bl,fun q hq=>k3 q _ _ rfl hq (Reps.append ⟨l,r⟩ ⟨l',r'⟩)⟩))
  |_=>cases h
 |@tup p xs ds ex l r=>
  cases ry with
  |@tup p' xs' ds' ex' l' r'=>
   obtain⟨⟨hl,hn⟩,rfl⟩:=ja (show(if ds.length+ds'.length<=big/\ds.isEmpty=false then some (D.tup (ds++ds'))else none)=some d from h);refine .inr (.inr (.inr ⟨p,p',xs,xs',rfl,rfl,SqT.of (S.all (m:=true) _ _ ex),SqT.of (S.all (m:=true) _ _ ex'),?_,by rw[l,l'];exact aW hl bl,fun e0=>?_,fun _ q hq=>k2 q _ _ rfl hq (Reps.append ⟨l,r⟩ ⟨l',r'⟩)⟩))
   ·intro z;subst z
    cases ds with
    |nil=>cases hn
    |cons=>cases l
   ·subst e0
    cases ds' with
    |nil=>rw[aQ]at k1;exact k1 _ (.tup ex l r) rfl
    |cons=>cases l'
  |_=>cases h
 |_=>cases h
theorem zS{b:Expr}(ha:DE W E true X O a fa)(hb:DE W E true X O b fb):DO W E X O (.BinOp a .Add b pos) (e2 addD fa fb):=
 qy (Zo qa4 ha.h hb.h) fun σ H Q⟨g,c,fp,q⟩=>⟨g,c,fp,q.bind (rel:=Rep X.K) fun d b v H1 c1 fp1 S1 F1 r1 h1=>⟨_,c1,fp1,h1.bind (rel:=Rep X.K) fun d' b' v' H2 c2 fp2 S2 F2 r2 h2=>by
  obtain⟨z,ez,k⟩:=h2.opt;rw[ez]at h2;refine qcj S2.toSE (r1.mono F2.le) r2 ez (fun u hu hm=>k u H2 c2 fp2 S2 .refl ?_ (fun z=>by rw[hm]at z;cases z)) (fun p us ds e hp rs=>?_) (fun p us ds e hp rs=>?_)
  ·cases z <;> first|exact hu|cases hm
  ·subst e
   exact k _ _ (c2.add p _) fp2 (S2.new hp rfl) (FR.new S2.toSE hp _) (wW qi (rs.mono (Co.add_le (S2.toSE.free hp).1))) (fun z=>nomatch z)
  ·subst e
   exact h2.list rs p hp⟩⟩
def lenD:D->Option D
 |.lst ds=>some (.int ds.length)
 |.tup ds=>some (.int ds.length)
 |.scr ds=>some (.int ds.length)
 |.dic ds=>some (.int ds.length)
 |.str x=>if x.length<=1000000 then some (.int x.length)else none
 |_=>none
theorem CallR.or{f:Value}{r r':List V->Hp->VK->Prop}(h:CallR X f r)(h':CallR X f r'):CallR X f (fun xs H Q=>r xs H Q\/r' xs H Q):=fun pins s σ H xs us Q I rx q=>q.elim (h pins s σ H xs us Q I rx) (h' pins s σ H xs us Q I rx)
theorem len_rep{x:V}{dx d:D}(hs:Same c.h H)(rx:Rep X.K c x dx)(h:lenD dx=some d)(k:∀v,isAt d=some v->Q v H):(∃y n,[x]=[y]/\LenV X.K y H n/\Q (.int n) H)\/(∃a kvs,[x]=[V.ref a]/\H a=some (.dK kvs)/\Q (.int kvs.length) H):=by
 cases rx with
 |lst ex l r=>cases h;exact .inl ⟨_,_,rfl,.inl ⟨_,SqL.of (hs _ _ ex),rfl⟩,by rw[l];exact k _ rfl⟩
 |tup ex l r=>cases h;exact .inl ⟨_,_,rfl,.inr ⟨_,SqT.of (hs _ _ ex),rfl⟩,by rw[l];exact k _ rfl⟩
 |scr ex l r=>cases h;exact .inl ⟨_,_,rfl,.inl ⟨_,Qd hs ex,rfl⟩,by rw[l];exact k _ rfl⟩
 |str z=>
  obtain⟨hl,rfl⟩:=ja (show(if z.length<=1000000 then some (D.int z.length)else none)=some d from h);exact .inl ⟨_,_,rfl,⟨aW hl (by decide),rfl⟩,k _ rfl⟩
 |dic ex l nd r=>
  cases h;have hl:=bU List.length l;rw[ak,ak]at hl;exact .inr ⟨_,_,rfl,hs _ _ ex,by rw[hl];exact k _ rfl⟩
 |_=>cases h
theorem vI{p:Pos}(hg:Gl X "len")(hm:X.mg "len"=none)(ha:DE W E m X O a fa)(hs:starEach [a] X.env=(false,eval a X.env)::starEach [] X.env:=by rfl)(h2:(backTo pos (starEach [] X.env)).any (·.1)=false:=by rfl):DE W E true X O (.Call (.Name "len" p) [a] [] pos) (e1 lenD fa):=
 qy (ky (CallR.or KU Z6) hg hm PySem.boot_len (qr ha.h zt hs) (he:=hs)) fun σ H Q⟨g,c,fp,q⟩=>⟨g,c,fp,q.bind fun d b v H1 c1 fp1 S1 F1 r1 h1=>by
  obtain⟨z,ez,k⟩:=h1.opt;exact len_rep S1.toSE.all r1 ez fun u hu=>k u H1 c1 fp1 S1 .refl (wf hu)⟩
def cutD(xs:List D)(lo hi:Option Int):List D:=(xs.drop (HT.sIx xs.length 0 lo)).take (HT.sIx xs.length xs.length hi - HT.sIx xs.length 0 lo)
theorem KQ{xs:List V}{ds:List D}{lo hi:Option Int}(r:Reps K c xs ds):Reps K c (cutV xs lo hi) (cutD ds lo hi):=by
 unfold cutV cutD;rw[r.l];exact r.sub _ _
def DPox(X:Cx)(W:Wo)(E:En)(O:List Nat)(e:Option Expr)(f:SS W->R W (Option Int)):Prop:=Wr (PO X e fun σ H Q=>∃g c fp,tG X E (fun _(x:Option Int)(y:Option Int)=>x=y) true O f g c fp σ H Q)
abbrev DPo(W:Wo)(E:En)(X:Cx)(O:List Nat)(e:Option Expr)(f:SS W->R W (Option Int)):Prop:=DPox X W E O e f
theorem Xi{e:Option Expr}{t t':TO}(h:PO X e t)(w:∀σ H Q,t' σ H Q->t σ H Q):Wr (PO X e t'):=⟨fun pins s σ H Q I q=>h pins s σ H Q I (w σ H Q q)⟩
def Ve:SS W->R W (Option Int):=eRet none
def Vd(f:SS W->R W D):SS W->R W (Option Int):=ql f fun d=>eOpt (match d with|.int i=>some (some i)|_=>none)
theorem QM:DPo W E X O none Ve:=Xi qaq fun σ H Q⟨g,c,fp,q⟩=>q.ret none H c fp q.1 .refl rfl
theorem QL(h:DE W E m X O e fe):DPo W E X O (some e) (Vd fe):=Xi (qap h.h) fun σ H Q⟨g,c,fp,q⟩=>⟨g,c,fp,q.bind fun d b v H1 c1 fp1 S1 F1 r1 h1=>by
 obtain⟨z,ez,k⟩:=h1.opt;cases d with
 |int i=>cases ez;exact⟨i,Qi r1,k _ H1 c1 fp1 S1 .refl rfl⟩
 |_=>cases ez⟩
def yn(f:SS W->R W D)(l u:SS W->R W (Option Int)):SS W->R W D:=ql f fun d=>ql l fun lo=>ql u fun hi=>eOpt (match d with
 |.lst ds=>some (.lst (cutD ds lo hi))
 |.tup ds=>if HT.sIx ds.length 0 lo=0/\HT.sIx ds.length ds.length hi=ds.length then none else some (.tup (cutD ds lo hi))
 |_=>none)
theorem QN{lo hi:Option Expr}{l u:SS W->R W (Option Int)}(ha:DE W E true X O a fa)(hl:DPo W E X O lo l)(hu:DPo W E X O hi u):DO W E X O (.Subscript a (.Slice lo hi none p2) pos) (yn fa l u):=
 qy (Yk (SlR.or qab qc2) ha.h hl.h hu.h) fun σ H Q⟨g,c,fp,q⟩=>⟨g,c,fp,q.bind (rel:=Rep X.K) fun d b v H1 c1 fp1 S1 F1 r1 h1=>⟨_,c1,fp1,h1.bind fun lo b' v' H2 c2 fp2 S2 F2 r2 h2=>⟨_,c2,fp2,h2.bind fun hi b3 v3 H3 c3 fp3 S3 F3 r3 h3=>by
  have r2:v'=lo:=r2;have r3:v3=hi:=r3;subst r2 r3;obtain⟨z,ez,k⟩:=h3.opt;have rx:=(r1.mono F2.le).mono F3.le;cases rx with
  |@lst p xs ds ex ll rr=>
   cases ez;exact .inl ⟨p,xs,rfl,SqL.of (S3.toSE.all (m:=true) _ _ ex),fun q hq=>h3.list (KQ ⟨ll,rr⟩) q hq⟩
  |@tup p xs ds ex ll rr=>
   have ez:(if HT.sIx ds.length 0 v'=0/\HT.sIx ds.length ds.length v3=ds.length then none else some (D.tup (cutD ds v' v3)))=some z:=ez
   split at ez
   ·cases ez
   ·rename_i hw
    cases ez;exact .inr ⟨p,xs,rfl,SqT.of (S3.toSE.all (m:=true) _ _ ex),by rw[ll];exact hw,fun q hq=>k _ _ (c3.add q _) fp3 (S3.new hq rfl) (FR.new S3.toSE hq _) (wW qi ((KQ ⟨ll,rr⟩).mono (Co.add_le (S3.toSE.free hq).1))) (fun z=>nomatch z)⟩
  |_=>cases ez⟩⟩⟩
def Za(d:D):Option D:=(qad d).map .tup
theorem ue{p:Pos}(hg:Gl X "tuple")(hm:X.mg "tuple"=none)(ha:DE W E true X O a fa)(hs:starEach [a] X.env=(false,eval a X.env)::starEach [] X.env:=by rfl):DE W E true X O (.Call (.Name "tuple" p) [a] [] pos) (e1 Za fa):=
 qy (Zp QX hg hm wI (qr ha.h zt hs) (he:=hs)) fun σ H Q⟨g,c,fp,q⟩=>⟨g,c,fp,q.bind (rel:=Rep X.K) fun d b v H1 c1 fp1 S1 F1 r1 h1=>by
  obtain⟨z,ez,k⟩:=h1.opt;have r1:Rep X.K c1 v d:=r1;unfold Za at ez;cases r1 with
  |lst ex l r=>cases ez;exact⟨_,_,rfl,.inl ⟨SqL.of (S1.toSE.all (m:=true) _ _ ex),fun q hq=>k _ _ (c1.add q _) fp1 (S1.new hq rfl) (FR.new S1.toSE hq _) (wW qi (Reps.mono (Co.add_le (S1.toSE.free hq).1) ⟨l,r⟩))⟩⟩
  |tup ex l r=>cases ez;exact⟨_,_,rfl,.inr ⟨SqT.of (S1.toSE.all (m:=true) _ _ ex),k _ _ c1 fp1 S1 .refl (.tup ex l r)⟩⟩
  |_=>cases ez⟩
def tyD:D->Option String
 |.non=>some "NoneType"|.bl _=>some "bool"|.int _=>some "int"|.str _=>some "str"|.tup _=>some "tuple"|.lst _=>some "list"|.dic _=>some "dict"|.dit _=>some "dict"|_=>none
theorem VJ{x:V}{d:D}{n:String}(hs:Same c.h H)(r:Rep K c x d)(h:tyD d=some n):TyOf K H x (.type n):=by
 cases r with
 |non=>cases h;exact .non
 |bl b=>cases h;exact .bl b
 |int i=>cases h;exact .int i
 |str x=>cases h;exact .str x
 |tup e l r=>cases h;exact .tup (hs _ _ e)
 |lst e l r=>cases h;exact .lst (hs _ _ e)
 |dic e l nd r=>cases h;exact .dK (hs _ _ e)
 |dit e l nd r=>cases h;exact .dT (hs _ _ e)
 |_=>cases h
def isiS(n t:String):Bool:=n == t || (n == "bool" && t == "int")
def isi1(t:String)(d:D):Option D:=(tyD d).map fun n=>.bl (isiS n t)
def isi2(t u:String)(d:D):Option D:=(tyD d).map fun n=>.bl (isiS n t || isiS n u)
structure IsiOk(K:fL)(t:String):Prop where
 ok:∀n,n∈["NoneType","bool","int","str","tuple","list","dict"]->PySem.W.kitOne K (.type n) (.type t)=some (isiS n t)
theorem VL{d:D}{n:String}(h:tyD d=some n):n∈["NoneType","bool","int","str","tuple","list","dict"]:=by
 cases d <;> cases h <;> decide
theorem ZQ:IsiOk K "tuple":=⟨fun n hn=>by
 simp only[ah,aE,cA]at hn;rcases hn with rfl|rfl|rfl|rfl|rfl|rfl|rfl
 ·exact j0
 ·exact vF
 ·exact xh
 ·exact xf
 ·exact kZ
 ·exact vD
 ·exact vE⟩
theorem Kv:IsiOk K "list":=⟨fun n hn=>by
 simp only[ah,aE,cA]at hn;rcases hn with rfl|rfl|rfl|rfl|rfl|rfl|rfl
 ·exact kj
 ·exact xj
 ·exact xY
 ·exact xX
 ·exact vC
 ·exact xg
 ·exact xi⟩
theorem wD:IsiOk K "bool":=⟨fun n hn=>by
 simp only[ah,aE,cA]at hn;rcases hn with rfl|rfl|rfl|rfl|rfl|rfl|rfl
 ·exact xF
 ·exact QB
 ·exact ZJ
 ·exact ZG
 ·exact yA
 ·exact Qz
 ·exact QA⟩
theorem XT:IsiOk K "int":=⟨fun n hn=>by
 simp only[ah,aE,cA]at hn;rcases hn with rfl|rfl|rfl|rfl|rfl|rfl|rfl
 ·exact wv
 ·exact ZN
 ·exact JG
 ·exact JD
 ·exact Qy
 ·exact ZI
 ·exact ZL⟩
theorem qbo:IsiOk K "str":=⟨fun n hn=>by
 simp only[ah,aE,cA]at hn;rcases hn with rfl|rfl|rfl|rfl|rfl|rfl|rfl
 ·exact wu
 ·exact ZM
 ·exact JF
 ·exact JC
 ·exact Qx
 ·exact ZH
 ·exact ZK⟩
theorem jV{p:Pos}{t:String}{x:Str}(ok:IsiOk X.K t)(hg:Gl X "isinstance")(hm:X.mg "isinstance"=none)(hx:PE X (.Name x p2) (tC (.ty t)))(ha:DE W E m X O a fa)(hs:starEach [a,.Name x p2] X.env=(false,eval a X.env)::starEach [.Name x p2] X.env:=by rfl)(hs2:starEach [.Name x p2] X.env=(false,eval (.Name x p2) X.env)::starEach [] X.env:=by rfl)(h2:(backTo pos (starEach [.Name x p2] X.env)).any (·.1)=false:=by rfl) :
  DE W E true X O (.Call (.Name "isinstance" p) [a,.Name x p2] [] pos) (e1 (isi1 t) fa):=
 qy (ky WF hg hm kG (qr ha.h (qr hx zt hs2) hs) (he:=hs) (hpl:=h2)) fun σ H Q⟨g,c,fp,q⟩=>⟨g,c,fp,q.bind fun d b v H1 c1 fp1 S1 F1 r1 h1=>by
  obtain⟨z,ez,k⟩:=h1.opt;unfold isi1 at ez;cases e:tyD d with
  |none=>rw[e]at ez;cases ez
  |some n=>rw[e]at ez;cases ez;exact⟨v,t,_,_,rfl,VJ S1.toSE.all r1 e,ok.ok n (VL e),k _ H1 c1 fp1 S1 .refl (.bl _)⟩⟩
theorem qd9{n:String}(h:n∈["NoneType","bool","int","str","tuple","list","dict"]):PySem.W.kitAny K (.type n) [.type "tuple",.type "list"]=some (isiS n "tuple" || isiS n "list"):=by
 simp only[ah,aE,cA]at h;rcases h with rfl|rfl|rfl|rfl|rfl|rfl|rfl
 ·exact yc
 ·exact JI
 ·exact Vm
 ·exact Vl
 ·exact ZF
 ·exact JE
 ·exact JH
theorem uf{p p3 p4:Pos}{k0:Nat}(hg:Gl X "isinstance")(hm:X.mg "isinstance"=none)(hx:PE X (.Name "tuple" p2) (tC (.ty "tuple")))(hy:PE X (.Name "list" p3) (tC (.ty "list")))(ha:DE W E m X O a fa)
  (hs:starEach [a,.Tuple [.Name "tuple" p2,.Name "list" p3] k0 p4] X.env=(false,eval a X.env)::starEach [.Tuple [.Name "tuple" p2,.Name "list" p3] k0 p4] X.env:=by rfl)(hs2:starEach [.Tuple [.Name "tuple" p2,.Name "list" p3] k0 p4] X.env=(false,eval (.Tuple [.Name "tuple" p2,.Name "list" p3] k0 p4) X.env)::starEach [] X.env:=by rfl)(h2:(backTo pos (starEach [.Tuple [.Name "tuple" p2,.Name "list" p3] k0 p4] X.env)).any (·.1)=false:=by rfl)
  (hs3:starEach [.Name "tuple" p2,.Name "list" p3] X.env=(false,eval (.Name "tuple" p2) X.env)::starEach [.Name "list" p3] X.env:=by rfl)(hs4:starEach [.Name "list" p3] X.env=(false,eval (.Name "list" p3) X.env)::starEach [] X.env:=by rfl) :
  DE W E true X O (.Call (.Name "isinstance" p) [a,.Tuple [.Name "tuple" p2,.Name "list" p3] k0 p4] [] pos) (e1 (isi2 "tuple" "list") fa):=
 qy (ky WE hg hm kG (qr ha.h (qr (Xm (qr hx (qr hy zt hs4) hs3)) zt hs2) hs) (he:=hs) (hpl:=h2)) fun σ H Q⟨g,c,fp,q⟩=>⟨g,c,fp,q.bind fun d b v H1 c1 fp1 S1 F1 r1 h1=>by
  obtain⟨z,ez,k⟩:=h1.opt;unfold isi2 at ez;cases e:tyD d with
  |none=>rw[e]at ez;cases ez
  |some n=>
   rw[e]at ez;cases ez;refine⟨(by show 2<=sizeLine;decide),fun t nt=>?_⟩;have ty:=VJ (K:=X.K) S1.toSE.all r1 e;have ty2:TyOf X.K (upd H1 t (.tup [.ty "tuple",.ty "list"])) v (.type n):=VJ (S1.toSE.all.trans (zK nt _)) r1 e;exact⟨v,t,"tuple","list",n,_,rfl,qi,ty2,qd9 (VL e),k _ _ c1 fp1 (S1.newO nt) (FR.newO nt _) (.bl _)⟩⟩
def wk:List D->Option (fT)
 |[]=>some []
 |d::ds=>match d,wk ds with|.str x,some r=>some (x::r)|_,_=>none
theorem Zb:∀{ds:List D}{xs:List V}{ts:fT},Reps K c xs ds->wk ds=some ts->xs=ts.map V.str
 |[],xs,ts,r,h=>by cases h;rw[r.unnil];rfl
 |d::ds,xs,ts,r,h=>by
  obtain⟨x,t,rfl,r1,r2⟩:=r.uncons;unfold wk at h;cases d with
  |str y=>
   cases e:wk ds with
   |none=>simp only[e]at h;cases h
   |some q=>simp only[e]at h;cases h;rw[Qh r1,Zb r2 e];rfl
  |_=>cases h
def qbl(s d:D):Option D:=match s,d with
 |.str x,.lst ds=>(wk ds).bind fun ts=>if JoinOk x ts=true then some (.str (Txt.join x ts))else none
 |_,_=>none
def Wa(fa fb:SS W->R W D):SS W->R W D:=ql fa fun s=>match s with
 |.str x=>ql fb fun d=>eOpt (qbl (.str x) d)
 |_=>fun _=>.bad
theorem qb2{b:Expr}{apos cpos:Pos}(ha:DE W E m1 X O a fa)(hb:DE W E m2 X O b fb)(hbase:attributeBase a "join" X.env (eval a X.env)=eval a X.env:=by rfl)
  (hfew:((backTo cpos (starEach [b] X.env)).all (fun x=>!x.1) && (backToKw cpos (keywordEach [] X.env)).all (fun x=>x.1.isSome) && decide ([b].length+([]:List Keyword).length+(if([]:List Keyword).isEmpty then 0 else 1)<30))=true:=by rfl)
  (hline:(apos.endLine == cpos.line)=true:=by rfl)(hs:starEach [b] X.env=(false,eval b X.env)::starEach [] X.env:=by rfl)(hplain:(backTo cpos (starEach [] X.env)).any (·.1)=false:=by rfl):DE W E true X O (.Call (.Attribute a "join" apos) [b] [] cpos) (Wa fa fb):=
 qy (Xo PySem.F.plainAttrs_str PySem.F.slot_str_join PySem.F.type_str_join XG ha.h (qr hb.h zt hs) hbase hfew hline hs hplain) fun σ H Q⟨g,c,fp,q⟩=>⟨g,c,fp,q.bind fun d b v H1 c1 fp1 S1 F1 r1 h1=>by
  cases d with
  |str x=>
   cases Qh r1;refine⟨rfl,_,c1,fp1,h1.bind fun d' b' v' H2 c2 fp2 S2 F2 r2 h2=>?_⟩;obtain⟨z,ez,k⟩:=h2.opt;cases r2 with
   |@lst p xs ds ex l r=>
    have ez:((wk ds).bind fun ts=>if JoinOk x ts=true then some (D.str (Txt.join x ts))else none)=some z:=ez;cases e:wk ds with
    |none=>rw[e]at ez;cases ez
    |some ts=>
     rw[e]at ez;obtain⟨hj,rfl⟩:=ja (show(if JoinOk x ts=true then some (D.str (Txt.join x ts))else none)=some z from ez);have ex':=Zb ⟨l,r⟩ e;subst ex';exact⟨x,p,ts,rfl,rfl,S2.toSE.all _ _ ex,hj,k _ H2 c2 fp2 S2 .refl (.str _)⟩
   |_=>cases ez
  |_=>exact h1.2.elim⟩
def vG(o o':D->D->Option D)(fa fb fc:SS W->R W D):SS W->R W D:=ql fa fun x=>ql fb fun y=>match o x y with
 |some (.bl true)=>ql fc fun z=>eOpt (o' y z)
 |some (.bl false)=>eRet (.bl false)
 |_=>fun _=>.bad
end
end M
namespace M
open PySem L2 X2
section
variable{W:Wo}{K:fL}{X:Cx}{E:En}{O O' O1 O2 OL:List Nat}{g:SS W}{b:W.BS}{σ:L2.St}{H H':Hp}{c c':Co}{fp fp':fP}{fr:Bool}{m m1 m2:Bool}{pos:Pos}{e a:Expr}{es:fU}
variable{fa fb fe:SS W->R W D}{fs:SS W->R W (List D)}{ta tb:SS W->R W Bool}
theorem huR{k n:Nat}{A:Around}(r:Room k A)(h:n<=64:=by decide):A.units+n<cLine:=by have:=r.units;omega
def negI:D->Option D|.int i=>some (.int (-i))|_=>none
theorem uQ(ha:DE W E m X O a fa):DE W E true X O (.UnaryOp .USub a pos) (e1 negI fa):=qy (qf3 qcm ha.h) fun σ H Q⟨g,c,fp,q⟩=>⟨g,c,fp,q.bind fun d b v H1 c1 fp1 S1 F1 r1 h1=>by
 obtain⟨z,ez,k⟩:=h1.opt;cases d <;> try (cases ez;done)
 cases ez;cases r1;exact⟨_,rfl,k _ H1 c1 fp1 S1 .refl (.int _)⟩⟩
end
abbrev HTb(T:Hp->Prop):Prop:=∀H H',T H->(∀a u,H a=some u->(∀xs,u≠.lst xs)->(∀xs,u≠.dK xs)->(∀xs,u≠.dT xs)->H' a=some u)->T H'
abbrev HBb(B:Hp->Co->fP->Prop):Prop:=∀H c fp H' c',B H c fp->(∀a∈fp,H' a=H a)->Co.Le c c'->(∀a∈fp,c'.h a=none)->B H' c' fp
end M
namespace X2
open PySem PySem.Spec PyProof.Rows L2
variable{H:Hp}{P:Program}{w:World}{K:fL}{a:Addr}{h:Heap}
section
variable{X:Cx}
end
structure Rd where
 n:Int
 a:Str
 b:Str
 l:Int
 c:Int
def hg(sp:Str->Int)(e d:Rd):Bool:=decide (e.b=d.a/\e.c+sp e.b<=d.l)
def CW(Pv:Nat->Addr->L2.St->List V->Hp->Prop)(n i:Nat)(D:Addr)(σ:L2.St)(ys:List V)(H:Hp):Prop:=∃m',m'<n - i/\(m'=n - (i+1)/\i+1<=n/\Pv (i+1) D σ ys H)
theorem CW.of{Pv:Nat->Addr->L2.St->List V->Hp->Prop}{n i:Nat}{D:Addr}{σ:L2.St}{ys:List V}(h:i<n)(p:Pv (i+1) D σ ys H):CW Pv n i D σ ys H:=⟨n - (i+1),by omega,rfl,h,p⟩
def lv(now:Int):Option Rd->Bool
 |none=>false
 |some d=>decide (d.l<=now)
def two(ds:List Rd):List (Rd×Rd):=ds.zip (ds.drop 1)
def Bm(base:Heap)(mg:fO):Prop:=∃bm ob,mg "__builtins__"=some (.ref bm)/\bm≠builtinsNs/\base.get? bm=some ob/\ob.cls=.type "module"/\ob.dict=some builtinsNs/\ob.data=.plain
theorem XM{mg mb:fO}{CX:CXT}{k:Nat}{fa:Addr}{fd:FuncData}{x:Str}{sp:Sp}{s₁:Shared}{vs:fQ}{ns:fV}{ts:fP}
  (KX:K.In s₁.heap)(hns:s₁.heap.Ns mainGlobals mg)(hb:s₁.heap.Ns builtinsNs mb)(hbb:∀x:Str,x≠"__name__"->mb x=bootBuiltins x)(hlim:s₁.heap.NoLimit)(hg:s₁.gens=#[])
  (ha:s₁.heap.get? a=some { cls:=.type "list",data:=.seq vs.toArray })(hi:IntsAre vs ns)(hl:ns.length<=sizeLine)(hr:Room k callerA)
  (htab:∀P∈ts,s₁.heap.get? P=some (PySem.W.tabObj #[]))(hKt:∀P∈ts,K.lookup P=none)(hct:∀P∈ts,isCodeTable s₁.heap P)(hbm:Bm s₁.heap mg)
  (F:∀base:Heap,K.In base->base.Ns mainGlobals mg->Bm base mg->FnOk P w K mg base CX k fa fd [x] sp)(hbind:∀(s:Shared)(u:Value),BindsTo s fd ⟨[u],[]⟩ [(x,u)])
  (hsp:∀H:Hp,(∀P∈ts,H P=some (.tbl #[]))->SqL K H a (ns.map V.int)->sp [.ref a] H (fun v _=>v=.bl true) fun _ _ _=>False)
  (hCX:∀H e s',CX [] H s₁ (fun _ _ _=>False) e s'->False) :
  codeAny (model P w) callerA (.call (.ref fa) ⟨[.ref a],[]⟩) (fun r s'=>r=.ok (.ret (.bool true))/\OldK s₁.heap s'.heap/\s'.os=s₁.os/\AllBare s'.gens) s₁:=by
 have rv:=Q_ hi;have lenV:=hi.length;have nat:a∉ts:=fun z=>by
  have q:=htab a z;rw[ha]at q;cases q
 have core:∀H:Hp,(∀b,H b=none\/(∃o xs,H b=some (.frz o (.lst xs)))\/(b∈ts/\H b=some (.tbl #[])))->(∀P∈ts,H P=some (.tbl #[]))->SqL K H a (ns.map V.int)->HOk P w H s₁.heap->(∀b,H b≠none->b=a\/b∈ts)->(∀b,H b≠none->K.lookup b=none)->
   codeAny (model P w) callerA (.call (.ref fa) ⟨[.ref a],[]⟩) (fun r s'=>r=.ok (.ret (.bool true))/\OldK s₁.heap s'.heap/\s'.os=s₁.os/\AllBare s'.gens) s₁:=by
  intro H hO hT hS hok hA hK;have base_of:∀{b:Addr}{o:Obj},s₁.heap.get? b=some o->H b=none->(hidT s₁.heap H).get? b=some o:=fun e n=>YX e n
  have kindly:∀{b:Addr}{o:Obj},s₁.heap.get? b=some o->(∀it n,o.data≠.seq it n)->(∀ps,o.data≠.fields ps)->H b=none:=fun{b o} e d1 d2=>by
   cases q:H b with
   |none=>rfl
   |some u=>
    rcases hA b (by rw[q];simp)with e'|e'
    ·subst e'
     rw[ha]at e;cases e;exact absurd rfl (d1 _ _)
    ·rw[htab b e']at e;cases e
     exact absurd rfl (d2 _)
  have nsK:∀{b:Addr}{m:fO},s₁.heap.Ns b m->(hidT s₁.heap H).Ns b m:=fun{b m}⟨o,es,ep,e,d,r⟩=>⟨o,es,ep,base_of e (kindly e (fun _ _ z=>by rw[d]at z;cases z) (fun _ z=>by rw[d]at z;cases z)),d,r⟩
  have hKb:K.In (hidT s₁.heap H):=fun b o e=>base_of (KX b o e) (by
   cases q:H b with
   |none=>rfl
   |some u=>
    rw[hK b (by rw[q];simp)]at e;cases e)
  have hM:Mod K mg (hidT s₁.heap H):=⟨hKb,nsK hns,⟨mb,nsK hb,hbb⟩,let⟨mc,h1,h2⟩:=hlim;⟨mc,nsK h1,h2⟩⟩;have hB:Bm (hidT s₁.heap H) mg:=by
   obtain⟨bm,ob,b1,b2,b3,b4,b5,b6⟩:=hbm;exact⟨bm,ob,b1,b2,base_of b3 (kindly b3 (fun _ _ z=>by rw[b6]at z;cases z) (fun _ z=>by rw[b6]at z;cases z)),b4,b5,b6⟩
  have e0:Env0 P w K mg (hidT s₁.heap H) callerA [] s₁ H:=⟨rfl,hM,fun b o e=>qa6 e,Nat.le_of_eq (X1 _ _),trivial,fun b hb=>absurd (show b∈([]:fP)from hb) (by simp),hok,.of_eq hg⟩;refine dJ ((F _ hKb (nsK hns) hB).run callerA [] s₁ H ⟨[.ref a],[]⟩ [.ref a] [.ref a] _ _ hr e0 (hbind s₁ (.ref a)) (.cons rfl .nil) (hsp H hT hS)) fun r s' h=>?_
  cases r with
  |error e=>exact(hCX H e s' h).elim
  |ok fl=>
   cases fl with
   |next=>exact False.elim h
   |brk=>exact False.elim h
   |cont=>exact False.elim h
   |ret u=>
    obtain⟨v,H',os,bare,un,hok',r',q⟩:=h;have q':v=.bl true:=q;subst q';obtain rfl:u=Value.bool true:=r';have main:∀b o,s₁.heap.get? b=some o->asItWas s₁.heap s'.heap b o/\∃o',s'.heap.get? b=some o':=fun b o e=>by
     rcases hO b with q|⟨ob,xs,z⟩|⟨hbt,z⟩
     ·have y:=un.keep b o e q (by intro z;exact absurd (show b∈([]:fP)from z) (by simp)) (by simp)
      exact⟨.inl y,_,y⟩
     ·have z2:=un.frzs b ob _ z
      obtain⟨e1,_⟩:=hok b _ z;obtain⟨e2,_⟩:=hok' b _ z2;rw[e]at e1;cases e1;exact⟨.inl e2,_,e2⟩
     ·obtain⟨more,z2⟩:=un.tbls b _ z
      have y:s'.heap.get? b=some { cls:=.none,data:=.fields (#[]++more) }:=hok' b _ z2;rw[htab b hbt]at e;cases e;exact⟨.inr (.inl ⟨hct b hbt,rfl,#[],more,rfl,y⟩),_,y⟩
    exact⟨rfl,⟨fun b o e=>(main b o e).1,fun b o e=>(main b o e).2⟩,os,bare⟩
 have tb:∀b,b∈ts->ObjOk P w (fun c=>if c∈ts then some (.tbl #[])else none) s₁.heap b (.tbl #[]):=fun b hb=>htab b hb
 cases hk:K.lookup a with
 |some o=>
  have e:=KX a o hk;rw[ha]at e;cases e;refine core (fun b=>if b∈ts then some (.tbl #[])else none) (fun b=>?_) (fun b hb=>aH hb) (.inr ⟨_,vs.toArray,_,hk,rfl,rfl,rfl,by rw[av,lenV];exact hl,by simpa using rv⟩) (fun b u z=>?_) (fun b z=>?_) fun b z=>?_
  ·by_cases hb:b∈ts
   ·exact .inr (.inr ⟨hb,aH hb⟩)
   ·exact .inl (aG hb)
  ·by_cases hb:b∈ts
   ·have z':=(aH hb).symm.trans z
    cases z';exact htab b hb
   ·have z':=(aG hb).symm.trans z
    cases z'
  ·by_cases hb:b∈ts
   ·exact .inr hb
   ·exact absurd (aG hb) z
  ·by_cases hb:b∈ts
   ·exact hKt b hb
   ·exact absurd (aG hb) z
 |none=>
  refine core (fun b=>if b=a then some (.frz { cls:=.type "list",data:=.seq vs.toArray } (.lst (ns.map V.int)))else if b∈ts then some (.tbl #[])else none) (fun b=>?_) (fun b hb=>?_) (.inl (.inr ⟨{ cls:=.type "list",data:=.seq vs.toArray },aH rfl⟩)) (fun b u z=>?_) (fun b z=>?_) fun b z=>?_
  ·by_cases hb:b=a
   ·exact .inr (.inl ⟨_,_,aH hb⟩)
   ·by_cases ht:b∈ts
    ·exact .inr (.inr ⟨ht,(aG hb).trans (aH ht)⟩)
    ·exact .inl ((aG hb).trans (aG ht))
  ·have nb:b≠a:=fun z=>nat (z▸hb)
   exact(aG nb).trans (aH hb)
  ·by_cases hb:b=a
   ·have z':=(aH hb).symm.trans z
    cases z';subst hb;exact⟨ha,by rw[ak];exact hl,vs,_,rv,ha⟩
   ·by_cases ht:b∈ts
    ·have z':some (HO.tbl #[])=some u:=((aG hb).trans (aH ht)).symm.trans z
     cases z';exact htab b ht
    ·have z':(none:Option HO)=some u:=((aG hb).trans (aG ht)).symm.trans z
     cases z'
  ·by_cases hb:b=a
   ·exact .inl hb
   ·by_cases ht:b∈ts
    ·exact .inr ht
    ·exact absurd ((aG hb).trans (aG ht)) z
  ·by_cases hb:b=a
   ·rw[hb];exact hk
   ·by_cases ht:b∈ts
    ·exact hKt b ht
    ·exact absurd ((aG hb).trans (aG ht)) z
theorem Z3{c P:Addr}(X:K.In h)(e:PySem.W.codeHdIn K c P=true):isCodeTable h P:=by
 obtain⟨o,vs,file,tf,flags,tg,inF,text,tt,e1,e2,e3,e4,_⟩:=PySem.W.codeHd_of_K X e;exact⟨c,o,vs,e1,e2,e3,e4⟩
theorem Jv{o:HO}(x:ObjOk P w H h a o):∃u,h.get? a=some u:=by
 cases o with
 |lst xs=>obtain⟨_,_,_,_,e⟩:=x;exact⟨_,e⟩
 |tup xs=>obtain⟨_,_,_,o,e,_⟩:=x;exact⟨_,e⟩
 |dK kvs=>obtain⟨_,_,_,_,o,_,_,e,_⟩:=x;exact⟨_,e⟩
 |dT kvs=>obtain⟨_,_,_,_,o,_,_,e,_⟩:=x;exact⟨_,e⟩
 |set S n=>obtain⟨o,_,_,_,e,_⟩:=x;exact⟨_,e⟩
 |ins C dx fs=>obtain⟨_,_,_,e,_⟩:=x;exact⟨_,e⟩
 |own b=>exact x
 |xd fs=>obtain⟨_,⟨o,_,_,e,_⟩,_⟩:=x;exact⟨_,e⟩
 |rng lo hi=>obtain⟨_,_,_,e⟩:=x;exact⟨_,e⟩
 |frz o u=>exact⟨_,x.1⟩
 |tbl ps=>exact⟨_,x⟩
 |met f y=>exact⟨_,x⟩
 |ext φ=>exact x.2.1
section
variable{X:Cx}{pins:fM}{σ:L2.St}{H:Hp}{s:Shared}{h':Heap}
theorem JK{D:Addr}(I:Inv X pins σ H s)(h:s.heap.get? D=none):H D=none:=by
 cases e:H D with
 |none=>rfl
 |some u=>
  obtain⟨o,q⟩:=Jv (I.hok D u e);rw[h]at q;cases q
end
section
variable{X:Cx}{l:Expr}{tl:TE}{k0:Nat}{px gx:Str}{params:Arguments}{scope:Scope}{pp gp bp lpos kp p pos:Pos}{ix:Nat}{t0:Tok}{c P:Addr}{k1:Nat}{rp kp2:Pos}
end
end X2
namespace X2
open PySem PySem.Spec PyProof.Rows L2 PySem.W
def rk(ks:List (List Nat))(k:List Nat):Nat:=(ks.filter fun x=>decide (x<k)).length
section
variable{prog:Program}{w:World}{A:Around}{E:fN}{s:Shared}
end
def Je(v d:Addr):HO:=.ext (fun h=>h.get? v=some { cls:=.type "dict_items",data:=.fields #[.ref d] })
theorem YI{X:Cx}:MtR X "dict.items" (fun x xs H Q=>∃d kvs,x=.ref d/\xs=[]/\H d=some (.dK kvs)/\∀v,H v=none->Q (.ref v) (upd H v (Je v d))):=by
 intro pins s σ H x xs v us Q I rx rv h;obtain⟨d,kvs,rfl,rfl,hd,q⟩:=h;cases (show v=Value.ref d from rx);cases rv;obtain⟨_,nd,vs,r,da⟩:=yD I.hok hd;refine cy PySem.F.slot_dict_items da.typeIs PySem.F.entry_dict_items (PySem.F.args_dict_items_1 _) (meets_dict_items (qF X.prog X.w) d nd) ⟨⟨vs,da⟩,?_⟩;refine⟨.ref s.heap.objs.size,_,I.laid (t':=s.toks) (o:=Je s.heap.objs.size d) (fun b o e=>ag _ e) (aj _) ?_,rfl,q _ (I.hok.fresh (aj _))⟩;exact⟨a7 _ rfl,⟨_,a7 _ rfl⟩,fun h1 h2 e k=>k _ e⟩
theorem xE{α β:Type}{R:α->β->Prop}:∀{xs:List α}{ys:List β}{i:Nat}{x:α},Paired R xs ys->xs[i]?=some x->∃y,ys[i]?=some y/\R x y
 |_,_,i,x,.nil,h=>by simp at h
 |_,_,0,x,.cons r t,h=>by simp at h;subst h;exact⟨_,rfl,r⟩
 |_,_,i+1,x,.cons r t,h=>by
  obtain⟨y,e,q⟩:=xE (i:=i) (x:=x) t (by simpa using h);exact⟨y,by simpa using e,q⟩
end X2
namespace X2
open PySem PySem.Spec PyProof.Rows L2
variable{qual:Str}{st:Stmt}{f:Addr}
abbrev ltS(a b:Str):Prop:=a.cps.toList<b.cps.toList
theorem Zk:∀(p:Str)(l:fT),risingS p l=true->(p::l).Pairwise (fun a b=>¬ ltS b a)
 |p,[],_=>List.pairwise_singleton _ _
 |p,x::r,h=>by
  have h':(!ltCps x.cps.toList p.cps.toList && risingS x r)=true:=h;rw[b9]at h';obtain⟨h1,h2⟩:=h';have ih:=Zk x r h2;have px:¬ ltS x p:=by
   rw[ltCps_eq]at h1;simpa using h1
  refine List.pairwise_cons.mpr ⟨fun y hy=>?_,ih⟩;rcases ah.mp hy with e|e
  ·rw[e];exact px
  ·have xy:=(List.pairwise_cons.mp ih).1 y e
   intro z;exact xy (by
    by_cases c:ltS y x
    ·exact c
    ·have h3:x.cps.toList<=y.cps.toList:=List.not_lt.mp c
     have h4:p.cps.toList<=x.cps.toList:=List.not_lt.mp px;exact absurd z (List.not_lt.mpr (List.le_trans h4 h3)))
theorem VX{l:fT}(h:sortedS l=true):l.Pairwise (fun a b=>¬ ltS b a):=by
 cases l with
 |nil=>exact .nil
 |cons p l=>exact Zk p l h
theorem J7:∀{ns:fT}{us:fQ},Vals (ns.map V.str) us->StrsAre us ns
 |[],_,.nil=>.nil
 |x::r,_,.cons ⟨t,e⟩ q=>by subst e;exact .cons x t (J7 q)
theorem Q9:∀{us:fQ}{ns:fT},StrsAre us ns->Vals (ns.map V.str) us
 |_,_,.nil=>.nil
 |_,_,.cons x t h=>.cons ⟨t,rfl⟩ (Q9 h)
theorem Z4{X:Cx}:CallR X (.builtin "sorted") (fun xs H Q=>∃(p:Addr)(ns:fT),xs=[.ref p]/\SqL X.K H p (ns.map V.str)/\ns.length<64/\
  ∀(l:Addr)(out:fT),H l=none->out.Perm ns->out.Pairwise (fun a b=>¬ ltS b a)->Q (.ref l) (upd H l (.lst (out.map V.str)))):=by
 intro pins s σ H xs us Q I r h;obtain⟨p,ns,rfl,hp,h64,q⟩:=h;obtain⟨u,rfl,ru⟩:=vals1 r;cases (show u=Value.ref p from ru);obtain⟨its,rv,pl,hz⟩:=I.list hp;have lr:its.length=ns.length:=by rw[<- rv.length,ak]
 refine sorted_strs pl.isList (J7 rv) (by omega) fun out ss' a1 a2 a3=>?_
 obtain⟨e,he⟩:=sortedAll_at s.heap its out;have lo:ss'.length=ns.length:=a2.length_eq;refine⟨.ref (s.heap.objs.size+1),_,I.laid (t':=s.toks) (a:=s.heap.objs.size+1) (o:=.lst (ss'.map V.str)) (fun b o e=>sortedAll_old e) (eL _) ?_,rfl,q _ ss' (I.hok.fresh (eL _)) a2 (VX a3)⟩;exact⟨c9 (vY (by rw[ak];omega)),out.toList,e,Q9 a1,by rw[Array.toArray_toList];exact he⟩
structure FunC(K:fL)(x qual:Str)(st:Stmt)(f:Addr)(fd:FuncData)(c:Addr):Prop where
 ex:∃(oc:Value)(od:fR)(kV doc pm:Value)(an:fR)(ct:Value)(osl:Array (Option Value)),
  fd=PySem.W.fnOf x qual (jT st) (zZ st) (qm st) .none kV doc pm an (.ref c) ct/\K.lookup f=some ⟨oc,od,.func fd,osl⟩/\PySem.W.codeIn K (.ref c) qual=true
 kp:PySem.W.keepIn K (.ref f)=true
section
variable{P:Program}{w:World}{K:fL}{mg:fO}{base:Heap}
theorem FunC.plain{x:Str}{c:Addr}{fd:FuncData}(F:FunC K x qual st f fd c):Fun K x qual st f fd:=by
 obtain⟨⟨oc,od,kV,doc,pm,an,ct,osl,e,lk,hcd⟩,kp⟩:=F;exact⟨⟨oc,od,kV,doc,pm,an,.ref c,ct,osl,e,lk,hcd⟩,kp⟩
theorem qbv{x:Str}{c:Addr}{oc:Value}{od an:fR}{osl:Array (Option Value)}{kV doc pm ct:Value}(l:K.lookup f=some ⟨oc,od,.func (PySem.W.fnOf x qual (jT st) (zZ st) (qm st) .none kV doc pm an (.ref c) ct),osl⟩)
  (cc:PySem.W.codeIn K (.ref c) qual=true)(k:PySem.W.keepIn K (.ref f)=true):FunC K x qual st f (PySem.W.fnOf x qual (jT st) (zZ st) (qm st) .none kV doc pm an (.ref c) ct) c:=⟨⟨oc,od,kV,doc,pm,an,ct,osl,rfl,l,cc⟩,k⟩
end
end X2
namespace M
open PySem PySem.Spec PyProof.Rows L2 X2
variable{α:Type}
section
variable{W:Wo}{K:fL}{X:Cx}{E:En}{O O' O1 O2 OL:List Nat}{g:SS W}{b:W.BS}{σ:L2.St}{H H':Hp}{c c':Co}{fp fp':fP}{fr:Bool}{m m1 m2:Bool}{pos:Pos}{e a:Expr}{es:fU}
variable{fa fb fe:SS W->R W D}{fs:SS W->R W (List D)}{ta tb:SS W->R W Bool}
def ObV(K:fL)(H:Hp)(c:Co)(a:Addr):D->Prop
 |.lst ds=>∃xs,H a=some (.lst xs)/\Reps K c xs ds
 |.dic kvs=>∃ys:List (Key×V),H a=some (.dK ys)/\ys.map (·.1)=kvs.map (·.1)/\(kvs.map (·.1)).Nodup/\Reps K c (ys.map (·.2)) (kvs.map (·.2))
 |_=>False
abbrev Fp:=fP×Hp
structure BT(K:fL)(fp0:Fp)(ob0:Nat->fR)(tb:Nat->Option D)(H:Hp)(c:Co)(fp:fP):Prop where
 e:fp=fp0.1
 st:∀a∈fp0.1,H a=fp0.2 a
 ob:∀k a,ob0 k=some a->c.ob k=some a
 ct:∀k d,tb k=some d->∃a,ob0 k=some a/\a∈fp0.1/\ObV K H c a d
end
section
variable{T:Hp->Prop}{hT:HTb T}{K:fL}{fp0:Fp}{ob0:Nat->fR}{tb:Nat->Option D}{X:Cx}{E:En}{O:List Nat}{H:Hp}{c:Co}{fp:fP}
end
section
variable{T:Hp->Prop}{hT:HTb T}{B:Hp->Co->fP->Prop}{hB:HBb B}{K:fL}{O':List Nat}
section
variable{X:Cx}{E:En}{O:List Nat}{x:Str}{f:Addr}{fd:FuncData}{ps:fT}{k n:Nat}{p pos:Pos}{e:Expr}{es:fU}{fs:SS (W1 T hT B hB)->R (W1 T hT B hB) (List D)}{Pr:List D->Prop}{Rl:List D->D->Prop}
variable(hr:Room k X.A)(hg:Gl X x)(hm:X.mg x=some (.ref f))(hk:PySem.W.keepIn X.K (.ref f)=true)(hb:Binds X.K fd ps [])(hd:(x == ("__debug__":Str))=false:=by decide)
  (hs:starEach (e::es) X.env=(false,eval e X.env)::starEach es X.env:=by rfl)(hplain:(backTo pos (starEach es X.env)).any (·.1)=false:=by rfl)
include hr hg hm hk hb hd hs hplain
end
end
section
variable{K:fL}{c:Co}
end
section
variable{T:Hp->Prop}{hT:HTb T}{fp0:Fp}{ob0:Nat->fR}{tb:Nat->Option D}{X:Cx}{E:En}{O:List Nat}
variable{l tg:Expr}{k0 i ko:Nat}{px gx:Str}{params:Arguments}{scope:Scope}{pp gp bp lpos kp p pos:Pos}{t0:Tok}{c P:Addr}{k1:Nat}{rp kp2:Pos}
end
theorem ln_s{n:Nat}{us:List α}(h:us.length=n+1):∃a t,us=a::t/\t.length=n:=by
 cases us with
 |nil=>cases h
 |cons a t=>exact⟨a,t,rfl,by simpa using h⟩
theorem ln1{us:List α}(h:us.length=1):∃a,us=[a]:=by
 obtain⟨a,t,rfl,k⟩:=ln_s h;exact⟨a,by rw[dU k]⟩
theorem ln2{us:List α}(h:us.length=2):∃a b,us=[a,b]:=by
 obtain⟨a,t,rfl,k⟩:=ln_s h;obtain⟨b,rfl⟩:=ln1 k;exact⟨a,b,rfl⟩
theorem ln3{us:List α}(h:us.length=3):∃a b c,us=[a,b,c]:=by
 obtain⟨a,t,rfl,k⟩:=ln_s h;obtain⟨b,c,rfl⟩:=ln2 k;exact⟨a,b,c,rfl⟩
theorem ln4{us:List α}(h:us.length=4):∃a b c d,us=[a,b,c,d]:=by
 obtain⟨a,t,rfl,k⟩:=ln_s h;obtain⟨b,c,d,rfl⟩:=ln3 k;exact⟨a,b,c,d,rfl⟩
theorem ln5{us:List α}(h:us.length=5):∃a b c d e,us=[a,b,c,d,e]:=by
 obtain⟨a,t,rfl,k⟩:=ln_s h;obtain⟨b,c,d,e,rfl⟩:=ln4 k;exact⟨a,b,c,d,e,rfl⟩
theorem ln6{us:List α}(h:us.length=6):∃a b c d e f,us=[a,b,c,d,e,f]:=by
 obtain⟨a,t,rfl,k⟩:=ln_s h;obtain⟨b,c,d,e,f,rfl⟩:=ln5 k;exact⟨a,b,c,d,e,f,rfl⟩
end M
namespace X2
open PySem PySem.Spec PyProof.Rows L2
def mark(f:Int)(n:Str):Option Nat:=if f=0 then n.cps.toList.head? else n.cps.toList.getLast?
theorem Wv(x y:Str):(x++y).cps.toList=x.cps.toList++y.cps.toList:=by
 show(x.cps++y.cps).toList=_;exact di
theorem qga{c:Nat}{r:Str}:mark 0 (⟨#[c]⟩++r)=some c:=by
 unfold mark;rw[aH rfl,Wv];rfl
theorem qf9{c:Nat}{r:Str}:mark 1 (r++⟨#[c]⟩)=some c:=by
 unfold mark;rw[aG (by decide),Wv];show(r.cps.toList++[c]).getLast?=some c;simp
theorem qf2{xs:List Nat}{i:Int}(h0:0<=i)(h1:i<xs.length):∃v,atI xs i=some v/\xs[i.toNat]?=some v:=by
 obtain⟨k,rfl⟩:=d8 h0;have hk:k<xs.length:=by omega
 exact⟨xs[k],WP (aa hk),aa hk⟩
theorem qfh:abc.cps.toList.Nodup:=by decide +kernel
def okZ(z:Int):Prop:=z=1\/z=3\/z=5\/z=7\/z=9\/z=11
theorem YG{ns:fT}{f z d1:Int}(hz:okZ z)(h5:ns.length<=5)(h:∀(t:Nat) x,ns[t]?=some x->mark f x=abc.cps.toList[((((0:Int)+(t:Int)) * z+d1) % 26).toNat]?):ns.Nodup:=by
 refine List.pairwise_iff_getElem.mpr fun i j hi hj hij e=>?_
 have a:=h i _ (aa hi);have b:=h j _ (aa hj);rw[e,b]at a;have l1:=d9 (((0:Int)+(i:Int)) * z+d1) (show(26:Int)≠0 by decide);have l2:=cU (((0:Int)+(i:Int)) * z+d1) (show(0:Int)<26 by decide);have l3:=d9 (((0:Int)+(j:Int)) * z+d1) (show(26:Int)≠0 by decide);have l4:=cU (((0:Int)+(j:Int)) * z+d1) (show(0:Int)<26 by decide);have q:=(f9 (i:=(((0+(j:Int)) * z+d1) % 26).toNat) (by rw[WT];omega) qfh).mp a;rcases hz with rfl|rfl|rfl|rfl|rfl|rfl <;> omega
def qfl(K:fL)(ta:TE):TT:=fun σ H Q=>ta σ H fun x H'=>∃k,TruV K x H' k/\Q k H'
theorem Xd{X:Cx}{a:Expr}{ta:TE}(K:fL)(h:X.K=K)(ha:PE X a ta)(he:∀whole,isTrue a X.env whole=(do let v <- whole;standAt a.pos;holding [v] (truthy v))):PT X a (qfl K ta):=Xe K h ha he
def qgg(vs:fS)(c P:Addr):Bool:=(match(vs[11]?:Option Value)with|some (.ref P')=>P' == P|_=>false) &&
   (match vs.getD 18 .none with|.str _ _=>true|_=>false) && (match vs.getD 7 .none with|.int _ _=>true|_=>false) &&
   (match vs.getD 9 .none with|.bool _=>true|_=>false) && (match vs.getD 10 .none with|.int _ _=>true|_=>false) && c != P
end X2
namespace M
open PySem PySem.Spec PyProof.Rows L2 X2
variable{K:fL}
theorem qc1{H:Hp}{a:Addr}{xs:List V}(h:SqL K H a xs):SqL K (Hn H []) a xs:=by
 rcases h with(h|⟨o,h⟩)|h
 ·exact .inl (.inl (Hn.mk h aE rfl))
 ·exact .inl (.inr ⟨o,Hn.mk h aE rfl⟩)
 ·exact .inr h
theorem xV{K:fL}{c:Co}:∀ns:fV,Reps K c (ns.map V.int) (ns.map D.int)
 |[]=>.nil
 |n::ns=>.cons (.int n) (xV ns)
def FH(K:fL)(x:Str)(st:Stmt)(f:Addr)(cd:Value):Prop:=∃(od an:fR)(sl:Array (Option Value))(oc kV dc pm ct:Value),PySem.W.nsIn K mainGlobals x=some (some (.ref f))/\K.lookup f=some ⟨oc,od,.func (PySem.W.fnOf x x (jT st) (zZ st) (qm st) .none kV dc pm an cd ct),sl⟩/\PySem.W.codeIn K cd x=true/\PySem.W.keepIn K (.ref f)=true
theorem fh{x:Str}{st:Stmt}{f:Addr}{cd:Value}{od an:fR}{sl:Array (Option Value)}{oc kV dc pm ct:Value}(a:PySem.W.nsIn K mainGlobals x=some (some (.ref f)))(l:K.lookup f=some ⟨oc,od,.func (PySem.W.fnOf x x (jT st) (zZ st) (qm st) .none kV dc pm an cd ct),sl⟩)(c:PySem.W.codeIn K cd x=true)(k:PySem.W.keepIn K (.ref f)=true):FH K x st f cd:=⟨od,an,sl,oc,kV,dc,pm,ct,a,l,c,k⟩
end M
namespace X2
open PySem PySem.W PySem.Spec PyProof.Rows L2
def yZ(tb:String->Option Builtin)(p:Program)(w:World)(n₀:Nat)(ann:Option Value):Nat->SharedT->Thread->Option SharedT
 |0,_,_=>none
 |n+1,s,t=>match through t with
  |true=>some s
  |false=>match stepOk n₀ ann t with
   |false=>none
   |true=>match stepT (denote tb) p w s t with
    |some (s',t')=>yZ tb p w n₀ ann n s' t'
    |none=>none
theorem yF{tb:String->Option Builtin}{p:Program}{w:World}{n₀:Nat}{ann:Option Value}:∀{n:Nat}{s s':SharedT}{t:Thread},yZ tb p w n₀ ann n s t=some s'->topRun tb p w n₀ ann n s.abs t=some s'.abs
 |0,_,_,_,h=>by cases h
 |n+1,s,s',t,h=>by
  unfold yZ at h;unfold topRun;cases he:through t with
  |true=>rw[he]at h;cases h;rfl
  |false=>
   rw[he]at h;cases hk:stepOk n₀ ann t with
   |false=>rw[hk]at h;cases h
   |true=>
    rw[hk]at h;cases hs:stepT (denote tb) p w s t with
    |none=>rw[hs]at h;cases h
    |some r=>obtain⟨s₂,t₂⟩:=r;rw[hs]at h;rw[stepT_spec hs];exact yF h
noncomputable def qgw(P:Params):BT:=((boot_heap P).objs.toList.foldl (fun(x:BT×Nat) o=>(x.1.ins x.2 o,x.2+1)) (.nil,0)).1
noncomputable def qff(w:World)(os:OsState):SharedT:=⟨qgw w.params,(boot_heap w.params).objs.size,(boot_heap w.params).life,#[],boot_drawn,boot_toks,os⟩
theorem boot_abs:∀w os,(qff w os).abs=⟨boot_heap w.params,#[],boot_drawn,boot_toks,os⟩:=fun w os=>by kernel_rfl
noncomputable def WN(P:Params):Option Value:=(boot_heap P).nsMap mainGlobals "__annotations__"
noncomputable def Jf(p q:Program)(loose:fT)(Xt:Shared->Bool){α:Type}(Yf:Shared->α)(N:Nat)(w:World)(os:OsState):=
 (yZ treeTable p w (boot_heap w.params).objs.size (WN w.params) N (qff w os) (topStub p)).map fun s=>
  ((boot_heap w.params).isNs mainGlobals && (staticsOk (importedModules p.main.body) (boot_heap w.params) s.abs.heap && namesBound p s.abs.heap && gensDone s.abs && laidKept (boot_heap w.params) s.abs.heap),
   openSeen q loose (importedModules p.main.body) Xt true s.abs,Yf s.abs)
theorem ZD{p q:Program}{loose:fT}{Xt:Shared->Bool}{α:Type}{Yf:Shared->α}{Ya:World->α}{N:Nat}
  (e:opening p=plainProg p.main.scope.names)(hN:Nat.ble 600 N=true)(f:∀s,fenceModules? p s=some s)
  (run:∀(w:World)(os:OsState),Jf p q loose Xt Yf N w os=some (true,openGood q loose,Ya w)):LeftO p q loose Xt Yf Ya N:=fun w=>by
 obtain⟨⟨h,gs,d,k,os⟩,e1,e2⟩:=bf.mp (boot_open e hN f w);obtain⟨rfl,rfl,rfl,rfl⟩:h=boot_heap w.params/\gs=Array.mk []/\d=boot_drawn/\k=boot_toks:=by simpa using e2
 obtain⟨s,r1,r2⟩:=bf.mp (run w os);obtain⟨l1,l2,l3⟩:_/\_/\_:=by simpa only[fG] using r2
 obtain⟨i1,i2⟩:=dZ.mp l1;have r:=yF r1;rw[boot_abs]at r;have t:topFrom treeTable p w N ⟨boot_heap w.params,#[],boot_drawn,boot_toks,os⟩=some s.abs:=by
  unfold topFrom;show(match(boot_heap w.params).isNs mainGlobals && true with|true=>_|false=>_)=_;rw[i1];show(topRun treeTable p w (boot_heap w.params).objs.size (WN w.params) N _ (topStub p)).bind _=_;rw[r];show(match staticsOk (importedModules p.main.body) (boot_heap w.params) s.abs.heap && namesBound p s.abs.heap && gensDone s.abs && laidKept (boot_heap w.params) s.abs.heap with|true=>_|false=>_)=_;rw[i2]
 unfold openEnds;rw[e1];show(topFrom treeTable p w N _).map _=_;rw[t];exact bU some (Prod.ext l2 l3)
def VZ(a:Addr)(o:Obj):Bool:=match o.cls with
 |.none=>Nat.beq a mainNs
 |_=>true
def qbu(h:Heap)(a:Addr):Option Obj:=match h.get? a with
 |some o=>(match VZ a o with
  |true=>some o
  |false=>none)
 |none=>none
theorem X4{h:Heap}{a:Addr}{o:Obj}(e:qbu h a=some o):h.get? a=some o:=by
 unfold qbu at e;cases g:h.get? a with
 |none=>rw[g]at e;cases e
 |some u=>
  rw[g]at e;cases q:VZ a u with
  |false=>simp only[q]at e;cases e
  |true=>simp only[q]at e;exact e
theorem kX(g:Addr->Option Obj)(a:Addr):∀(l:List Nat),((l.filterMap fun b=>(g b).map fun o=>(b,o)):fM).lookup a=if a∈l then g a else none
 |[]=>rfl
 |b::l=>by
  have ih:=kX g a l;rw[cJ]
  by_cases e:a=b
  ·subst e
   cases q:g a with
   |none=>
    simp only[Option.map_none];rw[ih,aH (aN),q]
    split <;> rfl
   |some o=>
    simp only[bx];rw[dh,c8,aH (aN)]
  ·have e1:(a == b)=false:=by simpa using e
   have e2:(a∈b::l)=(a∈l):=by simp[e]
   simp only[e2];cases q:g b with
   |none=>simp only[Option.map_none];exact ih
   |some o=>simp only[bx];rw[dh,e1];exact ih
def lk(K:Frag):Addr->Option Obj:=fun a=>K.lookup a
end X2
namespace M
open PySem PySem.W PySem.Spec PyProof.Rows L2 X2
variable{f:Nat}
def wj(p:Program)(i:Nat):Stmt:=p.main.body.getD i (.Pass ⟨0,0,0,0⟩)
def defName(s:Stmt):Str:=match s with
 |.FunctionDef n _ _ _ _ _ _ _ _ _=>n
 |_=>⟨#[]⟩
def nsG(g:Addr->Option Obj)(ns:Addr)(name:Str):Option (Option Value):=match g ns with
 |some ⟨_,_,.dict es _,_⟩=>(match es.toList.find? (·.key.isStr name)with
   |some e=>some (some e.val)
   |none=>if es.toList.any (·.refKey)then none else some none)
 |_=>none
def qfb(g:Addr->Option Obj)(cd:Value)(q:Str):Bool:=match cd with
 |.ref c=>(match g c with
   |some ⟨_,_,.fields vs,_⟩=>(match vs.toList with|_::.str n _::_=>n == q|_=>false)
   |_=>false)
 |_=>false
def KZ(fd:FuncData):FuncData:={ fd with kwdefaults:=.none,doc:=.none,pyModule:=.none,annotations:=none,closureTuple:=.none }
def fnG(g:Addr->Option Obj)(x:Str)(f:Addr):Option (Option (Option Value)×FuncData×Bool):=match g f with
 |some ⟨_,_,.func fd,_⟩=>some (nsG g mainGlobals x,KZ fd,qfb g fd.code x)
 |_=>none
def fnX(st:Stmt)(f c:Addr):Option (Option (Option Value)×FuncData×Bool):=some (some (some (.ref f)),fnOf (defName st) (defName st) (jT st) (zZ st) (qm st) .none .none .none .none none (.ref c) .none,true)
theorem qgn{K:Frag}{st:Stmt}{f c:Addr}{x:Str}(e:defName st=x)(h:fnG (lk K) (defName st) f=fnX st f c):FH K x st f (.ref c):=by
 subst e;unfold fnG fnX at h
 split at h
 ·rename_i oc od fd sl hl
  obtain⟨h1,h2,h3⟩:_/\_/\_:=by simpa only[dG,fG] using h
  obtain⟨n,q,ps,b,sc,gl,cl,df,kV,dc,pm,an,cd,ct,bi⟩:=fd;simp only[KZ,fnOf,FuncData.mk.injEq]at h2;obtain⟨rfl,rfl,rfl,rfl,rfl,rfl,rfl,rfl,_,_,_,_,rfl,_,rfl⟩:=h2;refine⟨od,an,sl,oc,kV,dc,pm,ct,h1,hl,h3,?_⟩;have hl':K.lookup f=_:=hl;simp only[keepIn,hl']
 ·cases h
def qb5(g:Addr->Option Obj)(c P:Addr):Bool:=match g c with
 |some ⟨.type "code",_,.fields vs,_⟩=>qgg vs c P
 |_=>false
abbrev ObT:Type:=List (Option (Option (Option Value)×FuncData×Bool))×List Bool×List (Option (Option Value))
def obsD(p:Program)(L:List (Nat×Addr×Addr))(CL:List (Addr×Addr))(NB:fT)(g:Addr->Option Obj):ObT:=
 (L.map (fun x=>fnG g (defName (wj p x.1)) x.2.1),CL.map (fun x=>qb5 g x.1 x.2),NB.map (nsG g mainGlobals))
def valD(p:Program)(L:List (Nat×Addr×Addr))(CL:List (Addr×Addr))(NV:List (Option (Option Value))):ObT:=
 (L.map (fun x=>fnX (wj p x.1) x.2.1 x.2.2),CL.map (fun _=>true),NV)
section
variable{p:Program}{L:List (Nat×Addr×Addr)}{CL:List (Addr×Addr)}{NB:fT}{NV:List (Option (Option Value))}{K:Frag}(h:obsD p L CL NB (lk K)=valD p L CL NV)
include h
theorem qd2(k:Nat){i c:Nat}{x:Str}(m:L[k]?=some (i,f,c))(e:defName (wj p i)=x):FH K x (wj p i) f (.ref c):=qgn e (fA.mp (eQ h).1 _ (aM m))
theorem qd1(k:Nat){i c:Nat}(x:Str)(m:L[k]?=some (i,f,c))(e:defName (wj p i)=x):∃fd,nsIn K mainGlobals x=some (some (.ref f))/\FunC K x x (wj p i) f fd c:=
 let⟨_,_,_,_,_,_,_,_,a,l,cc,kk⟩:=qd2 h k m e
 ⟨_,a,qbv l cc kk⟩
theorem kg(k:Nat){i c:Nat}(x:Str)(m:L[k]?=some (i,f,c))(e:defName (wj p i)=x):∃fd,nsIn K mainGlobals x=some (some (.ref f))/\Fun K x x (wj p i) f fd:=
 let⟨fd,a,u⟩:=qd1 h k x m e
 ⟨fd,a,u.plain⟩
theorem uH(i:Nat){x:Str}{v:Option (Option Value)}(m:NB[i]?=some x)(e:NV[i]?=some v):nsIn K mainGlobals x=v:=by
 have q:=bU (fun l=>l[i]?) (eQ (eQ h).2).2;simp only[aq,m,e,bx,dG]at q;exact q
end
end M
namespace X2
open PySem PySem.Spec PyProof.Rows L2
variable{base h h':Heap}{env:Env}{outer:List Env}{C L Wc a e f i1 i2 it l1 l2:Addr}{oe:Obj}{Q:Unit->Shared->Prop}{N ps:fT}{cd cls:Value}{P:Program}{w:World}{K:fL}{mg:fO}{cx nm qual:Str}{scope:Scope}{A:Around}{s:Shared}{H H':Hp}{E:fN}{pins:fM}{σ:L2.St}{X:Cx}{cp hp pos tp:Pos}{us:fQ}{M:Model}{b₀:Stmt}{body suite:List Stmt}{items xs ys:fS}{k1 k2:Nat}{es:fU}{g:TG}{tt:TT}{te:TE}{CX:CXT}{sp:Sp}{cs:fP}
abbrev bmVE:fQ:=[.type "ValueError",.type "Exception",.type "BaseException",.type "object"]
theorem Wl(o:Obj)(f:fS->fS):(o.mapFields f).dict=o.dict:=by
 unfold Obj.mapFields
 split <;> rfl
structure Lft(fs:fP)(e:Addr)(cls:Value)(skip:Addr->Prop)(h h':Heap):Prop where
 keep:∀b o,b≠e->¬ skip b->b∉fs->h.get? b=some o->h'.get? b=some o
 slot:∀b o,b≠e->¬ skip b->h.get? b=some o->∃sl,h'.get? b=some { o with slots:=sl }
 tr:∃oe vs T oT ts,h'.get? e=some oe/\oe.cls=cls/\oe.data=.fields vs/\vs[1]?=some (.ref T)/\h.get? T=none/\T≠e/\h'.get? T=some oT/\oT.data=.fields ts/\ts[3]?=some .none/\∀o0 v0,h.get? e=some o0->o0.data=.fields v0->vs[2]?=v0[2]?/\oe.dict=o0.dict
section
variable{M:Model}{A:Around}{E:fN}{s:Shared}
theorem ZA{vs:fS}{head:Value}{hadNext:Bool}
  (hfr:A.frames=some (env::outer))(hl:s.heap.FunFrames base (env::outer))(hf:env.frame=some L)
  (he:s.heap.get? e=some oe)(hd:oe.data=.fields vs)(hsz:1<vs.size)
  (h:∀h',Lft ((env::outer).filterMap (·.frame)) e oe.cls (fun _=>False) s.heap h'->Q () { s with heap:=h' }) :
  wpAny M A (do let a <- frameOf env;let pl <- entryPlaceOf L hadNext;let b <- EntryCells.newEntry head a .none (rawInt L) .none pl;setField (.ref e) 1 b) (fun _ s'=>wpAny M A (setFlight (.ref e) none) Q E s') E s:=by
 have hene:e∉(env::outer).filterMap (·.frame):=fun hm=>by
  obtain⟨_,o,ho,hnf⟩:=hl.mem hm;rw[he]at ho;injection ho with ho;subst ho;exact hnf vs hd
 refine ae (wpAny_frameOf_fun hfr hl hf fun h₁ hs₁=>?_);refine ae (wpAny_entryPlaceOf fun pl hpl=>?_);unfold EntryCells.newEntry newFields;refine ae (bD ?_ (hpl.sizeOk5 _ _ _ _ _));have he₁:h₁.get? e=some oe:=(hs₁.2.1 e hene).trans he;have he₂:=ag (h:=h₁) { cls:=.type "traceback",dict:=none,data:=.fields ([head,.ref L,.none,rawInt L,.none]++(if pl.isEmpty then List.replicate 6 Value.none else pl)).toArray } he₁;refine dI he₂ hd hsz ?_;have hTe:h₁.objs.size≠e:=cI (au he₁);have hd₃:=bP hd (·.setIfInBounds 1 (Value.ref h₁.objs.size));have he₃:=cj (Obj.mapFields (·.setIfInBounds 1 (Value.ref h₁.objs.size))) he₂ (ck hd₃);have hT₃:=(aT (h₁.push { cls:=.type "traceback",dict:=none,data:=.fields ([head,.ref L,.none,rawInt L,.none]++(if pl.isEmpty then List.replicate 6 Value.none else pl)).toArray })
  (Obj.mapFields (·.setIfInBounds 1 (Value.ref h₁.objs.size))) (bc hTe)).trans (a7 h₁ rfl)
 unfold setFlight;refine ae (bF he₃ hd₃ (x:=.ref h₁.objs.size) (by simp[hsz]) ?_);rw[aH (show(Value.ref h₁.objs.size != Value.none)=true from by simp)];refine dI hT₃ rfl (by simp only[av,ar,ao,aR] <;> omega) (h _ ?_);have keep:∀b o,b≠e->h₁.get? b=some o->
   (((h₁.push { cls:=.type "traceback",dict:=none,data:=.fields ([head,.ref L,.none,rawInt L,.none]++(if pl.isEmpty then List.replicate 6 Value.none else pl)).toArray }).update e (Obj.mapFields (·.setIfInBounds 1 (Value.ref h₁.objs.size)))).update h₁.objs.size
    (Obj.mapFields (·.setIfInBounds 3 ((none:fR).elim Value.none fun f=>rawInt f)))).get? b=some o:=fun b o hbe hb=>by
  have hbT:h₁.objs.size≠b:=cI (au hb);rw[aT _ _ hbT,aT _ _ (bc hbe)];exact ag _ hb
 have hsz0:s.heap.get? h₁.objs.size=none:=dX (by rw[hs₁.1];exact aj _);refine⟨fun b o hbe _ hbf hb=>keep b o hbe ((hs₁.2.1 b hbf).trans hb),fun b o hbe _ hb=>?_,?_⟩
 ·obtain⟨sl,hs⟩:=hs₁.2.2 b o hb
  exact⟨sl,keep b _ hbe hs⟩
 ·refine⟨_,_,h₁.objs.size,_,_,?_,fB _ _,hd₃,by simp[hsz],hsz0,hTe,cj _ hT₃ (ck (bP rfl _)),bP rfl _,by first|(simp;done)|(rcases hpl with rfl|⟨_,_,_,_,_,_,_,rfl⟩ <;> simp),fun o0 v0 h0 d0=>by
   cases he.symm.trans h0;cases hd.symm.trans d0;exact⟨by simp,Wl _ _⟩⟩
  rw[aT _ _ hTe];exact he₃
def Trc(N:Addr->Prop)(h:Heap)(e:Addr)(cls:Value):Prop:=N e/\∃oe vs,h.get? e=some oe/\oe.cls=cls/\oe.data=.fields vs/\(vs[2]?=some .none/\oe.dict=none)/\(vs[1]?=some .none\/∃T oT ts,vs[1]?=some (.ref T)/\N T/\T≠e/\h.get? T=some oT/\oT.data=.fields ts/\ts[3]?=some .none)
theorem Trc.mono{N N':Addr->Prop}(m:∀b,N b->N' b)(t:Trc N h e cls):Trc N' h e cls:=by
 obtain⟨hn,oe,vs,he,hcls,hd,hcx,ht⟩:=t;refine⟨m _ hn,oe,vs,he,hcls,hd,hcx,?_⟩;rcases ht with h1|⟨T,oT,ts,h1,hnT,r⟩
 ·exact .inl h1
 ·exact .inr ⟨T,oT,ts,h1,m _ hnT,r⟩
theorem uJ{N:Addr->Prop}
  (hfr:A.frames=some (env::outer))(hl:s.heap.FunFrames base (env::outer))(hf:env.frame=some L)(ht:Trc N s.heap e cls)(hN:∀b,s.heap.get? b=none->N b)
  (h:∀(h':Heap)(ch:fP),Trc N h' e cls->(∀b∈ch,N b/\∃o vs,s.heap.get? b=some o/\o.data=.fields vs)->(∀b o,b∉(env::outer).filterMap (·.frame)->b∉ch->s.heap.get? b=some o->h'.get? b=some o)->(∀b o,b∉ch->s.heap.get? b=some o->∃sl,h'.get? b=some { o with slots:=sl })->Q () { s with heap:=h' }) :
  wpAny M A (noteFrame (.ref e) env) (fun _ s'=>wpAny M A (setFlight (.ref e) none) Q E s') E s:=by
 obtain⟨hn,oe,vs,he,hcls,hd,hcx,ht⟩:=ht;subst hcls;unfold noteFrame;simp only[hf];rcases ht with h1|⟨T,oT,ts,h1,hnT,hTe,hT,hdT,h3⟩
 ·refine ae (bF he hd h1 ?_)
  rw[aG (by decide)];refine ZA hfr hl hf he hd (bV.mp h1).1 fun h' x=>?_
  obtain⟨oe',vs',T,oT,ts,t1,t2,t3,t4,t5,t6,t7,t8,t9,t0⟩:=x.tr;refine h h' [e] ⟨hn,oe',vs',t1,t2,t3,⟨(t0 _ _ he hd).1.trans hcx.1,(t0 _ _ he hd).2.trans hcx.2⟩,.inr ⟨T,oT,ts,t4,hN T t5,t6,t7,t8,t9⟩⟩ (fun b hb=>?_) (fun b o hb z e'=>x.keep b o (fun q=>z (by simp[q])) (fun q=>q) hb e') (fun b o z e'=>x.slot b o (fun q=>z (by simp[q])) (fun q=>q) e');rw[cT.mp hb];exact⟨hn,oe,vs,he,hd⟩
 ·refine ae (bF he hd h1 ?_)
  rw[aH (show(Value.ref T != Value.none)=true from by simp)];refine ae (bF hT hdT h3 ?_);rw[aG (show ¬ ((Value.none == rawInt L)=true)from by simp[rawInt])];refine ae (dI hT hdT (bV.mp h3).1 ?_);have other:∀b,b≠T->(s.heap.update T (Obj.mapFields (·.setIfInBounds 3 Value.none))).get? b=s.heap.get? b:=fun b hb=>aT _ _ (bc hb)
  have noRecord:∀b o,s.heap.get? b=some o->(∀vs,o.data≠.fields vs)->b≠T:=fun b o hb hnf q=>by
   rw[q,hT]at hb;injection hb with hb;subst hb;exact hnf ts hdT
  refine ZA hfr (hl.of_keeps fun b o hb hnf=>⟨o,(other b (noRecord b o hb hnf)).trans hb,rfl⟩) hf ((other e (bc hTe)).trans he) hd (bV.mp h1).1 fun h' x=>?_
  obtain⟨oe',vs',T',oT',ts',t1,t2,t3,t4,t5,t6,t7,t8,t9,t0⟩:=x.tr;have hT':T'≠T:=fun q=>by
   have hTT:=cj (Obj.mapFields (·.setIfInBounds 3 Value.none)) hT (ck (bP hdT _));rw[q]at t5;have t5':(s.heap.update T (Obj.mapFields (·.setIfInBounds 3 Value.none))).get? T=none:=t5;rw[hTT]at t5';cases t5'
  refine h h' [e,T] ⟨hn,oe',vs',t1,t2,t3,⟨(t0 _ _ ((other e (bc hTe)).trans he) hd).1.trans hcx.1,(t0 _ _ ((other e (bc hTe)).trans he) hd).2.trans hcx.2⟩,.inr ⟨T',oT',ts',t4,hN T' ((other T' hT').symm.trans t5),t6,t7,t8,t9⟩⟩ (fun b hb=>?_) (fun b o hb z e'=>x.keep b o (fun q=>z (by simp[q])) (fun q=>q) hb ((other b (fun q=>z (by simp[q]))).trans e')) (fun b o z e'=>x.slot b o (fun q=>z (by simp[q])) (fun q=>q) ((other b (fun q=>z (by simp[q]))).trans e'));simp only[ah,aE,cA]at hb;rcases hb with rfl|rfl
  ·exact⟨hn,oe,vs,he,hd⟩
  ·exact⟨hnT,oT,ts,hT,hdT⟩
theorem YM{N:Addr->Prop}
  (hfr:A.frames=some (env::outer))(hl:s.heap.FunFrames base (env::outer))(hf:env.frame=some L)(ht:Trc N s.heap e cls)(hN:∀b,s.heap.get? b=none->N b)
  (h:∀h',Trc N h' e cls->(∀b o,b∉(env::outer).filterMap (·.frame)->¬ N b->s.heap.get? b=some o->h'.get? b=some o)->(∀b o,¬ N b->s.heap.get? b=some o->∃sl,h'.get? b=some { o with slots:=sl })->Q () { s with heap:=h' }) :
  wpAny M A (leaving env (.ref e)) Q E s:=by
 unfold leaving;exact ae (uJ hfr hl hf ht hN fun h' ch t' hch keep slot=>h h' t' (fun b o hb z e'=>keep b o hb (fun q=>z (hch b q).1) e') fun b o z e'=>slot b o (fun q=>z (hch b q).1) e')
end
def CX1(P:Program)(w:World):CXT:=fun outer H s E e s'=>∃(a C:Addr)(H':Hp),e=.ref a/\s'.os=s.os/\AllBare s'.gens/\Un (frs outer) [] H H' s.heap s'.heap/\HOk P w H' s'.heap/\Trc (fun b=>s.heap.get? b=none/\H' b=none) s'.heap a (.ref C)/\E (.ref C) none H'
def Fly(X:Cx)(pins:fM)(H:Hp)(s':Shared)(a C:Addr):Prop:=Trc (fun b=>X.s₀.heap.get? b=none/\H b=none/\∀p∈X.pn++pins,p.1≠b) s'.heap a (.ref C)
theorem qbx{E:XK}{s':Shared}
  (I:Inv (cxOf (CX1 P w) P w K mg base N qual scope f cd A outer s H E) pins σ H' s')(t:Fly (cxOf (CX1 P w) P w K mg base N qual scope f cd A outer s H E) pins H' s' a C)(q:E (.ref C) none H'):(cxOf (CX1 P w) P w K mg base N qual scope f cd A outer s H E).xe (.ref a) s':=by
 have B:Un (frs outer) [] H H' s.heap s'.heap:=I.base;have there:∀b o,s.heap.get? b=some o->∃o',s'.heap.get? b=some o':=fun b o e=>B.there b o e (by simp)
 have fr:∀b,s'.heap.get? b=none->s.heap.get? b=none/\H' b=none:=fun b e=>by
  refine⟨?_,JK I e⟩;cases z:s.heap.get? b with
  |none=>rfl
  |some o=>
   obtain⟨o',z'⟩:=there b o z;rw[e]at z';cases z'
 have hfrm:(A.deeper (envOfC qual scope s.heap.objs.size f cd)).frames=some (envOfC qual scope s.heap.objs.size f cd::outer):=I.ok.frames;have hL:s.heap.get? s.heap.objs.size=none:=dX (aj _);refine YM (base:=base) (L:=s.heap.objs.size) hfrm I.stack rfl (t.mono fun b z=>⟨z.1,z.2.1⟩) fr fun h' t' keep slot=>?_
 have nL:∀b o,s.heap.get? b=some o->b≠s.heap.objs.size:=fun b o e z=>by rw[z,hL]at e;cases e
 have mem:∀b,b∈(envOfC qual scope s.heap.objs.size f cd::outer).filterMap (·.frame)->b=s.heap.objs.size\/b∈frs outer:=fun b hb=>by
  have e:(envOfC qual scope s.heap.objs.size f cd::outer).filterMap (·.frame)=s.heap.objs.size::outer.filterMap (·.frame):=rfl;rw[e]at hb;exact ah.mp hb
 have np:∀b o,s.heap.get? b=some o->¬ (s.heap.get? b=none/\H' b=none):=fun b o e z=>by rw[z.1]at e;cases e
 refine⟨a,C,H',rfl,I.os,I.bare,⟨fun b o e n hb hx=>?_,fun b o e n hb hx=>?_,B.free,fun b o e hx=>?_,B.tups,B.frzs,B.tbls⟩,fun b u e=>?_,t',q⟩
 ·exact keep b o (fun z=>(mem b z).elim (nL b o e) hb) (np b o e) (B.keep b o e n hb hx)
 ·obtain⟨sl,e1⟩:=B.slot b o e n hb hx
  obtain⟨sl2,e2⟩:=slot b _ (np b o e) e1;exact⟨sl2,e2⟩
 ·obtain⟨o',e1⟩:=B.there b o e hx
  obtain⟨sl,e2⟩:=slot b o' (np b o e) e1;exact⟨_,e2⟩
 ·have stkf:∀b∈(envOfC qual scope s.heap.objs.size f cd::outer).filterMap (·.frame),H' b=none:=I.stkFree
  have kk:∀c v,(∃z,H' c=some z)->s'.heap.get? c=some v->h'.get? c=some v:=fun c v⟨z,hz⟩ e1=>keep c v (fun hb=>by rw[stkf c hb]at hz;cases hz) (fun z'=>by rw[z'.2]at hz;cases hz) e1
  exact(I.hok b u e).stay (fun c v hc e1=>kk c v (hc.elim (fun z=>⟨u,by rw[z];exact e⟩) fun z=>⟨_,z⟩) e1) (fun _ z=>z) fun _ _ z=>z
def qcr(X:Cx)(C:Addr):TS:=fun _ σ H=>∀pins a s',Inv X pins σ H s'->Fly X pins H s' a C->X.xe (.ref a) s'
theorem Yg{x msg:Str}{np cpos spos:Pos}{k:Nat}(O:OwnCls x C bmVE "ValueError.__new__" X.mg X.base)(hg:Gl X x)(hc:X.calm=true)(hex:X.ex=[]:=by rfl)(hd:(x == ("__debug__":Str))=false:=by decide)
  (he:starEach [.Constant (.str msg) k spos] X.env=[(false,eval (.Constant (.str msg) k spos) X.env)]:=by rfl)(hplain:(backTo cpos (starEach [.Constant (.str msg) k spos] X.env)).any (·.1)=false:=by rfl) :
  PS X (.Raise (some (.Call (.Name x np) [.Constant (.str msg) k spos] [] cpos)) none pos) (qcr X C):=by
 intro pins s σ H D I q;obtain⟨tl,N,nm,qn,bs,hdct,sn,sub,ab,col,dd,k0,k1,k2,k3,k5,mN,hC,hN,hni,T⟩:=O.obj;refine wpAny_Raise_call_subT (C:=C) (nm:=nm) (q:=qn) (N:=N) (bs:=bs) (bm:=tl) (hdct:=hdct) (sn:=sn) (sub:=sub) (ab:=ab) (col:=col) (dd:=dd) (k0:=k0) (k1:=k1) (k2:=k2) (k3:=k3) (k5:=k5) eS (mN:=mN) (T.hasType eS.hasBase) (I.ok.hd hc) hplain hni ?_;refine kY I hg O.bound ⟨rfl,?_⟩ hd;rw[he];refine cw (bG ?_);show wpAny _ _ (eval (.Constant (.str msg) k spos) X.env) _ _ _;refine Calls.Constant_str (cD ?_);refine⟨rfl,?_,I.bk _ _ hC,hN.keeps I.bk,T.keeps I.bk,fun h' e hm=>?_⟩
 ·show 1<=sizeLine
  decide
 ·obtain⟨t,ht,_,_⟩:=hm.there
  have hn0:X.s₀.heap.get? e=none:=by
   cases z:X.s₀.heap.get? e with
   |none=>rfl
   |some o=>
    obtain⟨o',z'⟩:=I.base.there e o z (by rw[hex];simp);have hnew:s.heap.get? e=none:=hm.new;rw[hnew]at z';cases z'
  exact q pins e _ (I.kept hm.keeps) ⟨⟨hn0,JK I hm.new,fun p hp z=>by
   have:=(I.pin p hp).1;have hnew:s.heap.get? e=none:=hm.new;rw[z,hnew]at this;cases this⟩,_,_,ht,rfl,rfl,⟨rfl,rfl⟩,.inl rfl⟩
def EXs(X:Cx)(σ:L2.St):XK:=fun v _ H'=>∃C,v=.ref C/\∀pins s' a,Inv X pins σ H' s'->Fly X pins H' s' a C->X.xe (.ref a) s'
section
variable{X:Cx}{k:Nat}{f C:Addr}{fd:FuncData}{ps:fT}{sp:Sp}{x m:Str}{p pos apos:Pos}{e o:Expr}{es:fU}{ta:TE}{t:TA}{pins:fM}{σ:L2.St}{H:Hp}{s s':Shared}
theorem qf4{ev:Value}(hex:X.ex=[])(I:Inv X pins σ H s)(h:CX1 X.prog X.w X.stack H s (EXs X σ) ev s'):X.xe ev s':=by
 obtain⟨a,C,H',rfl,os,bare,un,hok,tr,C',ec,q⟩:=h;cases ec;obtain⟨hh,g,d,tk,os'⟩:=s';obtain rfl:os'=s.os:=os;refine q pins _ a (I.call (h':=hh) (g':=g) (d':=d) (t':=tk) (ch:=[]) un hok bare (fun b z=>absurd z (by simp))) (tr.mono fun b z=>⟨?_,z.2,fun p hp e0=>by
  have:=(I.pin p hp).1;rw[e0,z.1]at this;cases this⟩)
 cases e0:X.s₀.heap.get? b with
 |none=>rfl
 |some o=>
  obtain⟨o',z'⟩:=I.base.there b o e0 (by rw[hex];simp);rw[z.1]at z';cases z'
theorem V5{Q:VK}{vs:List V}(hex:X.ex=[])(F:FnOk X.prog X.w X.K X.mg X.base (CX1 X.prog X.w) k f fd ps sp)(hr:Room k X.A)(hb:Binds X.K fd ps [])
  (I:Inv X pins σ H s)(r:Vals vs us)(h:sp vs H Q (EXs X σ)):wpAny (model X.prog X.w) X.A (call (.ref f) us) (EP X pins σ Q) X.xe s:=by
 have hl:(us++[]).length=ps.length:=by rw[aQ,<- r.length];exact F.len _ _ _ _ h
 refine fq (dJ (F.run X.A X.stack s H ⟨us,[]⟩ (us++[]) vs Q (EXs X σ) hr I.env0 (hb s us I.kIn hl) (by rw[aQ];exact r) h) fun r s' hq=>?_);cases r with
 |error e=>exact qf4 hex I hq
 |ok fl=>
  cases fl with
  |ret u=>exact I.after hq
  |next=>exact False.elim hq
  |brk=>exact False.elim hq
  |cont=>exact False.elim hq
def qcy(X:Cx)(sp:Sp)(t:TA):TE:=fun σ H Q=>t σ H fun vs H1=>sp vs H1 Q (EXs X σ)
def qcs(X:Cx)(C:Addr)(m:Str)(sp:Sp)(ta:TE)(t:TA):TE:=fun σ H Q=>ta σ H fun x H1=>∃a dx fs,x=.ref a/\H1 a=some (.ins C dx fs)/\fs.lookup m=none/\t σ H1 fun vs H2=>sp (x::vs) H2 Q (EXs X σ)
theorem Yu(F:FnOk X.prog X.w X.K X.mg X.base (CX1 X.prog X.w) k f fd ps sp)(hr:Room k X.A)(hg:Gl X x)(hm:X.mg x=some (.ref f))(hk:PySem.W.keepIn X.K (.ref f)=true)(hb:Binds X.K fd ps [])
  (ha:PA X (e::es) t)(hex:X.ex=[]:=by rfl)(hdb:(x == ("__debug__":Str))=false:=by decide)(he:starEach (e::es) X.env=(false,eval e X.env)::starEach es X.env:=by rfl)(hpl:(backTo pos (starEach es X.env)).any (·.1)=false:=by rfl) :
  PE X (.Call (.Name x p) (e::es) [] pos) (qcy X sp t):=by
 intro pins s σ H Q I h;refine cq (kY I hg hm ?_ hdb);refine cS (h₀:=X.base) I.ok.mod.kin hk (thn (ha pos pins s σ H _ I h) fun us s1⟨vs,H1,I1,r,q⟩=>⟨I1.kIn,?_⟩) he hpl;exact V5 hex F hr hb I1 r q
theorem Yl{pl:Sem Bool}(he:PE X o ta)(c:Cls X.K C)(hm:Meth X.K C m f)(F:FnOk X.prog X.w X.K X.mg X.base (CX1 X.prog X.w) k f fd ps sp)(hr:Room k X.A)(hb:Binds X.K fd ps [])(ha:PA X (e::es) t)(hex:X.ex=[]:=by rfl)
  (hst:starEach (e::es) X.env=(false,eval e X.env)::starEach es X.env:=by rfl)(hpl:(backTo pos (starEach es X.env)).any (·.1)=false:=by rfl)
  (ht:eval (.Call (.Attribute o m apos) (e::es) [] pos) X.env=(do
   let ov <- eval o X.env
   standAt apos.atName
   let(f,first) <- holding [ov] (getMethod ov m pl)
   callWith pos f first (backTo pos (starEach (e::es) X.env)) (backToKw pos (keywordEach [] X.env))):=by rfl) :
  PE X (.Call (.Attribute o m apos) (e::es) [] pos) (qcs X C m sp ta t):=by
 intro pins s σ H Q I h;refine dM (pl:=pl) (thn (he pins s σ H _ I h) fun u s1⟨x,H1,I1,rx,a,dx,fs,ex,ea,l,q⟩=>?_) ht;subst ex;obtain rfl:u=Value.ref a:=rx;refine xG I1 ea c hm l ?_;refine cS (first:=[.ref a]) (h₀:=X.base) I.ok.mod.kin hm.kp (thn (ha pos pins s1 σ H1 _ I1 q) fun us s2⟨vs,H2,I2,r,q2⟩=>⟨I2.kIn,?_⟩) hst hpl;exact V5 (us:=.ref a::us) (vs:=.ref a::vs) hex F hr hb I2 (.cons rfl r) q2
end
theorem ZR{g':Array GenState}{t':Nat}{d':Drawn}{ch:fP}(I:Inv X pins σ H s)
  (hch:∀b∈ch,(b∈X.ex\/X.s₀.heap.get? b=none)/\b≠X.env.locals/\(∀x c,X.env.cells.lookup x=some c->c≠b)/\∀p∈X.pn++pins,p.1≠b)
  (keep:∀b o,b≠X.env.locals->b∉X.fs->b∉ch->s.heap.get? b=some o->H b=none->h'.get? b=some o)
  (slot:∀b o,b≠X.env.locals->b∈X.fs->b∉ch->s.heap.get? b=some o->H b=none->∃sl,h'.get? b=some { o with slots:=sl })(free:∀b o,b∉ch->s.heap.get? b=some o->H b=none->H' b=none)
  (there:∀b o,b∉ch->s.heap.get? b=some o->∃o',h'.get? b=some o')
  (tups:∀b xs,H b=some (.tup xs)->H' b=some (.tup xs))(frzs:∀b o u,H b=some (.frz o u)->H' b=some (.frz o u))(tbls:∀b ps,H b=some (.tbl ps)->∃more,H' b=some (.tbl (ps++more)))
  (ns:∀m,s.heap.Ns X.env.locals m->h'.Ns X.env.locals m)(hok:HOk X.prog X.w H' h')(hg:AllBare g') :
  Inv X pins σ H' { s with heap:=h',gens:=g',drawn:=d',toks:=t' }:=by
 have neL:∀b o,X.s₀.heap.get? b=some o->b≠X.env.locals:=fun b o e=>aI (az (au e) I.ok.above)
 have neC:∀b o,X.s₀.heap.get? b=some o->b∉X.ex->b∉ch:=fun b o e hx hb=>by
  rcases(hch b hb).1 with z|z
  ·exact hx z
  ·rw[z]at e;cases e
 have cellK:∀x c,X.env.cells.lookup x=some c->∀v,s.heap.IsCell c v->h'.IsCell c v:=fun x c e v⟨o,ho,hd⟩=>by
  have nch:c∉ch:=fun z=>(hch c z).2.2.1 x c e rfl
  by_cases hc:c∈X.fs
  ·obtain⟨sl,q⟩:=slot c o (I.cne x c e) hc nch ho (I.freeC x c e)
   exact⟨_,q,hd⟩
  ·exact⟨o,keep c o (I.cne x c e) hc nch ho (I.freeC x c e),hd⟩
 refine⟨I.ok,I.os,hg,⟨fun b o e n hb hx=>?_,fun b o e n hb hx=>?_,fun b o e n hx=>?_,fun b o e hx=>?_,fun b xs e=>tups b xs (I.base.tups b xs e),fun b o xs e=>frzs b o xs (I.base.frzs b o xs e),fun b ps e=>?_⟩,?_,fun x c e=>?_,?_,fun x c e=>?_,fun p hp=>?_,hok,I.len⟩
 ·exact keep b o (neL b o e) hb (neC b o e hx) (I.base.keep b o e n hb hx) (I.base.free b o e n hx)
 ·obtain⟨sl,e1⟩:=I.base.slot b o e n hb hx
  obtain⟨sl',e2⟩:=slot b _ (neL b o e) hb (neC b o e hx) e1 (I.base.free b o e n hx);exact⟨sl',e2⟩
 ·obtain⟨o',e1⟩:=I.base.there b o e hx
  exact free b o' (neC b o e hx) e1 (I.base.free b o e n hx)
 ·obtain⟨o',e1⟩:=I.base.there b o e hx
  exact there b o' (neC b o e hx) e1
 ·obtain⟨m1,e1⟩:=I.base.tbls b ps e
  obtain⟨m2,e2⟩:=tbls b _ e1;exact⟨m1++m2,by rw[e2,Array.append_assoc]⟩
 ·obtain⟨m,hn,hl⟩:=I.loc
  refine⟨m,ns m hn,fun i x v e1 e2 e3=>?_⟩;obtain⟨u,r,l⟩:=hl i x v e1 e2 e3;refine⟨u,r,?_⟩;rcases l with l|⟨k,c,e,z⟩
  ·exact .inl l
  ·exact .inr ⟨k,c,e,cellK x c e _ z⟩
 ·obtain⟨v,z⟩:=I.cell x c e
  exact⟨v,cellK x c e v z⟩
 ·obtain⟨m,⟨o,_,_,ho,_⟩,_⟩:=I.loc
  exact free _ o (fun z=>(hch _ z).2.1 rfl) ho I.free
 ·obtain⟨v,o,ho,hd⟩:=I.cell x c e
  exact free c o (fun z=>(hch c z).2.2.1 x c e rfl) ho (I.freeC x c e)
 ·obtain⟨e,n,ne,nf,d⟩:=I.pin p hp
  have nch:p.1∉ch:=fun z=>(hch p.1 z).2.2.2 p hp rfl
  exact⟨keep p.1 p.2 ne nf nch e n,free p.1 p.2 nch e n,ne,nf,d⟩
theorem XY(hex:X.ex=[])(hst:X.stack=X.env::X.outer)(hfr:X.env.frame=some X.env.locals)
  (I:Inv X pins σ H s)(t:Fly X pins H s a C)(q:∀s',Inv X pins σ H s'->Fly X pins H s' a C->Q () s') :
  wpAny (model X.prog X.w) X.A (noteFrame (.ref a) X.env) (fun _ s'=>wpAny (model X.prog X.w) X.A (setFlight (.ref a) none) Q E s') E s:=by
 have fresh:∀b,s.heap.get? b=none->X.s₀.heap.get? b=none/\H b=none/\∀p∈X.pn++pins,p.1≠b:=fun b e=>by
  refine⟨?_,JK I e,fun p hp z=>?_⟩
  ·cases e0:X.s₀.heap.get? b with
   |none=>rfl
   |some o=>
    obtain⟨o',z⟩:=I.base.there b o e0 (by rw[hex];simp);rw[e]at z;cases z
  ·have:=(I.pin p hp).1
   rw[z,e]at this;cases this
 have hS:s.heap.FunFrames X.base (X.env::X.outer):=by rw[<- hst];exact I.stack
 refine uJ (base:=X.base) (by rw[<- hst];exact I.ok.frames) hS hfr t fresh fun h' ch t' hch keep slot=>?_
 have hfm:(X.env::X.outer).filterMap (·.frame)=X.env.locals::X.fs:=by
  rw[cJ,hfr];rfl
 have stk:∀b∈(X.env::X.outer).filterMap (·.frame),H b=none:=by
  have:=I.stkFree;rw[hst]at this;exact this
 obtain⟨m,⟨oL,es,ep,hoL,rL⟩,_⟩:=id I.loc;have nL:∀b∈ch,b≠X.env.locals:=fun b hb z=>by
  obtain⟨_,o,vs,e1,e2⟩:=hch b hb;rw[z,hoL]at e1;cases e1;rw[rL.1]at e2;cases e2
 have nC:∀b∈ch,∀x c,X.env.cells.lookup x=some c->c≠b:=fun b hb x c e z=>by
  obtain⟨_,o,vs,e1,e2⟩:=hch b hb;obtain⟨v,o',e3,e4⟩:=I.cell x c e;rw[z,e1]at e3;cases e3;rw[e2]at e4;cases e4
 have J:Inv X pins σ H { s with heap:=h' }:=ZR (g':=s.gens) (d':=s.drawn) (t':=s.toks) (ch:=ch) I (fun b hb=>⟨.inr (hch b hb).1.1,nL b hb,nC b hb,(hch b hb).1.2.2⟩)
  (fun b o h1 h2 h3 e _=>keep b o (by rw[hfm];intro z;exact(ah.mp z).elim h1 h2) h3 e)
  (fun b o h1 h2 h3 e _=>slot b o h3 e) (fun b o h3 e n=>n) (fun b o h3 e=>by
   obtain⟨sl,z⟩:=slot b o h3 e;exact⟨_,z⟩) (fun _ _ e=>e) (fun _ _ _ e=>e) (fun b ps e=>⟨#[],by rw[e];simp⟩)
  (fun m' hm=>by
   obtain⟨o',es',ep',ho',r'⟩:=hm;obtain⟨sl,z⟩:=slot _ o' (fun z=>nL _ z rfl) ho';exact⟨_,es',ep',z,r'⟩)
  (fun b u e=>by
   have kk:∀c v,(∃z,H c=some z)->s.heap.get? c=some v->h'.get? c=some v:=fun c v⟨z,hz⟩ e1=>keep c v (fun hb=>by rw[stk c hb]at hz;cases hz) (fun hb=>by have:=(hch c hb).1.2.1;rw[this]at hz;cases hz) e1
   exact(I.hok b u e).stay (fun c v hc e1=>kk c v (hc.elim (fun z=>⟨u,by rw[z];exact e⟩) fun z=>⟨_,z⟩) e1) (fun _ z=>z) fun _ _ z=>z) I.bare
 exact q _ J t'
abbrev hnd(X:Cx)(e:Addr):Cx:={ X with A:=X.A.mark (some (.ref e)),calm:=false,xe:=fun _ _=>False }
theorem qdz(ok:X.Ok)(e:Addr):(hnd X e).Ok:=
 ⟨ok.mod,ok.kind,ok.glob,ok.blt,ok.above,ok.inj,ok.has,ok.cab,(fun z=>by cases z),ok.frames,ok.stk,ok.exf,ok.bs,ok.bsz,ok.noex,ok.exfs,ok.funs,ok.frf⟩
theorem Yy(ok:(hnd X e).Ok)(hd:X.calm=true->X.A.handled=none):X.Ok:=
 ⟨ok.mod,ok.kind,ok.glob,ok.blt,ok.above,ok.inj,ok.has,ok.cab,hd,ok.frames,ok.stk,ok.exf,ok.bs,ok.bsz,ok.noex,ok.exfs,ok.funs,ok.frf⟩
section
variable{X:Cx}{pins:fM}{σ:L2.St}{H:Hp}{s:Shared}{e:Addr}
theorem qbq(I:Inv X pins σ H s)(e:Addr):Inv (hnd X e) pins σ H s:=⟨qdz I.ok e,I.os,I.bare,I.base,I.loc,I.cell,I.free,I.freeC,I.pin,I.hok,I.len⟩
theorem XU(I:Inv (hnd X e) pins σ H s)(hd:X.calm=true->X.A.handled=none):Inv X pins σ H s:=⟨Yy I.ok hd,I.os,I.bare,I.base,I.loc,I.cell,I.free,I.freeC,I.pin,I.hok,I.len⟩
end
def jG(h:Heap)(C D:Addr):Prop:=∃bm N nm q bs hdct sn sub ab col dd k0 k1 k2 k3 k5 newId,h.get? C=some (excClassObj nm q C N bs bm hdct sn sub ab col dd k0 k1 k2 k3 k5 newId)/\bm.contains (.type "BaseException")=true/\(Value.ref C::bm).contains (.ref D)=true
theorem Jz{D:Addr}{Q:Bool->Shared->Prop}(hC:jG s.heap C D)(hD:jG s.heap D D)(he:s.heap.get? e=some oe)(hcls:oe.cls=.ref C)(hq:Q true s):wpAny M A (excMatches (.ref e) (.ref D)) Q E s:=by
 obtain⟨bm,N,nm,q,bs,hdct,sn,sub,ab,col,dd,k0,k1,k2,k3,k5,newId,hC,_,hcC⟩:=hC;obtain⟨bm',N',nm',q',bs',hdct',sn',sub',ab',col',dd',k0',k1',k2',k3',k5',newId',hD,hb,_⟩:=hD;have hcB:(Value.ref D::bm').contains (.type "BaseException")=true:=by rw[List.contains_cons,hb,Bool.or_true]
 have f:=tc_notTuple;obtain⟨h,g,d,t,os⟩:=s;unfold excMatches
 repeat (first|(with_reducible refine dH he ?_;rw[hcls])|with_reducible refine dH hD ?_|(with_reducible refine wpAny_isSubtype_exc hD ?_;rw[hcB])|(with_reducible refine wpAny_isSubtype_exc hC ?_;rw[hcC])|wp_step)
 exact hq
theorem Vp{i:Nat}{x:Str}{v:V}(I:Inv X pins σ H s)(hN:X.N.Nodup)(hi:X.N[i]?=some x)(hx:X.env.scope.names.lookup x=some .local)(hs:σ[i]?=some (some v))
  (h:∀s',Inv X pins (σ.set i none) H s'->Q () s'):wpAny M A (unbindName X.env x) Q E s:=by
 obtain⟨m,hn,hl⟩:=id I.loc;have hcls:(X.env.scope.kind == .class || (X.env.scope.kind == .module && X.env.locals != X.env.globals))=false:=by rw[I.ok.kind];rfl
 obtain⟨u,ru,lk⟩:=hl i x v hi hs (.inl hx);have hk:X.env.kindOf x=some .local:=hx;have hm:m x=some u:=by
  rcases lk with⟨_,e⟩|⟨k,_⟩
  ·exact e
  ·rw[hk]at k
   rcases k with k|k <;> cases k
 refine wpAny_unbindName_local hk hn hm hcls fun h' u' hn' sb=>?_
 have keepT:∀b o,b≠X.env.locals->s.heap.get? b=some o->h'.get? b=some o:=fun b o hb e=>(sb.2 b hb).trans e
 have nH:∀b u,H b=some u->b≠X.env.locals:=fun b u e z=>by rw[z,I.free]at e;cases e
 refine h _ ⟨I.ok,I.os,I.bare,⟨fun b o e n hb hx'=>?_,fun b o e n hb hx'=>?_,I.base.free,fun b o e hx'=>?_,I.base.tups,I.base.frzs,I.base.tbls⟩,⟨_,hn',fun j y w h1 h2 h3=>?_⟩,fun y c e=>?_,I.free,I.freeC,fun p hp=>?_,fun b u e=>?_,by rw[aS];exact I.len⟩
 ·exact keepT b o (aI (az (au e) I.ok.above)) (I.base.keep b o e n hb hx')
 ·obtain⟨sl,z⟩:=I.base.slot b o e n hb hx'
  exact⟨sl,keepT b _ (aI (az (au e) I.ok.above)) z⟩
 ·obtain⟨o',z⟩:=I.base.there b o e hx'
  exact⟨o',keepT b _ (aI (az (au e) I.ok.above)) z⟩
 ·by_cases hj:j=i
  ·subst hj
   have hl':j<σ.length:=(ai.mp hs).1;rw[aA hl']at h2;cases h2
  ·rw[ay (bc hj)]at h2
   obtain⟨u2,r2,l2⟩:=hl j y w h1 h2 h3;refine⟨u2,r2,?_⟩;have hy:y≠x:=fun z=>hj ((f9 (ai.mp h1).1 hN).mp (h1.trans (by rw[z];exact hi.symm)))
   rcases l2 with⟨k,e⟩|⟨k,c,e,o,e1,e2⟩
   ·exact .inl ⟨k,(aG hy).trans e⟩
   ·exact .inr ⟨k,c,e,o,keepT c o (I.cne y c e) e1,e2⟩
 ·obtain⟨v',o,e1,e2⟩:=I.cell y c e
  exact⟨v',o,keepT c o (I.cne y c e) e1,e2⟩
 ·obtain⟨e1,e2,e3,e4,e5⟩:=I.pin p hp
  exact⟨keepT p.1 p.2 e3 e1,e2,e3,e4,e5⟩
 ·exact(I.hok b u e).stay (fun c w hc e1=>keepT c w (hc.elim (fun z=>by rw[z];exact nH b u e) fun z=>nH c _ z) e1) (fun _ z=>z) fun _ _ z=>z
theorem Jg{prog:Program}{R:Result->Shared->Prop}{e:Value}{n:Str}{Eb:fN}
  (h:wpAny (model prog w) A (setFlight e none) (fun _ s₁=>wpAny (model prog w) A (bindName env n e) (fun _ s₂=>wpAny (model prog w) A (execs (b₀::body) env) (fun f s₃=>R (.ok f) s₃) (fun _ _=>False) s₂) (fun _ _=>False) s₁) (fun _ _=>False) s) :
  codeAny (model prog w) A (.handlers e [.ExceptHandler none (some n) (b₀::body) pos] env) R s:=by
 refine codeAny_of_tree ?_;show wpAny _ A (do return Fin.done (<- (handleWith e env [.ExceptHandler none (some n) (b₀::body) pos]).onRaise (fun x=>do noteFrame x env;theTreesLotGoes x))) _ _ s;refine ae (wpAny_noted ?_);unfold handleWith;refine ae (eh (ae (bh h (fun _ s₁ h₁=>ae (bh h₁ (fun _ s₂ h₂=>ae (eB (bh h₂ (fun f s₃ h₃=>ax (ax h₃)) fun _ _ x=>x.elim))) fun _ _ x=>x.elim)) fun _ _ x=>x.elim)))
theorem wa{D:Addr}(k:∀b o,h.get? b=some o->h'.get? b=some o)(x:jG h C D):jG h' C D:=by
 obtain⟨bm,N,nm,q,bs,hdct,sn,sub,ab,col,dd,k0,k1,k2,k3,k5,newId,hC,r⟩:=x;exact⟨bm,N,nm,q,bs,hdct,sn,sub,ab,col,dd,k0,k1,k2,k3,k5,newId,k _ _ hC,r⟩
theorem Vs(I:Inv X pins σ H s)(t:Fly X pins H s a C)(q:∀s',Inv X pins σ H s'->Fly X pins H s' a C->Q () s'):wpAny M A (setFlight (.ref a) none) Q E s:=by
 obtain⟨hn,oe,vs,he,hcls,hd,hcx,ht⟩:=id t;rcases ht with h1|⟨T,oT,ts,h1,hnT,hTe,hT,hdT,h3⟩
 ·unfold setFlight
  refine ae (bF he hd h1 ?_);rw[aG (by decide)];exact ax (q _ I t)
 ·refine wpAny_setFlight_none he hd h1 hT hdT (bV.mp h3).1 ?_
  have other:∀b,b≠T->(s.heap.update T (Obj.mapFields (·.setIfInBounds 3 .none))).get? b=s.heap.get? b:=fun b hb=>aT _ _ (bc hb)
  have hTT:=cj (Obj.mapFields (·.setIfInBounds 3 .none)) hT (ck (bP hdT _));obtain⟨m,⟨oL,es,ep,hoL,rL⟩,_⟩:=id I.loc;have nL:T≠X.env.locals:=fun z=>by
   rw[z,hoL]at hT;cases hT;rw[rL.1]at hdT;cases hdT
  have nC:∀x c,X.env.cells.lookup x=some c->c≠T:=fun x c e z=>by
   obtain⟨v,o',e3,e4⟩:=I.cell x c e;rw[z,hT]at e3;cases e3;rw[hdT]at e4;cases e4
  have nm:∀b,b∉[T]->b≠T:=fun b hb z=>hb (by simp[z])
  refine q _ (ZR (g':=s.gens) (d':=s.drawn) (t':=s.toks) (ch:=[T]) I (fun b hb=>by rw[cT.mp hb];exact⟨.inr hnT.1,nL,nC,hnT.2.2⟩)
   (fun b o _ _ h3' e _=>(other b (nm b h3')).trans e) (fun b o _ _ h3' e _=>⟨o.slots,(other b (nm b h3')).trans e⟩) (fun _ _ _ _ n=>n) (fun b o h3' e=>⟨o,(other b (nm b h3')).trans e⟩) (fun _ _ e=>e) (fun _ _ _ e=>e) (fun b ps e=>⟨#[],by rw[e];simp⟩)
   (fun m' hm=>by
    obtain⟨o',es',ep',ho',r'⟩:=hm;exact⟨o',es',ep',(other _ (bc nL)).trans ho',r'⟩)
   (fun b u e=>by
    have nT:∀c z,H c=some z->c≠T:=fun c z hz q'=>by rw[q',hnT.2.1]at hz;cases hz
    exact(I.hok b u e).stay (fun c v hc e1=>(other c (hc.elim (fun z=>by rw[z];exact nT b u e) fun z=>nT c _ z)).trans e1) (fun _ z=>z) fun _ _ z=>z) I.bare) ⟨hn,oe,vs,(other a (bc hTe)).trans he,hcls,hd,hcx,.inr ⟨T,_,_,h1,hnT,hTe,hTT,bP hdT _,by simp[(bV.mp h3).1]⟩⟩
def exO(a C:Addr):HO:=.ext fun h=>∃o vs,h.get? a=some o/\o.cls=.ref C/\o.data=.fields vs/\vs[2]?=some .none/\o.dict=none
theorem Vr{vs:fS}(hex:X.ex=[])(I:Inv X pins σ H s)(hn:X.s₀.heap.get? a=none/\H a=none/\∀p∈X.pn++pins,p.1≠a)(he:s.heap.get? a=some oe)(hcls:oe.cls=.ref C)(hd:oe.data=.fields vs)(hcx:vs[2]?=some .none/\oe.dict=none):Inv X pins σ (upd H a (.frz oe (exO a C))) s:=by
 have ne:∀b u,H b=some u->b≠a:=fun b u e z=>by rw[z,hn.2.1]at e;cases e
 obtain⟨m,⟨oL,es,ep,hoL,rL⟩,_⟩:=id I.loc;have nL:X.env.locals≠a:=fun z=>by
  rw[z,he]at hoL;cases hoL;rw[rL.1]at hd;cases hd
 have nC:∀x c,X.env.cells.lookup x=some c->c≠a:=fun x c e z=>by
  obtain⟨v,o',e3,e4⟩:=I.cell x c e;rw[z,he]at e3;cases e3;rw[hd]at e4;cases e4
 refine⟨I.ok,I.os,I.bare,⟨I.base.keep,I.base.slot,fun b o e n hx=>?_,I.base.there,fun b xs e=>?_,fun b o u e=>?_,fun b ps e=>?_⟩,I.loc,I.cell,?_,fun x c e=>?_,fun p hp=>?_,fun b u e=>?_,I.len⟩
 ·rw[qf (fun z=>by rw[z,hn.1]at e;cases e)]
  exact I.base.free b o e n hx
 ·have q:=I.base.tups b xs e
  rw[qf (ne b _ q)];exact q
 ·have q:=I.base.frzs b o u e
  rw[qf (ne b _ q)];exact q
 ·obtain⟨more,q⟩:=I.base.tbls b ps e
  exact⟨more,by rw[qf (ne b _ q)];exact q⟩
 ·rw[qf nL];exact I.free
 ·rw[qf (nC x c e)];exact I.freeC x c e
 ·obtain⟨e1,e2,e3⟩:=I.pin p hp
  exact⟨e1,by rw[qf (hn.2.2 p hp)];exact e2,e3⟩
 ·by_cases hb:b=a
  ·subst hb
   rw[qi]at e;cases e;exact⟨he,⟨oe,vs,he,hcls,hd,hcx⟩,⟨oe,he⟩,fun h1 h2⟨o,v,q,r⟩ k=>⟨o,v,k o q,r⟩⟩
  ·rw[qf hb]at e
   exact(I.hok b u e).stay (fun c v _ e1=>e1) (fun c q=>by rw[qf (ne c _ q)];exact q) fun c xs q=>by rw[qf (ne c _ q)];exact q
def unD(D:Ends)(i:Nat):Ends:={ nx:=fun σ H=>D.nx (σ.set i none) H,rt:=D.rt,bk:=fun σ H=>D.bk (σ.set i none) H,ct:=fun σ H=>D.ct (σ.set i none) H }
theorem ul{i:Nat}{ts:TS}{D:Ends}(hex:X.ex=[])(hst:X.stack=X.env::X.outer)(hfr:X.env.frame=some X.env.locals)
  (hN:X.N.Nodup)(hi:X.N[i]?=some nm)(hloc:X.env.scope.names.lookup nm=some .local)(hgc:Gl X cx)(hmc:X.mg cx=some (.ref Wc))(hd:(cx == ("__debug__":Str))=false)(hW:jG X.base Wc Wc)(hC:jG X.base C Wc)
  (hs:PSs (hnd X a) (b₀::suite) ts)(I:Inv X pins σ H s)(t:Fly X pins H s a C)(q:∀oe vs,oe.cls=.ref C->oe.data=.fields vs->vs[2]?=some .none/\oe.dict=none->ts (unD D i) (σ.set i (some (.ref a))) (upd H a (.frz oe (exO a C)))) :
  wpAny (model X.prog X.w) X.A (handleBy (.ref a) X.env [.ExceptHandler (some (.Name cx cp)) (some nm) (b₀::suite) hp]) (SP X pins D) X.xe s:=by
 have I1:=qbq I a;have hx:Loc X.env.scope nm:=.inl hloc;obtain⟨hn,oe,vs,he,hcls,hdv,hcx,ht⟩:=id t;refine wpAny_handleBy_cons (codeAny_handlers_test (kY (X:=hnd X a) I1 hgc hmc ?_ hd)) (by intro z;cases z);refine Jz (wa I.bk hC) (wa I.bk hW) he hcls ?_;show codeAny _ _ _ _ s;refine Jg (Eb:=fun _ _=>False) ?_;have fin:∀(s2:Shared)(σ2:L2.St)(H2:Hp)(Q:Unit->Shared->Prop),Inv (hnd X a) pins σ2 H2 s2->(∀s3,Inv X pins (σ2.set i none) H2 s3->Q () s3)->wpAny (model X.prog X.w) X.A (do bindName X.env nm .none;unbindBehindTheSuite X.env nm hp) Q X.xe s2:=fun s2 σ2 H2 Q J k=>by
  have J0:=XU J I.ok.hd;refine ae (wpAny_bindName (wB (v:=.non) J0 hN hi hx rfl (fun s3 J3=>?_) (.inr hloc)));unfold unbindBehindTheSuite;have hiσ:i<σ2.length:=by rw[J0.len];exact(ai.mp hi).1
  refine wpAny_onRaise (bh (Vp (E:=fun _ _=>False) J3 hN hi hloc (v:=.non) (by rw[aA hiσ]) fun s4 J4=>?_) (fun _ _ z=>z) fun _ _ z=>z.elim);rw[List.set_set]at J4;exact k s4 J4
 refine Vs I1 t fun s1 J1' t1=>?_
 obtain⟨hn1,oe1,vs1,he1,hcls1,hdv1,hcx1,_⟩:=t1;have J1:=Vr (X:=hnd X a) hex J1' hn1 he1 hcls1 hdv1 hcx1;refine wpAny_bindName (wB (X:=hnd X a) (v:=.ref a) (E:=fun _ _=>False) J1 hN hi hx rfl (fun s2 J2=>?_) (.inr hloc));refine bh (hs pins s2 _ _ (unD D i) J2 (q oe1 vs1 hcls1 hdv1 hcx1)) (fun f s3 h3=>?_) fun _ _ z=>z
 cases f with
 |next=>
  obtain⟨σ',H',J,d⟩:=h3;exact fin s3 σ' H' _ J fun s4 J4=>⟨_,H',J4,d⟩
 |brk=>
  obtain⟨σ',H',J,d⟩:=h3;exact fin s3 σ' H' _ J fun s4 J4=>⟨_,H',J4,d⟩
 |cont=>
  obtain⟨σ',H',J,d⟩:=h3;exact fin s3 σ' H' _ J fun s4 J4=>⟨_,H',J4,d⟩
 |ret u=>
  obtain⟨v,σ',H',J,r,d⟩:=h3;exact fin s3 σ' H' _ J fun s4 J4=>⟨v,_,H',J4,r,d⟩
abbrev trX(X:Cx)(pn:fM)(E:fN):Cx:={ X with pn:=pn,xe:=E }
theorem qf5(ok:X.Ok)(pn:fM)(E:fN):(trX X pn E).Ok:=
 ⟨ok.mod,ok.kind,ok.glob,ok.blt,ok.above,ok.inj,ok.has,ok.cab,ok.hd,ok.frames,ok.stk,ok.exf,ok.bs,ok.bsz,ok.noex,ok.exfs,ok.funs,ok.frf⟩
theorem qa5{pn:fM}(ok:(trX X pn E).Ok):X.Ok:=
 ⟨ok.mod,ok.kind,ok.glob,ok.blt,ok.above,ok.inj,ok.has,ok.cab,ok.hd,ok.frames,ok.stk,ok.exf,ok.bs,ok.bsz,ok.noex,ok.exfs,ok.funs,ok.frf⟩
section
variable{X:Cx}{pins:fM}{σ:L2.St}{H:Hp}{s:Shared}{E:fN}
theorem qek(I:Inv X pins σ H s)(E:fN):Inv (trX X (X.pn++pins) E) [] σ H s:=⟨qf5 I.ok _ E,I.os,I.bare,I.base,I.loc,I.cell,I.free,I.freeC,fun p hp=>I.pin p (by rw[aQ]at hp;exact hp),I.hok,I.len⟩
theorem xl{pins':fM}(I:Inv (trX X (X.pn++pins) E) pins' σ H s):Inv X pins σ H s:=⟨qa5 I.ok,I.os,I.bare,I.base,I.loc,I.cell,I.free,I.freeC,fun p hp=>I.pin p (bR _ hp),I.hok,I.len⟩
end
def tTry(X:Cx)(Wc:Addr)(i:Nat)(tb:fM->(fN)->TS)(ts:Addr->TS):TS:=fun D σ H=>∀pn E,
 (∀pins' σ' H' s' a C,Inv (trX X pn E) pins' σ' H' s'->Fly (trX X pn E) pins' H' s' a C->jG X.base C Wc->(∀oe vs,oe.cls=.ref C->oe.data=.fields vs->vs[2]?=some .none/\oe.dict=none->ts a (unD D i) (σ'.set i (some (.ref a))) (upd H' a (.frz oe (exO a C))))->E (.ref a) s')->tb pn E D σ H
theorem uE{i:Nat}{tb:fM->(fN)->TS}{ts:Addr->TS}(hex:X.ex=[])(hst:X.stack=X.env::X.outer)(hfr:X.env.frame=some X.env.locals)
  (hN:X.N.Nodup)(hi:X.N[i]?=some nm)(hloc:X.env.scope.names.lookup nm=some .local)(hgc:Gl X cx)(hmc:X.mg cx=some (.ref Wc))(hW:jG X.base Wc Wc)
  (hb:∀pn E,PSs (trX X pn E) body (tb pn E))(hs:∀a,PSs (hnd X a) (b₀::suite) (ts a))(hd:(cx == ("__debug__":Str))=false:=by decide) :
  PS X (.Try body [.ExceptHandler (some (.Name cx cp)) (some nm) (b₀::suite) hp] [] [] pos) (tTry X Wc i tb ts):=by
 intro pins s σ H D I q;refine wpAny_Try_except ?_;let E:fN:=fun e s₁=>wpAny (model X.prog X.w) X.A (noteFrame e X.env) (fun _ s₂=>wpAny (model X.prog X.w) X.A (setFlight e none) (fun _ s₃=>wpAny (model X.prog X.w) X.A (handleBy e X.env [.ExceptHandler (some (.Name cx cp)) (some nm) (b₀::suite) hp]) (SP X pins D) X.xe s₃) X.xe s₂) X.xe s₁
 have hq:=q (X.pn++pins) E fun pins' σ' H' s' a C J t hC qs=>by
  have J0:=xl J;have t0:Fly X pins H' s' a C:=t.mono fun b z=>⟨z.1,z.2.1,fun p hp=>z.2.2 p (bR _ hp)⟩
  exact XY hex hst hfr J0 t0 fun s3 J3 t3=>ul hex hst hfr hN hi hloc hgc hmc hd hW hC (hs a) J3 t3 qs
 refine bh (hb (X.pn++pins) E [] s σ H D (qek I E) hq) (fun f s1 h1=>?_) fun e s1 h1=>h1
 cases f with
 |next=>
  obtain⟨σ',H',J,d⟩:=h1;show wpAny _ _ (execs [] X.env) _ _ s1;exact ax ⟨σ',H',xl J,d⟩
 |brk=>
  obtain⟨σ',H',J,d⟩:=h1;exact⟨σ',H',xl J,d⟩
 |cont=>
  obtain⟨σ',H',J,d⟩:=h1;exact⟨σ',H',xl J,d⟩
 |ret u=>
  obtain⟨v,σ',H',J,r,d⟩:=h1;exact⟨v,σ',H',xl J,r,d⟩
theorem QH:entryFor table "proto.unchain"=some Builtin.«proto.unchain»:=entryFor_of_tree (by kernel_rfl)
theorem Ql:plainId "proto.unchain"=true:=by decide +kernel
section
variable{prog:Program}{w:World}{A:Around}{E:fN}{s:Shared}
def HndAt(A:Around)(h:Heap):Prop:=∃b ob vb,A.handled=some (.ref b)/\h.get? b=some ob/\ob.data=.fields vb/\vb[2]?=some .none
theorem Zl{α:Type}{oa:Obj}{va:fS}{Q:α->Shared->Prop}(hh:HndAt A s.heap)(hna:∀b,A.handled=some (.ref b)->b≠a)(he:s.heap.get? a=some oa)(hd:oa.data=.fields va)(h2:2<va.size)
  (h:∀v,E (.ref a) { s with heap:=s.heap.update a (Obj.mapFields (·.setIfInBounds 2 v)) }):wpAny (model prog w) A (raiseNew (.ref a):Sem α) Q E s:=by
 obtain⟨b,ob,vb,hb,hob,hdb,hb2⟩:=hh;have hne:=hna b hb;unfold raiseNew;refine ae (wpAny_handled ?_);rw[hb];show wpAny (model prog w) A (if(Value.ref b != Value.ref a)=true then _ else _) Q E s;rw[aH (by simp[hne])];refine ae (bj (wpAny_runValue (codeAny_builtin QH ?_)));rw[Around.under_plainId Ql _];unfold Builtin.«proto.unchain»;refine ae (bF hob hdb hb2 ?_);rw[aH (by rfl)];refine ax ?_;show wpAny (model prog w) A (updateField a 2 (.ref b) >>= _) Q E s;refine ae ?_;unfold updateField;refine ae (wpAny_load he ?_);rw[hd];show wpAny (model prog w) A (if 2<va.size then _ else _) _ E s;rw[aH h2];exact wpAny_update he (wpAny_throw (h _))
theorem HndAt.keeps{A':Around}(hA:A'.handled=A.handled)(x:HndAt A h)(k:∀b o,A.handled=some (.ref b)->h.get? b=some o->h'.get? b=some o):HndAt A' h':=by
 obtain⟨b,ob,vb,h1,h2,h3⟩:=x;exact⟨b,ob,vb,hA.trans h1,k b ob h1 h2,h3⟩
open PySem.F in
theorem kL{l:Addr}{i:Nat}{Q:fN}(hh:HndAt A s.heap)(hni:∀b,A.handled=some (.ref b)->b≠it)
  (hit:s.heap.IsListIter it l i)(hl:s.heap.IsList l items)(hx:items[i]?=none)
  (hE:∀h' e,Heap.ExtBut it s.heap h'->(∃o,h'.get? e=some o/\o.cls=.type "StopIteration")->E (.ref e) { s with heap:=h' }) :
  wpAny (model prog w) A (Builtin.SmallTypes.nextOf (.ref it)) Q E s:=by
 obtain⟨o,ho,hc,hd⟩:=id hit;obtain⟨ol,hol,_,nl,hdl⟩:=hl;unfold Builtin.SmallTypes.nextOf;refine ae (cM (name:=Str.ofString "__next__") hit.typeIs slot_listiter_next
  (dR slot_listiter_next hit.typeIs entry_listiter_next ?_ (args_listiter_next _)))
 show wpAny _ _ (field (.ref it) 0 >>= _) _ _ s;refine ae (bF ho hd (x:=.ref l) rfl ?_);show wpAny _ _ (if(Value.ref l == Value.none)=true then _ else _) _ _ s;rw[aG (show ¬ ((Value.ref l == Value.none)=true)from cn)];show wpAny _ _ (field (.ref it) 1 >>= _) _ _ s;refine ae (bF ho hd (x:=.int i 0) rfl ?_);show wpAny _ _ (seqItems? (.ref l) >>= _) _ _ s;refine ae (ff hol hdl ?_);simp only[cY,hx];refine ae (wpAny_rule (ae (dI ho hd (by simp) ?_)));show wpAny _ _ (newExc (.type "StopIteration") [] >>= _) _ _ _;refine ae ?_;simp only[newExc,newTuple];refine ae (bD ?_ (by size_fits));refine ae (m:=firstArgMember _ _) (wpAny_of_eq (a:=Value.none) (by first|rfl|(simp only[firstArgMember];rfl)) ?_);refine bD ?_ (by size_fits);have kp:∀b o,b≠it->s.heap.get? b=some o->(s.heap.update it (Obj.mapFields (·.setIfInBounds 0 .none))).get? b=some o:=fun b o hb e=>(aT _ _ (bc hb)).trans e
 obtain⟨hb',ob,vb,hhb,hob,hdb⟩:=id hh;refine Zl (oa:=_) (va:=_) (hh.keeps rfl fun b o hb e=>ag _ (ag _ (kp b o (hni b hb) e))) (fun b hb z=>?_) (a7 _ rfl) rfl (by show 2<6;decide) fun v=>?_
 ·have e2:=hhb.symm.trans hb
  cases e2;have hlt:=au (ag (h:=s.heap.update it (Obj.mapFields (·.setIfInBounds 0 .none))) { cls:=.type "tuple",data:=.seq #[] } (kp hb' ob (hni hb' hhb) hob));exact absurd (show hb'=_ from z) (aI hlt)
 ·have hself:=fun(h:Heap)(vs:fS)=>cj (Obj.mapFields (·.setIfInBounds 2 v)) (a7 (o:={ cls:=.type "StopIteration",data:=.fields vs }) h rfl) (ck (bP rfl _))
  refine hE _ _ (fun b o hb e=>?_) ⟨_,hself _ _,fB _ _⟩;have e2:=ag (h:=s.heap.update it (Obj.mapFields (·.setIfInBounds 0 .none))) { cls:=.type "tuple",data:=.seq #[] } (kp b o hb e);exact(aT _ _ (cI (au e2))).trans (ag _ e2)
open PySem.F in
theorem yU{z TI TO:Addr}{a b:Value}{Q:Fin->Shared->Prop}(hh:HndAt A s.heap)(hni:∀b,A.handled=some (.ref b)->b≠z/\b≠TO/\b≠i1/\b≠i2)(D:ZipApart z TI TO i1 i2 l1 l2)
  (hz:IsZip s.heap z TI TO .none)(hTI:IsPair s.heap TI (.ref i1) (.ref i2))(hTO:IsPair s.heap TO a b)
  (h1:s.heap.IsListIter i1 l1 k1)(h2:s.heap.IsListIter i2 l2 k2)(hl1:s.heap.IsList l1 xs)(hl2:s.heap.IsList l2 ys)(hend:xs[k1]?=none\/ys[k2]?=none)
  (hE:∀h' e,(∀c o,c≠z->c≠TO->c≠i1->c≠i2->s.heap.get? c=some o->h'.get? c=some o)->(∃o,h'.get? e=some o/\o.cls=.type "StopIteration")->E (.ref e) { s with heap:=h' }) :
  wpAny (model prog w) A (Builtin.«zip.__next__» ⟨[.ref z],[]⟩) Q E s:=by
 show wpAny _ _ (field (.ref z) 2 >>= _) _ _ _;refine ae (bF hz rfl (x:=.bool false) rfl ?_);show wpAny _ _ (field (.ref z) 3 >>= _) _ _ _;refine ae (bF hz rfl (x:=.ref TI) rfl ?_);refine ae (ff hTI rfl ?_);show wpAny _ _ (Builtin.SmallTypes.ownedTupleIsFree (.ref z) >>= _) _ _ _;refine ae ?_;unfold Builtin.SmallTypes.ownedTupleIsFree;refine ae (bF hz rfl (x:=.none) rfl (ax ?_));simp only[aP];refine ae (wpAny_rule ?_);refine ae (bF hz rfl (x:=.ref TO) rfl ?_);refine ae (eV hz (by simp) fun h₁ hz₁ hs₁=>?_)
 replace hz₁:IsZip h₁ z TI TO .ellipsis:=hz₁
 refine ae ?_;simp only[List.zipIdx_cons,List.zipIdx_nil,List.forIn_cons,List.forIn_nil];refine ae (ae (wpAny_onRaise ?_));show wpAny _ _ (Builtin.SmallTypes.nextOf (.ref i1) >>= _) _ _ _;cases hx:xs[k1]? with
 |none=>
  refine ae (kL (hh.keeps rfl fun b o hb e=>hs₁.extBut _ _ (hni b hb).1 e) (fun b hb=>(hni b hb).2.2.1) (h1.extBut hs₁.extBut D.i1z) (hl1.extBut hs₁.extBut D.l1z) hx fun h₂ e hs₂ he=>?_);obtain⟨oe,hoe,hce⟩:=he;have hz₂:IsZip h₂ z TI TO .ellipsis:=hs₂ _ _ D.i1z.symm hz₁;have hez:e≠z:=fun x=>by subst x;rw[hz₂]at hoe;cases hoe;simp at hce
  refine eV hz₂ (by simp) fun h₃ _ hs₃=>hE h₃ e (fun c o c1 _ c3 _ x=>hs₃.extBut _ _ c1 (hs₂ _ _ c3 (hs₁.extBut _ _ c1 x))) ⟨oe,hs₃.extBut _ _ hez hoe,hce⟩
 |some x=>
  have hy:ys[k2]?=none:=by rcases hend with h|h;rw[hx]at h;cases h;exact h
  refine ae (wpAny_nextOf_list_item (h1.extBut hs₁.extBut D.i1z) (hl1.extBut hs₁.extBut D.l1z) hx fun h₂ h1₂ hs₂=>ax ?_);have hTO₂:IsPair h₂ TO a b:=hs₂.extBut _ _ D.TOi1 (hs₁.extBut _ _ D.TOz hTO);refine ae (ff hTO₂ rfl ?_);refine ae (wpAny_updateSeq_pair hTO₂ fun h₃ hTO₃ hs₃=>?_);refine ae (wpAny_letGo (ax ?_));refine ae (ae (wpAny_onRaise ?_));show wpAny _ _ (Builtin.SmallTypes.nextOf (.ref i2) >>= _) _ _ _;refine ae (kL (hh.keeps rfl fun b o hb e=>hs₃.extBut _ _ (hni b hb).2.1 (hs₂.extBut _ _ (hni b hb).2.2.1 (hs₁.extBut _ _ (hni b hb).1 e))) (fun b hb=>(hni b hb).2.2.2) (((h2.extBut hs₁.extBut D.i2z).extBut hs₂.extBut D.i12.symm).extBut hs₃.extBut D.TOi2.symm)
   (((hl2.extBut hs₁.extBut D.l2z).extBut hs₂.extBut D.l2i1).extBut hs₃.extBut D.l2TO) hy fun h₄ e hs₄ he=>?_)
  obtain⟨oe,hoe,hce⟩:=he;have hz₄:IsZip h₄ z TI TO .ellipsis:=hs₄ _ _ D.i2z.symm (hs₃.extBut _ _ D.TOz.symm (hs₂.extBut _ _ D.i1z.symm hz₁));have hez:e≠z:=fun x=>by subst x;rw[hz₄]at hoe;cases hoe;simp at hce
  refine eV hz₄ (by simp) fun h₅ _ hs₅=>hE h₅ e (fun c o c1 c2 c3 c4 x=>hs₅.extBut _ _ c1 (hs₄ _ _ c4 (hs₃.extBut _ _ c2 (hs₂.extBut _ _ c3 (hs₁.extBut _ _ c1 x))))) ⟨oe,hs₅.extBut _ _ hez hoe,hce⟩
open PySem.F in
theorem WW{z TI TO:Addr}{a b:Value}{Q:Option Value->Shared->Prop}(hh:HndAt A s.heap)(hni:∀b,A.handled=some (.ref b)->b≠z/\b≠TO/\b≠i1/\b≠i2)(D:ZipApart z TI TO i1 i2 l1 l2)
  (hz:IsZip s.heap z TI TO .none)(hTI:IsPair s.heap TI (.ref i1) (.ref i2))(hTO:IsPair s.heap TO a b)
  (h1:s.heap.IsListIter i1 l1 k1)(h2:s.heap.IsListIter i2 l2 k2)(hl1:s.heap.IsList l1 xs)(hl2:s.heap.IsList l2 ys)(hend:xs[k1]?=none\/ys[k2]?=none)
  (hQ:∀h',(∀c o,c≠z->c≠TO->c≠i1->c≠i2->s.heap.get? c=some o->h'.get? c=some o)->Q none { s with heap:=h' }):wpAny (model prog w) A (pyNext (.ref z)) Q E s:=by
 have hT:s.TypeIs (.ref z) "zip":=⟨_,hz,rfl⟩;unfold pyNext;refine ae (eB (cM (name:=Str.ofString "__next__") hT F.slot_zip_next
  (dR F.slot_zip_next hT F.entry_zip_next (yU (A:=A.in1) (hh.keeps rfl fun _ _ _ e=>e) hni D hz hTI hTO h1 h2 hl1 hl2 hend fun h' e hk he=>?_) (F.args_zip_next_1 _))))
 obtain⟨o,ho,hc⟩:=he;refine ae (wpAny_isInstance (T:="StopIteration") (b:=true) ⟨o,ho,hc⟩ isSubtype_stop ?_);exact ax (hQ _ hk)
theorem w_{t:Addr}{i:Nat}{Q:Option Value->Shared->Prop}(hh:HndAt A s.heap)(hni:∀b,A.handled=some (.ref b)->b≠it)
  (hit:IsTupIter s.heap it t i)(ht:IsTup s.heap t items)(hx:items[i]?=none)
  (hQ:∀h',Heap.ExtBut it s.heap h'->Q none { s with heap:=h' }):wpAny (model prog w) A (pyNext (.ref it)) Q E s:=by
 obtain⟨o,ho,hc,hd⟩:=id hit;obtain⟨ol,hol,_,nl,hdl⟩:=ht;unfold pyNext;refine ae (eB (cM (name:=Str.ofString "__next__") hit.typeIs slot_tupleiter_next
  (dR slot_tupleiter_next hit.typeIs entry_tupleiter_next ?_ (args_tupleiter_next _))))
 show wpAny _ _ (field (.ref it) 0 >>= _) _ _ s;refine ae (bF ho hd (x:=.ref t) rfl ?_);show wpAny _ _ (if(Value.ref t == Value.none)=true then _ else _) _ _ s;rw[aG (show ¬ ((Value.ref t == Value.none)=true)from cn)];show wpAny _ _ (field (.ref it) 1 >>= _) _ _ s;refine ae (bF ho hd (x:=.int i 0) rfl ?_);show wpAny _ _ (seqItems? (.ref t) >>= _) _ _ s;refine ae (ff hol hdl ?_);simp only[cY,hx];refine ae (wpAny_rule (ae (dI ho hd (by simp) ?_)));show wpAny _ _ (newExc (.type "StopIteration") [] >>= _) _ _ _;refine ae ?_;simp only[newExc,newTuple];refine ae (bD ?_ (by size_fits));refine ae (m:=firstArgMember _ _) (wpAny_of_eq (a:=Value.none) (by first|rfl|(simp only[firstArgMember];rfl)) ?_);refine bD ?_ (by size_fits);have kp:∀b o,b≠it->s.heap.get? b=some o->(s.heap.update it (Obj.mapFields (·.setIfInBounds 0 .none))).get? b=some o:=fun b o hb e=>(aT _ _ (bc hb)).trans e
 obtain⟨hb',ob,vb,hhb,hob,hdb⟩:=id hh;refine Zl (oa:=_) (va:=_) (hh.keeps rfl fun b o hb e=>ag _ (ag _ (kp b o (hni b hb) e))) (fun b hb z=>?_) (a7 _ rfl) rfl (by show 2<6;decide) fun v=>?_
 ·have e2:=hhb.symm.trans hb
  cases e2;have hlt:=au (ag (h:=s.heap.update it (Obj.mapFields (·.setIfInBounds 0 .none))) { cls:=.type "tuple",data:=.seq #[] } (kp hb' ob (hni hb' hhb) hob));exact absurd (show hb'=_ from z) (aI hlt)
 ·have hself:=fun(h:Heap)(vs:fS)=>cj (Obj.mapFields (·.setIfInBounds 2 v)) (a7 (o:={ cls:=.type "StopIteration",data:=.fields vs }) h rfl) (ck (bP rfl _))
  refine ae (wpAny_isInstance (T:="StopIteration") (b:=true) ⟨_,hself _ _,fB _ _⟩ isSubtype_stop (ax (hQ _ fun b o hb e=>?_)));have e2:=ag (h:=s.heap.update it (Obj.mapFields (·.setIfInBounds 0 .none))) { cls:=.type "tuple",data:=.seq #[] } (kp b o hb e);exact(aT _ _ (cI (au e2))).trans (ag _ e2)
theorem vX{t:Addr}{Q:fQ->Shared->Prop}(hh:HndAt A s.heap)(ht:IsTup s.heap t items)
  (hQ:∀h',Heap.ExtBut s.heap.objs.size s.heap h'->Q items.toList { s with heap:=h' }):wpAny (model prog w) A (unpackItems (.ref t) items.size none) Q E s:=by
 have hlt:t≠s.heap.objs.size:=by obtain⟨o,ho,_⟩:=ht;exact aI (au ho)
 have hnb:∀b,A.handled=some (.ref b)->b≠s.heap.objs.size:=fun b hb=>by
  obtain⟨c,oc,vc,h1,h2,_⟩:=hh;cases h1.symm.trans hb;exact aI (au h2)
 unfold unpackItems;refine ae ?_
 ·unfold notIterableAtAll
  refine ae (wpAny_specialOf ht.typeIs slot_tuple_iter.lookup ?_);refine ax ?_;simp only[bQ,cv];refine ae (bj (iter_tuple ht ?_));refine ae (bj (draw_tuple hlt items.size 0 _ _ ⟨_,a7 _ rfl,rfl,rfl⟩ (ht.push _) (by omega) fun h₁ hit₁ hs₁=>?_));have hall:List.take items.size (List.drop 0 items.toList)=items.toList:=by
   rw[eZ];exact List.take_of_length_le (by simp)
  rw[hall];rw[aG (by simp)];have ht₁:IsTup h₁ t items:=(ht.push _).extBut hs₁.extBut hlt;refine ae (bj (w_ (hh.keeps rfl fun b o hb e=>hs₁.extBut b o (aI (au e)) (ag _ e)) (fun b hb=>hnb b hb) hit₁ ht₁ (by simp) fun h₂ he₂=>?_));simp only[Option.isSome_none,bQ,cv];refine ax (hQ h₂ fun b o hb e=>he₂ b o hb (hs₁.extBut b o hb (ag _ e)))
theorem yY{t:Addr}{targets:List (Bool×(Value->Sem Unit))}(hh:HndAt A s.heap)(ht:IsTup s.heap t items)
  (hn:targets.length=items.size)(hstar:targets.findIdx? (·.1)=none)
  (h:∀h',Heap.ExtBut s.heap.objs.size s.heap h'->wpAny (model prog w) A (assignInOrder (targets.map (·.2)) items.toList) Q E { s with heap:=h' }) :
  wpAny (model prog w) A (unpack (.ref t) targets) Q E s:=by
 unfold unpack;rw[hn,hstar];exact ae (bj (vX hh ht h))
theorem vT{elts:fU}{x1}{t:Addr}(hh:HndAt A s.heap)(ht:IsTup s.heap t items)
  (hn:(assignEach elts env).length=items.size)(hstar:(assignEach elts env).findIdx? (·.1)=none)
  (h:∀h',Heap.ExtBut s.heap.objs.size s.heap h'->wpAny (model prog w) A (assignInOrder ((assignEach elts env).map (·.2)) items.toList) Q E { s with heap:=h' }) :
  wpAny (model prog w) A (assign (.Tuple elts x1 pos) env (.ref t)) Q E s:=by
 rw[assign_Tuple];exact ae (eh (yY hh ht hn hstar h))
end
def HX(X:Cx):Prop:=∃a oa va u,X.A.handled=some (.ref a)/\X.H₀ a=some (.frz oa u)/\oa.data=.fields va/\va[2]?=some .none
theorem HX.at(x:HX X)(I:Inv X pins σ H s):HndAt X.A s.heap/\∀b,X.A.handled=some (.ref b)->∃ob u,H b=some (.frz ob u):=by
 obtain⟨a,oa,va,u,h1,h2,h3,h4⟩:=x;have e:=I.base.frzs a oa u h2;obtain⟨g,_⟩:=(show ObjOk X.prog X.w H s.heap a (.frz oa u)from I.hok a _ e);refine⟨⟨a,oa,va,h1,g,h3,h4⟩,fun b hb=>?_⟩;cases h1.symm.trans hb;exact⟨oa,u,e⟩
theorem HX.of{Y:Cx}(x:HX X)(I:Inv X pins σ H s)(hA:Y.A.handled=X.A.handled)(hH:Y.H₀=H):HX Y:=by
 obtain⟨a,oa,va,u,h1,h2,h3,h4⟩:=x;exact⟨a,oa,va,u,hA.trans h1,by rw[hH];exact I.base.frzs a oa u h2,h3,h4⟩
theorem qau{k:Nat}{t:TGs}{n:Nat}(hx:HX X)(h:PGs X es t)
  (hn:(assignEach es X.env).length=n:=by rfl)(hst:(assignEach es X.env).findIdx? (·.1)=none:=by rfl):PG X (.Tuple es k pos) (gTup X.K n t):=by
 intro pins s σ H v u Q I r hw;obtain⟨a,xs,e1,hq,hl,hw⟩:=hw;subst e1;cases r;obtain⟨its,rv,ht,hz⟩:=I.tuple hq;refine vT (hx.at I).1 ht (by simp[hn,<- hl,rv.length]) hst fun h' hx=>?_
 have I1:Inv X pins σ H { s with heap:=h' }:=I.kept (t':=s.toks) fun b o e=>hx b o (aI (au e)) e
 exact h pins _ σ H xs _ Q I1 (by simpa using rv) hw
abbrev qg1:=TurnG HX
abbrev PIH:=PIG HX
theorem VM{k:Nat}(a b z TI TO i1 i2:Addr)(Z:Z5 z TI TO i1 i2):qg1 P w K (.Tuple es k tp) (WU K a b) [z,TI,TO,i1,i2] z (fun i h=>IsZip h z TI TO .none/\IsPair h TI (.ref i1) (.ref i2)/\(∃x y,IsPair h TO x y)/\h.IsListIter i1 a i/\h.IsListIter i2 b i) where
 mem:=by simp
 obj:=fun i h st c hc=>by
  obtain⟨hz,hTI,⟨x,y,hTO⟩,⟨o1,e1,c1,d1⟩,⟨o2,e2,c2,d2⟩⟩:=st;simp only[ah,aE,cA]at hc;rcases hc with rfl|rfl|rfl|rfl|rfl
  ·exact⟨_,hz,fun v z=>by
    have z':Data.fields _=Data.cell v:=z;cases z'⟩
  ·exact⟨_,hTI,fun v z=>by
    have z':Data.seq _ _=Data.cell v:=z;cases z'⟩
  ·exact⟨_,hTO,fun v z=>by
    have z':Data.seq _ _=Data.cell v:=z;cases z'⟩
  ·exact⟨o1,e1,fun v z=>by rw[d1]at z;cases z⟩
  ·exact⟨o2,e2,fun v z=>by rw[d2]at z;cases z⟩
 keep:=fun i h h' st k=>by
  obtain⟨hz,hTI,⟨x,y,hTO⟩,h1,h2⟩:=st;exact⟨k z (by simp) _ hz,k TI (by simp) _ hTI,⟨x,y,k TO (by simp) _ hTO⟩,h1.at fun o e=>k i1 (by simp) o e,h2.at fun o e=>k i2 (by simp) o e⟩
 item:=by
  intro X hP hw hK hc i pins s σ H E I hf st hg;subst hP hw hK;obtain⟨xs,ys,x,y,hq,hq',hx,hy⟩:=hg;obtain⟨its,rv,p,hz0⟩:=I.list hq;obtain⟨its',rv',p',hz0'⟩:=I.list hq';obtain⟨u,hu,ru⟩:=rv.get hx;obtain⟨v,hv,rw'⟩:=rv'.get hy;obtain⟨hz,hTI,⟨a0,b0,hTO⟩,h1,h2⟩:=st;have D:=Z.apart hz hTO h1 h2 p.isList p'.isList;have lt:∀c∈[z,TI,TO,i1,i2],c<s.heap.objs.size:=fun c hc=>by
   simp only[ah,aE,cA]at hc;rcases hc with rfl|rfl|rfl|rfl|rfl
   ·exact au hz
   ·exact au hTI
   ·exact au hTO
   ·obtain⟨_,q,_⟩:=h1;exact au q
   ·obtain⟨_,q,_⟩:=h2;exact au q
  refine wpAny_pyNext_zip_item D hz hTI hTO h1 h2 p.isList p'.isList (x:=u) (y:=v) (by simpa using hu) (by simpa using hv) fun hh1 a1 a2 a3 a4 a5 a6 kk=>?_
  refine⟨_,rfl,wpAny_letOwnedTupleGo_zip a1 fun hh2 z2 hs2=>?_⟩;have neT:s.heap.objs.size≠z:=cI (au hz);obtain⟨J,hn,fr⟩:=I.turnedPair (t':=s.toks) (h':=hh2) (fp:=[z,TI,TO,i1,i2]) (x:=x) (y:=y) ru rw' lt (fun c o hc q=>by
   simp only[ah,aE,cA,fI]at hc;exact(hs2.2 c hc.1).trans (kk c o hc.1 hc.2.2.1 hc.2.2.2.1 hc.2.2.2.2 q)) ((hs2.2 _ neT).trans a5) hf
  refine⟨.ref s.heap.objs.size,_,J,rfl,⟨_,x,y,hn,fun ws hw=>by rw[I.list_inj hw hq];exact hx,fun ws hw=>by rw[I.list_inj hw hq'];exact hy,rfl,rfl⟩,⟨z2,(hs2.2 _ Z.TIz).trans (kk _ _ Z.TIz Z.TITO Z.TIi1 Z.TIi2 hTI),⟨_,_,(hs2.2 _ Z.TOz).trans a2⟩,a3.at fun o q=>(hs2.2 _ Z.i1z).trans q,a4.at fun o q=>(hs2.2 _ Z.i2z).trans q⟩,fr⟩
 done:=by
  intro X hP hw hK hc i pins s σ H E I hf st hg;subst hP hw hK;obtain⟨xs,ys,hq,hq',hx⟩:=hg;obtain⟨its,rv,p,hz0⟩:=I.list hq;obtain⟨its',rv',p',hz0'⟩:=I.list hq';obtain⟨hz,hTI,⟨a0,b0,hTO⟩,h1,h2⟩:=st;have D:=Z.apart hz hTO h1 h2 p.isList p'.isList;have hl:=rv.length;have hl':=rv'.length;refine WW (hc.at I).1 (fun b hb=>by
   obtain⟨ob,u,e⟩:=(hc.at I).2 b hb;have ne:∀c∈[z,TI,TO,i1,i2],b≠c:=fun c hc z=>by
    have:=(hf c hc).1;rw[<- z,e]at this;cases this
   exact⟨ne z (by simp),ne TO (by simp),ne i1 (by simp),ne i2 (by simp)⟩) D hz hTI hTO h1 h2 p.isList p'.isList ?_ fun h' eb=>⟨rfl,I.turnedL (t':=s.toks) (fun c o hc q=>eb c o (fun z=>hc (by simp[z])) (fun z=>hc (by simp[z])) (fun z=>hc (by simp[z])) (fun z=>hc (by simp[z])) q) hf⟩
  rcases hx with h|h
  ·exact .inl (by simp;omega)
  ·exact .inr (by simp;omega)
 self:=fun _ _ _ _ _ st h=>wpAny_pyIter_zip st.1 h
theorem qar{l m:Expr}{ta:TA}{p:Pos}{k:Nat}(hg:Gl X "zip")(hm:X.mg "zip"=none)(ha:PA X [l,m] ta)(hs:starEach [l,m] X.env=[(false,eval l X.env),(false,eval m X.env)]:=by rfl)(hs2:starEach [m] X.env=[(false,eval m X.env)]:=by rfl):PIH X (.Tuple es k tp) (.Call (.Name "zip" p) [l,m] [] pos) (iZip X.K ta):=by
 intro pins s σ H R I h;refine Call_ (ZE I hg hm qfd (cW (thn (ha pos pins s σ H _ I h) fun us s1⟨vs,H1,I1,r1,q1⟩=>?_) (by rw[hs,hs2]) (by rw[hs2];rfl)));obtain⟨a,b,e,⟨xs,hq⟩,⟨ys,hq'⟩,q⟩:=q1;subst e;obtain⟨u,v,rfl,ru,rv'⟩:=vals2 r1;cases (show u=Value.ref a from ru);cases (show v=Value.ref b from rv');obtain⟨its,rv,pl,hz⟩:=I1.list hq;obtain⟨its',rv',pl',hz'⟩:=I1.list hq';refine call_zip_2 pl.isList pl'.isList fun h' a1 a2 a3 a4 a5 a6 kk=>?_
 have I2:Inv X pins σ H1 { s1 with heap:=h' }:=I1.kept (t':=s1.toks) kk;refine wpAny_pyIter_zip a1 ?_;refine⟨s1.heap.objs.size+4,[s1.heap.objs.size+4,s1.heap.objs.size+2,s1.heap.objs.size+3,s1.heap.objs.size,s1.heap.objs.size+1],_,_,H1,rfl,I2,VM a b _ _ _ _ _ (qcl _),⟨a1,a2,⟨_,_,a3⟩,a4,a5⟩,fun c hc=>?_,q⟩;have ge:s1.heap.objs.size<=c:=by
  simp only[ah,aE,cA]at hc;rcases hc with rfl|rfl|rfl|rfl|rfl
  ·exact bT _ _
  ·exact bT _ _
  ·exact bT _ _
  ·exact aj _
  ·exact bT _ _
 exact I1.fpOk ge (I1.hok.fresh ge)
theorem Ys{elt tg iter:Expr}{ifs:fU}{cl:List (Str×Addr)}{T caps:fT}{ix:List Nat}{wi:TI}
  (O:CompOk X scope cl T caps ix)(hc:HX X)(hi:PIH X tg iter wi)(hg:∀C s H fp,HX (qW X scope cl (T++caps) C s H fp)->PG (qW X scope cl (T++caps) C s H fp) tg g)(ht:∀C s H fp,PTs (qW X scope cl (T++caps) C s H fp) ifs tt)
  (he:∀C s H fp,PE (qW X scope cl (T++caps) C s H fp) elt te)(hs:∀x,foldedSetIterable iter X.env x=pure x:=by intro _;rfl):PE X (.ListComp elt [⟨tg,iter,ifs,0⟩] scope pos) (K7 wi g tt te T ix):=by
 intro pins s σ H Q I h;rw[eval_ListComp];refine kF (use:=none) O (fun _ _ I2=>hc.of I2 rfl rfl) hi hg ht he hs I h fun D C H3 s4 m B hm nC cL cs cc cp q=>?_
 exact⟨m,hm,fun h' hs'=>⟨.ref D,H3,B.turned (t':=s4.toks) (it:=C) (fun b o hb e=>hs'.extBut b o hb e) nC cL (.inr cs) cc cp,rfl,q⟩⟩
structure RoomH(k:Nat)(A:Around):Prop where
 dp:A.depth+3 * k+5<recursionLimit
 un:A.units+16 * k+200<cLine
theorem RoomH.deeper{k:Nat}{A:Around}(r:RoomH (k+1) A)(env:Env):RoomH k (A.deeper env):=
 ⟨by have:=r.dp;show A.depth+1+3 * k+5<_;omega,by have:=r.un;show A.units+3+16 * k+200<_;omega⟩
theorem RoomH.depth{k:Nat}{A:Around}(r:RoomH k A):A.depth<recursionLimit:=by have:=r.dp;omega
def HA(A:Around)(H:Hp):Prop:=∃a oa va u,A.handled=some (.ref a)/\H a=some (.frz oa u)/\oa.data=.fields va/\va[2]?=some .none
def cxH(CX:CXT)(P:Program)(w:World)(K:fL)(mg:fO)(base:Heap)(N:fT)(qual:Str)(scope:Scope)(f:Addr)(cd:Value)(A:Around)(outer:List Env)(s:Shared)(H:Hp)(E:XK):Cx where
 prog:=P
 w:=w
 K:=K
 mg:=mg
 base:=base
 A:=A.deeper (envOfC qual scope s.heap.objs.size f cd)
 N:=N
 s₀:=s
 H₀:=H
 env:=envOfC qual scope s.heap.objs.size f cd
 outer:=outer
 stack:=envOfC qual scope s.heap.objs.size f cd::outer
 ex:=[]
 calm:=false
 fn:=fun _=>true
 pn:=[]
 xe:=fun e s'=>wpAny (model P w) (A.deeper (envOfC qual scope s.heap.objs.size f cd)) (leaving (envOfC qual scope s.heap.objs.size f cd) e) (fun _ s''=>CX outer H s E e s'') (fun e' s''=>CX outer H s E e' s'') s'
theorem Vq{s1:Shared}{E:XK}{vs:List V}
  (S:FnScope N ps scope)(e0:Env0 P w K mg base A outer s H)(hl:vs.length=ps.length)(r:Vals vs us)
  (x:InCallC s s.heap.objs.size (bindL (envOfC qual scope s.heap.objs.size f cd).kindOf (ps.zip us) fun _=>none) (cellsFrom (s.heap.objs.size+1) scope.names []) (bindC (envOfC qual scope s.heap.objs.size f cd).kindOf (ps.zip us) fun _=>none) s1) :
  Inv (cxH CX P w K mg base N qual scope f cd A outer s H E) [] (start N vs) H s1:=by
 have hpl:ps.length<=N.length:=by have:=bU List.length S.pre;rw[c7]at this;omega
 obtain⟨h1,tk,rfl,hk⟩:=x.done;have noA:∀b:Addr,b∉(cxH CX P w K mg base N qual scope f cd A outer s H E).ex:=fun b z=>absurd (show b∈([]:fP)from z) (by simp)
 refine⟨⟨e0.mod,S.kind,rfl,rfl,aj _,fun y z c h1 h2=>?_,fun y hy=>?_,fun y c _ h=>?_,fun z=>absurd (show false=true from z) (by decide),Around.frames_deeper e0.frames,.inr ⟨rfl,rfl⟩,fun b z=>absurd z (noA b),e0.bs,e0.bsz,fun b _ _=>noA b,fun b z=>absurd z (noA b),e0.funs,e0.frf⟩,
  rfl,e0.bare,Un.kept hk,⟨_,x.toInCall.ns,fun i y v h1 h2 h3=>?_⟩,fun y c h=>⟨_,x.cell y c h⟩,e0.hok.fresh (aj _),fun y c h=>?_,fun p hp=>absurd (show p∈([]:fM)from hp) (by simp),e0.hok.kept hk,?_⟩
 ·exact name_of_addr x.apart (aU h1) (aU h2)
 ·have hy:scope.names.lookup y=some .cell\/scope.names.lookup y=some .free:=hy
  rcases hy with hy|hy
  ·exact wH hy
  ·exact absurd rfl (S.nofree _ (aU hy))
 ·exact c9 (x.above y c (aU h))
 ·have hi:i<vs.length:=by
   unfold L2.start at h2
   by_cases hi:i<vs.length
   ·exact hi
   ·rw[aJ (by simpa using hi)]at h2
    rw[cK]at h2
    split at h2 <;> cases h2
  have ha:vs[i]?=some v:=by
   unfold L2.start at h2;rw[aB (by simpa using hi),aq]at h2;cases e:vs[i]? with
   |none=>rw[e]at h2;cases h2
   |some a=>rw[e]at h2;cases h2;rfl
  obtain⟨u,hu,rv⟩:=r.get ha;have hp:ps[i]?=some y:=by
   rw[<- S.pre,ft (by omega)];exact h1
  have ndP:ps.Nodup:=by rw[<- S.pre];exact S.nd.sublist (List.take_sublist _ _)
  refine⟨u,rv,?_⟩;rcases S.par y (aM hp)with k|k
  ·exact .inl ⟨k,yv ndP hp hu k⟩
  ·obtain⟨c,e⟩:=wH (n:=s.heap.objs.size+1) k
   refine .inr ⟨.inl k,c,e,?_⟩;have q:=x.cell y c e;rw[yw ndP hp hu (by show scope.names.lookup y≠_;rw[k];decide)]at q;exact q
 ·exact e0.hok.fresh (c9 (x.above y c (aU h)))
 ·unfold L2.start
  show _=N.length;rw[ar,ak,bL];omega
structure FnOkH(P:Program)(w:World)(K:fL)(mg:fO)(base:Heap)(CX:CXT)(k:Nat)(f:Addr)(fd:FuncData)(ps:fT)(sp:Sp):Prop where
 len:∀vs H Q E,sp vs H Q E->vs.length=ps.length
 run:∀(A:Around)(outer:List Env)(s:Shared)(H:Hp)(args:Args)(us:fQ)(vs:List V)(Q:VK)(E:XK),RoomH k A->HA A H->Env0 P w K mg base A outer s H->BindsTo s fd args (ps.zip us)->Vals vs us->sp vs H Q E->
  codeAny (model P w) A (.call (.ref f) args) (CR CX outer P w H s Q E) s
theorem qeq{k:Nat}{name:Str}{params:Arguments}{dV kV doc pm cdv ct oc:Value}{an od:fR}
  {osl:Array (Option Value)}(lk:K.lookup f=some ⟨oc,od,.func (PySem.W.fnOf name qual params body scope dV kV doc pm an cdv ct),osl⟩)(hcd:PySem.W.codeIn K cdv qual=true)(S:FnScope N ps scope)
  (len:∀vs H Q E,sp vs H Q E->vs.length=ps.length)
  (hbody:∀(A:Around)(outer:List Env)(s:Shared)(H:Hp)(vs:List V)(Q:VK)(E:XK),RoomH k (A.deeper (envOfC qual scope s.heap.objs.size f cdv))->HX (cxH CX P w K mg base N qual scope f cdv A outer s H E)->sp vs H Q E->
   ∃t,PSs (cxH CX P w K mg base N qual scope f cdv A outer s H E) body t/\t { nx:=fun _ H'=>Q .non H',rt:=Q } (start N vs) H) :
  FnOkH P w K mg base CX (k+1) f (PySem.W.fnOf name qual params body scope dV kV doc pm an cdv ct) ps sp:=by
 refine⟨len,fun A outer s H args us vs Q E hr hh e0 hb r hsp=>?_⟩;have hl:=len _ _ _ _ hsp;have KX:K.In s.heap:=e0.mod.kin.keeps fun b o e=>(e0.bs b o e).1
 have lim:s.heap.NoLimit:=e0.mod.nolimit.keeps fun b o e=>(e0.bs b o e).1
 have hkind:∀y∈ps.zip us,scope.names.lookup y.1=some .local\/(scope.names.lookup y.1=some .cell/\((cellsFrom (s.heap.objs.size+1) scope.names []).lookup y.1).isSome=true):=fun⟨n,v⟩ hy=>by
  rcases S.par n (eM hy).1 with q|q
  ·exact .inl q
  ·exact .inr ⟨q,dB _ _ _ (.inl q)⟩
 refine codeAny_call_function hr.depth (KX _ _ lk) rfl S.co S.gen rfl (PySem.W.codeRec_of KX hcd) (hb _ _ _ _ ?_);refine wpAny_newFunctionEnv_cells S.kind hkind fun env he s1 x=>?_
 subst he;refine⟨lim.keeps x.toInCall.keep,codeAny_func ?_⟩;obtain⟨t,ht,hq⟩:=hbody A outer s H vs Q E (hr.deeper _) hh hsp;have I:Inv (cxH CX P w K mg base N qual scope f cdv A outer s H E) [] (start N vs) H s1:=Vq S e0 hl r x;refine bh (ht [] s1 (start N vs) H _ I hq) (fun fl s' hs=>?_) fun e s' hs=>hs
 have fin:∀{σ':L2.St}{H':Hp}{v:V}{u:Value},Inv (cxH CX P w K mg base N qual scope f cdv A outer s H E) [] σ' H' s'->RelV v u->Q v H'->CE outer P w H s Q u s':=
  fun{σ' H' v u} J rv q=>⟨v,H',J.os,J.bare,J.base,J.hok,rv,q⟩
 cases fl with
 |ret u=>
  obtain⟨v,σ',H',J,rv,q⟩:=hs;exact fin J rv q
 |next=>
  obtain⟨σ',H',J,q⟩:=hs;exact fin (v:=V.non) (u:=Value.none) J rfl q
 |brk=>
  obtain⟨_,_,_,q⟩:=hs;exact False.elim q
 |cont=>
  obtain⟨_,_,_,q⟩:=hs;exact False.elim q
section
variable{X:Cx}{k:Nat}{f:Addr}{fd:FuncData}{ps:fT}{sp:Sp}{x:Str}{p pos:Pos}{e:Expr}{es:fU}{t:TA}
def qcz(sp:Sp)(a:Addr)(t:TA):TE:=fun σ H Q=>t σ H fun vs H1=>(∃oa va u,H1 a=some (.frz oa u)/\oa.data=.fields va/\va[2]?=some .none)/\sp vs H1 Q (fun _ _ _=>False)
theorem Kl(F:FnOkH X.prog X.w X.K X.mg X.base CX0 k f fd ps sp)(hA:X.A.handled=some (.ref a))(hr:RoomH k X.A)(hg:Gl X x)(hm:X.mg x=some (.ref f))(hk:PySem.W.keepIn X.K (.ref f)=true)(hb:Binds X.K fd ps [])
  (ha:PA X (e::es) t)(hdb:(x == ("__debug__":Str))=false:=by decide)(he:starEach (e::es) X.env=(false,eval e X.env)::starEach es X.env:=by rfl)(hpl:(backTo pos (starEach es X.env)).any (·.1)=false:=by rfl) :
  PE X (.Call (.Name x p) (e::es) [] pos) (qcz sp a t):=by
 intro pins s σ H Q I h;refine cq (kY I hg hm ?_ hdb);refine cS (h₀:=X.base) I.ok.mod.kin hk (thn (ha pos pins s σ H _ I h) fun us s1⟨vs,H1,I1,r,⟨oa,va,u,e1,e2,e3⟩,q⟩=>⟨I1.kIn,?_⟩) he hpl;have hl:(us++[]).length=ps.length:=by rw[aQ,<- r.length];exact F.len _ _ _ _ q
 refine fq (dJ (F.run X.A X.stack s1 H1 ⟨us,[]⟩ (us++[]) vs Q _ hr ⟨a,oa,va,u,hA,e1,e2,e3⟩ I1.env0 (hb s1 us I1.kIn hl) (by rw[aQ];exact r) q) fun r s' hq=>?_);cases r with
 |error e=>exact hq.elim
 |ok fl=>
  cases fl with
  |ret u=>exact I1.after hq
  |next=>exact False.elim hq
  |brk=>exact False.elim hq
  |cont=>exact False.elim hq
end
section
variable{prog:Program}{w:World}{A:Around}{E:fN}{s:Shared}{K:fL}{x D:Addr}{ox:Obj}
structure ExcK(K:fL)(D:Addr):Prop where
 ga:PySem.W.findIn K (.ref D) "__getattribute__"=some (some (.builtin "BaseException.__getattribute__"))
 gn:PySem.W.findIn K (.ref D) "__getattr__"=some none
 cls:(PySem.W.clsIn K D).isSome=true
 ca:PySem.W.findIn K (.ref D) "__class__"=some (some (.builtin "object.__class__"))
 cg:PySem.W.specialIn K (.builtin "object.__class__") "__get__"=some (some (.builtin "getset_descriptor.__get__"))
 ct:PySem.W.takesIn K (.builtin "object.__class__")=some true
 mo:PySem.W.mroIn K D (.type "object")=some true
 mb:PySem.W.mroIn K D (.type "BaseException")=some true
theorem X9{Q:Option Value->Shared->Prop}(F:ExcK K D)(X:K.In s.heap)(I:PySem.W.InstAt s.heap x ox D none)(h:Q (some (.ref D)) { s with toks:=s.toks+1 }):wpAny (model prog w) A (getAttr? (.ref x) "__class__") Q E s:=by
 have hf:PySem.W.findObj K D none "__class__"=some (.bind (.builtin "getset_descriptor.__get__") (.builtin "object.__class__")):=by
  obtain⟨cd,hc⟩:=cE.mp F.cls;unfold PySem.W.findObj;rw[hc,aC,F.ca,aC];simp[F.cg,F.ct]
 have f3:=eT.ga.bind (.ref x);have f4:=eT.ga.plain;obtain⟨hh,g,d,t,os⟩:=s;have L0:=I.type (M:=model prog w);have L1:=dY (M:=model prog w) X F.ga;have L2:=PySem.W.looks_find (M:=model prog w) X I hf;have L3:=PySem.W.looks_mroIn (M:=model prog w) X F.mb;have L4:=dY (M:=model prog w) X F.gn;unfold getAttr? getAttrBy? getAttrBy;refine ae (wpAny_mkText (ae (eB (bj (ae (L0.at (ae (L1.at ?_))))))));show wpAny _ _ (getAttrByItsOwn _ _ _ _ _ _) _ _ _;unfold getAttrByItsOwn;refine ae ?_;show wpAny _ _ (typeLookup _ _) _ _ _;refine L4.at ?_;refine ae (eB (bj ?_));unfold callGetattribute;rw[Bool.false_and,aG (by decide)];unfold boundAndCalled;rw[f3];refine ae (ax ?_);show wpAny _ _ (call (.builtin "BaseException.__getattribute__") [.ref x,.str "__class__" t]) _ _ _;refine fq (codeAny_call_builtin f4 PySem.F.entry_bexc_ga ?_);have hk:builtinKind "BaseException.__getattribute__"=some .slot:=by decide +kernel
 have hsplit:splitId "BaseException.__getattribute__"=some ("BaseException","__getattribute__"):=by decide +kernel
 have ha:=PySem.F.args_bexc_ga (.ref x) (.str "__class__" t);simp only[checkBuiltinCall,hk,hsplit];refine ae ?_;unfold isInstance;refine ae (L0.at (L3.at ?_));simp only[eA,bQ,cv]
 repeat (any_goals (first|assumption|wp_step))
 refine dH I.at_ ?_;rw[show ox.cls=.ref D from I.cls];refine ax (ae (L2.at ?_));show wpAny _ _ (Builtin.ObjectAttr.bindTo _ _ _ _) _ _ _;show wpAny _ _ (holding [.builtin "object.__class__"] (call (.builtin "getset_descriptor.__get__") [.builtin "object.__class__",.ref x,.ref D]) >>= ret) _ _ _;refine ae (bj (fq (PySem.W.class_get (s:=⟨hh,g,d,t+1,os⟩) (ox:=ox) (od:=none) X I F.mo ?_)));refine ax ?_;show wpAny _ _ (handedOut (.ref D)) _ _ _;exact PySem.W.handed_on rfl (ax h)
theorem qb6(F:ExcK K D):∃o cd,K.lookup D=some o/\o.data=.cls cd:=by
 have h:=F.cls;unfold PySem.W.clsIn at h
 split at h
 ·rename_i e
  exact⟨_,_,e,rfl⟩
 ·cases h
theorem YO(F:ExcK K D):PySem.W.KitX K (.ref x) (.ref D) (fun h=>PySem.W.InstAt h x ox D none):=by
 obtain⟨o,cd,e,ed⟩:=qb6 F;refine⟨fun _ _ _ I=>I.type,fun M h X _=>?_,fun h tp dd its n sl X htp=>?_,fun X I k=>X9 F X I k⟩
 ·intro A' Q' E' s' k q
  unfold isType;refine ae (dH (k _ _ (X _ _ e)) ?_);rw[ed];exact ax q
 ·cases hb:(Value.ref D == Value.ref tp)with
  |false=>rfl
  |true=>
   cases (bS.mp hb);have z:=(X _ _ e).symm.trans htp;cases z;cases ed
end
section
variable{X:Cx}
def rIsi(K:fL):List V->Hp->VK->Prop:=fun xs H Q=>∃a oe C D vs b,xs=[.ref a,.ref D]/\H a=some (.frz oe (exO a C))/\oe.cls=.ref C/\oe.data=.fields vs/\oe.dict=none/\ExcK K C/\PySem.W.kitOne K (.ref C) (.ref D)=some b/\Q (.bl b) H
theorem WD:CallR X (.builtin "isinstance") (rIsi X.K):=by
 intro pins s σ H xs us Q I r h;obtain⟨a,oe,C,D,vs,b,rfl,ha,hc,hd,hn,F,hk,q⟩:=h;obtain⟨u,w',rfl,ru,rw'⟩:=vals2 r;cases (show u=Value.ref a from ru);cases (show w'=Value.ref D from rw');obtain⟨g,_⟩:=(show ObjOk X.prog X.w H s.heap a (.frz oe (exO a C))from I.hok a _ ha);have J:PySem.W.InstAt s.heap a oe C none:=⟨g,hc,by unfold PySem.W.notCls;rw[hd],by rw[hn];trivial⟩;exact bu (YO F) I.kIn J hk (fun z=>nomatch z) fun tk=>⟨.bl b,H,I.tok _,rfl,q⟩
end
theorem Fun.okH{x:Str}{st:Stmt}{fd:FuncData}{k:Nat}(F:Fun K x qual st f fd)(S:FnScope N ps (qm st))(len:∀vs H Q E,sp vs H Q E->vs.length=ps.length)
  (hbody:∀(cdv:Value)(A:Around)(outer:List Env)(s:Shared)(H:Hp)(vs:List V)(Q:VK)(E:XK),RoomH k (A.deeper (envOfC qual (qm st) s.heap.objs.size f cdv))->HX (cxH CX0 P w K mg base N qual (qm st) f cdv A outer s H E).nox->sp vs H Q E->
   ∃t,PSs (cxH CX0 P w K mg base N qual (qm st) f cdv A outer s H E).nox (zZ st) t/\t { nx:=fun _ H'=>Q .non H',rt:=Q } (L2.start N vs) H):FnOkH P w K mg base CX0 (k+1) f fd ps sp:=by
 obtain⟨oc,od,kV,doc,pm,an,cdv,ct,osl,rfl,lk,hcd⟩:=F.ex;refine qeq lk hcd S len fun A outer s H vs Q E hr hx hsp=>?_
 obtain⟨t,h,q⟩:=hbody cdv A outer s H vs Q E hr hx hsp;exact⟨t,h.nox,q⟩
theorem Yj{k:Nat}{t:TGs}{n:Nat}(K:fL)(hK:X.K=K)(hx:HX X)(h:PGs X es t)(hn:(assignEach es X.env).length=n:=by rfl)(hst:(assignEach es X.env).findIdx? (·.1)=none:=by rfl):PG X (.Tuple es k pos) (gTup K n t):=by
 subst hK;exact qau hx h hn hst
theorem qax{x:Str}(hg:Gl X x)(hm:X.mg x=some (.ref C))(hd:(x == ("__debug__":Str))=false:=by decide):PE X (.Name x pos) (tC (.ref C)):=j9 (v:=.ref C) hg hm rfl hd
theorem Ww{b:Addr}{xs zs:List V}{n:Nat}{σ0:L2.St}{H1:Hp}{QD:Addr->Hp->Prop}(hn:n=min xs.length zs.length)(Pv:Nat->Addr->L2.St->List V->Hp->Prop)
  (h0:∀D,H1 D=none->Pv 0 D σ0 [] (upd H1 D (.lst [])))
  (hl:∀i D σ ys H2,i<=n->H1 D=none->Pv i D σ ys H2->SqL K H2 a xs/\SqL K H2 b zs/\H2 D=some (.lst ys)/\ys.length<sizeLine)
  (hs:∀i x z D σ ys H2 T,xs[i]?=some x->zs[i]?=some z->i<n->H1 D=none->H2 T=none->Pv i D σ ys H2->g (.ref T) σ (upd H2 T (.tup [x,z])) fun σ2 H4=>tt σ2 H4 fun b H5=>if b=true then te σ2 H5 fun y H6=>H6 D=some (.lst ys)/\CW Pv n i D σ2 (ys++[y]) (upd H6 D (.lst (ys++[y])))else CW Pv n i D σ2 ys H5)
  (hd:∀D ys σ H2,H1 D=none->Pv n D σ ys H2->QD D H2) :
  ∀D,H1 D=none->∃W:Nat->Nat->L2.St->List V->Hp->Prop,(∃m,W 0 m σ0 [] (upd H1 D (.lst [])))/\
   ∀i m σ' ys H2,W i m σ' ys H2->H2 D=some (.lst ys)/\ys.length<sizeLine/\(((WU K a b).stop i H2/\QD D H2)\/
    ((WU K a b).go i H2/\∀x H3,(WU K a b).yld i H2 x H3->g x σ' H3 fun σ2 H4=>tt σ2 H4 fun b H5=>
     if b=true then te σ2 H5 fun y H6=>H6 D=some (.lst ys)/\∃m',m'<m/\W (i+1) m' σ2 (ys++[y]) (upd H6 D (.lst (ys++[y])))else ∃m',m'<m/\W (i+1) m' σ2 ys H5)):=by
 intro D nD;refine⟨fun i m σ ys H=>m=n - i/\i<=n/\Pv i D σ ys H,⟨n,by simp,bW _,h0 D nD⟩,?_⟩;rintro i m σ ys H2 ⟨rfl,hi,p⟩;obtain⟨q,q',hD,hz⟩:=hl i D σ ys H2 hi nD p;refine⟨hD,hz,?_⟩
 by_cases hlt:i<n
 ·have l1:i<xs.length:=by omega
  have l2:i<zs.length:=by omega
  refine .inr ⟨⟨xs,zs,xs[i],zs[i],q,q',by simp[l1],by simp[l2]⟩,fun x H3 hy=>?_⟩;obtain⟨T,u,v,hT,hu,hv,rfl,rfl⟩:=hy;exact hs i u v D σ ys _ T (hu xs q) (hv zs q') hlt nD hT p
 ·have e:i=n:=by omega
  subst e;exact .inl ⟨⟨xs,zs,q,q',by omega⟩,hd D ys σ H2 nD p⟩
def kdN:fT:=["name","clock","times","seats","news","taken","place","run","journey","leg","bed","share","way","twice","astray","full","broken","deed","text"]
structure Kds(K:fL)(cs:fP):Prop where
 len:cs.length=19
 ex:∀C∈cs,ExcK K C
 is:∀(i j:Nat)(C D:Addr),cs[i]?=some C->cs[j]?=some D->PySem.W.kitOne K (.ref C) (.ref D)=some (decide (i=j))
def ExAt(cs:fP)(H:Hp)(a:Addr)(i:Nat):Prop:=∃C oe vs,cs[i]?=some C/\H a=some (.frz oe (exO a C))/\oe.cls=.ref C/\oe.data=.fields vs/\oe.dict=none
def wM(cs:fP):Sp:=fun vs H Q _=>∃a i t,vs=[.ref a]/\ExAt cs H a i/\kdN[i]?=some t/\∀H',Same H H'->Q (.str t) H'
def tIsi(K:fL)(i:Nat)(D:Addr):TE:=tCB (rIsi K) (u7 (tVar i) (u7 (tC (.ref D)) tNil))
theorem jh(i:Nat){x y:Str}{D:Addr}{p1 p2 p3:Pos}(hg:Gl X "isinstance")(hm:X.mg "isinstance"=none)(hgD:Gl X x)(hmD:X.mg x=some (.ref D))(hN:X.N[i]?=some y:=by rfl)(hv:Vis X.env.scope y:=by first|exact Or.inl rfl|exact Or.inr (Or.inl rfl)|exact Or.inr (Or.inr rfl))(hd:(y == ("__debug__":Str))=false:=by decide)
  (hcd:(y == ("__classdict__":Str))=false:=by decide)(hd2:(x == ("__debug__":Str))=false:=by decide):PE X (.Call (.Name "isinstance" p1) [.Name y p2,.Name x p3] [] pos) (tIsi X.K i D):=
 ky WD hg hm kG (qr (Zn hN hv hd hcd) (qr (qax hgD hmD hd2) zt))
theorem jn{i j:Nat}{D:Addr}{Q:V->Hp->Prop}(k:Kds K cs)(e:ExAt cs H a i)(hj:cs[j]?=some D)(h0:σ[0]?=some (some (.ref a)))(q:Q (.bl (decide (i=j))) H):tIsi K 0 D σ H Q:=by
 obtain⟨C,oe,vs,hi,h1,h2,h3,h4⟩:=e;exact⟨.ref a,h0,a,oe,C,D,vs,decide (i=j),rfl,h1,h2,h3,h4,k.ex C (aM hi),k.is i j C D hi hj,q⟩
theorem ExAt.same{i:Nat}(e:ExAt cs H a i)(s:Same H H'):ExAt cs H' a i:=by
 obtain⟨C,oe,vs,hi,h1,r⟩:=e;exact⟨C,oe,vs,hi,s _ _ h1,r⟩
theorem qbh:∀t∈kdN,JoinOk (" ":Str) [t]=true/\Txt.join (" ":Str) [t]=t:=by decide +kernel
end X2
namespace M
open PySem PySem.Spec PyProof.Rows L2 X2
variable{H:Hp}{c' c0:Co}{fp fp':fP}{a:Addr}{v:V}{E:En}{u':HO}{Q:VK}
inductive Ob where
 |ins (C:Addr) (fs:List (Str×D))
 |dic (kvs:List (Key×D))
 |lst (ds:List D)
 |gone (kvs:List (Key×D))
def ObR(K:fL)(H:Hp)(c:Co)(fp:fP)(a:Addr):Ob->Prop
 |.ins C fs=>∃(dx:Addr)(xs:List (Str×V)),H a=some (.ins C dx xs)/\dx∈fp/\H dx=some (.own a)/\xs.map (·.1)=fs.map (·.1)/\Reps K c (xs.map (·.2)) (fs.map (·.2))
 |.dic kvs=>∃ys:List (Key×V),H a=some (.dK ys)/\ys.map (·.1)=kvs.map (·.1)/\(kvs.map (·.1)).Nodup/\Reps K c (ys.map (·.2)) (kvs.map (·.2))
 |.lst ds=>∃xs:List V,H a=some (.lst xs)/\Reps K c xs ds
 |.gone _=>False
def obAt(b:List Ob)(n:Nat):Option Ob:=match b[n]? with
 |some (.gone _)=>none
 |x=>x
theorem ji{b:List Ob}{n:Nat}{o:Ob}(h:obAt b n=some o):b[n]?=some o:=by
 unfold obAt at h;cases e:b[n]? with
 |none=>rw[e]at h;cases h
 |some x=>cases x <;> (rw[e]at h;first|cases h;rfl|cases h)
theorem jj{b b':List Ob}{n m:Nat}(h:b[n]?=b'[m]?):obAt b n=obAt b' m:=by unfold obAt;rw[h]
theorem kA{b:List Ob}{n:Nat}{o:Ob}(h:b[n]?=some o)(hg:∀k,o≠.gone k):obAt b n=some o:=by
 unfold obAt;rw[h];cases o with
 |gone k=>exact absurd rfl (hg k)
 |_=>rfl
def HeR(K:fL)(c:Co)(a:Addr)(kvs:List (Key×D)):Prop:=∃(o:Obj)(ys:List (Key×V)),c.h a=some (.frz o (.dK ys))/\ys.map (·.1)=kvs.map (·.1)/\(kvs.map (·.1)).Nodup/\Reps K c (ys.map (·.2)) (kvs.map (·.2))
theorem HeR.mono{K:fL}{c c':Co}{a:Addr}{kvs:List (Key×D)}(h:HeR K c a kvs)(le:Co.Le c c'):HeR K c' a kvs:=let⟨o,ys,h1,h2,h3,h4⟩:=h;⟨o,ys,le.h _ _ h1,h2,h3,h4.mono le⟩
structure BO(K:fL)(b:List Ob)(H:Hp)(c:Co)(fp:fP):Prop where
 at_:∀(n:Nat) o,obAt b n=some o->∃a,c.ob n=some a/\a∈fp/\ObR K H c fp a o
 hel:∀(n:Nat) kvs,b[n]?=some (.gone kvs)->∃a,c.ob n=some a/\HeR K c a kvs
 inj:∀n m a,c.ob n=some a->c.ob m=some a->n=m
 out:∀n,b.length<=n->c.ob n=none
theorem ObR.stay{K:fL}{H':Hp}{c:Co}{o:Ob}(r:ObR K H c fp a o)(ha:a∈fp)(hH:∀z∈fp,H' z=H z)(hf:∀z∈fp,z∈fp')(le:Co.Le c c'):ObR K H' c' fp' a o:=by
 cases o with
 |ins C fs=>
  obtain⟨dx,xs,h1,h2,h3,h4,h5⟩:=r;exact⟨dx,xs,(hH a ha).trans h1,hf _ h2,(hH dx h2).trans h3,h4,h5.mono le⟩
 |dic kvs=>
  obtain⟨ys,h1,h2,h3,h4⟩:=r;exact⟨ys,(hH a ha).trans h1,h2,h3,h4.mono le⟩
 |lst ds=>
  obtain⟨xs,h1,h2⟩:=r;exact⟨xs,(hH a ha).trans h1,h2.mono le⟩
 |gone kvs=>exact r.elim
theorem BO.stay{K:fL}{b:List Ob}{H H':Hp}{c c':Co}{fp:fP}(B:BO K b H c fp)(hH:∀a∈fp,H' a=H a)(le:Co.Le c c')(ho:c'.ob=c.ob):BO K b H' c' fp:=
 ⟨fun n o e=>let⟨a,h1,h2,h3⟩:=B.at_ n o e;⟨a,by rw[ho];exact h1,h2,h3.stay h2 hH (fun _ z=>z) le⟩,fun n kvs e=>let⟨a,h1,h2⟩:=B.hel n kvs e;⟨a,by rw[ho];exact h1,h2.mono le⟩,by rw[ho];exact B.inj,by rw[ho];exact B.out⟩
abbrev HTt(T:Hp->Prop):Prop:=∀H H',T H->(∀a u,H a=some u->(∀xs,u≠.lst xs)->(∀xs,u≠.dK xs)->(∀xs,u≠.dT xs)->(∀C dx fs,u≠.ins C dx fs)->(∀o x,u≠.frz o x)->H' a=some u)->T H'
theorem HTt.b{T:Hp->Prop}(h:HTt T):HTb T:=fun H H' t k=>h H H' t fun a u e n1 n2 n3 _ _=>k a u e n1 n2 n3
def WB(K:fL)(cl:Str->fR)(T:Hp->Prop)(hT:HTt T):Wo where
 BS:=List Ob
 BR:=BO K
 EA:=fun X ev k a s H=>∃e C,ev=.ref e/\k=.ref C/\a=none/\Fly X [] H s e C
 XV:=fun x k _ _ _=>x.args=[]/\∃C,cl x.cls=some C/\k=.ref C
 tabs:=T
 still:=false
 brS:=fun _ _ _ _ _ _ B hH le ho _=>B.stay hH le ho
 obh:=fun _ b H c fp B co fh n a e=>by
  by_cases hl:n<b.length
  ·cases ho:obAt b n with
   |some o=>
    obtain⟨y,h1,h2,_⟩:=B.at_ n _ ho;rw[e]at h1;cases h1;exact fh a h2
   |none=>
    cases hx:b[n]? with
    |none=>exact absurd (fg.mp hx) (Nat.not_le_of_lt hl)
    |some x=>
     cases x with
     |gone kvs=>
      obtain⟨y,h1,o,ys,h2,_⟩:=B.hel n kvs hx;rw[e]at h1;cases h1;rw[(Hn.of (co _ _ h2)).1];simp
     |_=>rw[kA hx (fun _ z=>by cases z)]at ho;cases ho
  ·rw[B.out n (dS hl)]at e;cases e
 xvS:=fun _ _ _ _ _ _ h _=>h
 tabS:=hT.b
section
variable{K:fL}{cl:Str->fR}{T:Hp->Prop}{hT:HTt T}{E:En}{b:List Ob}{H:Hp}{c:Co}{fp:fP}
theorem SE.ob(S:SE (WB K cl T hT) E b H c fp){n:Nat}{o:Ob}(e:obAt b n=some o):∃a,c.ob n=some a/\a∈fp/\ObR K H c fp a o:=S.br.at_ n o e
theorem kU{n:Nat}(r:Rep K c v (.obj n)):∃a,v=.ref a/\c.ob n=some a:=by
 cases r with
 |obj e=>exact⟨_,rfl,e⟩
theorem SE.updFp{W:Wo}{E:En}{b b':W.BS}{H:Hp}{c:Co}{fp:fP}(S:SE W E b H c fp)(ha:a∈fp)(ht:isT u'=false)(htab:W.tabs (upd H a u'))(hb:W.BR b' (upd H a u') c fp):SE W E b' (upd H a u') c fp:=by
 refine⟨fun z w e=>?_,hb,htab,fun z hz=>?_,S.obq,S.fr0.le,fun z w e=>?_,S.fr0.out,fun z e=>?_,S.fr0.nob⟩
 ·obtain⟨h1,h2,h3⟩:=Hn.of (S.core _ _ e)
  exact Hn.mk ((qf (fun q=>h2 (by rw[q];exact ha))).trans h1) h2 h3
 ·by_cases q:z=a
  ·subst q;exact⟨u',qi,ht⟩
  ·obtain⟨w,e1,e2⟩:=S.fph z hz
   exact⟨w,(qf q).trans e1,e2⟩
 ·obtain⟨h1,h2,h3⟩:=Hn.of (S.fr0.nn _ _ e)
  exact Hn.mk ((qf (fun q=>h2 (by rw[q];exact ha))).trans h1) h2 h3
 ·apply S.fr0.th
  by_cases q:z=a
  ·subst q;rw[qi]at e;cases e
  ·rw[qf q]at e;exact e
theorem FR.updFp{W:Wo}{E:En}{b:W.BS}{H:Hp}{c:Co}{fp:fP}(S:SE W E b H c fp)(ha:a∈fp):FR H c fp (upd H a u') c fp:=by
 refine⟨.refl _,fun z w e=>?_,fun _ _ e=>e,fun z e=>?_,nobR⟩
 ·obtain⟨h1,h2,h3⟩:=Hn.of e
  exact Hn.mk ((qf (fun q=>h2 (by rw[q];exact ha))).trans h1) h2 h3
 ·by_cases q:z=a
  ·subst q;rw[qi]at e;cases e
  ·rw[qf q]at e;exact e
theorem ObR.noOwn{x:Addr}{o:Ob}(r:ObR K H c fp a o):H a≠some (.own x):=by
 cases o with
 |ins C fs=>obtain⟨dx,xs,h1,_⟩:=r;rw[h1];simp
 |dic kvs=>obtain⟨ys,h1,_⟩:=r;rw[h1];simp
 |lst ds=>obtain⟨xs,h1,_⟩:=r;rw[h1];simp
 |gone kvs=>exact r.elim
theorem BO.upd{n:Nat}{o o':Ob}{a:Addr}{u':HO}(B:BO K b H c fp)(e:obAt b n=some o)(ea:c.ob n=some a)(nw:ObR K (upd H a u') c fp a o'):BO K (b.set n o') (L2.upd H a u') c fp:=by
 obtain⟨a',e1,hfa,r0⟩:=B.at_ n o e;rw[ea]at e1;cases e1;have el:n<b.length:=(ai.mp (ji e)).1;have eN:∀m,m≠n->(b.set n o')[m]?=b[m]?:=fun m hm=>ay (bc hm)
 refine⟨fun m q h=>?_,fun m kvs h=>?_,B.inj,fun m hm=>B.out m (by rw[aS]at hm;exact hm)⟩
 rotate_left
 ·by_cases hmn:m=n
  ·subst hmn
   rw[aA el]at h;cases h;exact nw.elim
  ·rw[eN m hmn]at h
   exact B.hel m kvs h
 by_cases hmn:m=n
 ·subst hmn
  have h:=ji h;rw[aA el]at h;cases h;exact⟨a,ea,hfa,nw⟩
 ·rw[jj (eN m hmn)]at h
  obtain⟨z,h1,h2,h3⟩:=B.at_ m q h;have hz:z≠a:=fun y=>hmn (B.inj m n z h1 (by rw[y];exact ea))
  refine⟨z,h1,h2,?_⟩;cases q with
  |ins C fs=>
   obtain⟨dx,xs,k1,k2,k3,k4,k5⟩:=h3;exact⟨dx,xs,(qf hz).trans k1,k2,(qf fun y=>r0.noOwn (y▸k3)).trans k3,k4,k5⟩
  |dic kvs=>obtain⟨ys,k1,k2⟩:=h3;exact⟨ys,(qf hz).trans k1,k2⟩
  |lst ds=>obtain⟨xs,k1,k2⟩:=h3;exact⟨xs,(qf hz).trans k1,k2⟩
  |gone kvs=>exact h3.elim
theorem SE.setOb(S:SE (WB K cl T hT) E b H c fp){n:Nat}{o o':Ob}(e:obAt b n=some o)(ea:c.ob n=some a)(ht:isT u'=false)(htab:T (upd H a u'))(nw:ObR K (upd H a u') c fp a o'):SE (WB K cl T hT) E (b.set n o') (upd H a u') c fp:=by
 obtain⟨a',e1,hfa,r0⟩:=S.br.at_ n o e;rw[ea]at e1;cases e1;exact S.updFp hfa ht htab (S.br.upd e ea nw)
theorem FR.setOb(S:SE (WB K cl T hT) E b H c fp){n:Nat}{o:Ob}(e:obAt b n=some o)(ea:c.ob n=some a):FR H c fp (upd H a u') c fp:=by
 obtain⟨a',e1,hfa,r0⟩:=S.br.at_ n o e;rw[ea]at e1;cases e1;exact FR.updFp S hfa
def Co.name(c:Co)(n:Nat)(a:Addr):Co:=⟨c.h,fun m=>if m=n then some a else c.ob m⟩
theorem Co.name_le{n:Nat}(h:c.ob n=none):Co.Le c (c.name n a):=⟨Same.refl _,fun m z e=>by
 show(if m=n then some a else c.ob m)=some z;rw[aG (fun q=>by rw[q,h]at e;cases e)];exact e⟩
theorem uI{H:Hp}{c:Co}{fp:fP}{o:Ob}(r:ObR K H c fp a o)(hf:∀z∈fp,z∈fp')(le:Co.Le c c'):ObR K H c' fp' a o:=by
 cases o with
 |ins C fs=>obtain⟨dx,xs,h1,h2,h3,h4,h5⟩:=r;exact⟨dx,xs,h1,hf _ h2,h3,h4,h5.mono le⟩
 |dic kvs=>obtain⟨ys,h1,h2,h3,h4⟩:=r;exact⟨ys,h1,h2,h3,h4.mono le⟩
 |lst ds=>obtain⟨xs,h1,h2⟩:=r;exact⟨xs,h1,h2.mono le⟩
 |gone kvs=>exact r.elim
theorem BO.box{o:Ob}{l:fP}(B:BO K b H c fp)(hca:c.h a=none)(hf:a∉fp)(hl:∀z∈fp,z∈l)(ha:a∈l)(r:ObR K H c l a o):BO K (b++[o]) H (c.name b.length a) l:=by
 have le:Co.Le c (c.name b.length a):=Co.name_le (B.out _ (aj _));have old:∀m z,c.ob m=some z->m<b.length:=fun m z e=>Nat.lt_of_not_le fun q=>by rw[B.out m q]at e;cases e
 have inFp:∀m z,c.ob m=some z->z≠a:=fun m z e q=>by
  subst q;have lm:=old m z e;cases ho:obAt b m with
  |some o=>
   obtain⟨y,h1,h2,_⟩:=B.at_ m _ ho;rw[e]at h1;cases h1;exact hf h2
  |none=>
   have hg:∃kvs,b[m]?=some (.gone kvs):=by
    cases hx:b[m]? with
    |none=>exact absurd (fg.mp hx) (Nat.not_le_of_lt lm)
    |some x=>
     cases x with
     |gone kvs=>exact⟨kvs,rfl⟩
     |_=>rw[kA hx (fun _ z=>by cases z)]at ho;cases ho
   obtain⟨kvs,hg⟩:=hg;obtain⟨y,h1,o,ys,h2,_⟩:=B.hel m kvs hg;rw[e]at h1;cases h1;rw[hca]at h2;cases h2
 refine⟨fun m q h=>?_,fun m kvs h=>?_,fun m k z h1 h2=>?_,fun m hm=>?_⟩
 rotate_left
 ·by_cases hm:m<b.length
  ·rw[aB hm]at h
   obtain⟨z,h1,h2⟩:=B.hel m kvs h;exact⟨z,le.ob _ _ h1,h2.mono le⟩
  ·rw[aJ (dS hm)]at h
   cases hk:m - b.length with
   |zero=>rw[hk]at h;cases h;exact r.elim
   |succ j=>rw[hk]at h;simp at h
 rotate_left
 rotate_left
 ·by_cases hm:m<b.length
  ·rw[jj (aB hm)]at h
   obtain⟨z,h1,h2,h3⟩:=B.at_ m q h;exact⟨z,le.ob _ _ h1,hl _ h2,uI h3 hl le⟩
  ·have h:=ji h
   rw[aJ (dS hm)]at h;have e0:m=b.length:=by
    cases hk:m - b.length with
    |zero=>omega
    |succ j=>rw[hk]at h;simp at h
   subst e0;rw[Nat.sub_self]at h;cases h;exact⟨a,aH rfl,ha,uI r (fun _ z=>z) le⟩
 ·have h1:(if m=b.length then some a else c.ob m)=some z:=h1
  have h2:(if k=b.length then some a else c.ob k)=some z:=h2
  by_cases em:m=b.length
  ·by_cases ek:k=b.length
   ·rw[em,ek]
   ·rw[aH em]at h1;rw[aG ek]at h2;cases h1;exact absurd rfl (inFp _ _ h2)
  ·by_cases ek:k=b.length
   ·rw[aG em]at h1;rw[aH ek]at h2;cases h2;exact absurd rfl (inFp _ _ h1)
   ·rw[aG em]at h1;rw[aG ek]at h2;exact B.inj _ _ _ h1 h2
 ·rw[ar]at hm
  have hm:b.length+1<=m:=hm;show(if m=b.length then some a else c.ob m)=none;rw[aG (by omega)];exact B.out m (by omega)
theorem Ko{P:Addr->Prop}{n:Nat}(h:∀m z,c0.ob m=none->c.ob m=some z->P z)(h0:P a):∀m z,c0.ob m=none->(c.name n a).ob m=some z->P z:=fun m z e0 e=>by
 have e:(if m=n then some a else c.ob m)=some z:=e
 split at e
 ·cases e;exact h0
 ·exact h m z e0 e
theorem SE.box(S:SE (WB K cl T hT) E b H c fp){a:Addr}{u:HO}{o:Ob}(hu:H a=some u)(ht:isT u=false)(hc:c.h a=none)(hf:a∉fp)(he:E.H a=none)(r:ObR K H c (a::fp) a o):SE (WB K cl T hT) E (b++[o]) H (c.name b.length a) (a::fp):=by
 have le:Co.Le c (c.name b.length a):=Co.name_le (S.br.out _ (aj _));refine⟨fun z w e=>?_,S.br.box hc hf (fun _ z=>aD _ z) aN r,S.tab,fun z hz=>?_,(fun z=>by cases z),S.fr0.le.trans le,fun z w e=>?_,S.fr0.out,S.fr0.th,Ko S.fr0.nob he⟩
 ·have e':c.h z=some w:=e
  obtain⟨h1,h2,h3⟩:=Hn.of (S.core _ _ e');exact Hn.mk h1 (fun q=>by rcases ah.mp q with rfl|q;rw[hc]at e';cases e';exact h2 q) h3
 ·rcases ah.mp hz with rfl|hz
  ·exact⟨u,hu,ht⟩
  ·exact S.fph z hz
 ·obtain⟨h1,h2,h3⟩:=Hn.of (S.fr0.nn _ _ e)
  exact Hn.mk h1 (fun q=>by rcases ah.mp q with rfl|q;rw[kC he]at e;cases e;exact h2 q) h3
theorem FR.box{H0:Hp}{fp0:fP}{n:Nat}(F:FR H0 c0 fp0 H c fp)(hn:c.ob n=none)(h0:H0 a=none):FR H0 c0 fp0 H (c.name n a) (a::fp):=by
 refine⟨F.le.trans (Co.name_le hn),fun z w e=>?_,F.out,F.th,Ko F.nob h0⟩;obtain⟨h1,h2,h3⟩:=Hn.of (F.nn _ _ e);exact Hn.mk h1 (fun q=>by rcases ah.mp q with rfl|q;rw[kC h0]at e;cases e;exact h2 q) h3
end
inductive RO where
 |ok (d:D) (b:List Ob)
 |exc (x:Str) (b:List Ob)
 |bad
structure At(K:fL)(T:Hp->Prop)(b:List Ob)(H:Hp)(c:Co)(fp:fP):Prop where
 core:Same c.h (Hn H fp)
 br:BO K b H c fp
 tab:T H
 fph:∀a∈fp,∃u,H a=some u/\isT u=false
def spB(K:fL)(cl:Str->fR)(T:Hp->Prop)(n:Nat)(F:List Ob->List D->RO):Sp:=fun vs H Q EX=>vs.length=n/\∃c b ds fp,At K T b H c fp/\Reps K c vs ds/\match F b ds with
 |.ok d b'=>∀v H' c' fp',FR H c fp H' c' fp'->At K T b' H' c' fp'->Rep K c' v d->Q v H'
 |.exc x b'=>∀H' c' fp' C,FR H c fp H' c' fp'->At K T b' H' c' fp'->cl x=some C->EX (.ref C) none H'
 |.bad=>False
section
variable{K:fL}{cl:Str->fR}{T:Hp->Prop}{hT:HTt T}{E:En}{b:List Ob}{H:Hp}{c:Co}{fp:fP}
theorem SE.at_(S:SE (WB K cl T hT) E b H c fp):At K T b H c fp:=⟨S.core,S.br,S.tab,S.fph⟩
theorem At.se(A:At K T b H c fp)(fr:FR E.H E.c E.fp H c fp):SE (WB K cl T hT) E b H c fp:=⟨A.core,A.br,A.tab,A.fph,(fun z=>by cases z),fr⟩
abbrev fK (K:PySem.W.Frag) (c:PySem.Str->Option PySem.Addr) (T:L2.Hp->Prop) (h:M.HTt T):=M.SS (M.WB K c T h)->M.Ou (M.WB K c T h)
def zD(n:Nat)(f:fK K cl T hT):List Ob->List D->RO:=fun b ds=>match f (zA n ds b)with
 |.rt d b'=>.ok d b'
 |.nx g=>.ok .non g.b
 |.ex x g=>match x.args with
  |[]=>.exc x.cls g.b
  |_=>.bad
 |_=>.bad
theorem k9{P:Program}{w:World}{mg:fO}{base:Heap}{x qual:Str}{st:Stmt}{f:Addr}{fd:FuncData}{N ps:fT}{k n:Nat}{body:fK K cl T hT}{O':List Nat}(F:Fun K x qual st f fd)(Sc:FnScope N ps (qm st))(hn:n=ps.length)
  (h:∀(cdv:Value)(A:Around)(outer:List Env)(s:Shared)(H:Hp)(EX:XK)(E:En),Room k (A.deeper (envOfC qual (qm st) s.heap.objs.size f cdv))->DSs (WB K cl T hT) E false [] (cxOf (CX1 P w) P w K mg base N qual (qm st) f cdv A outer s H EX) [] (zZ st) body O') :
  FnOk P w K mg base (CX1 P w) (k+1) f fd ps (spB K cl T n (zD N.length body)):=by
 obtain⟨oc,od,kV,doc,pm,an,cdv,ct,osl,rfl,lk,hcd⟩:=F.ex;refine qer lk hcd Sc (fun vs H Q EX q=>by rw[<- hn];exact q.1) fun A outer s H vs Q EX hr q=>?_
 obtain⟨_,c,b,ds,fp,a,r,q⟩:=q;refine⟨_,(h cdv A outer s H EX ⟨H,c,fp⟩ hr).h,zA N.length ds (W:=WB K cl T hT) b,c,fp,Qa (a.se .refl) r,?_⟩;unfold zD at q;cases eb:body (zA N.length ds b)with
 |rt d' b'=>
  rw[eb]at q;intro v H' c' fp' S' r';exact q v H' c' fp' S'.fr0 S'.at_ r'
 |nx g'=>
  rw[eb]at q;intro σ' H' c' fp' S' _;exact q .non H' c' fp' S'.fr0 S'.toSE.at_ .non
 |ex x g'=>
  rw[eb]at q;intro ev σ' s' H' c' fp' I S' _ ⟨k',a',⟨e,C,h1,h2,h3,fl⟩,ha,C',hc,hC⟩;subst h1 h2;cases hC;simp only[ha]at q;exact qbx I fl (q H' c' fp' C S'.fr0 S'.toSE.at_ hc)
 |bk g'=>rw[eb]at q;exact q.elim
 |ct g'=>rw[eb]at q;exact q.elim
 |bad=>rw[eb]at q;exact q.elim
end
section
variable{K:fL}{cl:Str->fR}{T:Hp->Prop}{hT:HTt T}{E:En}{X:Cx}{O:List Nat}{g:SS (WB X.K cl T hT)}{c:Co}{fp:fP}{σ:L2.St}{H:Hp}
def ofRO{K:fL}:RO->R (WB K cl T hT) D
 |.ok d b=>.ok d b
 |.exc x b=>.exc ⟨x,[]⟩ b
 |.bad=>.bad
abbrev fJ (K:PySem.W.Frag) (c:PySem.Str->Option PySem.Addr) (T:L2.Hp->Prop) (h:M.HTt T):=M.SS (M.WB K c T h)->M.R (M.WB K c T h) M.D
def zR{K:fL}(n:Nat)(F:List Ob->List D->RO)(fs:SS (WB K cl T hT)->R (WB K cl T hT) (List D)):fJ K cl T hT:=ql fs fun ds g=>if ds.length=n then ofRO (F g.b ds)else .bad
theorem KW{ds:List D}{vs:List V}{n:Nat}{F:List Ob->List D->RO}(r1:Reps X.K c vs ds)(h1:tG X E (Rep X.K) true O (fun g=>if ds.length=n then ofRO (F g.b ds)else .bad) g c fp σ H Q):spB X.K cl T n F vs H Q (EXs X σ):=by
 obtain⟨S,h1⟩:=h1
 by_cases hl:ds.length=n
 ·refine⟨by rw[r1.l];exact hl,c,g.b,ds,fp,S.toSE.at_,r1,?_⟩
  simp only[hl,aP]at h1;cases e:F g.b ds with
  |bad=>rw[e]at h1;exact h1
  |ok d b'=>
   rw[e]at h1;exact fun v H' c' fp' f a r=>h1 v H' c' fp' (S.step f (a.se (S.fr0.trans f))) f r
  |exc x b'=>
   rw[e]at h1;exact fun H' c' fp' C f a hC=>⟨C,rfl,fun pins s' z I fl=>h1 (.ref z) s' H' c' fp' (Inv.unpinned (pins:=[]) (pl:=pins) I) (S.step f (a.se (S.fr0.trans f))) f ⟨.ref C,none,⟨z,C,rfl,rfl,rfl,fl.mono fun b y=>⟨y.1,y.2.1,fun p hp=>y.2.2 p (by rw[aQ]at hp;exact bR _ hp)⟩⟩,rfl,C,hC,rfl⟩⟩
 ·simp only[hl,cv]at h1
variable{k n:Nat}{f C:Addr}{fd:FuncData}{ps:fT}{F:List Ob->List D->RO}{x m:Str}{p pos apos:Pos}{e o:Expr}{es:fU}{fs:SS (WB X.K cl T hT)->R (WB X.K cl T hT) (List D)}{fo:fJ X.K cl T hT}
theorem uh(G:FnOk X.prog X.w X.K X.mg X.base (CX1 X.prog X.w) k f fd ps (spB X.K cl T n F))(hr:Room k X.A)(hg:Gl X x)(hm:X.mg x=some (.ref f))(hk:PySem.W.keepIn X.K (.ref f)=true)(hb:Binds X.K fd ps [])(ha:DA (WB X.K cl T hT) E true X O (e::es) fs)(hex:X.ex=[]:=by rfl)(hd:(x == ("__debug__":Str))=false:=by decide)
  (hs:starEach (e::es) X.env=(false,eval e X.env)::starEach es X.env:=by rfl)(hpl:(backTo pos (starEach es X.env)).any (·.1)=false:=by rfl):DE (WB X.K cl T hT) E true X O (.Call (.Name x p) (e::es) [] pos) (zR n F fs):=
 qy (Yu G hr hg hm hk hb ha.h hex hd hs hpl) fun σ H Q⟨g,c,fp,q⟩=>⟨g,c,fp,q.bind fun ds b vs H1 c1 fp1 S1 F1 r1 h1=>KW r1 h1⟩
def qw{K:fL}(C:Addr)(m:Str)(n:Nat)(F:List Ob->List D->RO)(fo:fJ K cl T hT)(fs:SS (WB K cl T hT)->R (WB K cl T hT) (List D)):fJ K cl T hT:=
 ql fo fun d g=>match d with
  |.obj i=>match obAt g.b i with
   |some (.ins C' qs)=>if C'=C/\qs.lookup m=none then ql fs (fun ds g=>if(d::ds).length=n then ofRO (F g.b (d::ds))else .bad) g else .bad
   |_=>.bad
  |_=>.bad
theorem vM{α β:Type}(m:Str):∀{xs:List (Str×α)}{ys:List (Str×β)},xs.map (·.1)=ys.map (·.1)->(xs.lookup m=none↔ys.lookup m=none)
 |[],[],_=>by simp
 |[],_::_,h=>by cases h
 |_::_,[],h=>by cases h
 |(a,x)::xs,(b,y)::ys,h=>by
  simp only[a9,cX]at h;obtain⟨rfl,h⟩:=h;rw[dh,dh];cases q:m == a with
  |true=>simp
  |false=>exact vM m h
theorem qbb{ta:TA}(hargs:∀σ H Q,(∃g c fp,tG X E (Reps X.K) true O fs g c fp σ H Q)->ta σ H Q)(q:tG X E (Rep X.K) true O (qw C m n F fo fs) g c fp σ H Q) :
  ∃g c fp,tG X E (Rep X.K) true O fo g c fp σ H fun x H1=>∃a dx zs,x=.ref a/\H1 a=some (.ins C dx zs)/\zs.lookup m=none/\ta σ H1 fun vs H2=>spB X.K cl T n F (x::vs) H2 Q (EXs X σ):=by
 refine⟨g,c,fp,q.bind fun d b v H1 c1 fp1 S1 F1 r1 h1=>?_⟩;obtain⟨S,h1'⟩:=h1;cases d with
 |obj i=>
  cases ei:obAt b i with
  |none=>simp only[ei]at h1'
  |some o=>
   cases o with
   |ins C' qs=>
    simp only[ei]at h1'
    by_cases hc:C'=C/\qs.lookup m=none
    ·simp only[hc,eD,aP]at h1'
     obtain⟨rfl,hq⟩:=hc;obtain⟨a,rfl,ea⟩:=kU r1;obtain⟨a',e1,_,dx,zs,k1,_,_,k4,_⟩:=S.toSE.ob ei;have ea:c1.ob i=some a:=ea;rw[ea]at e1;cases e1;refine⟨a,dx,zs,rfl,k1,(vM m k4).mpr hq,hargs _ _ _ ⟨_,c1,fp1,tG.bind (E:=E) (m:=true) (m':=true) (rel':=Rep X.K) ⟨S,h1'⟩ fun ds b2 vs H2 c2 fp2 S2 F2 r2 h2=>?_⟩⟩;exact KW (.cons (r1.mono F2.le) r2) h2
    ·simp only[hc,cv]at h1'
   |dic _=>simp only[ei]at h1'
   |lst _=>simp only[ei]at h1'
   |gone _=>simp only[ei]at h1'
 |_=>exact h1'.elim
theorem q9{pl:Sem Bool}(ho:DE (WB X.K cl T hT) E true X O o fo)(cc:Cls X.K C)(hm:Meth X.K C m f)(G:FnOk X.prog X.w X.K X.mg X.base (CX1 X.prog X.w) k f fd ps (spB X.K cl T n F))(hr:Room k X.A)(hb:Binds X.K fd ps [])(ha:DA (WB X.K cl T hT) E true X O (e::es) fs)(hex:X.ex=[]:=by rfl)
  (hst:starEach (e::es) X.env=(false,eval e X.env)::starEach es X.env:=by rfl)(hpl:(backTo pos (starEach es X.env)).any (·.1)=false:=by rfl)
  (ht:eval (.Call (.Attribute o m apos) (e::es) [] pos) X.env=(do
   let ov <- eval o X.env
   standAt apos.atName
   let(f,first) <- holding [ov] (getMethod ov m pl)
   callWith pos f first (backTo pos (starEach (e::es) X.env)) (backToKw pos (keywordEach [] X.env))):=by rfl) :
  DE (WB X.K cl T hT) E true X O (.Call (.Attribute o m apos) (e::es) [] pos) (qw C m n F fo fs):=
 qy (Yl (pl:=pl) ho.h cc hm G hr hb ha.h hex hst hpl ht) fun σ H Q⟨g,c,fp,q⟩=>qbb (fun _ _ _ z=>z) q
end
theorem yJ{K:fL}{c:Co}(f:Str):∀{xs:List (Str×V)}{ys:List (Str×D)}{d:D},xs.map (·.1)=ys.map (·.1)->Reps K c (xs.map (·.2)) (ys.map (·.2))->ys.lookup f=some d->∃v,xs.lookup f=some v/\Rep K c v d
 |_,[],_,_,_,h=>by cases h
 |[],_::_,_,h,_,_=>by cases h
 |(a,x)::xs,(b,y)::ys,d,h,r,e=>by
  simp only[a9,cX]at h;obtain⟨rfl,h⟩:=h;rw[a9,a9]at r;obtain⟨x',t,e1,r1,r2⟩:=r.uncons;cases e1;rw[dh]at e ⊢;cases q:f == a with
  |true=>rw[q]at e;cases e;exact⟨x,rfl,r1⟩
  |false=>rw[q]at e;exact yJ f h r2 e
def wX(f:Str)(v:D):List (Str×D)->List (Str×D)
 |[]=>[(f,v)]
 |(g,x)::r=>if g=f then(g,v)::r else(g,x)::wX f v r
theorem Ke{K:fL}{c:Co}{f:Str}{v:V}{d:D}(rv:Rep K c v d):∀{xs:List (Str×V)}{ys:List (Str×D)},xs.map (·.1)=ys.map (·.1)->Reps K c (xs.map (·.2)) (ys.map (·.2))->(putF f v xs).map (·.1)=(wX f d ys).map (·.1)/\Reps K c ((putF f v xs).map (·.2)) ((wX f d ys).map (·.2))
 |[],[],_,_=>⟨rfl,.cons rv .nil⟩
 |[],_::_,h,_=>by cases h
 |_::_,[],h,_=>by cases h
 |(a,x)::xs,(b,y)::ys,h,r=>by
  simp only[a9,cX]at h;obtain⟨rfl,h⟩:=h;rw[a9,a9]at r;obtain⟨x',t,e1,r1,r2⟩:=r.uncons;cases e1;unfold putF wX
  by_cases q:a=f
  ·rw[aH q,aH q]
   exact⟨by rw[a9,a9,h],.cons rv r2⟩
  ·rw[aG q,aG q]
   obtain⟨h1,h2⟩:=Ke rv h r2;exact⟨by rw[a9,a9,h1],.cons r1 h2⟩
section
variable{cl:Str->fR}{T:Hp->Prop}{hT:HTt T}{E:En}{X:Cx}{O O' OL:List Nat}{g:SS (WB X.K cl T hT)}{c:Co}{fp:fP}{σ:L2.St}{H:Hp}{m m' fr:Bool}{pos apos pos':Pos}{o e:Expr}{f:Str}{C:Addr}{fo fe:fJ X.K cl T hT}
def eOb{K:fL}{α:Type}(fo:fJ K cl T hT)(k:Nat->Ob->SS (WB K cl T hT)->R (WB K cl T hT) α):SS (WB K cl T hT)->R (WB K cl T hT) α:=ql fo fun d g=>match d with
 |.obj i=>match obAt g.b i with
  |some o=>k i o g
  |none=>.bad
 |_=>.bad
def sOb{K:fL}(fo:fJ K cl T hT)(k:Nat->Ob->fK K cl T hT):fK K cl T hT:=zc fo fun d g=>match d with
 |.obj i=>match obAt g.b i with
  |some o=>k i o g
  |none=>.bad
 |_=>.bad
theorem VD:(cm m H c fp).ob=c.ob:=by cases m <;> rfl
theorem tG.ob{ν α:Type}{rel':Co->ν->α->Prop}{k:Nat->Ob->SS (WB X.K cl T hT)->R (WB X.K cl T hT) α}{Q:VK}{Q':ν->Hp->Prop}(h:tG X E rel' m' O (eOb fo k) g c fp σ H Q')
  (cont:∀i o b a H1 c1 fp1,SR (WB X.K cl T hT) X.K E O ⟨g.v,b⟩ σ H1 c1 fp1->FR H c fp H1 c1 fp1->obAt b i=some o->c1.ob i=some a->a∈fp1->ObR X.K H1 c1 fp1 a o->tG X E rel' m' O (k i o) ⟨g.v,b⟩ c1 fp1 σ H1 Q'->Q (.ref a) H1):tG X E (Rep X.K) m O fo g c fp σ H Q:=by
 refine h.bind fun d b v H1 c1 fp1 S1 F1 r1 h1=>?_
 obtain⟨S,h1⟩:=h1;cases d with
 |obj i=>
  cases ei:obAt b i with
  |none=>simp only[ei]at h1
  |some o=>
   simp only[ei]at h1;obtain⟨a,rfl,ea⟩:=kU r1;rw[VD]at ea;obtain⟨a',e1,ha,r⟩:=S.toSE.ob ei;rw[ea]at e1;cases e1;exact cont i o b a H1 c1 fp1 S F1 ei ea ha r ⟨S,h1⟩
 |_=>exact h1.elim
theorem tSx.ob{k:Nat->Ob->fK X.K cl T hT}{D:Ends}{Q:VK}(h:tSx X E fr OL O (sOb fo k) O' g c fp D σ H)
  (cont:∀i o b a H1 c1 fp1,FR H c fp H1 c1 fp1->obAt b i=some o->c1.ob i=some a->a∈fp1->ObR X.K H1 c1 fp1 a o->tSx X E fr OL O (k i o) O' ⟨g.v,b⟩ c1 fp1 D σ H1->Q (.ref a) H1):tG X E (Rep X.K) m O fo g c fp σ H Q:=by
 refine tSx.bind h fun d b v H1 c1 fp1 F1 r1 h1=>?_
 obtain⟨S,h1⟩:=h1;cases d with
 |obj i=>
  cases ei:obAt b i with
  |none=>simp only[ei]at h1;exact h1.elim
  |some o=>
   simp only[ei]at h1;obtain⟨a,rfl,ea⟩:=kU r1;rw[VD]at ea;obtain⟨a',e1,ha,r⟩:=S.toSE.ob ei;rw[ea]at e1;cases e1;exact cont i o b a H1 c1 fp1 F1 ei ea ha r ⟨S,h1⟩
 |_=>exact h1.elim
def eFld{K:fL}(C:Addr)(f:Str)(fo:fJ K cl T hT):fJ K cl T hT:=eOb fo fun _ o=>eOpt (match o with
 |.ins C' fs=>if C'=C then fs.lookup f else none
 |_=>none)
theorem kM(ho:DE (WB X.K cl T hT) E m X O o fo)(cc:Cls X.K C)(na:NoAttr X.K C f)(hb:attributeBase o f X.env (eval o X.env)=eval o X.env:=by rfl):DE (WB X.K cl T hT) E true X O (.Attribute o f pos) (eFld C f fo):=
 qy (qdt ho.h hb) fun σ H Q⟨g,c,fp,q⟩=>⟨g,c,fp,q.ob fun i o b a H1 c1 fp1 S1 F1 ei ea ha r h1=>by
  obtain⟨z,ez,k⟩:=h1.opt;cases o with
  |ins C' fs=>
   obtain⟨hC,ez'⟩:C'=C/\fs.lookup f=some z:=by
    by_cases hC:C'=C
    ·exact⟨hC,(aH hC).symm.trans ez⟩
    ·cases (aG hC).symm.trans ez
   subst hC;obtain⟨dx,xs,k1,k2,k3,k4,k5⟩:=r;obtain⟨v,l,rv⟩:=yJ f k4 k5 ez';exact⟨a,_,dx,xs,v,rfl,k1,cc,na,l,k v H1 c1 fp1 S1 .refl rv⟩
  |dic _=>cases ez
  |lst _=>cases ez
  |gone _=>cases ez⟩
def vJ{K:fL}(C:Addr)(f:Str)(fo fe:fJ K cl T hT):fK K cl T hT:=zc fe fun d=>sOb fo fun i o g=>match o with
 |.ins C' fs=>if C'=C/\fs.length<1000 then .nx ⟨g.v,List.set (α:=Ob) g.b i (.ins C (wX f d fs))⟩else .bad
 |_=>.bad
theorem ZV(ho:DE (WB X.K cl T hT) E m X O o fo)(he:DE (WB X.K cl T hT) E true X O e fe)(cc:Cls X.K C)(na:NoAttr X.K C f)(hs:swapsWith e (some (.Attribute o f pos')) pos.line X.env=pure false:=by rfl):DS (WB X.K cl T hT) E fr OL X O (.Assign [.Attribute o f pos'] e pos) (vJ C f fo fe) O:=
 zT (qdj ho.h he.h hs) fun D σ H⟨g,c,fp,q⟩=>⟨g,c,fp,q.bind fun d b v H1 c1 fp1 F1 r1 q1=>⟨_,c1,fp1,q1.ob fun i o b2 a H2 c2 fp2 F2 ei ea ha r q2=>by
  obtain⟨S2,q2⟩:=q2;cases o with
  |ins C' fs=>
   by_cases hC:C'=C/\fs.length<1000
   ·simp only[hC,eD,aP]at q2
    obtain⟨rfl,hl⟩:=hC;obtain⟨dx,xs,k1,k2,k3,k4,k5⟩:=r;have hlx:xs.length=fs.length:=by have:=bU List.length k4;simpa using this
    refine⟨a,_,dx,xs,rfl,k1,cc,na,by rw[hlx];exact hl,?_⟩;have hd:dx≠a:=fun z=>by rw[z,k1]at k3;cases k3
    obtain⟨p1,p2⟩:=Ke (f:=f) (r1.mono F2.le) k4 k5;have tb:T (upd H2 a (.ins C' dx (putF f v xs))):=hT _ _ S2.tab fun z w e _ _ _ n _=>(qf fun y=>by rw[y,k1]at e;cases e;exact n _ _ _ rfl).trans e
    have S3:=S2.toSE.setOb (u':=.ins C' dx (putF f v xs)) (o':=.ins C' (wX f d fs)) ei ea rfl tb ⟨dx,_,qi,k2,(qf hd).trans k3,p1,p2⟩;exact q2 σ _ c2 fp2 (S2.step (FR.setOb S2.toSE ei ea) S3) (.refl _)
   ·simp only[hC,cv]at q2
    exact q2.elim
  |dic _=>exact q2.elim
  |lst _=>exact q2.elim
  |gone _=>exact q2.elim⟩⟩
end
section
variable{cl:Str->fR}{T:Hp->Prop}{hT:HTt T}{E:En}{X:Cx}{O O' OL:List Nat}{g:SS (WB X.K cl T hT)}{b:List Ob}{c:Co}{fp:fP}{σ:L2.St}{H:Hp}{m m' m1 m2 fr:Bool}{pos apos pos' p:Pos}{o e a:Expr}{f:Str}{C:Addr}{fo fe fa fb:fJ X.K cl T hT}
def kT{K:fL}(x:Str):fK K cl T hT:=fun g=>.ex ⟨x,[]⟩ g
theorem jA{x msg:Str}{np cpos spos:Pos}{k:Nat}(hcl:cl x=some C)(Oc:OwnCls x C bmVE "ValueError.__new__" X.mg X.base)(hg:Gl X x)(hc:X.calm=true)(hex:X.ex=[]:=by rfl)(hd:(x == ("__debug__":Str))=false:=by decide)
  (he:starEach [.Constant (.str msg) k spos] X.env=[(false,eval (.Constant (.str msg) k spos) X.env)]:=by rfl)(hplain:(backTo cpos (starEach [.Constant (.str msg) k spos] X.env)).any (·.1)=false:=by rfl) :
  DS (WB X.K cl T hT) E fr OL X O (.Raise (some (.Call (.Name x np) [.Constant (.str msg) k spos] [] cpos)) none pos) (kT x) O':=
 zT (Yg Oc hg hc hex hd he hplain) fun D σ H⟨g,c,fp,S,q⟩=>fun pins z s' I fl=>by
  obtain⟨c2,l2,S2⟩:=S.freeze (O':=[]) (fun i h=>nomatch h);exact q (.ref z) σ s' H c2 fp (Inv.unpinned (pins:=[]) (pl:=pins) I) S2 l2 ⟨.ref C,none,⟨z,C,rfl,rfl,rfl,fl.mono fun b y=>⟨y.1,y.2.1,fun p hp=>y.2.2 p (by rw[aQ]at hp;exact bR _ hp)⟩⟩,rfl,C,hcl,rfl⟩
def eBox{K:fL}(fe:fJ K cl T hT):fJ K cl T hT:=ql fe fun d g=>match d with
 |.lst ds=>.ok (.obj (List.length (α:=Ob) g.b)) (List.append (α:=Ob) g.b [.lst ds])
 |.dic kvs=>.ok (.obj (List.length (α:=Ob) g.b)) (List.append (α:=Ob) g.b [.dic kvs])
 |_=>.bad
theorem kq(he:DO (WB X.K cl T hT) E X O e fe):DE (WB X.K cl T hT) E true X O e (eBox fe):=qy he.h fun σ H Q⟨g,c,fp,S,q⟩=>by
 refine⟨g,c,fp,S,?_⟩;unfold eBox ql at q;cases ee:fe g with
 |bad=>rw[ee]at q;exact q
 |exc x b2=>rw[ee]at q;exact q
 |ok d b2=>
  rw[ee]at q;intro v H' c' fp' S' F' ow nw;cases d with
  |lst ds=>
   obtain⟨z,xs,rfl,hc,hf,hE,hh,r⟩:=ow;have S2:=S'.toSE.box (o:=.lst ds) hh rfl hc hf hE ⟨xs,hh,r⟩;have F2:=F'.box (n:=List.length (α:=Ob) b2) (S'.toSE.br.out _ (aj _)) (nw rfl z rfl);exact q (.ref z) H' _ _ (S.step F2 S2) F2 (.obj (aH rfl))
  |dic kvs=>
   obtain⟨z,ys,rfl,hc,hf,hE,hh,l,nd,r⟩:=ow;have S2:=S'.toSE.box (o:=.dic kvs) hh rfl hc hf hE ⟨ys,hh,l,nd,r⟩;have F2:=F'.box (n:=List.length (α:=Ob) b2) (S'.toSE.br.out _ (aj _)) (nw rfl z rfl);exact q (.ref z) H' _ _ (S.step F2 S2) F2 (.obj (aH rfl))
  |_=>exact q.elim
def der(b:List Ob):D->Option D
 |.obj i=>match obAt b i with
  |some (.dic kvs)=>some (.dic kvs)
  |some (.lst ds)=>some (.lst ds)
  |_=>none
 |d=>some d
theorem qgf{H:Hp}{c:Co}{fp:fP}(h:Same c.h (Hn H fp)):Co.Le c ⟨Hn H [],c.ob⟩:=⟨h.trans hn_nil,fun _ _ e=>e⟩
theorem QP(S:SE (WB X.K cl T hT) E b H c fp){d d':D}(r:Rep X.K (cm m H c fp) v d)(e:der b d=some d'):Rep X.K ⟨Hn H [],c.ob⟩ v d':=by
 have pl:∀z,Rep X.K (cm m H c fp) v z->Rep X.K ⟨Hn H [],c.ob⟩ v z:=fun z r=>Rep.mono (c:=⟨Hn H fp,c.ob⟩) (c':=⟨Hn H [],c.ob⟩) ⟨hn_nil,fun _ _ e=>e⟩ (r.mono S.bor)
 cases d with
 |obj i=>
  obtain⟨z,rfl,ez⟩:=kU r;rw[VD]at ez;cases ei:obAt b i with
  |none=>simp only[der,ei]at e;cases e
  |some ob=>
   obtain⟨z',e1,hz,rr⟩:=S.ob ei;rw[ez]at e1;cases e1;have le:Co.Le c ⟨Hn H [],c.ob⟩:=qgf S.core;cases ob with
   |gone _=>exact rr.elim
   |ins _ _=>simp only[der,ei]at e;cases e
   |dic kvs=>
    simp only[der,ei]at e;cases e;obtain⟨ys,h1,h2,h3,h4⟩:=rr;exact .dic (Hn.mk h1 aE rfl) h2 h3 fun j p q k1 k2=>(h4.mono le).r j _ _ (by rw[aq,k1];rfl) (by rw[aq,k2];rfl)
   |lst ds=>
    simp only[der,ei]at e;cases e;obtain⟨xs,h1,h2⟩:=rr;exact .lst (Hn.mk h1 aE rfl) h2.l (h2.mono le).r
 |_=>cases e;exact pl _ r
def e1B{K:fL}(op:D->Option D)(fa:fJ K cl T hT):fJ K cl T hT:=ql fa fun x g=>eOpt ((der g.b x).bind op) g
def e2B{K:fL}(op:D->D->Option D)(fa fb:fJ K cl T hT):fJ K cl T hT:=ql fa fun x=>ql fb fun y g=>eOpt ((der g.b x).bind fun x=>(der g.b y).bind fun y=>op x y) g
theorem twoB{op:D->D->Option D}{r:R2}(h:tG X E (Rep X.K) true O (e2B op fa fb) g c fp σ H Q)(hr:Op2 X r op) :
  tG X E (Rep X.K) m1 O fa g c fp σ H fun x H1=>∃g c fp,tG X E (Rep X.K) m2 O fb g c fp σ H1 fun y H2=>r x y H2 Q:=by
 refine h.bind fun d b v H1 c1 fp1 S1 F1 r1 h1=>⟨_,c1,fp1,h1.bind fun d' b' v' H2 c2 fp2 S2 F2 r2 h2=>?_⟩
 obtain⟨z,ez,k⟩:=tG.opt (o:=(der b' d).bind fun x=>(der b' d').bind fun y=>op x y) h2;cases e1:der b' d with
 |none=>rw[e1]at ez;cases ez
 |some x=>
  rw[e1]at ez;cases e2:der b' d' with
  |none=>rw[e2]at ez;cases ez
  |some y=>
   rw[e2]at ez;exact hr H2 ⟨Hn H2 [],c2.ob⟩ v v' x y z Q (Hn.same (fp:=[])) (QP S2.toSE (r1.mono F2.cm) e1) (QP S2.toSE r2 e2) ez fun u hu=>k u H2 c2 fp2 S2 .refl (wf hu)
theorem jU(hg:Gl X "len")(hm:X.mg "len"=none)(ha:DE (WB X.K cl T hT) E m X O a fa)(hs:starEach [a] X.env=(false,eval a X.env)::starEach [] X.env:=by rfl)(h2:(backTo pos (starEach [] X.env)).any (·.1)=false:=by rfl):DE (WB X.K cl T hT) E true X O (.Call (.Name "len" p) [a] [] pos) (e1B lenD fa):=
 qy (ky (CallR.or KU Z6) hg hm PySem.boot_len (qr ha.h zt hs) (he:=hs)) fun σ H Q⟨g,c,fp,q⟩=>⟨g,c,fp,q.bind fun d b v H1 c1 fp1 S1 F1 r1 h1=>by
  obtain⟨z,ez,k⟩:=tG.opt (o:=(der b d).bind lenD) h1;cases e1:der b d with
  |none=>rw[e1]at ez;cases ez
  |some x=>
   rw[e1]at ez;exact len_rep (c:=⟨Hn H1 [],c1.ob⟩) (Hn.same (fp:=[])) (QP S1.toSE r1 e1) ez fun u hu=>k u H1 c1 fp1 S1 .refl (wf hu)⟩
def vt:Ob->Option (List (Key×D))
 |.dic kvs=>some kvs
 |_=>none
def eIxB{K:fL}(fo fk:fJ K cl T hT):fJ K cl T hT:=ql fo fun d=>ql fk fun k g=>eOpt (match d with
 |.obj i=>(obAt g.b i).bind fun o=>(vt o).bind fun kvs=>(za k).bind (qK kvs)
 |_=>none) g
theorem qe1{i:Expr}{fk:fJ X.K cl T hT}(hu:X.A.units+1<cLine)(ho:DE (WB X.K cl T hT) E m1 X O o fo)(hi:DE (WB X.K cl T hT) E m2 X O i fk)(hs:NoSl i):DE (WB X.K cl T hT) E true X O (.Subscript o i pos) (eIxB fo fk):=
 qy (qay hu ho.h hi.h hs) fun σ H Q⟨g,c,fp,q⟩=>⟨g,c,fp,q.bind fun d b v H1 c1 fp1 S1 F1 r1 h1=>⟨_,c1,fp1,h1.bind fun d' b' v' H2 c2 fp2 S2 F2 r2 h2=>by
  cases d with
  |obj j=>
   obtain⟨z,ez,k⟩:=tG.opt (o:=(obAt b' j).bind fun o=>(vt o).bind fun kvs=>(za d').bind (qK kvs)) h2;obtain⟨w,rfl,ew⟩:=kU (r1.mono F2.cm);rw[VD]at ew;cases ei:obAt b' j with
   |none=>rw[ei]at ez;cases ez
   |some ob=>
    rw[ei]at ez;obtain⟨w',e1,hw,rr⟩:=S2.toSE.ob ei;rw[ew]at e1;cases e1;cases ob with
    |dic kvs=>
     obtain⟨ys,k1,k2,k3,k4⟩:=rr;cases hk:za d' with
     |none=>simp only[vt,hk,aC]at ez;cases ez
     |some kk=>
      simp only[vt,hk,aC]at ez;have g1:=DGet.k (k:=kk) k1;rw[<- vL r2 hk]at g1;rcases wF (k:=kk) k2 (fun i p q h1 h2=>k4.r i _ _ (by rw[aq,h1];rfl) (by rw[aq,h2];rfl))with⟨z1,z2⟩|⟨dv,u,z1,z2,z3⟩
      ·rw[z1]at ez;cases ez
      ·rw[z1]at ez
       cases ez;rw[z2]at g1;exact⟨w,u,rfl,g1,k u H2 c2 fp2 S2 .refl z3⟩
    |ins _ _=>cases ez
    |lst _=>cases ez
    |gone _=>cases ez
  |_=>obtain⟨z,ez,k⟩:=tG.opt (o:=none) h2;cases ez⟩⟩
end
end M
namespace X2
open PySem PySem.Spec PyProof.Rows L2
variable{X:Cx}
theorem ui{pins:fM}{σ:L2.St}{H:Hp}{s:Shared}{a:Addr}{kvs:List (Key×V)}{k:Key}{u r:Value}{d:V}{A:Around}{E:fN}{Q:fN}(I:L2.Inv X pins σ H s)(e:H a=some (.dK kvs))(ry:L2.RelV (kV k) u)(rd:L2.RelV d r)(l:kvs.length<sizeLine)
  (h1:∀v w' s',valV kvs k=some v->L2.Inv X pins σ H s'->L2.RelV v w'->Q w' s')(h2:valV kvs k=none->∀s',L2.Inv X pins σ (upd H a (.dK (putK kvs k d))) s'->Q r s') :
  wpAny (model X.prog X.w) A (call (.builtin "dict.setdefault") [.ref a,u,r]) Q E s:=by
 obtain⟨z,hd,vs,rel,dd⟩:=yD I.hok e;have hz:vs.length<=sizeLine:=by rw[<- rel.length];exact z
 have hl:(putK kvs k d).length<=sizeLine:=by have:=vN kvs k d;omega
 refine cy eE dd.typeIs PySem.F.entry_dict_setdefault (PySem.F.args_dict_setdefault_3 _ _ _) (kt_meets_setdefault (qF X.prog X.w) a (yB ry) hd r) ⟨vs,dd,hz,fun v hv=>?_,fun hn h' dd' hs=>?_⟩
 ·have rv:=rel.val k
  rw[hv]at rv;cases q:valV kvs k with
  |none=>rw[q]at rv;exact absurd rv (by intro z;cases z)
  |some y=>rw[q]at rv;exact h1 y v _ q (I.tok _) rv
 ·have rv:=rel.val k
  rw[hn]at rv;cases q:valV kvs k with
  |some y=>rw[q]at rv;exact absurd rv (by intro z;cases z)
  |none=>
   have he:∃q,h'.get? a=some q:=let⟨q,_,_,hq,_⟩:=dd';⟨q,hq⟩;exact h2 q _ (QR I (by rw[e];exact True.intro) hs he (KO hl hd (rel.put k rd) dd'))
def qfq(td ty tx:TE):TE:=fun σ H Q=>td σ H fun x H1=>∃a,x=.ref a/\IsD H1 a/\ty σ H1 fun y H2=>tx σ H2 fun z H3=>∃kvs k,H3 a=some (.dK kvs)/\y=kV k/\kvs.length<sizeLine/\
 (∀v,valV kvs k=some v->Q v H3)/\(valV kvs k=none->Q z (upd H3 a (.dK (putK kvs k z))))
theorem Vb{o e f:Expr}{apos cpos:Pos}{td ty tx:TE}(ho:PE X o td)(he:PE X e ty)(hf:PE X f tx)(m:M2 X o "setdefault" apos e f cpos):PE X (.Call (.Attribute o "setdefault" apos) [e,f] [] cpos) (qfq td ty tx):=by
 intro pins s σ H Q I h;refine dE m.base m.few m.line bC eE PySem.F.type_dict_setdefault (thn (ho pins s σ H _ I h) fun u s1⟨x,H1,I1,rx,a,ex,d,q1⟩=>?_);subst ex;obtain rfl:u=Value.ref a:=rx;obtain⟨t1,t2,_⟩:=Ky I1 d;refine⟨t1,t2,?_⟩;rw[m.trees];refine bo rfl (cw (bG (thn (he pins s1 σ H1 _ I1 q1) fun iv s2⟨y,H2,I2,ry,q2⟩=>
  bG (thn (hf pins s2 σ H2 _ I2 q2) fun fv s3⟨z,H3,I3,rz,kvs,k,e3,ey,l,q3,q4⟩=>cD ?_))))
 subst ey;exact ui I3 e3 ry rz l (fun v w' s4 hv I4 rw'=>⟨v,H3,I4,rw',q3 v hv⟩) fun hn s4 I4=>⟨z,_,I4,rz,q4 hn⟩
end X2
namespace M
open PySem PySem.Spec PyProof.Rows L2 X2
section
variable{cl:Str->fR}{T:Hp->Prop}{hT:HTt T}{E:En}{X:Cx}{O O' OL:List Nat}{g:SS (WB X.K cl T hT)}{b:List Ob}{c:Co}{fp:fP}{σ:L2.St}{H:Hp}{m m' m1 m2 fr:Bool}{pos apos cpos pos' p dpos:Pos}{o e a:Expr}{f:Str}{C:Addr}{fo fe fa fb fk:fJ X.K cl T hT}
theorem vW{κ:Type}[DecidableEq κ]{K:fL}{ys:List (κ×V)}{kvs:List (κ×D)}{k:κ}(l:ys.map (·.1)=kvs.map (·.1))(r:Reps K c (ys.map (·.2)) (kvs.map (·.2))):(qK kvs k=none/\valV ys k=none)\/∃d v,qK kvs k=some d/\valV ys k=some v/\Rep K c v d:=
 wF l fun i p q h1 h2=>r.r i _ _ (by rw[aq,h1];rfl) (by rw[aq,h2];rfl)
def kO(b:List Ob)(i:Nat):Option (List (Key×D)):=(obAt b i).bind vt
theorem xr{b:List Ob}{i:Nat}{kvs:List (Key×D)}(h:kO b i=some kvs):obAt b i=some (.dic kvs):=by
 unfold kO at h;cases e:obAt b i with
 |none=>rw[e]at h;cases h
 |some o=>rw[e]at h;cases o <;> cases h <;> rfl
theorem qce{b l:List Ob}{i:Nat}{o:Ob}(e:obAt b i=some o):obAt (List.append b l) i=some o:=by
 show obAt (b++l) i=_;rw[jj (aB (ai.mp (ji e)).1)];exact e
def ye{K:fL}(i:Nat)(k:D):fJ K cl T hT:=fun g=>match kO g.b i,za k with
 |some kvs,some kk=>if kvs.length<big then(match qK kvs kk with
  |some d=>.ok d g.b
  |none=>.ok (.obj (List.length (α:=Ob) g.b)) (List.set (α:=Ob) (List.append (α:=Ob) g.b [.dic []]) i (.dic (putD kvs kk (.obj (List.length (α:=Ob) g.b))))))else .bad
 |_,_=>.bad
def xH{K:fL}(fo fk:fJ K cl T hT):fJ K cl T hT:=eOb fo fun i o=>ql (eOpt (vt o)) fun _=>ql fk (ye i)
theorem J5(h:T H){a:Addr}{u:HO}{ys:List (Key×V)}(ha:H a=some (.dK ys)):T H->HTt T->T (upd H a u):=fun t hT=>hT _ _ t fun z w e _ n _ _ _=>(qf fun y=>by rw[y,ha]at e;cases e;exact n _ rfl).trans e
theorem Wq(ho:DE (WB X.K cl T hT) E m X O o fo)(he:DE (WB X.K cl T hT) E m2 X O e fk)(mm:M2 X o "setdefault" apos e (.Dict [] [] dpos) cpos):DE (WB X.K cl T hT) E true X O (.Call (.Attribute o "setdefault" apos) [e,.Dict [] [] dpos] [] cpos) (xH fo fk):=
 qy (Vb ho.h he.h kx mm) fun σ H Q⟨g,c,fp,q⟩=>⟨g,c,fp,q.ob fun i o b a H1 c1 fp1 S1 F1 ei ea ha r h1=>by
  cases o with
  |gone _=>exact r.elim
  |ins _ _=>exact h1.2.elim
  |lst _=>exact h1.2.elim
  |dic kvs0=>
   obtain⟨ys0,k1,_⟩:=r;have h1':tG X E (Rep X.K) true O (ql fk (ye i)) ⟨g.v,b⟩ c1 fp1 σ H1 Q:=h1;refine⟨a,rfl,.inl ⟨ys0,.inl k1⟩,⟨g.v,b⟩,c1,fp1,h1'.bind fun d' b' v' H2 c2 fp2 S2 F2 r2 h2=>fun p hp=>?_⟩;obtain⟨_,h2⟩:=h2;unfold ye at h2;have ea2:c2.ob i=some a:=F2.le.ob _ _ ea;cases ed:kO b' i with
   |none=>simp only[ed]at h2
   |some kvs=>
    cases hk:za d' with
    |none=>simp only[ed,hk]at h2
    |some kk=>
     simp only[ed,hk]at h2
     by_cases hl:kvs.length<big
     ·simp only[hl,aP]at h2
      have eo:=xr ed;obtain⟨a',e1,ha2,ys,y1,y2,y3,y4⟩:=S2.toSE.ob eo;rw[ea2]at e1;cases e1;have hly:ys.length=kvs.length:=by have:=bU List.length y2;simpa using this
      have nap:a≠p:=zh y1 hp;refine⟨ys,kk,(qf nap).trans y1,vL r2 hk,by rw[hly];exact xv hl,fun v hv=>?_,fun hn=>?_⟩
      ·rcases vW (k:=kk) y2 y4 with⟨z1,z2⟩|⟨dv,u,z1,z2,z3⟩
       ·rw[z2]at hv;cases hv
       ·rw[z2]at hv
        cases hv;simp only[z1]at h2;exact h2 v _ c2 fp2 (S2.newO hp) (FR.newO hp _) z3
      ·rcases vW (k:=kk) y2 y4 with⟨z1,z2⟩|⟨dv,u,z1,z2,z3⟩
       ·simp only[z1]at h2
        have S3:=S2.newO hp (u:=.dK []);obtain⟨hcp,hfp⟩:=S2.toSE.free hp;have S4:=S3.toSE.box (a:=p) (u:=.dK []) (o:=.dic []) qi rfl hcp hfp (S2.toSE.freeE hp) ⟨[],qi,rfl,.nil,.nil⟩;have e4:obAt (List.append (α:=Ob) b' [.dic []]) i=some (.dic kvs):=qce eo;have ea4:(c2.name (List.length (α:=Ob) b') p).ob i=some a:=(Co.name_le (S2.toSE.br.out _ (aj _))).ob _ _ ea2;have rp:Rep X.K (c2.name (List.length (α:=Ob) b') p) (.ref p) (.obj (List.length (α:=Ob) b')):=.obj (aH rfl);obtain⟨p1,p2⟩:=Xb (k:=kk) y2 (y4.mono (Co.name_le (S2.toSE.br.out _ (aj _)))) rp;have ha3:(upd H2 p (.dK [])) a=some (.dK ys):=(qf nap).trans y1;have S5:=S4.setOb (o':=.dic (putD kvs kk (.obj (List.length (α:=Ob) b')))) (u':=.dK (putK ys kk (.ref p))) e4 ea4 rfl (J5 S4.tab ha3 S4.tab hT) ⟨_,qi,p1,Zz y3,p2⟩;have F5:=((FR.newO (c:=c2) (fp:=fp2) hp (.dK [])).box (n:=List.length (α:=Ob) b') (S2.toSE.br.out _ (aj _)) hp).trans (FR.setOb S4 (u':=.dK (putK ys kk (.ref p))) e4 ea4);exact h2 (.ref p) _ _ _ (S2.step F5 S5) F5 rp
       ·rw[z2]at hn;cases hn
     ·simp only[hl,cv]at h2⟩
end
end M
namespace X2
open PySem PySem.Spec PyProof PyProof.Rows L2
section
variable{P:Program}{w:World}{A:Around}{E:fN}{s:Shared}
theorem Vy{d b:Addr}{h:Int}{ks:List Key}{vs:List (Key×Value)}{Q:Option Nat->Shared->Prop}(hu:A.units<cLine)(hk:IsTupleKey (qF P w) s.heap ks b)(dd:s.heap.DictOf (qF P w) d vs)(hQ:Q none s):wpAny (model P w) A (dictFind d (.ref b) h) Q E s:=by
 obtain⟨o,es,ep,ho,_,hd,hK,_,_⟩:=dd;have key:∀e∈es,(∃i t,e.key=.int i t)\/∃x t,e.key=.str x t:=fun e he=>by
  obtain⟨k,hk,_⟩:=hK e he;rcases zf (show ZO k e.key=true from hk)with⟨i,t,_,q⟩|⟨x,t,_,q⟩
  ·exact .inl ⟨i,t,q⟩
  ·exact .inr ⟨x,t,q⟩
 obtain⟨its,hi⟩:∃its,s.heap.IsTuple b its:=by
  obtain⟨o,items,n,ho,hc,hd,_⟩:=hk;exact⟨items,o,ho,hc,n,hd⟩
 have hany:¬ (es.any fun e=>e.key == .ref b && e.hash != h)=true:=by
  rw[<- Array.any_toList,dW];rintro⟨e,hin,hc⟩;rw[b9,bS]at hc;rcases key e (Array.mem_toList_iff.mp hin)with⟨i,t,q⟩|⟨x,t,q⟩ <;> (rw[q]at hc;cases hc.1)
 unfold dictFind
 try with_reducible refine bj ?_
 refine ae (wpAny_dictEntries ho hd ?_);dsimp only;rw[aG (by simp[carriedByValue]),aG hany];have rest:∀st:fQ,wpAny (model P w) A (do
   let mut hit:Option Nat:=none
   for i in placesWithHash es.size (fun i=>es[i]?.map (·.hash)) h do
    if let some e:=es[i]? then
     if e.hash == h then
      let before <- dictEpoch d (keyPart (.ref b));let same <- PySem.eqBool e.key (.ref b)
      if(<- dictEpoch d (keyPart (.ref b))) != before then unsupported "dict.changed-during-lookup"
      if same then
       if hit.isSome then unsupported "dict.find:order-among-keys-of-one-hash"
       rule "dict.find.hit"
       if st.length<2 then return some i
       hit:=some i
      else
       rule "dict.find.same-hash-other-key"
       if false && !(0<=h && h<32)then unsupported "dict.find:asked-again-or-not-hangs-on-the-table"
   return hit) Q E s:=by
  intro st;refine ae (wpAny_forIn_list _ (fun _ b s'=>s'=s/\b=(none,none)) _ ?_ ?_ _ _ ⟨rfl,rfl⟩)
  ·rintro x rest y s' ⟨rfl,rfl⟩
   cases he:es[x]? with
   |none=>exact ax ⟨rfl,rfl⟩
   |some e=>
    dsimp only
    by_cases hh:(e.hash == h)=true
    ·rw[aH hh]
     have next:wpAny (model P w) A (PySem.eqBool e.key (.ref b)) (fun r s1=>r=false/\s1=s') E s':=by
      rcases key e (Array.mem_of_getElem? he)with⟨i,t,q⟩|⟨x,t,q⟩ <;> rw[q]
      ·exact SeqAt.EqAt.int_tuple i t hi hu _ _ _ _ ⟨rfl,rfl⟩
      ·exact SeqAt.EqAt.str_tuple x t hi hu _ _ _ _ ⟨rfl,rfl⟩
     refine ae (wpAny_dictEpoch ho hd (ae (bh next (fun r s1⟨e1,e2⟩=>?_) fun _ _ z=>z)));subst e1 e2;refine ae (wpAny_dictEpoch ho hd ?_);show wpAny _ _ (if(ep != ep)=true then _ else _) _ E _;rw[aG (by simp)];simp only[bQ,cv];refine ae (wpAny_rule ?_)
     first
      |exact ax ⟨rfl,rfl⟩
      |exact ae (ax (ax ⟨rfl,rfl⟩))
    ·rw[aG hh]
     exact ax ⟨rfl,rfl⟩
  ·rintro y s' ⟨rfl,rfl⟩
   exact ax hQ
 have tell:∀st:fQ,(∀v∈st,(∃i t,v=.int i t)\/∃x t,v=.str x t)->wpAny (model P w) A (tableMayTell (.ref b) st) (fun r s1=>r=false/\s1=s) E s:=fun st hst=>by
  unfold tableMayTell
  split
  ·exact ax ⟨rfl,rfl⟩
  refine ae (wpAny_eqIsQuiet_tuple hk ?_);simp only[eA,bQ,cv];refine ae (wpAny_forIn_list _ (fun rest r s'=>s'=s/\r=(none,())/\∀v∈rest,(∃i t,v=Value.int i t)\/∃x t,v=Value.str x t) _ ?_ ?_ _ _ ⟨rfl,rfl,hst⟩)
  ·rintro x rest r s' ⟨rfl,rfl,hr⟩
   have q:∀Q',Q' true s'->wpAny (model P w) A (eqIsQuiet 8 x) Q' E s':=fun Q' z=>by
    rcases hr x aN with⟨i,t,rfl⟩|⟨x,t,rfl⟩ <;> exact ax z
   refine ae (q _ ?_);simp only[eA,bQ,cv];exact ax ⟨rfl,rfl,fun v hv=>hr v (aD _ hv)⟩
  ·rintro r s' ⟨rfl,rfl,_⟩
   exact ax ⟨rfl,rfl⟩
 by_cases hone:(((placesWithHash es.size (fun i=>es[i]?.map (·.hash)) h).filterMap (fun i=>es[i]?.map (·.key))) == [Value.ref b])=true
 ·rw[aH hone]
  refine ae (ax ?_);rw[aG (by simp)];exact rest _
 ·rw[aG hone]
  refine ae (bh (tell _ fun v hv=>?_) (fun r s1⟨e1,e2⟩=>?_) fun _ _ z=>z)
  ·obtain⟨i,_,hi⟩:=du.mp hv
   obtain⟨e,he,rfl⟩:=bf.mp hi;exact key e (Array.mem_of_getElem? he)
  ·subst e1 e2
   rw[aG (by simp)];exact rest _
theorem qd6{d b:Addr}(hd:(d == sysModules)=false)(x:Value):MeetsIn P w (Builtin.«dict.get» ⟨[.ref d,.ref b,x],[]⟩) (fun A R s=>A.in1.units<cLine/\∃ks vs,IsTupleKey (qF P w) s.heap ks b/\s.heap.DictOf (qF P w) d vs/\R (.ok (.ret x)) { s with toks:=s.toks+(ks.length+1) }):=
 .of_wp fun A R s⟨hu,ks,vs,hk,dd,h⟩=>by
  show wpAny _ _ (dictGet d (.ref b) >>= _) _ _ s;refine ae ?_;unfold dictGet
  try with_reducible refine bj ?_
  refine ae (wpAny_pyHash_tuple hu hk (ae (Vy (s:={ s with toks:=s.toks+(ks.length+1) }) hu hk dd (ax ?_))));show wpAny _ _ (Builtin.Dict.missed d (.ref b) >>= _) _ _ _;exact ae (wpAny_missed_other hd (ax ⟨x,rfl,h⟩))
end
def qcw(td ty tx:TE):TE:=fun σ H Q=>td σ H fun x H1=>∃a,x=.ref a/\IsD H1 a/\ty σ H1 fun y H2=>tx σ H2 fun z H3=>(∃o,DGet H3 a y o/\Q (o.getD z) H3)\/∃(kvs:List (Key×V))(ks:List Key)(b:Addr),H3 a=some (.dK kvs)/\y=.ref b/\H3 b=some (.tup (ks.map kV))/\Q z H3
theorem Yq{X:Cx}{o e f:Expr}{apos cpos:Pos}{td ty tx:TE}(hu:X.A.units+1<cLine)(ho:PE X o td)(he:PE X e ty)(hf:PE X f tx)(m:M2 X o "get" apos e f cpos):PE X (.Call (.Attribute o "get" apos) [e,f] [] cpos) (qcw td ty tx):=by
 intro pins s σ H Q I h;refine dE m.base m.few m.line bC bM PySem.F.type_dict_get (thn (ho pins s σ H _ I h) fun u s1⟨x,H1,I1,rx,a,ex,d,q1⟩=>?_);subst ex;obtain rfl:u=Value.ref a:=rx;obtain⟨t1,t2,_⟩:=Ky I1 d;refine⟨t1,t2,?_⟩;rw[m.trees];refine bo rfl (cw (bG (thn (he pins s1 σ H1 _ I1 q1) fun iv s2⟨y,H2,I2,ry,q2⟩=>
  bG (thn (hf pins s2 σ H2 _ I2 q2) fun fv s3⟨z,H3,I3,rz,q3⟩=>cD ?_))))
 rcases q3 with⟨ov,g,q3⟩|⟨kvs,ks,b,h1,rfl,h2,q3⟩
 ·exact qe5 hu I3 g ry rz fun w' s4 I4 rw'=>⟨_,H3,I4,rw',q3⟩
 ·cases (show iv=Value.ref b from ry)
  obtain⟨_,hd,vs,_,dd⟩:=yD I3.hok h1;exact cy bM dd.typeIs cz (dw _ _ _) (qd6 hd fv) ⟨cu (knd:=qF X.prog X.w) hu,ks,vs,xZ I3.hok h2,dd,z,H3,I3.tok _,rz,q3⟩
end X2
namespace M
open PySem PySem.Spec PyProof.Rows L2 X2
variable{v:V}{Q:VK}{σ:L2.St}{H:Hp}{fp:fP}{pos:Pos}{fr:Bool}{O':List Nat}{st:Stmt}{pl:Sem Bool}{r':R2}{op op':CmpOp}
section
variable{cl:Str->fR}{T:Hp->Prop}{hT:HTt T}{E:En}{X:Cx}{O O' OL:List Nat}{g:SS (WB X.K cl T hT)}{b:List Ob}{c:Co}{fp:fP}{σ:L2.St}{H:Hp}{m m' m1 m2 fr:Bool}{pos apos cpos pos' p dpos:Pos}{o e a x:Expr}{f:Str}{C:Addr}{fo fe fa fb fk fx:fJ X.K cl T hT}
def dicD:D->Option (List (Key×D))
 |.dic kvs=>some kvs
 |_=>none
def wx(b:List Ob)(d:D):Option (List (Key×D)):=(der b d).bind dicD
def uY:D->Option (List Key)
 |.tup ds=>zV ds
 |_=>none
def getT(kvs:List (Key×D))(k x:D):Option D:=match za k with
 |some kk=>some ((qK kvs kk).getD x)
 |none=>(uY k).map fun _=>x
def JJ{K:fL}(d k x:D):fJ K cl T hT:=fun g=>eOpt ((wx g.b d).bind fun kvs=>getT kvs k x) g
def Y7{K:fL}(fo fk fx:fJ K cl T hT):fJ K cl T hT:=ql fo fun d g=>match wx g.b d with
 |some _=>ql fk (fun k=>ql fx fun x=>JJ d k x) g
 |none=>.bad
def YS{K:fL}(d k x:D):fJ K cl T hT:=fun g=>match za k with
 |some _=>JJ d k x g
 |none=>.bad
def yN{K:fL}(fo fk:fJ K cl T hT):fJ K cl T hT:=ql fo fun d g=>match wx g.b d with
 |some _=>ql fk (fun k=>YS d k .non) g
 |none=>.bad
theorem Wm(S:SE (WB X.K cl T hT) E b H c fp){d:D}{kvs:List (Key×D)}(r:Rep X.K (cm true H c fp) v d)(e:wx b d=some kvs):∃z ys,v=.ref z/\H z=some (.dK ys)/\ys.map (·.1)=kvs.map (·.1)/\(kvs.map (·.1)).Nodup/\Reps X.K c (ys.map (·.2)) (kvs.map (·.2)):=by
 unfold wx at e;cases d with
 |obj i=>
  obtain⟨z,rfl,ez⟩:=kU r;have ez:c.ob i=some z:=ez;cases ei:obAt b i with
  |none=>simp only[der,ei]at e;cases e
  |some ob=>
   obtain⟨z',e1,hz,rr⟩:=S.ob ei;rw[ez]at e1;cases e1;cases ob with
   |gone _=>exact rr.elim
   |ins _ _=>simp only[der,ei]at e;cases e
   |lst _=>simp only[der,ei]at e;cases e
   |dic kvs'=>
    simp only[der,ei]at e;cases e;obtain⟨ys,h1,h2,h3,h4⟩:=rr;exact⟨z,ys,rfl,h1,h2,h3,h4⟩
 |dic kvs'=>
  cases e;have r:Rep X.K c v (.dic kvs):=r;cases r with
  |dic ee l nd rr=>exact⟨_,_,rfl,S.all (m:=true) _ _ ee,l,nd,⟨by have:=bU List.length l;simpa using this,fun i y q h1 h2=>by
    rw[aq]at h1 h2;obtain⟨p1,e1,rfl⟩:=bf.mp h1;obtain⟨p2,e2,rfl⟩:=bf.mp h2;exact rr i p1 p2 e1 e2⟩⟩
 |_=>cases e
theorem uM{d k x:D}{vk vx:V}(S:SR (WB X.K cl T hT) X.K E O g σ H c fp)(r:Rep X.K c v d)(rk:Rep X.K (cm m2 H c fp) vk k)(rx:Rep X.K c vx x)(q:tG X E (Rep X.K) true O (JJ d k x) g c fp σ H Q):∃z,v=.ref z/\((∃o,DGet H z vk o/\Q (o.getD vx) H)\/(za k=none/\∃(kvs:List (Key×V))(ks:List Key)(b:Addr),H z=some (.dK kvs)/\vk=.ref b/\H b=some (.tup (ks.map kV))/\Q vx H)):=by
 obtain⟨w,ew,kk⟩:=tG.opt (o:=(wx g.b d).bind fun kvs=>getT kvs k x) q;obtain⟨kvs,ei,ew⟩:=Option.bind_eq_some_iff.mp ew;obtain⟨z,ys,rfl,h1,h2,h3,h4⟩:=Wm S.toSE (show Rep X.K (cm true H c fp) v d from r) ei;refine⟨z,rfl,?_⟩;unfold getT at ew;cases e3:za k with
 |none=>
  rw[e3]at ew;obtain⟨ks,ek,rfl⟩:=bf.mp (show(uY k).map (fun _=>x)=some w from ew);cases k with
  |tup ds=>
   have rk:Rep X.K (cm m2 H c fp) vk (.tup ds):=rk;cases rk with
   |tup ee l rr=>
    have:=wV ⟨l,rr⟩ (show zV ds=some ks from ek);subst this;exact .inr ⟨rfl,ys,ks,_,h1,rfl,S.toSE.all (m:=m2) _ _ ee,kk _ H c fp S .refl rx⟩
  |_=>cases ek
 |some k1=>
  rw[e3]at ew;cases ew;have g1:=DGet.k (k:=k1) h1;rw[<- vL rk e3]at g1;rcases vW (k:=k1) h2 h4 with⟨z1,z2⟩|⟨dv,u,z1,z2,z3⟩
  ·rw[z2]at g1
   exact .inl ⟨_,g1,kk _ H c fp S .refl (by rw[z1];exact rx)⟩
  ·rw[z2]at g1
   exact .inl ⟨_,g1,kk _ H c fp S .refl (by rw[z1];exact z3)⟩
theorem uL(S:SE (WB X.K cl T hT) E b H c fp){d:D}{kvs:List (Key×D)}(r:Rep X.K (cm true H c fp) v d)(e:wx b d=some kvs):∃z,v=.ref z/\IsD H z:=by
 obtain⟨z,ys,rfl,h1,_⟩:=Wm S r e;exact⟨z,rfl,.inl ⟨ys,.inl h1⟩⟩
theorem qb3(hu:X.A.units+1<cLine)(ho:DE (WB X.K cl T hT) E true X O o fo)(he:DE (WB X.K cl T hT) E m2 X O e fk)(hx:DE (WB X.K cl T hT) E true X O x fx)(mm:M2 X o "get" apos e x cpos):DE (WB X.K cl T hT) E true X O (.Call (.Attribute o "get" apos) [e,x] [] cpos) (Y7 fo fk fx):=
 qy (Yq hu ho.h he.h hx.h mm) fun σ H Q⟨g,c,fp,q⟩=>⟨g,c,fp,q.bind (rel:=Rep X.K) (m:=true) fun d b v H1 c1 fp1 S1 F1 r1 h1=>by
  obtain⟨_,h1⟩:=h1;cases ei:wx b d with
  |none=>simp only[ei]at h1
  |some kvs=>
   simp only[ei]at h1;obtain⟨z,rfl,hz⟩:=uL S1.toSE r1 ei;refine⟨z,rfl,hz,⟨g.v,b⟩,c1,fp1,tG.bind (f:=fk) (k:=fun k=>ql fx fun x=>JJ d k x) (m:=m2) (rel:=Rep X.K) (rel':=Rep X.K) (m':=true) (Q':=Q) ⟨S1,h1⟩ fun dk b2 vk H2 c2 fp2 S2 F2 r2 h2=>⟨_,c2,fp2,h2.bind (rel:=Rep X.K) (m:=true) fun dx b3 vx H3 c3 fp3 S3 F3 r3 h3=>?_⟩⟩;obtain⟨z',e',oo⟩:=uM (m2:=m2) S3 (r1.mono (F2.le.trans F3.le)) (r2.mono F3.cm) r3 h3;cases e';exact oo.imp id fun z=>z.2⟩
theorem ug(hu:X.A.units+1<cLine)(ho:DE (WB X.K cl T hT) E true X O o fo)(he:DE (WB X.K cl T hT) E m2 X O e fk)(mm:M1 X o "get" apos e cpos):DE (WB X.K cl T hT) E true X O (.Call (.Attribute o "get" apos) [e] [] cpos) (yN fo fk):=
 qy (Yr hu ho.h he.h mm) fun σ H Q⟨g,c,fp,q⟩=>⟨g,c,fp,q.bind (rel:=Rep X.K) (m:=true) fun d b v H1 c1 fp1 S1 F1 r1 h1=>by
  obtain⟨_,h1⟩:=h1;cases ei:wx b d with
  |none=>simp only[ei]at h1
  |some kvs=>
   simp only[ei]at h1;obtain⟨z,rfl,hz⟩:=uL S1.toSE r1 ei;refine⟨z,rfl,hz,⟨g.v,b⟩,c1,fp1,tG.bind (f:=fk) (k:=fun k=>YS d k .non) (m:=m2) (rel:=Rep X.K) (rel':=Rep X.K) (m':=true) (Q':=Q) ⟨S1,h1⟩ fun dk b2 vk H2 c2 fp2 S2 F2 r2 h2=>?_⟩;obtain⟨_,h2⟩:=h2;unfold YS at h2;cases ek:za dk with
   |none=>simp only[ek]at h2
   |some k1=>
    simp only[ek]at h2;obtain⟨z',e',oo⟩:=uM (m2:=m2) S2 (r1.mono F2.le) r2 .non ⟨S2,h2⟩;cases e';rcases oo with oo|⟨ez,_⟩
    ·exact oo
    ·rw[ek]at ez;cases ez⟩
end
def xI{κ:Type}[DecidableEq κ](kvs:List (κ×D))(k:κ):List (κ×D):=kvs.filter fun kv=>decide (kv.1≠k)
theorem KN{κ:Type}[DecidableEq κ]{K:fL}{c:Co}{k:κ}:∀{ys:List (κ×V)}{kvs:List (κ×D)},ys.map (·.1)=kvs.map (·.1)->Reps K c (ys.map (·.2)) (kvs.map (·.2))->(yC ys k).map (·.1)=(xI kvs k).map (·.1)/\Reps K c ((yC ys k).map (·.2)) ((xI kvs k).map (·.2))
 |[],[],_,_=>⟨rfl,.nil⟩
 |[],_::_,h,_=>by cases h
 |_::_,[],h,_=>by cases h
 |(a,x)::ys,(b,y)::kvs,h,r=>by
  simp only[a9,cX]at h;obtain⟨rfl,h⟩:=h;rw[a9,a9]at r;obtain⟨x',t,e1,r1,r2⟩:=r.uncons;cases e1;obtain⟨i1,i2⟩:=KN (k:=k) h r2;unfold yC xI at *;rw[dP,dP]
  by_cases q:a=k
  ·have e:decide ((a,x).1≠k)=false:=by simp[q]
   have e':decide ((a,y).1≠k)=false:=by simp[q]
   rw[aG (by rw[e];decide),aG (by rw[e'];decide)];exact⟨i1,i2⟩
  ·have e:decide ((a,x).1≠k)=true:=by simp[q]
   have e':decide ((a,y).1≠k)=true:=by simp[q]
   rw[aH e,aH e'];exact⟨by rw[a9,a9,i1],.cons r1 i2⟩
theorem Vf{κ:Type}[DecidableEq κ]{kvs:List (κ×D)}{k:κ}(h:(kvs.map (·.1)).Nodup):((xI kvs k).map (·.1)).Nodup:=List.Nodup.sublist (List.Sublist.map _ List.filter_sublist) h
section
variable{cl:Str->fR}{T:Hp->Prop}{hT:HTt T}{E:En}{X:Cx}{O O' OL:List Nat}{g:SS (WB X.K cl T hT)}{b:List Ob}{c:Co}{fp:fP}{σ:L2.St}{H:Hp}{m m' m1 m2 fr:Bool}{pos apos cpos pos' p dpos:Pos}{o e a x:Expr}{f:Str}{C:Addr}{fo fe fa fb fk fx fv:fJ X.K cl T hT}
def kPop{K:fL}(i:Nat)(k x:D):fJ K cl T hT:=fun g=>match kO g.b i,za k with
 |some kvs,some kk=>(match qK kvs kk with
  |some d=>.ok d (List.set (α:=Ob) g.b i (.dic (xI kvs kk)))
  |none=>.ok x g.b)
 |_,_=>.bad
def Vz{K:fL}(fo fk fx:fJ K cl T hT):fJ K cl T hT:=eOb fo fun i o=>ql (eOpt (vt o)) fun _=>ql fk fun k=>ql fx fun x=>kPop i k x
theorem qb1(ho:DE (WB X.K cl T hT) E m X O o fo)(he:DE (WB X.K cl T hT) E m2 X O e fk)(hx:DE (WB X.K cl T hT) E true X O x fx)(mm:M2 X o "pop" apos e x cpos):DE (WB X.K cl T hT) E true X O (.Call (.Attribute o "pop" apos) [e,x] [] cpos) (Vz fo fk fx):=
 qy (Yp ho.h he.h hx.h mm) fun σ H Q⟨g,c,fp,q⟩=>⟨g,c,fp,q.ob fun i o b a H1 c1 fp1 S1 F1 ei ea ha r h1=>by
  cases o with
  |gone _=>exact r.elim
  |ins _ _=>exact h1.2.elim
  |lst _=>exact h1.2.elim
  |dic kvs0=>
   obtain⟨ys0,k1,_⟩:=r;have h1':tG X E (Rep X.K) true O (ql fk fun k=>ql fx fun x=>kPop i k x) ⟨g.v,b⟩ c1 fp1 σ H1 Q:=h1;refine⟨a,rfl,.inl ⟨ys0,.inl k1⟩,⟨g.v,b⟩,c1,fp1,h1'.bind (m:=m2) (rel:=Rep X.K) fun d' b' v' H2 c2 fp2 S2 F2 r2 h2=>⟨_,c2,fp2,h2.bind (m:=true) (rel:=Rep X.K) fun dx b3 vx H3 c3 fp3 S3 F3 r3 h3=>?_⟩⟩;obtain⟨_,h3⟩:=h3;unfold kPop at h3;have ea3:c3.ob i=some a:=F3.le.ob _ _ (F2.le.ob _ _ ea);cases ed:kO b3 i with
   |none=>simp only[ed]at h3
   |some kvs=>
    cases hk:za d' with
    |none=>simp only[ed,hk]at h3
    |some kk=>
     simp only[ed,hk]at h3;have eo:=xr ed;obtain⟨a',e1,ha2,ys,y1,y2,y3,y4⟩:=S3.toSE.ob eo;rw[ea3]at e1;cases e1;refine⟨ys,kk,y1,vL r2 hk,fun v hv=>?_,fun hn=>?_⟩
     ·rcases vW (k:=kk) y2 y4 with⟨z1,z2⟩|⟨dv,u,z1,z2,z3⟩
      ·rw[z2]at hv;cases hv
      ·rw[z2]at hv
       cases hv;simp only[z1]at h3;obtain⟨p1,p2⟩:=KN (k:=kk) y2 y4;have S4:=S3.toSE.setOb (o':=.dic (xI kvs kk)) (u':=.dK (yC ys kk)) eo ea3 rfl (J5 S3.tab y1 S3.tab hT) ⟨_,qi,p1,Vf y3,p2⟩;have F4:=FR.setOb S3.toSE (u':=.dK (yC ys kk)) eo ea3;exact h3 v _ c3 fp3 (S3.step F4 S4) F4 z3
     ·rcases vW (k:=kk) y2 y4 with⟨z1,z2⟩|⟨dv,u,z1,z2,z3⟩
      ·simp only[z1]at h3
       exact h3 vx _ c3 fp3 S3 .refl r3
      ·rw[z2]at hn;cases hn⟩
def Qf{K:fL}(fo fk fv:fJ K cl T hT):fK K cl T hT:=zc fv fun v=>sOb fo fun i _=>zc fk fun k g=>match kO g.b i,za k with
 |some kvs,some kk=>if kvs.length<big then .nx ⟨g.v,List.set (α:=Ob) g.b i (.dic (putD kvs kk v))⟩else .bad
 |_,_=>.bad
theorem Wg{ix value:Expr}(hu:X.A.units+1<cLine)(ho:DE (WB X.K cl T hT) E m X O o fo)(hi:DE (WB X.K cl T hT) E m2 X O ix fk)(hv:DE (WB X.K cl T hT) E true X O value fv)(hs:swapsWith value (some (.Subscript o ix pos')) pos.line X.env=pure false:=by rfl):DS (WB X.K cl T hT) E fr OL X O (.Assign [.Subscript o ix pos'] value pos) (Qf fo fk fv) O:=
 zT (qao hu ho.h hi.h hv.h hs) fun Dn σ H⟨g,c,fp,q⟩=>⟨g,c,fp,q.bind (m:=true) (rel:=Rep X.K) fun d b v H1 c1 fp1 F1 r1 q1=>⟨_,c1,fp1,q1.ob fun i o b2 a H2 c2 fp2 F2 ei ea ha r q2=>⟨_,c2,fp2,tSx.bind (m:=m2) (rel:=Rep X.K) q2 fun d' b3 v' H3 c3 fp3 F3 r3 q3=>by
  obtain⟨S3,q3⟩:=q3;have ea3:c3.ob i=some a:=F3.le.ob _ _ ea;cases ed:kO b3 i with
  |none=>simp only[ed]at q3;exact q3.elim
  |some kvs=>
   cases hk:za d' with
   |none=>simp only[ed,hk]at q3;exact q3.elim
   |some kk=>
    simp only[ed,hk]at q3
    by_cases hl:kvs.length<big
    ·simp only[hl,aP]at q3
     have eo:=xr ed;obtain⟨a',e1,ha2,ys,y1,y2,y3,y4⟩:=S3.toSE.ob eo;rw[ea3]at e1;cases e1;have hly:ys.length=kvs.length:=by have:=bU List.length y2;simpa using this
     obtain⟨p1,p2⟩:=Xb (k:=kk) y2 y4 (r1.mono (F2.le.trans F3.le));refine⟨a,upd H3 a (.dK (putK ys kk v)),rfl,?_,?_⟩
     ·rw[vL r3 hk];exact DPut.k y1 (by rw[hly];exact xv hl)
     ·have S4:=S3.toSE.setOb (o':=.dic (putD kvs kk d)) (u':=.dK (putK ys kk v)) eo ea3 rfl (J5 S3.tab y1 S3.tab hT) ⟨_,qi,p1,Zz y3,p2⟩
      exact q3 σ _ c3 fp3 (S3.step (FR.setOb S3.toSE eo ea3) S4) (.refl _)
    ·simp only[hl,cv]at q3;exact q3.elim⟩⟩⟩
def wt(b:List Ob)(i:Nat):Option (List D):=(obAt b i).bind fun o=>match o with|.lst ds=>some ds|_=>none
theorem xc{b:List Ob}{i:Nat}{ds:List D}(h:wt b i=some ds):obAt b i=some (.lst ds):=by
 unfold wt at h;cases e:obAt b i with
 |none=>rw[e]at h;cases h
 |some o=>rw[e]at h;cases o <;> cases h <;> rfl
def YW:Ob->Option Unit
 |.lst _=>some ()
 |_=>none
def kApp{K:fL}(i:Nat)(y:D):fJ K cl T hT:=fun g=>match wt g.b i with
 |some ds=>if ds.length<big then .ok .non (List.set (α:=Ob) g.b i (.lst (ds++[y])))else .bad
 |none=>.bad
def QJ{K:fL}(fo fe:fJ K cl T hT):fJ K cl T hT:=eOb fo fun i o=>ql (eOpt (YW o)) fun _=>ql fe (kApp i)
theorem VT{a:Addr}{u:HO}{xs:List V}(ha:H a=some (.lst xs))(t:T H)(hT:HTt T):T (upd H a u):=hT _ _ t fun z w e n _ _ _ _=>(qf fun y=>by rw[y,ha]at e;cases e;exact n _ rfl).trans e
theorem JN(ho:DE (WB X.K cl T hT) E m X O o fo)(he:DE (WB X.K cl T hT) E true X O e fe)
  (hbase:attributeBase o "append" X.env (eval o X.env)=eval o X.env:=by rfl)
  (hfew:((backTo cpos (starEach [e] X.env)).all (fun x=>!x.1) && (backToKw cpos (keywordEach [] X.env)).all (fun x=>x.1.isSome) && decide ([e].length+([]:List Keyword).length+(if([]:List Keyword).isEmpty then 0 else 1)<30))=true:=by rfl)
  (hline:(apos.endLine == cpos.line)=true:=by rfl)(hs:starEach [e] X.env=(false,eval e X.env)::starEach [] X.env:=by rfl)(hplain:(backTo cpos (starEach [] X.env)).any (·.1)=false:=by rfl):DE (WB X.K cl T hT) E true X O (.Call (.Attribute o "append" apos) [e] [] cpos) (QJ fo fe):=
 qy (Xo cO dq dr v_ ho.h (qr he.h zt hs) hbase hfew hline hs hplain) fun σ H Q⟨g,c,fp,q⟩=>⟨g,c,fp,q.ob fun i o b a H1 c1 fp1 S1 F1 ei ea ha r h1=>by
  cases o with
  |gone _=>exact r.elim
  |ins _ _=>exact h1.2.elim
  |dic _=>exact h1.2.elim
  |lst ds0=>
   obtain⟨xs0,k1,_⟩:=r;have h1':tG X E (Rep X.K) true O (ql fe (kApp i)) ⟨g.v,b⟩ c1 fp1 σ H1 Q:=h1;refine⟨.inl ⟨rfl,_,SqL.of k1⟩,⟨g.v,b⟩,c1,fp1,h1'.bind (m:=true) (rel:=Rep X.K) fun y b' vy H2 c2 fp2 S2 F2 r2 h2=>?_⟩;obtain⟨_,h2⟩:=h2;unfold kApp at h2;have ea2:c2.ob i=some a:=F2.le.ob _ _ ea;cases ed:wt b' i with
   |none=>simp only[ed]at h2
   |some ds=>
    simp only[ed]at h2
    by_cases hl:ds.length<big
    ·simp only[hl,aP]at h2
     have eo:=xc ed;obtain⟨a',e1,ha2,xs,y1,y2⟩:=S2.toSE.ob eo;rw[ea2]at e1;cases e1;have S3:=S2.toSE.setOb (o':=.lst (ds++[y])) (u':=.lst (xs++[vy])) eo ea2 rfl (VT y1 S2.tab hT) ⟨_,qi,y2.append (.cons r2 .nil)⟩;have F3:=FR.setOb S2.toSE (u':=.lst (xs++[vy])) eo ea2;exact⟨a,xs,vy,rfl,rfl,y1,by rw[y2.l];exact xv hl,h2 .non _ c2 fp2 (S2.step F3 S3) F3 .non⟩
    ·simp only[hl,cv]at h2⟩
end
theorem SR.clear{W:Wo}{K:fL}{E:En}{O:List Nat}{g:SS W}{c:Co}(S:SR W K E O g σ H c fp)(i:Nat)(x:Option V):SR W K E O ⟨g.v.set i none,g.b⟩ (σ.set i x) H c fp:=by
 have other:∀{j:Nat}{d:D},(g.v.set i none)[j]?=some (some d)->j≠i/\g.v[j]?=some (some d):=fun{j d} h=>by
  by_cases e:j=i
  ·subst e
   by_cases hl:j<g.v.length
   ·rw[aA hl]at h;cases h
   ·rw[dO (by rw[aS];omega)]at h;cases h
  ·rw[ay (bc e)]at h;exact⟨e,h⟩
 have back:∀{j:Nat}{y:V},j≠i->σ[j]?=some (some y)->(σ.set i x)[j]?=some (some y):=fun hj h=>by rw[ay (bc hj)];exact h
 refine⟨S.toSE,fun j d hj h=>?_,fun j d hj h=>?_,fun j k d e a hj hk hjk h1 h2 m1 m2 h3 h4=>?_,by show(g.v.set i none).length=_;rw[aS,aS];exact S.len⟩
 ·obtain⟨ne,h⟩:=other h
  obtain⟨y,h1,h2⟩:=S.frz j d hj h;exact⟨y,back ne h1,h2⟩
 ·obtain⟨ne,h⟩:=other h
  obtain⟨y,h1,h2⟩:=S.own j d hj h;exact⟨y,back ne h1,h2⟩
 ·obtain⟨nj,h1⟩:=other h1
  obtain⟨nk,h2⟩:=other h2;rw[ay (bc nj)]at h3;rw[ay (bc nk)]at h4;exact S.dis j k d e a hj hk hjk h1 h2 m1 m2 h3 h4
section
variable{cl:Str->fR}{T:Hp->Prop}{hT:HTt T}{E:En}{X:Cx}{O OL:List Nat}{g:SS (WB X.K cl T hT)}{b:List Ob}{c:Co}{fp:fP}{σ:L2.St}{H H':Hp}
theorem SR.more(S:SR (WB X.K cl T hT) X.K E O g σ H c fp)(s:Same H H'):SR (WB X.K cl T hT) X.K E O g σ H' c fp:=by
 have F:FR H c fp H' c fp:=⟨.refl _,Hn.grow s,fun _ _ e=>e,fun _ e=>s.free e,nobR⟩;refine S.step (b:=g.b) F ⟨S.core.trans F.nn,BO.stay S.br (fun a ha=>?_) (.refl _) rfl,hT _ _ S.tab (fun a u e _ _ _ _ _=>s _ _ e),fun a ha=>?_,(fun z=>by cases z),S.fr0.trans F⟩
 ·obtain⟨u,e,_⟩:=S.fph a ha
  rw[e];exact s _ _ e
 ·obtain⟨u,e,z⟩:=S.fph a ha
  exact⟨u,s _ _ e,z⟩
def Jj{K:fL}(i j:Nat)(kw:Str->Option Str)(f:fK K cl T hT):fK K cl T hT:=fun g=>match f g with
 |.ex x g'=>(match x.args,kw x.cls with
  |[],some t=>.nx ⟨((g'.v.set i none).set j (some (.tup [.str "barred",.str t]))).set i none,g'.b⟩
  |_,_=>.bad)
 |.nx g'=>.nx g'
 |.rt d b=>.rt d b
 |.bk g'=>.bk g'
 |.ct g'=>.ct g'
 |.bad=>.bad
theorem qbz{cx nm x kn:Str}{Wc fk:Addr}{fdk:FuncData}{cs:fP}{kw:Str->Option Str}{i j k:Nat}{cp hp pos2 p1 p2 p3 p4 p5 p6:Pos}{n1 n2:Nat}{body:List Stmt}{f:fK X.K cl T hT}(hex:X.ex=[])(hst:X.stack=X.env::X.outer)(hfr:X.env.frame=some X.env.locals)
  (hN:X.N.Nodup)(hi:X.N[i]?=some nm)(hloc:X.env.scope.names.lookup nm=some .local)(hgc:Gl X cx)(hmc:X.mg cx=some (.ref Wc))(hW:jG X.base Wc Wc)(hsub:∀y C,cl y=some C->jG X.base C Wc)
  (hb:∀pn Ex,DSs (WB X.K cl T hT) E false OL (trX X pn Ex) O body f [])
  (hj:X.N[j]?=some x)(hxl:X.env.scope.names.lookup x=some .local)
  (G:FnOkH X.prog X.w X.K X.mg X.base CX0 k fk fdk ["_law_e"] (wM cs))(hr:RoomH k X.A)(hgk:Gl X kn)(hmk:X.mg kn=some (.ref fk))(hkk:PySem.W.keepIn X.K (.ref fk)=true)(hbk:Binds X.K fdk ["_law_e"] [])
  (hkw:∀y t,kw y=some t->∃n:Nat,∀C,cl y=some C->cs[n]?=some C/\kdN[n]?=some t)
  (hd:(cx == ("__debug__":Str))=false:=by decide)(hdk:(kn == ("__debug__":Str))=false:=by decide)(hdn:(nm == ("__debug__":Str))=false:=by decide)(hcd:(nm == ("__classdict__":Str))=false:=by decide)
  (hs1:swapsWith (.Tuple [.Constant (.str "barred") n1 p1,.Call (.Name kn p2) [.Name nm p3] [] p4] n2 p5) (some (.Name x p6)) pos2.line X.env=pure false:=by rfl)
  (hs2:starEach [.Name nm p3] X.env=(false,eval (.Name nm p3) X.env)::starEach [] X.env:=by rfl)
  (hs3:starEach [.Constant (.str "barred") n1 p1,.Call (.Name kn p2) [.Name nm p3] [] p4] X.env=(false,eval (.Constant (.str "barred") n1 p1) X.env)::starEach [.Call (.Name kn p2) [.Name nm p3] [] p4] X.env:=by rfl)
  (hs4:starEach [.Call (.Name kn p2) [.Name nm p3] [] p4] X.env=(false,eval (.Call (.Name kn p2) [.Name nm p3] [] p4) X.env)::starEach [] X.env:=by rfl)
  (hpl:(backTo p4 (starEach [] X.env)).any (·.1)=false:=by rfl) :
  DS (WB X.K cl T hT) E false OL X O (.Try body [.ExceptHandler (some (.Name cx cp)) (some nm) [.Assign [.Name x p6] (.Tuple [.Constant (.str "barred") n1 p1,.Call (.Name kn p2) [.Name nm p3] [] p4] n2 p5) pos2] hp] [] [] pos) (Jj i j kw f) []:=by
 have hvis:Vis X.env.scope nm:=.inl hloc;refine zT (uE hex hst hfr hN hi hloc hgc hmc hW (fun pn Ex=>(hb pn Ex).h) (fun a=>Qk (vB (X:=hnd X a) (i:=j) hN hj (.inl hxl) (Xm (qr zQ (qr (Kl (X:=hnd X a) (a:=a) G rfl ⟨hr.dp,hr.un⟩ hgk hmk hkk hbk (qr (Zn (X:=hnd X a) (i:=i) hi hvis hdn hcd) zt hs2) hdk hs2 hpl) zt hs4) hs3)) hs1 (.inr hxl))) hd) fun D σ H⟨g,c,fp,S,q⟩=>fun pn Ex hE=>?_
 refine⟨g,c,fp,S,?_⟩;unfold Jj at q;cases ef:f g with
 |nx g'=>rw[ef]at q;exact q
 |rt d b=>rw[ef]at q;exact q
 |bk g'=>rw[ef]at q;exact q
 |ct g'=>rw[ef]at q;exact q
 |bad=>rw[ef]at q;exact q
 |ex xn g'=>
  rw[ef]at q;intro ev σ' s' H' c' fp' I S' lc ⟨k',a',⟨e,C,h1,h2,h3,fl⟩,ha,C',hc,hC⟩;subst h1 h2;cases hC;refine hE [] σ' H' s' e C I fl (hsub _ _ hc) fun oe vs o1 o2 o3=>?_
  cases ek:kw xn.cls with
  |none=>simp only[ha,ek]at q;exact q.elim
  |some t=>
   simp only[ha,ek]at q;obtain⟨n,hn⟩:=hkw _ _ ek;obtain⟨c1,c2⟩:=hn C hc;have hne:H' e=none:=fl.1.2.1;have S1:=(S'.newO hne (u:=.frz oe (exO e C))).clear i (some (.ref e));have hiv:i<σ'.length:=by
    have:=I.len;have h:=(ai.mp hi).1;show i<σ'.length;rw[this];exact h
   refine⟨.ref e,aA hiv,⟨oe,vs,_,qi,o2,o3.1⟩,e,n,t,rfl,⟨C,oe,vs,c1,qi,o1,o2,o3.2⟩,c2,fun H3 sm=>⟨by show 2<=sizeLine;decide,fun p hp=>?_⟩⟩;have S2:=S1.more sm;have S3:=S2.new hp (u:=.tup [.str "barred",.str t]) rfl;have rt:Rep X.K (c'.add p (.tup [.str "barred",.str t])) (.ref p) (.tup [.str "barred",.str t]):=wW qi (.cons (.str _) (.cons (.str _) .nil));have S4:=(S3.set (i:=j) rt).clear i none;exact q _ _ _ _ S4 (lc.trans (Co.add_le (S2.toSE.free hp).1))
end
section
variable{cl:Str->fR}{T:Hp->Prop}{hT:HTt T}{E:En}{X:Cx}{O OL:List Nat}{g:SS (WB X.K cl T hT)}{b:List Ob}{c:Co}{fp:fP}{σ:L2.St}{H H':Hp}{k n:Nat}{f C:Addr}{fd:FuncData}{ps:fT}{x:Str}{p pos:Pos}{e:Expr}{es:fU}{fs:SS (WB X.K cl T hT)->R (WB X.K cl T hT) (List D)}
theorem qbc(S:SE (WB X.K cl T hT) E b H c fp){x dx:Addr}(hx:H x=none)(hdx:H dx=none)(ne:dx≠x):At X.K T (b++[.ins C []]) (upd (upd H dx (.own x)) x (.ins C dx [])) (c.name b.length x) (x::dx::fp)/\FR H c fp (upd (upd H dx (.own x)) x (.ins C dx [])) (c.name b.length x) (x::dx::fp):=by
 have hfx:=(S.free hx).2;have hfd:=(S.free hdx).2;have sm:Same H (upd (upd H dx (.own x)) x (.ins C dx [])):=fun z u e=>by rw[qf (zh e hx),qf (zh e hdx)];exact e
 have out:c.ob b.length=none:=S.br.out _ (aj _);have keep:∀z∈fp,(upd (upd H dx (.own x)) x (.ins C dx [])) z=H z:=fun z hz=>by
  obtain⟨u,e,_⟩:=S.fph z hz;rw[e];exact sm _ _ e
 have nn:∀z w,Hn H fp z=some w->Hn (upd (upd H dx (.own x)) x (.ins C dx [])) (x::dx::fp) z=some w:=fun z w e=>by
  obtain⟨h1,h2,h3⟩:=Hn.of e;refine Hn.mk (sm _ _ h1) (fun q=>?_) h3;rcases ah.mp q with rfl|q
  ·rw[hx]at h1;cases h1
  ·rcases ah.mp q with rfl|q
   ·rw[hdx]at h1;cases h1
   ·exact h2 q
 refine⟨⟨fun z w e=>nn z w (S.core _ _ e),?_,hT _ _ S.tab (fun z u e _ _ _ _ _=>sm _ _ e),fun z hz=>?_⟩,⟨Co.name_le out,nn,fun z _ e=>e,fun z e=>sm.free e,fun m z h0 h1=>by
  have h1:(if m=b.length then some x else c.ob m)=some z:=h1
  split at h1
  ·cases h1;exact hx
  ·rw[h0]at h1;cases h1⟩⟩
 ·exact BO.box (l:=x::dx::fp) (S.br.stay keep (.refl _) rfl) (S.free hx).1 hfx (fun z hz=>aD _ (aD _ hz)) aN ⟨dx,[],qi,aD _ aN,(qf ne).trans qi,rfl,.nil⟩
 ·rcases ah.mp hz with rfl|hz
  ·exact⟨_,qi,rfl⟩
  ·rcases ah.mp hz with rfl|hz
   ·exact⟨_,(qf ne).trans qi,rfl⟩
   ·obtain⟨u,e,q⟩:=S.fph z hz
    exact⟨u,sm _ _ e,q⟩
def xp{K:fL}(C:Addr)(F:List Ob->List D->RO):fJ K cl T hT:=fun g=>match F (List.append (α:=Ob) g.b [.ins C []]) [.obj (List.length (α:=Ob) g.b)]with
 |.ok .non b'=>.ok (.obj (List.length (α:=Ob) g.b)) b'
 |_=>.bad
def ders(b:List Ob):List D->Option (List D)
 |[]=>some []
 |d::ds=>(der b d).bind fun x=>(ders b ds).map fun xs=>x::xs
theorem ZY(S:SE (WB X.K cl T hT) E b H c fp):∀{vs:List V}{ds ds':List D},Reps X.K (cm true H c fp) vs ds->ders b ds=some ds'->Reps X.K ⟨Hn H [],c.ob⟩ vs ds'
 |vs,[],ds',r,e=>by cases e;rw[r.unnil];exact .nil
 |vs,d::ds,ds',r,e=>by
  obtain⟨y,t,rfl,r1,r2⟩:=r.uncons;unfold ders at e;cases e1:der b d with
  |none=>rw[e1]at e;cases e
  |some z=>
   rw[e1]at e;cases e2:ders b ds with
   |none=>simp only[aC,e2]at e;cases e
   |some zs=>
    simp only[aC,e2,bx,dG]at e;subst e;exact .cons (QP S r1 e1) (ZY S r2 e2)
def jS{K:fL}(n:Nat)(F:List D->Option D)(fs:SS (WB K cl T hT)->R (WB K cl T hT) (List D)):fJ K cl T hT:=ql fs fun ds g=>eOpt (if ds.length=n then(ders g.b ds).bind fun ds=>atO (F ds)else none) g
theorem uo{F:List D->Option D}{ds:List D}{vs:List V}(r1:Reps X.K (cm true H c fp) vs ds)(S:SR (WB X.K cl T hT) X.K E O g σ H c fp)(h1:tG X E (Rep X.K) true O (eOpt (if ds.length=n then(ders g.b ds).bind fun ds=>atO (F ds)else none)) g c fp σ H Q):spP X.K T n fr F (vs++[]) H Q E0:=by
 obtain⟨d,e,k⟩:=h1.opt;rw[aQ]
 split at e
 ·rename_i hl
  cases ed:ders g.b ds with
  |none=>rw[ed]at e;cases e
  |some ds'=>
   rw[ed]at e;have e:atO (F ds')=some d:=e;unfold atO at e;cases eF:F ds' with
   |none=>rw[eF]at e;cases e
   |some d'=>
    rw[eF]at e;cases ea:isAt d' with
    |none=>simp only[aC,ea]at e;cases e
    |some va=>
     simp only[aC,ea]at e;cases e;refine⟨by rw[r1.l];exact hl,⟨Hn H [],c.ob⟩,ds',fun _ _ e=>e,S.tab,ZY S.toSE r1 ed,d,eF,fun v H' c' f ho co tb r'=>?_⟩;have ev:v=va:=by
      cases fr with
      |false=>exact uD ea r'
      |true=>
       have r':OwnV X.K ⟨H,⟨Hn H [],c.ob⟩,[]⟩ H' c' [] v d:=r';exact uD ea (Qo r' (by cases d <;> first|rfl|cases ea))
     subst ev;have keep:∀a u,H a=some u->isT u=false->H' a=some u:=fun a u e z=>(Hn.of (f.nn _ _ (Hn.mk e (aE) z))).1
     have F':FR H c fp H' c fp:=⟨.refl _,fun a u e=>by
      obtain⟨h1,h2,h3⟩:=Hn.of e;exact Hn.mk (keep a u h1 h3) h2 h3,fun _ _ q=>q,f.th,nobR⟩
     refine k v H' c fp (S.step (b:=g.b) F' ⟨S.core.trans F'.nn,BO.stay S.br (fun a ha=>?_) (.refl _) rfl,tb,fun a ha=>?_,(fun z=>by cases z),S.fr0.trans F'⟩) F' (wf ea)
     ·obtain⟨u,e,z⟩:=S.fph a ha
      rw[keep a u e z,e]
     ·obtain⟨u,e,z⟩:=S.fph a ha
      exact⟨u,keep a u e z,z⟩
 ·cases e
theorem wG{F:List D->Option D}(hr:Room k X.A)(hg:Gl X x)(hm:X.mg x=some (.ref f))(hk:PySem.W.keepIn X.K (.ref f)=true)(hb:Binds X.K fd ps [])(G:FnOk X.prog X.w X.K X.mg X.base CX0 k f fd ps (spP X.K T n fr F))(ha:DA (WB X.K cl T hT) E true X O (e::es) fs)(hd:(x == ("__debug__":Str))=false:=by decide)
  (hs:starEach (e::es) X.env=(false,eval e X.env)::starEach es X.env:=by rfl)(hplain:(backTo pos (starEach es X.env)).any (·.1)=false:=by rfl):DE (WB X.K cl T hT) E true X O (.Call (.Name x p) (e::es) [] pos) (jS n F fs):=
 qy (Jq G hr hg hm hk hb .nil Jr ha.h hd hs hplain) fun σ H Q⟨g,c,fp,q⟩=>⟨g,c,fp,q.bind (rel:=Reps X.K) (m:=true) fun ds b vs H1 c1 fp1 S1 F1 r1 h1=>uo r1 S1 h1⟩
def sBad{W:Wo}:SS W->Ou W:=fun _=>.bad
theorem zu{W:Wo}:DS W E fr OL X O st sBad O':=⟨fun pins s σ H D I q=>by obtain⟨_,_,_,_,z⟩:=q;exact z.elim⟩
end
def spB0(K:fL)(T:Hp->Prop)(n:Nat)(F:List Ob->List D->RO):Sp:=fun vs H Q _=>vs.length=n/\∃c b ds fp,At K T b H c fp/\Reps K c vs ds/\match F b ds with
 |.ok d b'=>∀v H' c' fp',FR H c fp H' c' fp'->At K T b' H' c' fp'->Rep K c' v d->Q v H'
 |_=>False
section
variable{K:fL}{cl:Str->fR}{T:Hp->Prop}{hT:HTt T}
theorem ju{P:Program}{w:World}{mg:fO}{base:Heap}{x qual:Str}{f:Addr}{fd:FuncData}{N ps:fT}{k n:Nat}{body:fK K cl T hT}(F:Fun K x qual st f fd)(Sc:FnScope N ps (qm st))(hn:n=ps.length)
  (h:∀(cdv:Value)(A:Around)(outer:List Env)(s:Shared)(H:Hp)(EX:XK)(E:En),Room k (A.deeper (envOfC qual (qm st) s.heap.objs.size f cdv))->DSs (WB K cl T hT) E false [] (cxOf CX0 P w K mg base N qual (qm st) f cdv A outer s H EX).nox [] (zZ st) body O') :
  FnOk P w K mg base CX0 (k+1) f fd ps (spB0 K T n (zD N.length body)):=by
 refine F.ok Sc (fun vs H Q EX q=>by rw[<- hn];exact q.1) fun cdv A outer s H vs Q EX hr q=>?_
 obtain⟨_,c,b,ds,fp,a,r,q⟩:=q;refine⟨_,(h cdv A outer s H EX ⟨H,c,fp⟩ hr).h,zA N.length ds (W:=WB K cl T hT) b,c,fp,Qa (a.se .refl) r,?_⟩;unfold zD at q;cases eb:body (zA N.length ds b)with
 |rt d' b'=>
  rw[eb]at q;intro v H' c' fp' S' r';exact q v H' c' fp' S'.fr0 S'.at_ r'
 |nx g'=>
  rw[eb]at q;intro σ' H' c' fp' S' _;exact q .non H' c' fp' S'.fr0 S'.toSE.at_ .non
 |ex x g'=>
  rw[eb]at q;cases ea:x.args with
  |nil=>simp only[ea]at q
  |cons _ _=>simp only[ea]at q
 |bk g'=>rw[eb]at q;exact q.elim
 |ct g'=>rw[eb]at q;exact q.elim
 |bad=>rw[eb]at q;exact q.elim
end
section
variable{cl:Str->fR}{T:Hp->Prop}{hT:HTt T}{E:En}{X:Cx}{O:List Nat}{g:SS (WB X.K cl T hT)}{c:Co}{fp:fP}{σ:L2.St}{H:Hp}{k n:Nat}{f C:Addr}{fd:FuncData}{ps:fT}{F:List Ob->List D->RO}{x m:Str}{p pos apos:Pos}{e o:Expr}{es:fU}{fs:SS (WB X.K cl T hT)->R (WB X.K cl T hT) (List D)}{fo:fJ X.K cl T hT}
def okRO:RO->RO
 |.ok d b=>.ok d b
 |_=>.bad
theorem yu{ds:List D}{vs:List V}(r1:Reps X.K c vs ds)(h1:tG X E (Rep X.K) true O (fun g=>if ds.length=n then ofRO (okRO (F g.b ds))else .bad) g c fp σ H Q):spB0 X.K T n F vs H Q E0:=by
 obtain⟨S,h1⟩:=h1
 by_cases hl:ds.length=n
 ·refine⟨by rw[r1.l];exact hl,c,g.b,ds,fp,S.toSE.at_,r1,?_⟩
  simp only[hl,aP]at h1;cases e:F g.b ds with
  |bad=>rw[e]at h1;exact h1
  |exc x b'=>rw[e]at h1;exact h1.elim
  |ok d b'=>
   rw[e]at h1;exact fun v H' c' fp' f a r=>h1 v H' c' fp' (S.step f (a.se (S.fr0.trans f))) f r
 ·simp only[hl,cv]at h1
def okF(F:List Ob->List D->RO):List Ob->List D->RO:=fun b ds=>okRO (F b ds)
theorem jW(G:FnOk X.prog X.w X.K X.mg X.base CX0 k f fd ps (spB0 X.K T n F))(hr:Room k X.A)(hg:Gl X x)(hm:X.mg x=some (.ref f))(hk:PySem.W.keepIn X.K (.ref f)=true)(hb:Binds X.K fd ps [])(ha:DA (WB X.K cl T hT) E true X O (e::es) fs)(hd:(x == ("__debug__":Str))=false:=by decide)
  (hs:starEach (e::es) X.env=(false,eval e X.env)::starEach es X.env:=by rfl)(hpl:(backTo pos (starEach es X.env)).any (·.1)=false:=by rfl):DE (WB X.K cl T hT) E true X O (.Call (.Name x p) (e::es) [] pos) (zR n (okF F) fs):=
 qy (Jq G hr hg hm hk hb .nil Jr ha.h hd hs hpl) fun σ H Q⟨g,c,fp,q⟩=>⟨g,c,fp,q.bind (rel:=Reps X.K) (m:=true) fun ds b vs H1 c1 fp1 S1 F1 r1 h1=>by rw[aQ];exact yu r1 h1⟩
theorem VB(G:FnOk X.prog X.w X.K X.mg X.base CX0 k f fd ps (spB0 X.K T 0 F))(hr:Room k X.A)(hg:Gl X x)(hm:X.mg x=some (.ref f))(hk:PySem.W.keepIn X.K (.ref f)=true)(hb:Binds X.K fd ps [])(hd:(x == ("__debug__":Str))=false:=by decide):DE (WB X.K cl T hT) E true X O (.Call (.Name x p) [] [] pos) (zR 0 (okF F) aNil):=
 qy (Yv G hr hg hm hk hb .nil Jr hd) fun σ H Q⟨g,c,fp,q⟩=>yu .nil ⟨q.1,q.2⟩
theorem Kr{ta:TA}(hargs:∀σ H Q,(∃g c fp,tG X E (Reps X.K) true O fs g c fp σ H Q)->ta σ H Q)(q:tG X E (Rep X.K) true O (qw C m n (okF F) fo fs) g c fp σ H Q) :
  ∃g c fp,tG X E (Rep X.K) true O fo g c fp σ H fun x H1=>∃a dx zs,x=.ref a/\H1 a=some (.ins C dx zs)/\zs.lookup m=none/\ta σ H1 fun vs H2=>spB0 X.K T n F (x::(vs++[])) H2 Q E0:=by
 refine⟨g,c,fp,q.bind fun d b v H1 c1 fp1 S1 F1 r1 h1=>?_⟩;obtain⟨S,h1'⟩:=h1;cases d with
 |obj i=>
  cases ei:obAt b i with
  |none=>simp only[ei]at h1'
  |some o=>
   cases o with
   |ins C' qs=>
    simp only[ei]at h1'
    by_cases hc:C'=C/\qs.lookup m=none
    ·simp only[hc,eD,aP]at h1'
     obtain⟨rfl,hq⟩:=hc;obtain⟨a,rfl,ea⟩:=kU r1;obtain⟨a',e1,_,dx,zs,k1,_,_,k4,_⟩:=S.toSE.ob ei;have ea:c1.ob i=some a:=ea;rw[ea]at e1;cases e1;refine⟨a,dx,zs,rfl,k1,(vM m k4).mpr hq,hargs _ _ _ ⟨_,c1,fp1,tG.bind (E:=E) (m:=true) (m':=true) (rel':=Rep X.K) ⟨S,h1'⟩ fun ds b2 vs H2 c2 fp2 S2 F2 r2 h2=>?_⟩⟩;rw[aQ];exact yu (.cons (r1.mono F2.le) r2) h2
    ·simp only[hc,cv]at h1'
   |dic _=>simp only[ei]at h1'
   |lst _=>simp only[ei]at h1'
   |gone _=>simp only[ei]at h1'
 |_=>exact h1'.elim
theorem zH(ho:DE (WB X.K cl T hT) E true X O o fo)(cc:Cls X.K C)(hm:Meth X.K C m f)(G:FnOk X.prog X.w X.K X.mg X.base CX0 k f fd ps (spB0 X.K T n F))(hr:Room k X.A)(hb:Binds X.K fd ps [])(ha:DA (WB X.K cl T hT) E true X O (e::es) fs)
  (hst:starEach (e::es) X.env=(false,eval e X.env)::starEach es X.env:=by rfl)(hpl:(backTo pos (starEach es X.env)).any (·.1)=false:=by rfl)
  (ht:eval (.Call (.Attribute o m apos) (e::es) [] pos) X.env=(do
   let ov <- eval o X.env
   standAt apos.atName
   let(f,first) <- holding [ov] (getMethod ov m pl)
   callWith pos f first (backTo pos (starEach (e::es) X.env)) (backToKw pos (keywordEach [] X.env))):=by rfl) :
  DE (WB X.K cl T hT) E true X O (.Call (.Attribute o m apos) (e::es) [] pos) (qw C m n (okF F) fo fs):=
 qy (qaw (pl:=pl) ho.h cc hm G hr hb .nil Jr ha.h hst hpl ht) fun σ H Q⟨g,c,fp,q⟩=>Kr (fun _ _ _ z=>z) q
theorem yO(ho:DE (WB X.K cl T hT) E true X O o fo)(cc:Cls X.K C)(hm:Meth X.K C m f)(G:FnOk X.prog X.w X.K X.mg X.base CX0 k f fd ps (spB0 X.K T n F))(hr:Room k X.A)(hb:Binds X.K fd ps [])
  (ht:eval (.Call (.Attribute o m apos) [] [] pos) X.env=(do
   let ov <- eval o X.env
   standAt apos.atName
   let(f,first) <- holding [ov] (getMethod ov m pl)
   callWith pos f first (backTo pos (starEach [] X.env)) (backToKw pos (keywordEach [] X.env))):=by rfl) :
  DE (WB X.K cl T hT) E true X O (.Call (.Attribute o m apos) [] [] pos) (qw C m n (okF F) fo aNil):=
 qy (Ym (pl:=pl) ho.h cc hm G hr hb .nil Jr ht) fun σ H Q⟨g,c,fp,q⟩=>Kr (ta:=tNil) (fun σ H Q⟨g,c,fp,q⟩=>q.2 [] H c fp q.1 .refl .nil) q
theorem ZZ(MK:Mk X.K C f)(G:FnOk X.prog X.w X.K X.mg X.base CX0 k f fd ps (spB0 X.K T 1 F))(hr:Room (k+1) X.A)(hg:Gl X x)(hm:X.mg x=some (.ref C))(hb:Binds X.K fd ps [])(hdb:(x == ("__debug__":Str))=false:=by decide):DE (WB X.K cl T hT) E true X O (.Call (.Name x p) [] [] pos) (xp C F):=
 qy (Yn MK G hr hg hm hb .nil Jr hdb) fun σ H Q⟨g,c,fp,S,q⟩=>fun z dz hz hdz ne=>by
  obtain⟨A,Fr⟩:=qbc (C:=C) S.toSE hz hdz ne;have rz:Rep X.K (c.name (List.length (α:=Ob) g.b) z) (.ref z) (.obj (List.length (α:=Ob) g.b)):=.obj (aH rfl);refine⟨rfl,_,_,[.obj (List.length (α:=Ob) g.b)],_,A,.cons rz .nil,?_⟩;unfold xp at q;cases eF:F (List.append (α:=Ob) g.b [.ins C []]) [.obj (List.length (α:=Ob) g.b)]with
  |bad=>rw[eF]at q;exact q
  |exc y b'=>rw[eF]at q;exact q.elim
  |ok d b'=>
   rw[eF]at q;intro v H' c' fp' F' A' r';cases d with
   |non=>
    cases r';exact⟨rfl,q (.ref z) H' c' fp' (S.step (Fr.trans F') (A'.se (S.fr0.trans (Fr.trans F')))) (Fr.trans F') (rz.mono F'.le)⟩
   |_=>exact q.elim
end
section
variable{W:Wo}{E:En}{X:Cx}{O:List Nat}{m1 m2 m3:Bool}{pos:Pos}{x y z:Expr}{fa fb fc:SS W->R W D}
theorem KR{r:R2}{o o':D->D->Option D}{g:SS W}{c:Co}(hr:Op2 X r o)(hr':Op2 X r' o')(q:tG X E (Rep X.K) true O (vG o o' fa fb fc) g c fp σ H Q) :
  VU r r' (fun σ H Q=>∃g c fp,tG X E (Rep X.K) m1 O fa g c fp σ H Q) (fun σ H Q=>∃g c fp,tG X E (Rep X.K) m2 O fb g c fp σ H Q) (fun σ H Q=>∃g c fp,tG X E (Rep X.K) m3 O fc g c fp σ H Q) σ H Q:=
 ⟨g,c,fp,q.bind fun d b v H1 c1 fp1 S1 F1 r1 h1=>⟨_,c1,fp1,h1.bind fun d' b' v' H2 c2 fp2 S2 F2 r2 h2=>by
  cases ez:o d d' with
  |none=>rw[ez]at h2;exact h2.2.elim
  |some w=>
   rw[ez]at h2;refine hr H2 ⟨Hn H2 fp2,c2.ob⟩ v v' d d' w _ Hn.same ((r1.mono F2.cm).mono S2.toSE.bor) (r2.mono S2.toSE.bor) ez fun u hu=>?_
   cases w with
   |bl kk=>
    cases hu;refine⟨kk,rfl,?_⟩;cases kk with
    |false=>exact iteF (h2.ret _ H2 c2 fp2 S2 .refl (.bl false))
    |true=>
     refine iteT ⟨_,c2,fp2,h2.bind fun d3 b3 v3 H3 c3 fp3 S3 F3 r3 h3=>?_⟩;obtain⟨z',ez',k⟩:=h3.opt;exact hr' H3 ⟨Hn H3 fp3,c3.ob⟩ v' v3 d' d3 z' Q Hn.same ((r2.mono F3.cm).mono S3.toSE.bor) (r3.mono S3.toSE.bor) ez' fun u hu=>k u H3 c3 fp3 S3 .refl (wf hu)
   |_=>exact h2.2.elim⟩⟩
def qOf(f:SS W->R W D):SS W->R W Bool:=ql f fun d=>eOpt (asB d)
theorem V9{f:SS W->R W D}{g:SS W}{c:Co}{Q:Bool->Hp->Prop}(q:tG X E relB true O (qOf f) g c fp σ H Q):tG X E (Rep X.K) true O f g c fp σ H fun v H1=>∃k,v=.bl k/\Q k H1:=
 q.bind (rel:=Rep X.K) (m:=true) fun d b v H1 c1 fp1 S1 F1 r1 h1=>by
  obtain⟨k,ek,kk⟩:=h1.opt;cases d with
  |bl b'=>
   cases ek;cases r1;exact⟨_,rfl,kk _ H1 c1 fp1 S1 .refl rfl⟩
  |_=>cases ek
theorem KK{r:R2}{o o':D->D->Option D}(ho:OpR X (compareOp op) r)(hr:Op2 X r o)(ho':OpR X (compareOp op') r')(hr':Op2 X r' o')(ha:DE W E m1 X O x fa)(hb:DE W E m2 X O y fb)(hc:DE W E m3 X O z fc)
  (hm:lastMarks [op,op'] [y,z]=false:=by with_unfolding_all rfl):DT W E X O (.Compare x [op,op'] [y,z] pos) (qOf (vG o o' fa fb fc)):=
 xC (Yd ho ho' ha.h hb.h hc.h hm) fun σ H Q⟨g,c,fp,q⟩=>KR hr hr' (V9 q)
theorem dv(i:Nat){x:Str}{pos:Pos}(hN:X.N[i]?=some x:=by rfl)(hv:Vis X.env.scope x:=by first|exact Or.inl rfl|exact Or.inr (Or.inl rfl)|exact Or.inr (Or.inr rfl))(hd:(x == ("__debug__":Str))=false:=by decide)(hcd:(x == ("__classdict__":Str))=false:=by decide)(hi:i∉O:=by decide):DE W E true X O (.Name x pos) (eVar i):=qe0 (pv i hN hv hd hcd) hi
theorem dci{i:Int}{j:Nat}:DE W E true X O (.Constant (.int i) j pos) (eC (.int i)):=de_c qds rfl
theorem dcs{i:Str}{j:Nat}:DE W E true X O (.Constant (.str i) j pos) (eC (.str i)):=de_c zQ rfl
theorem mo{j k:Nat}{A:Around}(hr:Room k A)(h:j<=k:=by decide):Room j A:=hr.mono h
theorem Wt{r:R2}{o o':D->D->Option D}(ho:OpR X (compareOp op) r)(hr:Op2 X r o)(ho':OpR X (compareOp op') r')(hr':Op2 X r' o')(ha:DE W E m1 X O x fa)(hb:DE W E m2 X O y fb)(hc:DE W E m3 X O z fc)
  (hm:lastMarks [op,op'] [y,z]=false:=by with_unfolding_all rfl):DE W E true X O (.Compare x [op,op'] [y,z] pos) (vG o o' fa fb fc):=
 qy (Yt ho ho' ha.h hb.h hc.h hm) fun σ H Q⟨g,c,fp,q⟩=>KR hr hr' q
end
section
variable{cl:Str->fR}{T:Hp->Prop}{hT:HTt T}{E:En}{X:Cx}{O:List Nat}{m1 m2:Bool}{pos:Pos}{a e:Expr}{fa fb:fJ X.K cl T hT}
theorem qV{oo:CmpOp}{r:R2}{op:D->D->Option D}(ho:OpR X (compareOp oo) r)(hr:Op2 X r op)(ha:DE (WB X.K cl T hT) E m1 X O a fa)(hb:DE (WB X.K cl T hT) E m2 X O e fb)(hm:behindInMarks oo e=false):DT (WB X.K cl T hT) E X O (.Compare a [oo] [e] pos) (qOf (e2B op fa fb)):=
 xC (Xf ho ha.h hb.h hm) fun σ H Q⟨g,c,fp,q⟩=>⟨g,c,fp,twoB (V9 q) hr⟩
end
end M
namespace X2
open PySem PySem.W PySem.Spec PyProof.Rows L2
variable{h:Heap}{K:Frag}{C f:Addr}
def Vx(as:fP)(h:Heap):Frag:=as.filterMap fun a=>(qbu h a).map fun o=>(a,o)
theorem Y2{as:fP}:(Vx as h).In h:=fun a o e=>by
 unfold Vx at e;rw[kX]at e
 split at e
 ·exact X4 e
 ·cases e
def qem{α:Type}(as:fP)(obs:Frag->α)(val:World->α)(ts:fP)(hts:(ts.all fun P=>!as.contains P)=true):Hook where
 α:=α×List (Option Obj)
 obs:=fun s=>(obs (Vx as s.heap),ts.map s.heap.get?)
 val:=fun w=>(val w,ts.map fun _=>some (tabObj #[]))
 says:=fun w h=>∃K:Frag,K.In h/\obs K=val w/\(∀P∈ts,K.lookup P=none)/\∀P∈ts,h.get? P=some (tabObj #[])
 of:=fun w s x=>by
  obtain⟨x1,x2⟩:=eQ x;have x3:=fA.mp x2;refine⟨Vx as s.heap,Y2,x1,fun P hP=>?_,x3⟩;unfold Vx;rw[kX,aG fun hm=>?_];have:=bA.mp hts P hP;rw[List.contains_iff_mem.mpr hm]at this;cases this
 keeps:=fun w h h'⟨K,x1,x2,x3,x4⟩ k=>⟨K,x1.keeps k,x2,x3,fun P hP=>k _ _ (x4 P hP)⟩
def clsB(K:Frag)(C:Addr):Bool:=plainGet K C Str.empty && hasDictIn K C && plainOver K C && (findIn K (.ref C) "__setattr__" == some (some (.builtin "object.__setattr__")))
theorem uS(h:clsB K C=true):Cls K C:=by
 unfold clsB at h;simp only[b9,bS]at h;exact⟨h.1.1.1,h.1.1.2,h.1.2,h.2⟩
def naB(K:Frag)(C:Addr)(f:Str):Bool:=findIn K (.ref C) f == some none
theorem YH{f:Str}(h:naB K C f=true):NoAttr K C f:=bS.mp h
def meB(K:Frag)(C:Addr)(m:Str)(f:Addr):Bool:=(findIn K (.ref C) m == some (some (.ref f))) && isFn K (.ref f) && keepIn K (.ref f)
theorem xb{m:Str}(h:meB K C m f=true):Meth K C m f:=by
 unfold meB at h;simp only[b9,bS]at h;exact⟨h.1.1,h.1.2,h.2⟩
def mkB(K:Frag)(C f:Addr):Bool:=makesIn K C && (findIn K (.ref C) "__init__" == some (some (.ref f))) && isFn K (.ref f) && keepIn K (.ref C)
theorem qd5(h:mkB K C f=true):Mk K C f:=by
 unfold mkB at h;simp only[b9,bS]at h;exact⟨h.1.1.1,h.1.1.2,h.1.2,h.2⟩
def nsB(K:Frag)(N:Addr):Bool:=match K.lookup N with
 |some ⟨_,_,.dict es _,_⟩=>es.toList.all fun e=>match e.key with|.str n _=>!(n == ("__init__":Str))|_=>false
 |_=>false
def excB(K:Frag)(C:Addr)(bm:fQ):Bool:=match K.lookup C with
 |some ⟨.type "type",_,.cls cd,sl⟩=>(cd.mro == .ref C::bm) && !cd.hasDel && (match sl.toList with|[_,_,_,_,some (.builtin n),_]=>n == "ValueError.__new__"|_=>false) && nsB K cd.ns
 |_=>false
theorem qf6{N:Addr}(X:K.In h)(e:nsB K N=true):h.Ns N (h.nsMap N)/\h.nsMap N "__init__"=none:=by
 unfold nsB at e
 split at e
 ·rename_i c d es ep sl hl
  have ho:=X _ _ hl;have all:=bA.mp e;constructor
  ·apply Heap.Ns.of_isNs
   unfold Heap.isNs;rw[ho];show es.all _=true;refine Array.all_eq_true_iff_forall_mem.mpr fun x hx=>?_
   have:=all x (by simpa using hx);cases hk:x.key <;> rw[hk]at this <;> first|rfl|cases this
  ·unfold Heap.nsMap
   rw[ho];show nsFind es "__init__"=none;unfold nsFind findBy;have hn:es.find? (fun x=>x.key.isStr "__init__")=none:=by
    rw[Array.find?_eq_none];intro x hx;have:=all x (by simpa using hx);cases hk:x.key with
    |str n t=>
     rw[hk]at this;intro z;have z:(n == ("__init__":Str))=true:=z;have this:(!(n == ("__init__":Str)))=true:=this;rw[z]at this;cases this
    |_=>rw[hk]at this;cases this
   rw[hn];rfl
 ·cases e
theorem KI{bm:fQ}(X:K.In h)(e:excB K C bm=true):∃N nm q bs hdct sn sub ab col dd k0 k1 k2 k3 k5,h.get? C=some (excClassObj nm q C N bs bm hdct sn sub ab col dd k0 k1 k2 k3 k5 "ValueError.__new__")/\h.Ns N (h.nsMap N)/\h.nsMap N "__init__"=none:=by
 unfold excB at e
 split at e
 ·rename_i dd cd sl hl
  simp only[b9,bS,Bool.not_eq_true']at e;obtain⟨⟨⟨e1,e2⟩,e3⟩,e4⟩:=e;obtain⟨n1,n2⟩:=qf6 X e4;obtain⟨l⟩:=sl
  split at e3
  ·rename_i k0 k1 k2 k3 n k5 hs
   have hs:l=_:=hs;subst hs;have e3:n="ValueError.__new__":=by simpa using e3
   subst e3;obtain⟨nm,bs,mro,ns,q,hd,sn,sub,ab,col,del⟩:=cd;dsimp only at e1 e2 n1 n2;subst e1 e2;exact⟨ns,nm,q,bs,hd,sn,sub,ab,col,dd,k0,k1,k2,k3,k5,X _ _ hl,n1,n2⟩
  ·cases e3
 ·cases e
theorem zw{R:Addr}{x:Str}{mg:fO}(X:K.In h)(hm:mg x=some (.ref C))(e:excB K C (.ref R::bmVE)=true)(eR:excB K R bmVE=true):OwnCls x C bmVE "ValueError.__new__" mg h:=by
 obtain⟨N,nm,q,bs,hdct,sn,sub,ab,col,dd,k0,k1,k2,k3,k5,h1,h2,h3⟩:=KI X e;obtain⟨N',nm',q',bs',hdct',sn',sub',ab',col',dd',k0',k1',k2',k3',k5',g1,g2,g3⟩:=KI X eR;exact⟨hm,.ref R::bmVE,N,nm,q,bs,hdct,sn,sub,ab,col,dd,k0,k1,k2,k3,k5,_,h1,h2,h3,.own g1 g2 g3 .base⟩
theorem W3{R:Addr}(X:K.In h)(eR:excB K R bmVE=true):jG h R R:=by
 obtain⟨N,nm,q,bs,hdct,sn,sub,ab,col,dd,k0,k1,k2,k3,k5,h1,_,_⟩:=KI X eR;exact⟨bmVE,N,nm,q,bs,hdct,sn,sub,ab,col,dd,k0,k1,k2,k3,k5,_,h1,by decide,by simp⟩
theorem zv{R:Addr}(X:K.In h)(e:excB K C (.ref R::bmVE)=true):jG h C R:=by
 obtain⟨N,nm,q,bs,hdct,sn,sub,ab,col,dd,k0,k1,k2,k3,k5,h1,_,_⟩:=KI X e;exact⟨.ref R::bmVE,N,nm,q,bs,hdct,sn,sub,ab,col,dd,k0,k1,k2,k3,k5,_,h1,by simp,by simp⟩
def exkB(K:Frag)(D:Addr):Bool:=(findIn K (.ref D) "__getattribute__" == some (some (.builtin "BaseException.__getattribute__"))) && (findIn K (.ref D) "__getattr__" == some none) && (clsIn K D).isSome && (findIn K (.ref D) "__class__" == some (some (.builtin "object.__class__"))) &&
 (specialIn K (.builtin "object.__class__") "__get__" == some (some (.builtin "getset_descriptor.__get__"))) && (takesIn K (.builtin "object.__class__") == some true) && (mroIn K D (.type "object") == some true) && (mroIn K D (.type "BaseException") == some true)
theorem qeu{D:Addr}(h:exkB K D=true):ExcK K D:=by
 unfold exkB at h;simp only[b9,bS]at h;obtain⟨⟨⟨⟨⟨⟨⟨h1,h2⟩,h3⟩,h4⟩,h5⟩,h6⟩,h7⟩,h8⟩:=h;exact⟨h1,h2,h3,h4,h5,h6,h7,h8⟩
def kdsB(K:Frag)(cs:fP):Bool:=cs.length == 19 && cs.all (exkB K) && (cs.zipIdx.all fun p=>cs.zipIdx.all fun q=>kitOne K (.ref p.1) (.ref q.1) == some (decide (p.2=q.2)))
theorem qee{cs:fP}(h:kdsB K cs=true):Kds K cs:=by
 unfold kdsB at h;simp only[b9,bS]at h;obtain⟨⟨h1,h2⟩,h3⟩:=h;refine⟨h1,fun C hC=>qeu (bA.mp h2 C hC),fun i j C D hi hj=>?_⟩;have mem:∀(i:Nat) C,cs[i]?=some C->(C,i)∈cs.zipIdx:=fun i C e=>List.mem_zipIdx_iff_getElem?.mpr e
 have:=bA.mp (bA.mp h3 _ (mem i C hi)) _ (mem j D hj);exact bS.mp this
end X2
namespace M
open PySem PySem.W PySem.Spec PyProof.Rows L2 X2
variable{K:Frag}{q:Str}
def clsAt(s:Stmt)(j:Nat):Stmt:=match s with
 |.ClassDef _ _ _ b _ _ _ _ _ _ _=>b.getD j (.Pass ⟨0,0,0,0⟩)
 |_=>.Pass ⟨0,0,0,0⟩
def mfG(g:Addr->Option Obj)(q:Str)(f:Addr):Option (FuncData×Bool):=match g f with
 |some ⟨_,_,.func fd,_⟩=>some (KZ fd,qfb g fd.code q)
 |_=>none
def mfX(st:Stmt)(q:Str)(c:Addr):Option (FuncData×Bool):=some (fnOf (defName st) q (jT st) (zZ st) (qm st) .none .none .none .none none (.ref c) .none,true)
theorem qf8{st:Stmt}{f c:Addr}{x:Str}(e:defName st=x)(h:mfG (lk K) q f=mfX st q c):∃fd,Fun K x q st f fd:=by
 subst e;unfold mfG mfX at h
 split at h
 ·rename_i oc od fd sl hl
  obtain⟨h2,h3⟩:_/\_:=by simpa only[dG,fG] using h
  obtain⟨n,q',ps,b,sc,gl,cl,df,kV,dc,pm,an,cd,ct,bi⟩:=fd;simp only[KZ,fnOf,FuncData.mk.injEq]at h2;obtain⟨rfl,rfl,rfl,rfl,rfl,rfl,rfl,rfl,_,_,_,_,rfl,_,rfl⟩:=h2;have hl':K.lookup f=_:=hl;exact⟨_,qeo hl' h3 (by simp only[keepIn,hl'])⟩
 ·cases h
abbrev MeT:Type:=Nat×Nat×Str×Addr×Addr
def obsM(L:List MeT)(g:Addr->Option Obj):List (Option (FuncData×Bool)):=L.map fun x=>mfG g x.2.2.1 x.2.2.2.1
def valM(p:Program)(L:List MeT):List (Option (FuncData×Bool)):=L.map fun x=>mfX (clsAt (wj p x.1) x.2.1) x.2.2.1 x.2.2.2.2
theorem jF{p:Program}{L:List MeT}(h:obsM L (lk K)=valM p L)(k:Nat){i j f c:Nat}(x:Str)(m:L[k]?=some (i,j,q,f,c))(e:defName (clsAt (wj p i) j)=x):∃fd,Fun K x q (clsAt (wj p i) j) f fd:=
 qf8 e (fA.mp h _ (aM m))
theorem ofF{l:List Bool}{n:Nat}(h:l=List.replicate n true)(i:Nat){b:Bool}(e:l[i]?=some b):b=true:=by
 rw[h]at e;have:=aM e;exact(List.mem_replicate.mp this).2
theorem W2{l:PySem.W.OpenLaw}{n k:Nat}{q:Program}{loose:fT}{XP:(fO)->Heap->Prop}{d:DefRec}{α:Type}{as:fP}{obs:Frag->α}{val:World->α}{ts:fP}{hm:(ts.all fun P=>!as.contains P)=true}{CX:World->CXT}{sp:World->Frag->Sp}{x:Str}
  (hn:l.most=some n)(hn2:n<=sizeLine)(hdf:d.params.defaults=[])(hr:Room k callerA)
  (hcs:∀(w:World)(K:Frag),obs K=val w->∀P∈ts,∃c,PySem.W.codeHdIn K c P=true)
  (F:∀(w:World)(K:Frag),obs K=val w->∀(mg:fO)(fa:Addr)(h:Heap),K.In h->h.Ns mainGlobals mg->mg d.name=some (.ref fa)->
   ∃fd:FuncData,(∀(s:Shared)(u:Value),BindsTo s fd ⟨[u],[]⟩ [(x,u)])/\
    ∀base:Heap,K.In base->base.Ns mainGlobals mg->Bm base mg->FnOk l.prog w K mg base (CX w) k fa fd [x] (sp w K))
  (hsp:∀(w:World)(K:Frag)(H:Hp)(a:Addr)(ns:fV),ns.length<=n->(∀P∈ts,H P=some (.tbl #[]))->SqL K H a (ns.map V.int)->sp w K [.ref a] H (fun v _=>v=.bl true) fun _ _ _=>False)
  (hCX:∀(w:World)(H:Hp)(s:Shared)(e:Value)(s':Shared),CX w [] H s (fun _ _ _=>False) e s'->False) :
  PySem.W.WalkO q loose XP (qem as obs val ts hm).says l.row.toRowW d [] (fun f vs=>PySem.call f vs):=by
 refine Att.attach_call hn hdf fun w s₀ s₁ mg mb fa o pm cd doc a vs ns G Y ho hd hcd hmg hobj hints hlen hg=>?_
 obtain⟨K,KX,ob,kt,tb⟩:=Y;obtain⟨fd,hb,hF⟩:=F w K ob mg fa _ KX G.T.g hmg;exact XM (ts:=ts) KX G.T.g G.T.b G.T.builtins G.T.nolimit hg hobj hints (aW hlen hn2) hr tb kt (fun P hP=>let⟨c,hc⟩:=hcs w K ob P hP;Z3 KX hc) G.T.bmain hF hb (fun H hO hS=>hsp w K H a ns hlen hO hS) fun H e s'=>hCX w H s₁ e s'
def VW(K:Frag)(T:Hp->Prop):Sp:=fun vs H Q _=>∃(a:Addr)(ns:fV),vs=[.ref a]/\SqL K H a (ns.map V.int)/\ns.length<=63/\T H/\∀H',Q (.bl true) H'
theorem qbg{T:Hp->Prop}{F:List Ob->List D->RO}(hF:∀ins:fV,∃b,F [] [.scr (ins.map D.int)]=.ok (.bl true) b){vs:List V}{H:Hp}{Q:VK}{EX:XK}(h:VW K T vs H Q EX):spB0 K T 1 F vs H Q EX:=by
 obtain⟨a,ns,rfl,hs,hl,t1,q⟩:=h;have r:=xV (K:=K) (c:=⟨Hn H [],fun _=>none⟩) ns;obtain⟨b,e⟩:=hF ns;refine⟨rfl,⟨Hn H [],fun _=>none⟩,[],[.scr (ns.map D.int)],[],⟨fun _ _ e=>e,⟨fun n o e=>?_,fun n kvs e=>?_,fun n m a e=>?_,fun _ _=>rfl⟩,t1,fun _ h=>nomatch h⟩,.cons (.scr (qc1 hs) r.l r.r) .nil,?_⟩
 ·have:=ji e;simp at this
 ·simp at e
 ·cases e
 ·rw[e]
  intro v H' c' fp' _ _ rv;cases rv;exact q H'
end M
set_option maxHeartbeats 0
namespace M
open PySem PySem.W PyProof.Rows L2 X2
def hA:fP:=[3,44,45,57,58,69,70,81,82,93,94,105,106,117,118,129,130,141,142,153,154,165,166,177,178,189,190,201,202,213,214,225,226,237,238,256,257,268,269,287,288,303,304,310,311,317,318,322,323,353,354,432,433,460,461,467,468,474,475,561,562,568,569,575,576,580,581,585,586,590,591,638,639,645,646,718,719,738,739,749,750,756,757,761,762,766,767,778,779,785,786,792,793,799,800,813,814,818,819,825,826,832,833]
def hL:List (Nat×Addr×Addr):=[(57,433,432),(62,750,749),(65,767,766),(69,793,792),(73,819,818),(68,786,785),(67,779,778),(63,757,756),(70,800,799),(72,814,813),(74,826,825),(75,833,832),(64,762,761)]
def hM:List MeT:=[(27,1,"Ledger.table",311,310),(60,15,"Book.many",562,561),(60,29,"Book.need_run",646,645),(60,16,"Book.told",569,568),(60,20,"Book.free",591,590),(60,40,"Book.ride_by",719,718),(60,18,"Book.reports",581,580),(60,17,"Book.goes",576,575),(27,0,"Ledger.__init__",304,303),(60,0,"Book.__init__",461,460),(27,2,"Ledger.put",318,317),(27,3,"Ledger.enter",323,322),(60,1,"Book.place",468,467),(60,28,"Book.need_place",639,638),(60,2,"Book.run",475,474),(60,19,"Book.known",586,585)]
def hN:fT:=[("len":Str),("sorted":Str),("tuple":Str),("all":Str),("range":Str),("int":Str),("isinstance":Str),("list":Str),("bool":Str),("str":Str),("zip":Str),("LONGEST_NAME":Str),("LONGEST_SPAN":Str),("FARTHEST_AHEAD":Str),("MOST_PLACES":Str),("FARTHEST_MOMENT":Str),("MOST_RUNS":Str),("SIGNS":Str),("Ledger":Str),("Book":Str),("BadName":Str),("BadClock":Str),("BadTimes":Str),("BadSeats":Str),("BadNews":Str),("Taken":Str),("NoPlace":Str),("NoRun":Str),("NoJourney":Str),("NoLeg":Str),("NoBed":Str),("NoShare":Str),("NoWay":Str),("Twice":Str),("Astray":Str),("Full":Str),("Broken":Str),("NoDeed":Str),("BadText":Str),("WayError":Str)]
def hV:List (Option (Option Value)):=[(some none:Option (Option Value)),(some none:Option (Option Value)),(some none:Option (Option Value)),(some none:Option (Option Value)),(some none:Option (Option Value)),(some none:Option (Option Value)),(some none:Option (Option Value)),(some none:Option (Option Value)),(some none:Option (Option Value)),(some none:Option (Option Value)),(some none:Option (Option Value)),(some (some (.int 12 772)):Option (Option Value)),(some (some (.int 1000 782)):Option (Option Value)),(some (some (.int 900 780)):Option (Option Value)),(some (some (.int 12 774)):Option (Option Value)),(some (some (.int 40000 784)):Option (Option Value)),(some (some (.int 40 776)):Option (Option Value)),(some (some (.str "abcdefghijklmnopqrstuvwxyz0123456789" 770)):Option (Option Value)),(some (some (.ref 354)):Option (Option Value)),(some (some (.ref 739)):Option (Option Value)),(some (some (.ref 58)):Option (Option Value)),(some (some (.ref 70)):Option (Option Value)),(some (some (.ref 82)):Option (Option Value)),(some (some (.ref 94)):Option (Option Value)),(some (some (.ref 106)):Option (Option Value)),(some (some (.ref 118)):Option (Option Value)),(some (some (.ref 130)):Option (Option Value)),(some (some (.ref 142)):Option (Option Value)),(some (some (.ref 154)):Option (Option Value)),(some (some (.ref 166)):Option (Option Value)),(some (some (.ref 178)):Option (Option Value)),(some (some (.ref 190)):Option (Option Value)),(some (some (.ref 202)):Option (Option Value)),(some (some (.ref 214)):Option (Option Value)),(some (some (.ref 226)):Option (Option Value)),(some (some (.ref 238)):Option (Option Value)),(some (some (.ref 257)):Option (Option Value)),(some (some (.ref 269)):Option (Option Value)),(some (some (.ref 288)):Option (Option Value)),(some (some (.ref 45)):Option (Option Value))]
def hF(K:Frag):List Bool:=[clsB K 739,clsB K 354,naB K 354 "tables",naB K 739 "ledger",naB K 354 "done",naB K 354 "undone",meB K 354 "table" 311,meB K 739 "need_run" 646,meB K 739 "told" 569,meB K 739 "ride_by" 719,meB K 739 "reports" 581,meB K 354 "put" 318,meB K 354 "enter" 323,meB K 739 "place" 468,meB K 739 "need_place" 639,meB K 739 "many" 562,meB K 739 "run" 475,meB K 739 "goes" 576,meB K 739 "known" 586,meB K 739 "free" 591,mkB K 354 304,mkB K 739 461,excB K 45 bmVE,excB K 58 (.ref 45::bmVE),excB K 70 (.ref 45::bmVE),excB K 82 (.ref 45::bmVE),excB K 94 (.ref 45::bmVE),excB K 106 (.ref 45::bmVE),excB K 118 (.ref 45::bmVE),excB K 130 (.ref 45::bmVE),excB K 142 (.ref 45::bmVE),excB K 154 (.ref 45::bmVE),excB K 166 (.ref 45::bmVE),excB K 178 (.ref 45::bmVE),excB K 190 (.ref 45::bmVE),excB K 202 (.ref 45::bmVE),excB K 214 (.ref 45::bmVE),excB K 226 (.ref 45::bmVE),excB K 238 (.ref 45::bmVE),excB K 269 (.ref 45::bmVE),kdsB K [58,70,82,94,106,118,130,142,154,166,178,190,202,214,226,238,257,269,288]]
noncomputable def hTq:{q:Program // PySem.Challenge.pw_wayhold_k14_runs_told=q}:=⟨_,by conv=>lhs;reduce⟩
noncomputable def _root_.PySem.W.Fast.tw89911344759386915:Program:=hTq.1
theorem _root_.PySem.W.Fast.te89911344759386915:PySem.Challenge.pw_wayhold_k14_runs_told=PySem.W.Fast.tw89911344759386915:=hTq.2
def hP:Program:=PySem.Challenge.pw_wayhold_k14_runs_told
def hQ:Program:={ hP with main:={ hP.main with body:=[wj hP 75] } }
def hB:fT:=hP.boundNames
def hX(s:Shared):Bool:=xlAt hQ [] s && recOk (RowW.records PySem.Challenge.rw_wayhold_k14_runs_told.row.toRowW) s
def hO(K:Frag):ObT×List Bool×List (Option (FuncData×Bool)):=(obsD hP hL [] hN (lk K),hF K,obsM hM (lk K))
def hE:ObT×List Bool×List (Option (FuncData×Bool)):=(valD hP hL [] hV,List.replicate 41 true,valM hP hM)
def hK:Hook:=qem hA hO (fun _=>hE) [] rfl
def hOs(s:Shared):(ObT×List Bool×List (Option (FuncData×Bool)))×List (Option Obj):=(hO (Vx hA s.heap),[])
def hEs:(ObT×List Bool×List (Option (FuncData×Bool)))×List (Option Obj):=(hE,[])
noncomputable def hR(b:Bool)(w:World)(os:OsState):=Jf hP hQ hB hX hOs 20000 (w.withFollow "special-get-raises" b) os
noncomputable def hG(w:World):=some (true,openGood hQ hB,hEs)
theorem qen:(fun(_:type_of% hR)(_:type_of% hG)=>true) hR hG=true:=by k_qdec
theorem qgi:∀w os,hR false w os=hG w:=fun w os=>by
 have _:=qen;rw[PySem.W.Fast.te17380432725675213807,PySem.W.Fast.te117707962408920387]
 kernel_rfl
theorem qgh:∀w os,hR true w os=hG w:=fun w os=>by
 have _:=qen;rw[PySem.W.Fast.te17380432725675213807,PySem.W.Fast.te117707962408920387]
 kernel_rfl
theorem qgj:LeftO hP hQ hB hX hK.obs hK.val 20000:=ZD (by kernel_rfl) (by decide) (fun s=>by kernel_rfl) fun w=>byRow2 "special-get-raises" (P:=fun w=>∀os,Jf hP hQ hB hX hK.obs 20000 w os=some (true,openGood hQ hB,hK.val w)) qgi qgh w
end M
namespace X2
open PySem PySem.Spec PyProof.Rows L2 PySem.W
variable{X:Cx}{pins:fM}{σ:L2.St}{H:Hp}{s:Shared}{a:Addr}{kvs:List (Key×V)}
theorem Kz{o:Obj}(I:Inv X pins σ H s)(ha:H a=some (.dK kvs))(ho:s.heap.get? a=some o):Inv X pins σ (upd H a (.frz o (.dK kvs))) s:=by
 have nn:∀b,H b=none->b≠a:=fun b e z=>by rw[z,ha]at e;cases e
 have ne:∀b u,H b=some u->(∀k,u≠.dK k)->b≠a:=fun b u e k z=>by rw[z,ha]at e;cases e;exact k _ rfl
 refine⟨I.ok,I.os,I.bare,⟨I.base.keep,I.base.slot,fun b o e n hx=>?_,I.base.there,fun b xs e=>?_,fun b o u e=>?_,fun b ps e=>?_⟩,I.loc,I.cell,?_,fun x c e=>?_,fun p hp=>?_,fun b u e=>?_,I.len⟩
 ·have q:=I.base.free b o e n hx
  rw[qf (nn b q)];exact q
 ·have q:=I.base.tups b xs e
  rw[qf (ne b _ q (fun _ z=>nomatch z))];exact q
 ·have q:=I.base.frzs b o u e
  rw[qf (ne b _ q (fun _ z=>nomatch z))];exact q
 ·obtain⟨more,q⟩:=I.base.tbls b ps e
  exact⟨more,by rw[qf (ne b _ q (fun _ z=>nomatch z))];exact q⟩
 ·rw[qf (nn _ I.free)];exact I.free
 ·rw[qf (nn _ (I.freeC x c e))];exact I.freeC x c e
 ·obtain⟨e1,e2,e3⟩:=I.pin p hp
  exact⟨e1,by rw[qf (nn _ e2)];exact e2,e3⟩
 ·by_cases hb:b=a
  ·subst hb
   rw[qi]at e;cases e;exact⟨ho,(I.hok b _ ha).stay (fun c v _ e1=>e1) (fun c q=>by rw[qf (ne c _ q (fun _ z=>nomatch z))];exact q) fun c xs q=>by rw[qf (ne c _ q (fun _ z=>nomatch z))];exact q⟩
  ·rw[qf hb]at e
   exact(I.hok b u e).stay (fun c v _ e1=>e1) (fun c q=>by rw[qf (ne c _ q (fun _ z=>nomatch z))];exact q) fun c xs q=>by rw[qf (ne c _ q (fun _ z=>nomatch z))];exact q
theorem XW{o:Obj}(I:Inv X pins σ H s)(ha:H a=some (.frz o (.dK kvs)))(hb0:∀o u,X.H₀ a≠some (.frz o u)):Inv X pins σ (upd H a (.dK kvs)) s:=by
 have nn:∀b,H b=none->b≠a:=fun b e z=>by rw[z,ha]at e;cases e
 have ne:∀b u,H b=some u->(∀o k,u≠.frz o k)->b≠a:=fun b u e k z=>by rw[z,ha]at e;cases e;exact k _ _ rfl
 refine⟨I.ok,I.os,I.bare,⟨I.base.keep,I.base.slot,fun b o e n hx=>?_,I.base.there,fun b xs e=>?_,fun b o u e=>?_,fun b ps e=>?_⟩,I.loc,I.cell,?_,fun x c e=>?_,fun p hp=>?_,fun b u e=>?_,I.len⟩
 ·have q:=I.base.free b o e n hx
  rw[qf (nn b q)];exact q
 ·have q:=I.base.tups b xs e
  rw[qf (ne b _ q (fun _ _ z=>nomatch z))];exact q
 ·have q:=I.base.frzs b o u e
  rw[qf (fun z=>by rw[z]at e;exact hb0 _ _ e)];exact q
 ·obtain⟨more,q⟩:=I.base.tbls b ps e
  exact⟨more,by rw[qf (ne b _ q (fun _ _ z=>nomatch z))];exact q⟩
 ·rw[qf (nn _ I.free)];exact I.free
 ·rw[qf (nn _ (I.freeC x c e))];exact I.freeC x c e
 ·obtain⟨e1,e2,e3⟩:=I.pin p hp
  exact⟨e1,by rw[qf (nn _ e2)];exact e2,e3⟩
 ·by_cases hb:b=a
  ·subst hb
   rw[qi]at e;cases e;exact(I.hok b _ ha).2.stay (fun c v _ e1=>e1) (fun c q=>by rw[qf (ne c _ q (fun _ _ z=>nomatch z))];exact q) fun c xs q=>by rw[qf (ne c _ q (fun _ _ z=>nomatch z))];exact q
  ·rw[qf hb]at e
   exact(I.hok b u e).stay (fun c v _ e1=>e1) (fun c q=>by rw[qf (ne c _ q (fun _ _ z=>nomatch z))];exact q) fun c xs q=>by rw[qf (ne c _ q (fun _ _ z=>nomatch z))];exact q
theorem qef{P:Program}{w:World}{k:Key}{u:Value}(h:(qF P w).is k u=true):RelV (kV k) u:=by
 rcases zf (show ZO k u=true from h)with⟨i,t,rfl,rfl⟩|⟨x,t,rfl,rfl⟩
 ·exact⟨t,rfl⟩
 ·exact⟨t,rfl⟩
theorem KD{o:Obj}{es:Array DictEntry}{ep:Nat}(I:Inv X pins σ H s)(ha:H a=some (.frz o (.dK kvs)))(hd:o.data=.dict es ep):∃vs,KV kvs vs/\s.heap.DictAt (qF X.prog X.w) a vs ep:=by
 obtain⟨e,_,_,vs,k,o',es',ep',e',c,d,r⟩:=I.hok a _ ha;rw[e]at e';cases e';rw[hd]at d;cases d;exact⟨vs,k,o,es,e,c,hd,r⟩
end X2
namespace X2
open PySem PySem.Spec PyProof.Rows L2
variable{es:fU}{apos cpos tp:Pos}{X:Cx}{to:TE}
def JV(a:Addr)(ep n:Nat):It:=
 ⟨fun i H=>∃o kvs p es,H a=some (.frz o (.dK kvs))/\o.data=.dict es ep/\kvs.length=n/\kvs[i]?=some p,
   fun i H x H'=>∃T,H T=none/\x=.ref T/\∀o kvs,H a=some (.frz o (.dK kvs))->∃p,kvs[i]?=some p/\H'=upd H T (.tup [kV p.1,p.2]),
   fun i H=>∃o kvs es,H a=some (.frz o (.dK kvs))/\o.data=.dict es ep/\kvs.length=n/\kvs.length<=i⟩
theorem K5{P:Program}{w:World}{K:fL}{k:Nat}(a it:Addr)(ep n:Nat):Turn P w K (.Tuple es k tp) (JV a ep n) [it] it (fun i h=>∃ok ov,IsItemIter h it a i n ep ok ov) where
 mem:=by simp
 obj:=fun i h st b hb=>by
  have e:b=it:=by simpa using hb
  subst e;obtain⟨ok,ov,e⟩:=st;exact⟨_,e,fun v z=>by
   have z':Data.fields _=Data.cell v:=z;cases z'⟩
 keep:=fun i h h' st k=>by
  obtain⟨ok,ov,e⟩:=st;exact⟨ok,ov,k it (by simp) _ e⟩
 item:=by
  intro X hP hw hK hc i pins s σ H E I hf st hg;subst hP hw hK;obtain⟨o,kvs,p,es,ha,hd,hn,hp⟩:=hg;obtain⟨vs,kv,da⟩:=KD I ha hd;have lv:vs.length=n:=by rw[<- hn];exact(bX kv).symm
  obtain⟨y,hy,e1,e2⟩:=xE kv hp;obtain⟨k,v⟩:=y;obtain⟨ok,ov,hit⟩:=st;subst lv;refine wpAny_pyNext_items_item (knd:=qF X.prog X.w) hit da hy fun key h1 hk a1 a2 a3 kk=>?_
  refine⟨_,rfl,wpAny_letOwnedTupleGo_items a1 fun h2 z2 hs2=>?_⟩;have neT:s.heap.objs.size≠it:=cI (au hit);have e1:p.1=k:=e1;obtain⟨J,hn',fr⟩:=I.turnedPair (t':=s.toks) (h':=h2) (fp:=[it]) (x:=kV p.1) (y:=p.2) (by rw[e1];exact qef hk) e2 (fun c hc=>by
   have:c=it:=by simpa using hc
   subst this;exact au hit) (fun c o hc q=>by
   have hc:c≠it:=by simpa using hc
   exact(hs2.2 c hc).trans (kk c o hc q)) ((hs2.2 _ neT).trans a2) hf
  refine⟨.ref s.heap.objs.size,_,J,rfl,⟨_,hn',rfl,fun o' kvs' h3=>?_⟩,⟨_,_,z2⟩,fr⟩;rw[ha]at h3;cases h3;exact⟨p,hp,rfl⟩
 done:=by
  intro X hP hw hK hc i pins s σ H E I hf st hg;subst hP hw hK;obtain⟨o,kvs,es,ha,hd,hn,hi⟩:=hg;obtain⟨vs,kv,da⟩:=KD I ha hd;have lv:vs.length=n:=by rw[<- hn];exact(bX kv).symm
  obtain⟨ok,ov,hit⟩:=st;obtain⟨f0,f1,f2,f3,f4,f5⟩:=hf it (by simp);subst lv;exact wpAny_pyNext_items_end (knd:=qF X.prog X.w) (I.ok.hd hc) hit da (by rw[bX kv]at hi;exact dO hi) fun h' eb=>⟨rfl,I.turned (t':=s.toks) (fun b o hb e=>eb b o hb e) f0 f1 f3 f4 f5⟩
 self:=fun _ _ _ _ _ st h=>by
  obtain⟨ok,ov,e⟩:=st;exact PySem.W.kcp_self e h
def qel(tl:TE):TI:=fun σ H R=>tl σ H fun x H1=>∃v a kvs,x=.ref v/\H1 v=some (Je v a)/\H1 a=some (.dK kvs)/\∀o es ep,o.data=.dict es ep->R (JV a ep kvs.length) (upd H1 a (.frz o (.dK kvs)))
theorem Yi{k:Nat}{l:Expr}{tl:TE}(hl:PE X l tl):PI X (.Tuple es k tp) l (qel tl):=by
 intro pins s σ H R I h;refine thn (hl pins s σ H _ I h) fun v s1⟨x,H1,I1,r1,q1⟩=>?_
 obtain⟨v,a,kvs,e,hv,ha,q⟩:=q1;subst e;cases r1;obtain⟨hz,nd,vs,rkv,da⟩:=yD I1.hok ha;obtain⟨ep,dat⟩:=da.dictAt;have hview:s1.heap.get? v=some { cls:=.type "dict_items",data:=.fields #[.ref a] }:=(I1.hok v _ hv).1;refine wpAny_pyIter_items (knd:=qF X.prog X.w) ⟨_,hview,rfl,rfl⟩ dat ?_;obtain⟨o,es',ho,_,hd,_⟩:=id dat;have I2:=(Kz I1 ha ho).kept (t':=s1.toks) (h':=s1.heap.push { cls:=.type "dict_itemiterator",data:=.fields #[.none,.bool false,.ref a,.int 0 0,.int vs.length 0,.int ep 0,.none,.none] }) fun b o e=>ag _ e
 have lv:vs.length=kvs.length:=(bX rkv).symm;refine⟨s1.heap.objs.size,[s1.heap.objs.size],_,_,_,rfl,I2,K5 a _ ep kvs.length,⟨.none,.none,by unfold IsItemIter;rw[<- lv];exact a7 _ rfl⟩,fun b hb=>?_,q o es' ep hd⟩;have e:b=s1.heap.objs.size:=by simpa using hb
 subst e;refine I1.fpOk (aj _) ?_;rw[qf (cI (au ho))];exact I1.hok.fresh (aj _)
abbrev qcu(K:fL)(to:TE):TE:=tBM0 K "dict" (fun x xs H Q=>∃d kvs,x=.ref d/\xs=[]/\H d=some (.dK kvs)/\∀v,H v=none->Q (.ref v) (upd H v (Je v d))) to
theorem Yo{o:Expr}(ho:PE X o to)
  (hbase:attributeBase o "items" X.env (eval o X.env)=eval o X.env:=by rfl)(hline:(apos.endLine == cpos.line)=true:=by rfl):PE X (.Call (.Attribute o "items" apos) [] [] cpos) (qcu X.K to):=
 uG bC PySem.F.slot_dict_items PySem.F.type_dict_items YI ho hbase hline
theorem yE:∀{bs:List Bool}{us:fQ},Vals (bs.map V.bl) us->PyProof.Rows.LSm.BoolsAre us bs
 |[],us,r=>by
  have:=r.length;cases us with
  |nil=>exact .nil
  |cons _ _=>cases this
 |b::bs,us,r=>by
  cases us with
  |nil=>cases r.length
  |cons u us=>
   rw[a9]at r;cases r with
   |cons r1 r2=>
    have e:u=Value.bool b:=r1;subst e;exact .cons b (yE r2)
theorem WH(hc:X.calm=true):CallR X (.builtin "all") (fun xs H Q=>∃(a:Addr)(bs:List Bool),xs=[.ref a]/\H a=some (.lst (bs.map V.bl))/\Q (.bl (bs.all id)) H):=by
 intro pins s σ H xs us Q I rx q;obtain⟨a,bs,rfl,hH,q⟩:=q;obtain⟨u,rfl,ru⟩:=rx.one;obtain rfl:u=Value.ref a:=ru;obtain⟨z,its,n,r,hl,e⟩:=I.lstM hH;have hb:=yE r;have hL:s.heap.IsList a its.toArray:=⟨_,e,rfl,_,rfl⟩;have hlt:a<s.heap.objs.size:=au e;refine call_all_walk (fm hL ?_);refine⟨s.heap.objs.size,[s.heap.objs.size,a],[s.heap.objs.size],its.toArray.size,_,_,fun i=>(bs[i]?).getD true,rfl,Walks.list (A:=X.A.in1) (I.ok.hd hc) _ a (aI hlt) its.toArray,
  ⟨⟨_,a7 _ rfl,rfl,rfl⟩,hL.push _⟩,fun i v s' Q' E' hP hQ=>?_,fun h' tk hk=>?_⟩
 ·obtain⟨b,e,rfl⟩:=hb.get i v (by simpa using hP)
  simp only[e,Option.getD_some]at hQ;exact bB hQ
 ·have e:((List.range its.toArray.size).all fun i=>(bs[i]?).getD true)=bs.all id:=by
   rw[av,hb.length];exact PyProof.Rows.LSm.range_all bs
  rw[e];exact⟨.bl _,H,I.kept (PyProof.Rows.LSm.kept_iter hk),rfl,q⟩
theorem YJ:MtR X "list.copy" (fun x xs H Q=>∃a ys,x=.ref a/\xs=[]/\H a=some (.lst ys)/\∀p,H p=none->Q (.ref p) (upd H p (.lst ys))):=by
 intro pins s σ H x xs v us Q I rx rv q;obtain⟨a,ys,rfl,rfl,hH,q⟩:=q;obtain rfl:v=Value.ref a:=rx;cases rv;obtain⟨z,its,n,r,hl,e⟩:=I.lstM hH;refine call_meets PySem.F.slot_list_copy ⟨_,e,rfl⟩ PySem.F.entry_list_copy (PySem.F.args_list_copy_1 _) (PySem.AutoListH.list_copy_list_0 a its.toArray n (by rw[av,<- hl];exact z)) ⟨e,?_⟩;refine⟨.ref s.heap.objs.size,_,?_,rfl,q _ (I.hok.fresh (aj _))⟩;exact I.laid (fun b o e=>ag _ e) (aj _) ⟨z,its,0,r,a7 _ rfl⟩
theorem YK:MtR X "dict.copy" (fun x xs H Q=>∃a kvs,x=.ref a/\xs=[]/\H a=some (.dK kvs)/\∀p,H p=none->Q (.ref p) (upd H p (.dK kvs))):=by
 intro pins s σ H x xs v us Q I rx rv q;obtain⟨a,kvs,rfl,rfl,hH,q⟩:=q;obtain rfl:v=Value.ref a:=rx;cases rv;obtain⟨z,hd,vs,rel,dd⟩:=yD I.hok hH;refine cy PySem.F.slot_dict_copy dd.typeIs PySem.F.entry_dict_copy (PySem.F.args_dict_copy_1 _) (meets_dict_copy (qF X.prog X.w) a hd) ⟨vs,dd,by rw[<- rel.length];exact z,fun h' d1 d2 hk=>?_⟩;refine⟨.ref s.heap.objs.size,_,?_,rfl,q _ (I.hok.fresh (aj _))⟩;exact I.laid (a:=s.heap.objs.size) (o:=.dK kvs) (t':=s.toks) hk (aj _) (KO z (bJ.mpr (bc (aI I.big))) rel d1)
theorem WM:bootBuiltins "all"=some (.builtin "all"):=by decide +kernel
def qfs(to:TE):TE:=fun σ H Q=>to σ H fun x H1=>∃a,x=.ref a/\((∃ys,H1 a=some (.lst ys)/\∀p,H1 p=none->Q (.ref p) (upd H1 p (.lst ys)))\/∃kvs,H1 a=some (.dK kvs)/\∀p,H1 p=none->Q (.ref p) (upd H1 p (.dK kvs)))
theorem qaz{o:Expr}(ho:PE X o to)(hbase:attributeBase o "copy" X.env (eval o X.env)=eval o X.env:=by rfl)(hline:(apos.endLine == cpos.line)=true:=by rfl):PE X (.Call (.Attribute o "copy" apos) [] [] cpos) (qfs to):=by
 intro pins s σ H Q I h;refine wpAny_Call_method0_late hbase hline (thn (ho pins s σ H _ I h) fun v s1⟨x,H1,I1,r1,a,ex,q1⟩=>?_);subst ex;rcases q1 with⟨ys,hh,q⟩|⟨kvs,hh,q⟩
 ·obtain⟨h1,h2⟩:=JY (T:="list") I1 r1 (.inl ⟨rfl,_,SqL.of hh⟩)
  exact⟨_,_,cO,PySem.F.slot_list_copy,PySem.F.type_list_copy,h1,h2,bo rfl (eO (YJ pins s1 σ H1 _ [] v [] Q I1 r1 .nil ⟨a,ys,rfl,rfl,hh,q⟩))⟩
 ·obtain⟨h1,h2⟩:=JY (T:="dict") I1 r1 (.inr (.inr (.inl ⟨rfl,.inl ⟨_,hh⟩⟩)))
  exact⟨_,_,bC,PySem.F.slot_dict_copy,PySem.F.type_dict_copy,h1,h2,bo rfl (eO (YK pins s1 σ H1 _ [] v [] Q I1 r1 .nil ⟨a,kvs,rfl,rfl,hh,q⟩))⟩
end X2
namespace M
open PySem PySem.Spec PyProof.Rows L2 X2
variable{H:Hp}{fp:fP}{v:V}{c':Co}{a:Addr}{K:fL}
section
variable{W:Wo}{E:En}{X:Cx}{O:List Nat}{m:Bool}{pos p:Pos}{a:Expr}{fa:SS W->R W D}
def we:List D->Option (List Bool)
 |[]=>some []
 |.bl b::ds=>(we ds).map (b::·)
 |_=>none
def allD:D->Option D
 |.lst ds=>(we ds).map fun bs=>.bl (bs.all id)
 |_=>none
theorem yT{K:fL}{c:Co}:∀{ds:List D}{xs:List V}{bs:List Bool},Reps K c xs ds->we ds=some bs->xs=bs.map V.bl
 |[],xs,bs,r,e=>by cases e;rw[r.unnil];rfl
 |d::ds,xs,bs,r,e=>by
  obtain⟨x,t,rfl,r1,r2⟩:=r.uncons;cases d with
  |bl b=>
   unfold we at e;obtain⟨bs',e1,rfl⟩:=bf.mp e;cases r1;rw[yT r2 e1];rfl
  |_=>cases e
theorem qe3(hc:X.calm=true)(hg:Gl X "all")(hm:X.mg "all"=none)(ha:DE W E m X O a fa)(hs:starEach [a] X.env=(false,eval a X.env)::starEach [] X.env:=by rfl):DE W E true X O (.Call (.Name "all" p) [a] [] pos) (e1 allD fa):=
 qy (ky (WH hc) hg hm WM (qr ha.h zt hs) (he:=hs)) fun σ H Q⟨g,c,fp,q⟩=>⟨g,c,fp,q.bind fun d b v H1 c1 fp1 S1 F1 r1 h1=>by
  obtain⟨z,ez,k⟩:=h1.opt;cases d with
  |lst ds=>
   obtain⟨bs,eb,rfl⟩:=bf.mp (show(we ds).map (fun bs=>D.bl (bs.all id))=some z from ez);cases r1 with
   |lst ee l rr=>
    have hr:=yT (ds:=ds) ⟨l,rr⟩ eb;subst hr;exact⟨_,bs,rfl,S1.toSE.all _ _ ee,k _ H1 c1 fp1 S1 .refl (.bl _)⟩
  |_=>cases ez⟩
end
section
variable{cl:Str->fR}{T:Hp->Prop}{hT:HTt T}{E:En}{X:Cx}{O:List Nat}{pos apos cpos:Pos}{o:Expr}{fo:fJ X.K cl T hT}
def JO:D->Option D
 |.lst ds=>some (.lst ds)
 |.dic kvs=>some (.dic kvs)
 |_=>none
theorem qfa{b:List Ob}{c:Co}(S:SE (WB X.K cl T hT) E b H c fp){d d':D}(r:Rep X.K (cm true H c fp) v d)(e:(der b d).bind JO=some d') :
  (∃a ds xs,d'=.lst ds/\v=.ref a/\H a=some (.lst xs)/\Reps X.K c xs ds)\/∃a kvs ys,d'=.dic kvs/\v=.ref a/\H a=some (.dK ys)/\ys.map (·.1)=kvs.map (·.1)/\(kvs.map (·.1)).Nodup/\Reps X.K c (ys.map (·.2)) (kvs.map (·.2)):=by
 have r:Rep X.K c v d:=r;cases d with
 |obj i=>
  obtain⟨z,rfl,ez⟩:=kU r;cases ei:obAt b i with
  |none=>simp only[der,ei]at e;cases e
  |some ob=>
   obtain⟨z',e1,hz,rr⟩:=S.ob ei;rw[ez]at e1;cases e1;cases ob with
   |gone _=>exact rr.elim
   |ins _ _=>simp only[der,ei]at e;cases e
   |lst ds=>
    simp only[der,ei]at e;cases e;obtain⟨xs,h1,h2⟩:=rr;exact .inl ⟨z,ds,xs,rfl,rfl,h1,h2⟩
   |dic kvs=>
    simp only[der,ei]at e;cases e;obtain⟨ys,h1,h2,h3,h4⟩:=rr;exact .inr ⟨z,kvs,ys,rfl,rfl,h1,h2,h3,h4⟩
 |lst ds=>
  cases e;cases r with
  |lst ee l rr=>exact .inl ⟨_,ds,_,rfl,rfl,S.all (m:=true) _ _ ee,l,rr⟩
 |dic kvs=>
  obtain⟨z,ys,h0,h1,h2,h3,h4⟩:=Wm (kvs:=kvs) S (show Rep X.K (cm true H c fp) v (.dic kvs)from r) rfl;cases e;exact .inr ⟨z,kvs,ys,rfl,h0,h1,h2,h3,h4⟩
 |_=>cases e
theorem ua(ho:DE (WB X.K cl T hT) E true X O o fo)(hbase:attributeBase o "copy" X.env (eval o X.env)=eval o X.env:=by rfl)(hline:(apos.endLine == cpos.line)=true:=by rfl):DO (WB X.K cl T hT) E X O (.Call (.Attribute o "copy" apos) [] [] cpos) (e1B JO fo):=
 qy (qaz ho.h hbase hline) fun σ H Q⟨g,c,fp,q⟩=>⟨g,c,fp,q.bind (rel:=Rep X.K) (m:=true) fun d b v H1 c1 fp1 S1 F1 r1 h1=>by
  obtain⟨z,ez,k⟩:=tO.opt (o:=(der b d).bind JO) h1;rcases qfa S1.toSE r1 ez with⟨a,ds,xs,rfl,rfl,hh,rs⟩|⟨a,kvs,ys,rfl,rfl,hh,l,nd,rs⟩
  ·exact⟨a,rfl,.inl ⟨xs,hh,fun p hp=>k (.ref p) _ c1 fp1 (S1.newO hp) (FR.newO hp _) ⟨p,xs,rfl,(S1.toSE.free hp).1,(S1.toSE.free hp).2,S1.toSE.freeE hp,qi,rs⟩ fun _ y e=>by cases e;exact hp⟩⟩
  ·exact⟨a,rfl,.inr ⟨ys,hh,fun p hp=>k (.ref p) _ c1 fp1 (S1.newO hp) (FR.newO hp _) ⟨p,ys,rfl,(S1.toSE.free hp).1,(S1.toSE.free hp).2,S1.toSE.freeE hp,qi,l,nd,rs⟩ fun _ y e=>by cases e;exact hp⟩⟩⟩
end
structure Less(c c':Co)(a:Addr):Prop where
 fz:∃o ys,c.h a=some (.frz o (.dK ys))
 h:∀z u,c.h z=some u->z≠a->c'.h z=some u
 ob:∀n z,c.ob n=some z->c'.ob n=some z
theorem Less.ne{c:Co}{z:Addr}{u:HO}(l:Less c c' a)(e:c.h z=some u)(n:∀o ys,u≠.frz o (.dK ys)):c'.h z=some u:=
 l.h z u e fun q=>by
  obtain⟨o,ys,f⟩:=l.fz;rw[q,f]at e;cases e;exact n _ _ rfl
theorem Rep.less{c:Co}(l:Less c c' a){d:D}(r:Rep K c v d):Rep K c' v d:=by
 induction r with
 |non=>exact .non
 |bl b=>exact .bl b
 |int i=>exact .int i
 |str x=>exact .str x
 |tup e k r ih=>exact .tup (l.ne e fun _ _ q=>by cases q) k ih
 |lst e k r ih=>exact .lst (l.ne e fun _ _ q=>by cases q) k ih
 |dic e k nd r ih=>exact .dic (l.ne e fun _ _ q=>by cases q) k nd ih
 |dit e k nd r ih=>exact .dit (l.ne e fun _ _ q=>by cases q) k nd ih
 |obj e=>exact .obj (l.ob _ _ e)
 |scr e k r ih=>
  refine .scr ?_ k ih;rcases e with(e|⟨o,e⟩)|e
  ·exact .inl (.inl (l.ne e fun _ _ q=>by cases q))
  ·exact .inl (.inr ⟨o,l.ne e fun _ _ q=>by cases q⟩)
  ·exact .inr e
theorem Reps.less{K:fL}{c c':Co}{a:Addr}(l:Less c c' a){vs:List V}{ds:List D}(r:Reps K c vs ds):Reps K c' vs ds:=⟨r.l,fun i x d h1 h2=>(r.r i x d h1 h2).less l⟩
theorem OwnV.less{K:fL}{E:En}{H H':Hp}{c c':Co}{fp fp':fP}{a:Addr}(l:Less c c' a)(hc:∀z,c.h z=none->c'.h z=none)(hf:∀z,z∉fp->z≠a->z∉fp')(hH:∀z,z≠a->H' z=H z){x:V}{d:D}(h:OwnV K E H c fp x d):OwnV K E H' c' fp' x d:=by
 have ne:∀z,c.h z=none->z≠a:=fun z e q=>by
  obtain⟨o,ys,f⟩:=l.fz;rw[q,f]at e;cases e
 cases d with
 |lst ds=>
  obtain⟨z,xs,e,k1,k2,he,hh,r⟩:=h;exact⟨z,xs,e,hc _ k1,hf _ k2 (ne _ k1),he,(hH _ (ne _ k1)).trans hh,r.less l⟩
 |dic kvs=>
  obtain⟨z,ys,e,k1,k2,he,hh,k,nd,r⟩:=h;exact⟨z,ys,e,hc _ k1,hf _ k2 (ne _ k1),he,(hH _ (ne _ k1)).trans hh,k,nd,r.less l⟩
 |dit kvs=>
  obtain⟨z,ys,e,k1,k2,he,hh,k,nd,r⟩:=h;exact⟨z,ys,e,hc _ k1,hf _ k2 (ne _ k1),he,(hH _ (ne _ k1)).trans hh,k,nd,r.less l⟩
 |non=>exact Rep.less l h
 |bl b=>exact Rep.less l h
 |int i=>exact Rep.less l h
 |str x=>exact Rep.less l h
 |tup ds=>exact Rep.less l h
 |obj n=>exact Rep.less l h
 |scr ds=>exact Rep.less l h
def Co.del(c:Co)(a:Addr):Co:=⟨fun z=>if z=a then none else c.h z,c.ob⟩
theorem Co.del_ne{c:Co}{z:Addr}(h:z≠a):(c.del a).h z=c.h z:=aG h
theorem Co.del_self{c:Co}:(c.del a).h a=none:=aH rfl
section
variable{K:fL}{cl:Str->fR}{T:Hp->Prop}{hT:HTt T}{E:En}{b:List Ob}{H:Hp}{c:Co}{fp:fP}{n:Nat}{a:Addr}{kvs:List (Key×D)}{ys:List (Key×V)}
def fpO(fp:fP)(a:Addr):fP:=fp.filter (fun z=>decide (z≠a))
theorem mem_fpO{z:Addr}:z∈fpO fp a↔z∈fp/\z≠a:=by simp[fpO]
theorem FR.hold(hca:c.h a=none)(hfa:a∈fp)(u:HO):FR H c fp (upd H a u) (c.add a u) (fpO fp a):=by
 have na:∀z,Hn H fp z≠none->z≠a:=fun z h q=>h (by rw[q];unfold Hn;rw[aH hfa])
 refine⟨Co.add_le hca,fun z w e=>?_,fun z hz hc=>?_,fun z e=>?_,nobR⟩
 ·obtain⟨h1,h2,h3⟩:=Hn.of e
  have q:z≠a:=na z (by rw[e];simp);exact Hn.mk ((qf q).trans h1) (fun y=>h2 (mem_fpO.mp y).1) h3
 ·show upd c.h a u z=none
  rw[qf (na z hz)];exact hc
 ·by_cases q:z=a
  ·subst q;rw[qi]at e;cases e
  ·rw[qf q]at e;exact e
theorem SE.hold(S:SE (WB K cl T hT) E b H c fp)(e:obAt b n=some (.dic kvs))(ea:c.ob n=some a)(o:Obj)(hy:H a=some (.dK ys))(k1:ys.map (·.1)=kvs.map (·.1))(k2:(kvs.map (·.1)).Nodup)(k3:Reps K c (ys.map (·.2)) (kvs.map (·.2))) :
  SE (WB K cl T hT) E (b.set n (.gone kvs)) (upd H a (.frz o (.dK ys))) (c.add a (.frz o (.dK ys))) (fpO fp a):=by
 obtain⟨a',e1,hfa,_⟩:=S.ob e;rw[ea]at e1;cases e1;have hca:c.h a=none:=S.fpc a hfa;have le:Co.Le c (c.add a (.frz o (.dK ys))):=Co.add_le hca;have eN:∀m,m≠n->(b.set n (.gone kvs))[m]?=b[m]?:=fun m hm=>ay (bc hm)
 have el:n<b.length:=(ai.mp (ji e)).1;refine⟨fun z w q=>?_,⟨fun m x h=>?_,fun m kvs' h=>?_,S.br.inj,fun m hm=>S.br.out m (by rw[aS]at hm;exact hm)⟩,J5 S.tab hy S.tab hT,fun z hz=>?_,(fun z=>by cases z),S.fr0.trans (FR.hold hca hfa _)⟩
 ·by_cases hz:z=a
  ·subst hz
   have q:upd c.h z (.frz o (.dK ys)) z=some w:=q;rw[qi]at q;cases q;exact Hn.mk qi (fun y=>(mem_fpO.mp y).2 rfl) rfl
  ·have q:upd c.h a (.frz o (.dK ys)) z=some w:=q
   rw[qf hz]at q;obtain⟨h1,h2,h3⟩:=Hn.of (S.core _ _ q);exact Hn.mk ((qf hz).trans h1) (fun y=>h2 (mem_fpO.mp y).1) h3
 ·by_cases hm:m=n
  ·subst hm
   have h':=ji h;rw[aA el]at h';cases h';unfold obAt at h;rw[aA el]at h;cases h
  ·rw[jj (eN m hm)]at h
   obtain⟨z,h1,h2,h3⟩:=S.br.at_ m x h;have hz:z≠a:=fun y=>hm (S.br.inj m n z h1 (by rw[y];exact ea))
   refine⟨z,h1,mem_fpO.mpr ⟨h2,hz⟩,?_⟩;cases x with
   |ins C fs=>
    obtain⟨dx,xs,r1,r2,r3,r4,r5⟩:=h3;have hd:dx≠a:=fun y=>by rw[y,hy]at r3;cases r3
    exact⟨dx,xs,(qf hz).trans r1,mem_fpO.mpr ⟨r2,hd⟩,(qf hd).trans r3,r4,r5.mono le⟩
   |dic _=>obtain⟨zs,r1,r2,r3,r4⟩:=h3;exact⟨zs,(qf hz).trans r1,r2,r3,r4.mono le⟩
   |lst _=>obtain⟨zs,r1,r2⟩:=h3;exact⟨zs,(qf hz).trans r1,r2.mono le⟩
   |gone _=>exact h3.elim
 ·by_cases hm:m=n
  ·subst hm
   rw[aA el]at h;cases h;exact⟨a,ea,o,ys,qi,k1,k2,k3.mono le⟩
  ·rw[eN m hm]at h
   obtain⟨z,h1,h2⟩:=S.br.hel m kvs' h;exact⟨z,h1,h2.mono le⟩
 ·obtain⟨h1,h2⟩:=mem_fpO.mp hz
  obtain⟨u,h3,h4⟩:=S.fph z h1;exact⟨u,(qf h2).trans h3,h4⟩
theorem FR.thaw{H0:Hp}{c0:Co}{fp0:fP}(F:FR H0 c0 fp0 H c fp)(h0:c0.h a=none)(hn:Hn H0 fp0 a=none)(u:HO):FR H0 c0 fp0 (upd H a u) (c.del a) (a::fp):=by
 refine⟨⟨fun z w e=>?_,F.le.ob⟩,fun z w e=>?_,fun z hz hc=>?_,fun z e=>?_,F.nob⟩
 ·rw[Co.del_ne (fun q=>by rw[q,h0]at e;cases e)]
  exact F.le.h _ _ e
 ·obtain⟨h1,h2,h3⟩:=Hn.of (F.nn _ _ e)
  have q:z≠a:=fun q=>by rw[q,hn]at e;cases e
  exact Hn.mk ((qf q).trans h1) (fun y=>by rcases ah.mp y with y|y;exact q y;exact h2 y) h3
 ·by_cases q:z=a
  ·subst q;exact Co.del_self
  ·rw[Co.del_ne q];exact F.out z hz hc
 ·by_cases q:z=a
  ·subst q;rw[qi]at e;cases e
  ·rw[qf q]at e;exact F.th z e
theorem SE.thaw{b0:List Ob}{H0:Hp}{c0:Co}{fp0:fP}(S0:SE (WB K cl T hT) E b0 H0 c0 fp0)(g0:c0.h a=none)(gn:Hn H0 fp0 a=none)(S:SE (WB K cl T hT) E b H c fp)(e:b[n]?=some (.gone kvs))(ea:c.ob n=some a) :
  ∃o ys,c.h a=some (.frz o (.dK ys))/\H a=some (.frz o (.dK ys))/\a∉fp/\Less c (c.del a) a/\SE (WB K cl T hT) E (b.set n (.dic kvs)) (upd H a (.dK ys)) (c.del a) (a::fp):=by
 obtain⟨a',e1,o,ys,hc,k1,k2,k3⟩:=S.br.hel n kvs e;rw[ea]at e1;cases e1;obtain⟨hH,hf,_⟩:=Hn.of (S.core _ _ hc);have l:Less c (c.del a) a:=⟨⟨o,ys,hc⟩,fun z u h q=>by rw[Co.del_ne q];exact h,fun _ _ h=>h⟩;have h0:E.c.h a=none:=by
  cases q:E.c.h a with
  |none=>rfl
  |some u=>have:=S0.fr0.le.h _ _ q;rw[g0]at this;cases this
 have hn:Hn E.H E.fp a=none:=by
  cases q:Hn E.H E.fp a with
  |none=>rfl
  |some u=>have:=S0.fr0.nn _ _ q;rw[gn]at this;cases this
 have eN:∀m,m≠n->(b.set n (.dic kvs))[m]?=b[m]?:=fun m hm=>ay (bc hm)
 have el:n<b.length:=(ai.mp e).1;have tb:T (upd H a (.dK ys)):=hT _ _ S.tab fun z w q _ _ _ _ n5=>(qf fun y=>by rw[y,hH]at q;cases q;exact n5 _ _ rfl).trans q
 refine⟨o,ys,hc,hH,hf,l,fun z w q=>?_,⟨fun m x h=>?_,fun m kvs' h=>?_,S.br.inj,fun m hm=>S.br.out m (by rw[aS]at hm;exact hm)⟩,tb,fun z hz=>?_,(fun z=>by cases z),S.fr0.thaw h0 hn _⟩
 ·by_cases hz:z=a
  ·subst hz;rw[Co.del_self]at q;cases q
  ·rw[Co.del_ne hz]at q
   obtain⟨h1,h2,h3⟩:=Hn.of (S.core _ _ q);exact Hn.mk ((qf hz).trans h1) (fun y=>by rcases ah.mp y with y|y;exact hz y;exact h2 y) h3
 ·by_cases hm:m=n
  ·subst hm
   have h:=ji h;rw[aA el]at h;cases h;exact⟨a,ea,aN,ys,qi,k1,k2,k3.less l⟩
  ·rw[jj (eN m hm)]at h
   obtain⟨z,h1,h2,h3⟩:=S.br.at_ m x h;have hz:z≠a:=fun y=>hf (y▸h2)
   refine⟨z,h1,aD _ h2,?_⟩;cases x with
   |ins C fs=>
    obtain⟨dx,xs,r1,r2,r3,r4,r5⟩:=h3;have hd:dx≠a:=fun y=>hf (y▸r2)
    exact⟨dx,xs,(qf hz).trans r1,aD _ r2,(qf hd).trans r3,r4,r5.less l⟩
   |dic _=>obtain⟨zs,r1,r2,r3,r4⟩:=h3;exact⟨zs,(qf hz).trans r1,r2,r3,r4.less l⟩
   |lst _=>obtain⟨zs,r1,r2⟩:=h3;exact⟨zs,(qf hz).trans r1,r2.less l⟩
   |gone _=>exact h3.elim
 ·by_cases hm:m=n
  ·subst hm
   rw[aA el]at h;cases h
  ·rw[eN m hm]at h
   obtain⟨z,h1,o',zs,r1,r2,r3,r4⟩:=S.br.hel m kvs' h;have hz:z≠a:=fun y=>hm (S.br.inj m n z h1 (by rw[y];exact ea))
   exact⟨z,h1,o',zs,by rw[Co.del_ne hz];exact r1,r2,r3,r4.less l⟩
 ·rcases ah.mp hz with rfl|hz
  ·exact⟨_,qi,rfl⟩
  ·obtain⟨u,h3,h4⟩:=S.fph z hz
   have hza:z≠a:=fun y=>hf (y▸hz)
   exact⟨u,(qf hza).trans h3,h4⟩
theorem SR.thaw{O:List Nat}{v:List (Option D)}{σ:L2.St}{b0:List Ob}{H0:Hp}{c0:Co}{fp0:fP}(S0:SE (WB K cl T hT) E b0 H0 c0 fp0)(F:FR H0 c0 fp0 H c fp)(g0:c0.h a=none)(gn:Hn H0 fp0 a=none)(S:SR (WB K cl T hT) K E O ⟨v,b⟩ σ H c fp)(e:b[n]?=some (.gone kvs))(ea:c.ob n=some a) :
  ∃o ys,H a=some (.frz o (.dK ys))/\Less c (c.del a) a/\a∉fp/\SR (WB K cl T hT) K E O ⟨v,b.set n (.dic kvs)⟩ σ (upd H a (.dK ys)) (c.del a) (a::fp)/\FR H0 c0 fp0 (upd H a (.dK ys)) (c.del a) (a::fp):=by
 obtain⟨o,ys,hc,hH,hf,l,S'⟩:=SE.thaw S0 g0 gn S.toSE e ea;refine⟨o,ys,hH,l,hf,⟨S',fun i d hi q=>?_,fun i d hi q=>?_,S.dis,S.len⟩,F.thaw g0 gn _⟩
 ·obtain⟨x,h1,h2⟩:=S.frz i d hi q
  exact⟨x,h1,h2.less l⟩
 ·obtain⟨x,h1,h2⟩:=S.own i d hi q
  refine⟨x,h1,h2.less l (fun z q=>?_) (fun z h1 h2=>?_) fun z hz=>qf hz⟩
  ·by_cases hz:z=a
   ·subst hz;exact Co.del_self
   ·rw[Co.del_ne hz];exact q
  ·exact fun y=>by rcases ah.mp y with y|y;exact h2 y;exact h1 y
end
def x_(b:List Ob)(n:Nat):Option (List (Key×D)):=match b[n]? with
 |some (.gone kvs)=>some kvs
 |_=>none
theorem yL{b:List Ob}{n:Nat}{kvs:List (Key×D)}(h:x_ b n=some kvs):b[n]?=some (.gone kvs):=by
 unfold x_ at h;cases e:b[n]? with
 |none=>rw[e]at h;cases h
 |some x=>cases x <;> (rw[e]at h;first|cases h;rfl|cases h)
section
variable{cl:Str->fR}{T:Hp->Prop}{hT:HTt T}{E:En}{X:Cx}{O:List Nat}{e:Expr}{m:Bool}{fo f:fJ X.K cl T hT}
def ZS{K:fL}(fo f:fJ K cl T hT):fJ K cl T hT:=fun g=>match fo g with
 |.ok (.obj n) _=>if(obAt g.b n).isSome=true\/List.length (α:=Ob) g.b<=n then(match f g with
  |.ok d b=>match x_ b n with
   |some kvs=>.ok d (List.set (α:=Ob) b n (.dic kvs))
   |none=>.bad
  |_=>.bad)else .bad
 |_=>.bad
theorem Y6{fo f:fJ K cl T hT}{g:SS (WB K cl T hT)}:ZS fo f g=.bad\/∃n d b kvs,((obAt g.b n).isSome=true\/List.length (α:=Ob) g.b<=n)/\f g=.ok d b/\x_ b n=some kvs/\ZS fo f g=.ok d (List.set (α:=Ob) b n (.dic kvs)):=by
 unfold ZS;cases e1:fo g with
 |bad=>exact .inl rfl
 |exc x b=>exact .inl rfl
 |ok d b=>
  cases d with
  |obj n=>
   by_cases e2:(obAt g.b n).isSome=true\/List.length (α:=Ob) g.b<=n
   ·cases e3:f g with
    |bad=>exact .inl (by simp only[e2,aP])
    |exc x b=>exact .inl (by simp only[e2,aP])
    |ok d b2=>
     cases e4:x_ b2 n with
     |none=>exact .inl (by simp only[e2,aP,e4])
     |some kvs=>exact .inr ⟨n,d,b2,kvs,e2,rfl,e4,by simp only[e2,aP,e4]⟩
   ·exact .inl (by simp only[e2,cv])
  |_=>exact .inl rfl
theorem YD{c:Co}{o:Ob}(r:ObR K H c fp a o):∀oo u,H a≠some (.frz oo u):=by
 cases o with
 |ins C fs=>obtain⟨dx,xs,h1,_⟩:=r;rw[h1];simp
 |dic kvs=>obtain⟨ys,h1,_⟩:=r;rw[h1];simp
 |lst ds=>obtain⟨xs,h1,_⟩:=r;rw[h1];simp
 |gone kvs=>exact r.elim
theorem u4{b:List Ob}{c:Co}{b1:List Ob}{H1:Hp}{c1:Co}{fp1:fP}{n:Nat}{kvs:List (Key×D)}(S:SE (WB X.K cl T hT) E b H c fp)(F1:FR H c fp H1 c1 fp1)(S1:SE (WB X.K cl T hT) E b1 H1 c1 fp1)(e:(obAt b n).isSome=true\/b.length<=n)(e3:x_ b1 n=some kvs) :
  ∃a,c1.ob n=some a/\c.h a=none/\Hn H fp a=none/\∀oo u,H a≠some (.frz oo u):=by
 rcases e with e|e
 ·cases eo:obAt b n with
  |none=>rw[eo]at e;cases e
  |some o=>
   obtain⟨a,ea,ha,r⟩:=S.ob eo;exact⟨a,F1.le.ob _ _ ea,S.fpc a ha,by unfold Hn;rw[aH ha],YD r⟩
 ·obtain⟨a,ea,_⟩:=S1.br.hel n kvs (yL e3)
  have h0:=F1.nob n a (S.br.out n e) ea;exact⟨a,ea,(S.free h0).1,kC h0,fun oo u z=>by rw[h0]at z;cases z⟩
theorem Wk(h:DO (WB X.K cl T hT) E X O e f):DO (WB X.K cl T hT) E X O e (ZS fo f):=by
 refine⟨fun pins s σ H Q I⟨g,c,fp,S,q⟩=>?_⟩;rcases Y6 (fo:=fo) (f:=f) (g:=g)with z|⟨n,d,b,kvs,e1,e2,e3,e4⟩
 ·rw[z]at q;exact q.elim
 rw[e4]at q;refine thn (h.h pins s σ H (fun v H1=>∃a o ys,H1 a=some (.frz o (.dK ys))/\(∀oo u,H a≠some (.frz oo u))/\Q v (upd H1 a (.dK ys))) I ⟨g,c,fp,S,?_⟩) fun v s1⟨x,H1,I1,r1,a,o1,ys,hH,hz,q1⟩=>⟨x,_,XW I1 hH (fun oo u z=>hz oo u (I.base.frzs a oo u z)),r1,q1⟩
 rw[e2];intro v H1 c1 fp1 S1 F1 ow nw;obtain⟨a,ea,g0,gn,hz⟩:=u4 S.toSE F1 S1.toSE e1 e3;obtain⟨o1,ys,hH,l,hf,S2,F2⟩:=SR.thaw (n:=n) (kvs:=kvs) S.toSE F1 g0 gn S1 (yL e3) ea;refine⟨a,o1,ys,hH,hz,q v _ _ _ S2 F2 (ow.less l (fun z q=>?_) (fun z h1 h2=>?_) fun z hz=>qf hz) nw⟩
 ·by_cases hz:z=a
  ·subst hz;exact Co.del_self
  ·rw[Co.del_ne hz];exact q
 ·exact fun y=>by rcases ah.mp y with y|y;exact h2 y;exact h1 y
end
def kD:Key->D
 |.inl i=>.int i
 |.inr x=>.str x
theorem qeg{c:Co}(k:Key):Rep K c (kV k) (kD k):=by
 cases k with
 |inl i=>exact .int i
 |inr x=>exact .str x
def itD(p:Key×D):D:=.tup [kD p.1,p.2]
section
variable{K:fL}{c:Co}{a:Addr}{o:Obj}{ys:List (Key×V)}{kvs:List (Key×D)}{es:Array DictEntry}{ep:Nat}
theorem uC(k1:ys.map (·.1)=kvs.map (·.1))(k3:Reps K c (ys.map (·.2)) (kvs.map (·.2))){i:Nat}{p:Key×V}(h:ys[i]?=some p):∃q,kvs[i]?=some q/\q.1=p.1/\Rep K c p.2 q.2:=by
 have l:ys.length=kvs.length:=by have:=bU List.length k1;simpa using this
 have hi:i<kvs.length:=by rw[<- l];exact(ai.mp h).1
 have e1:(ys.map (·.1))[i]?=(kvs.map (·.1))[i]?:=by rw[k1]
 rw[aq,aq,h,aa hi]at e1;refine⟨kvs[i],aa hi,?_,k3.r i _ _ (by rw[aq,h];rfl) (by rw[aq,aa hi];rfl)⟩;simpa using e1.symm
theorem K2(e:c.h a=some (.frz o (.dK ys)))(hd:o.data=.dict es ep)(k1:ys.map (·.1)=kvs.map (·.1))(k3:Reps K c (ys.map (·.2)) (kvs.map (·.2))):Walk K (JV a ep ys.length) c (kvs.map itD):=by
 have l:ys.length=kvs.length:=by have:=bU List.length k1;simpa using this
 refine⟨fun i H1 c1 le s hi=>?_,fun i H1 c1 le s hi=>⟨o,ys,es,s _ _ (le.h _ _ e),hd,rfl,by rw[ak]at hi;rw[l];exact hi⟩⟩;rw[ak]at hi;have hy:i<ys.length:=by rw[l];exact hi
 have ha:=s _ _ (le.h _ _ e);refine⟨⟨o,ys,ys[i],es,ha,hd,rfl,aa hy⟩,fun x H2⟨t,ht,ex,f⟩=>?_⟩;obtain⟨p,hp,eH⟩:=f o ys ha;subst ex;subst eH;obtain⟨q,hq,e1,r⟩:=uC k1 (k3.mono le) hp;have hct:c1.h t=none:=s.free ht;refine⟨itD q,by rw[aq,hq];rfl,.inr ⟨t,_,ht,rfl,rfl,.tup (xs:=[kV p.1,p.2]) qi rfl fun j y d h1 h2=>?_⟩⟩
 match j,h1,h2 with
 |0,h1,h2=>cases h1;cases h2;rw[e1];exact qeg _
 |1,h1,h2=>cases h1;cases h2;exact r.mono (Co.add_le hct)
 |j+2,h1,_=>simp at h1
end
section
variable{cl:Str->fR}{T:Hp->Prop}{hT:HTt T}{E:En}{X:Cx}{O:List Nat}{o:Expr}{m:Bool}{apos cpos:Pos}{fo:fJ X.K cl T hT}
def Vn{K:fL}(h:Key×D->D)(d:D):SS (WB K cl T hT)->R (WB K cl T hT) (List D):=fun g=>match d with
 |.obj n=>match kO g.b n with
  |some kvs=>.ok (kvs.map h) (List.set (α:=Ob) g.b n (.gone kvs))
  |none=>.bad
 |_=>.bad
def QG{K:fL}(fo:fJ K cl T hT):SS (WB K cl T hT)->R (WB K cl T hT) (List D):=ql fo (Vn itD)
theorem X0{h:Key×D->D}{d:D}{g:SS (WB X.K cl T hT)}{c:Co}{σ:L2.St}{Rr:It->Hp->Prop}{x:V}(r:Rep X.K (cm m H c fp) x d)(q:tI X E O (Vn h d) g c fp σ H Rr) :
  ∃(a:Addr)(ys:List (Key×V))(n:Nat)(kvs:List (Key×D)),x=.ref a/\a∈fp/\H a=some (.dK ys)/\ys.map (·.1)=kvs.map (·.1)/\Reps X.K c (ys.map (·.2)) (kvs.map (·.2))/\SR (WB X.K cl T hT) X.K E O g σ H c fp/\(∀(oo:Obj) J H2,SR (WB X.K cl T hT) X.K E O g σ H2 c fp->FR H c fp H2 c fp->H2 a=some (.dK ys)->Walk X.K J (c.add a (.frz oo (.dK ys))) (kvs.map h)->Rr J (upd H2 a (.frz oo (.dK ys)))):=by
 obtain⟨S,q⟩:=q;cases d with
 |obj n=>
  unfold Vn at q;cases e:kO g.b n with
  |none=>simp only[e]at q
  |some kvs=>
   simp only[e]at q;obtain⟨a,rfl,ea⟩:=kU r;rw[VD]at ea;obtain⟨a',e1,ha,ys,y1,y2,y3,y4⟩:=S.toSE.ob (xr e);rw[ea]at e1;cases e1;refine⟨a,ys,n,kvs,rfl,ha,y1,y2,y4,S,fun oo J H2 S2 F2 h2 w=>q J _ _ _ (S2.step (FR.hold (S2.toSE.fpc a ha) ha _) (S2.toSE.hold (xr e) ea oo h2 y2 y3 y4)) (F2.trans (FR.hold (S2.toSE.fpc a ha) ha _)) w⟩
 |_=>exact q.elim
theorem Wn{es:fU}{k:Nat}{tp:Pos}(ho:DE (WB X.K cl T hT) E m X O o fo)(hbase:attributeBase o "items" X.env (eval o X.env)=eval o X.env:=by rfl)(hline:(apos.endLine == cpos.line)=true:=by rfl):DI (WB X.K cl T hT) E X O (.Tuple es k tp) (.Call (.Attribute o "items" apos) [] [] cpos) (QG fo):=
 xD (Yi (Yo ho.h hbase hline)) fun σ H Rr⟨g,c,fp,q⟩=>⟨g,c,fp,tI.bind q fun d b x H1 c1 fp1 S1 F1 r1 h1=>by
  obtain⟨a,ys,n,kvs,rfl,ha,y1,y2,y4,S,k⟩:=X0 r1 h1;refine⟨.inr (.inr (.inl ⟨rfl,.inl ⟨ys,y1⟩⟩)),a,ys,rfl,rfl,y1,fun v hv=>?_⟩;have nva:a≠v:=fun z=>by rw[z,hv]at y1;cases y1
  have y1':upd H1 v (Je v a) a=some (.dK ys):=(qf nva).trans y1;exact⟨v,a,ys,rfl,qi,y1',fun oo es ep hd=>k oo _ _ (S.newO hv) (FR.newO hv _) y1' (K2 qi hd y2 (y4.mono (Co.add_le (S.toSE.fpc a ha))))⟩⟩
end
end M
namespace X2
open PySem PySem.Spec PyProof.Rows L2
def u8(r r' r2:R2)(ta tb tc td:TE):TE:=fun σ H Q=>ta σ H fun x H1=>tb σ H1 fun y H2=>r x y H2 fun z H3=>∃k,z=.bl k/\
 (if k=true then tc σ H3 fun w H4=>r' y w H4 fun z2 H5=>∃k2,z2=.bl k2/\(if k2=true then td σ H5 fun u H6=>r2 w u H6 Q else Q (.bl false) H5)else Q (.bl false) H3)
theorem Xg{X:Cx}{a b c d:Expr}{ta tb tc td:TE}{pos:Pos}{op op' op2:CmpOp}{r r' r2:R2}(ho:OpR X (compareOp op) r)(ho':OpR X (compareOp op') r')(ho2:OpR X (compareOp op2) r2)(ha:PE X a ta)(hb:PE X b tb)(hc:PE X c tc)(hd:PE X d td)
  (hm:lastMarks [op,op',op2] [b,c,d]=false:=by with_unfolding_all rfl):PT X (.Compare a [op,op',op2] [b,c,d] pos) (u5 (u8 r r' r2 ta tb tc td)):=by
 intro pins s σ H Q I h;refine isTrue_chain (thn (ha pins s σ H _ I h) fun v s1⟨x,H1,I1,r1,q1⟩=>test_link (thn (hb pins s1 σ H1 _ I1 q1) fun u s2⟨y,H2,I2,r2,q2⟩=>
  thn (ho pins s2 σ H2 x y v u _ I2 r1 r2 q2) fun d s3⟨z,H3,I3,r3,k,e,q3⟩=>?_)) hm
 subst e;cases r3;refine bB ?_;cases k with
 |false=>
  obtain⟨k',e',q'⟩:=q3;cases e';exact ite_ff ⟨H3,I3,q'⟩
 |true=>
  refine ite_tt (test_link (thn (hc pins s3 σ H3 _ I3 q3) fun w s4⟨z',H4,I4,r4,q4⟩=>thn (ho' pins s4 σ H4 y z' u w _ I4 r2 r4 q4) fun d' s5⟨z2,H5,I5,r5,k2,e2,q5⟩=>?_));subst e2;cases r5;refine bB ?_;cases k2 with
  |false=>
   obtain⟨k',e',q'⟩:=q5;cases e';exact ite_ff ⟨H5,I5,q'⟩
  |true=>
   refine ite_tt (test_last (thn (hd pins s5 σ H5 _ I5 q5) fun w' s6⟨z6,H6,I6,r6,q6⟩=>thn (ho2 pins s6 σ H6 z' z6 w w' _ I6 r4 r6 q6) fun d' s7⟨z7,H7,I7,r7,k7,e7,q7⟩=>?_));subst e7;cases r7;exact bB ⟨H7,I7,q7⟩
end X2
namespace M
open PySem PySem.Spec PyProof.Rows L2 X2
section
variable{W:Wo}{E:En}{X:Cx}{O:List Nat}{m1 m2 m3 m4:Bool}{pos:Pos}{x y z u:Expr}{fa fb fc fd:SS W->R W D}
def yo(o o' o2:D->D->Option D)(fa fb fc fd:SS W->R W D):SS W->R W D:=ql fa fun x=>ql fb fun y=>match o x y with
 |some (.bl true)=>ql fc fun z=>(match o' y z with
  |some (.bl true)=>ql fd fun u=>eOpt (o2 z u)
  |some (.bl false)=>eRet (.bl false)
  |_=>fun _=>.bad)
 |some (.bl false)=>eRet (.bl false)
 |_=>fun _=>.bad
theorem We{op op' op2:CmpOp}{r r' r2:R2}{o o' o2:D->D->Option D}(ho:OpR X (compareOp op) r)(hr:Op2 X r o)(ho':OpR X (compareOp op') r')(hr':Op2 X r' o')(ho2:OpR X (compareOp op2) r2)(hr2:Op2 X r2 o2)(ha:DE W E m1 X O x fa)(hb:DE W E m2 X O y fb)(hc:DE W E m3 X O z fc)(hd:DE W E m4 X O u fd)
  (hm:lastMarks [op,op',op2] [y,z,u]=false:=by with_unfolding_all rfl):DT W E X O (.Compare x [op,op',op2] [y,z,u] pos) (qOf (yo o o' o2 fa fb fc fd)):=
 xC (Xg ho ho' ho2 ha.h hb.h hc.h hd.h hm) fun σ H Q⟨g,c,fp,q⟩=>⟨g,c,fp,(V9 q).bind fun d b v H1 c1 fp1 S1 F1 r1 h1=>⟨_,c1,fp1,h1.bind fun d' b' v' H2 c2 fp2 S2 F2 r2' h2=>by
  cases ez:o d d' with
  |none=>rw[ez]at h2;exact h2.2.elim
  |some w=>
   rw[ez]at h2;refine hr H2 ⟨Hn H2 fp2,c2.ob⟩ v v' d d' w _ Hn.same ((r1.mono F2.cm).mono S2.toSE.bor) (r2'.mono S2.toSE.bor) ez fun u hu=>?_
   cases w with
   |bl kk=>
    cases hu;refine⟨kk,rfl,?_⟩;cases kk with
    |false=>exact iteF (h2.ret _ H2 c2 fp2 S2 .refl (.bl false))
    |true=>
     refine iteT ⟨_,c2,fp2,h2.bind fun d3 b3 v3 H3 c3 fp3 S3 F3 r3 h3=>?_⟩;cases ez3:o' d' d3 with
     |none=>rw[ez3]at h3;exact h3.2.elim
     |some w3=>
      rw[ez3]at h3;refine hr' H3 ⟨Hn H3 fp3,c3.ob⟩ v' v3 d' d3 w3 _ Hn.same ((r2'.mono F3.cm).mono S3.toSE.bor) (r3.mono S3.toSE.bor) ez3 fun u hu=>?_
      cases w3 with
      |bl kk=>
       cases hu;refine⟨kk,rfl,?_⟩;cases kk with
       |false=>exact iteF (h3.ret _ H3 c3 fp3 S3 .refl (.bl false))
       |true=>
        refine iteT ⟨_,c3,fp3,h3.bind fun d4 b4 v4 H4 c4 fp4 S4 F4 r4 h4=>?_⟩;obtain⟨z',ez',k⟩:=h4.opt;exact hr2 H4 ⟨Hn H4 fp4,c4.ob⟩ v3 v4 d3 d4 z' _ Hn.same ((r3.mono F4.cm).mono S4.toSE.bor) (r4.mono S4.toSE.bor) ez' fun u hu=>k u H4 c4 fp4 S4 .refl (wf hu)
      |_=>exact h3.2.elim
   |_=>exact h2.2.elim⟩⟩
end
section
variable{cl:Str->fR}{T:Hp->Prop}{hT:HTt T}{E:En}{X:Cx}{O:List Nat}{m1 m2:Bool}{pos:Pos}{o i:Expr}{fo fk:fJ X.K cl T hT}
def eIxL{K:fL}(fo fk:fJ K cl T hT):fJ K cl T hT:=ql fo fun d=>ql fk fun k g=>eOpt (match d,k with
 |.obj n,.int j=>(wt g.b n).bind fun ds=>atI ds j
 |_,_=>none) g
theorem Ws(hu:X.A.units+1<cLine)(ho:DE (WB X.K cl T hT) E m1 X O o fo)(hi:DE (WB X.K cl T hT) E m2 X O i fk)(hs:JU i:=by intro _ _;rfl):DE (WB X.K cl T hT) E true X O (.Subscript o i pos) (eIxL fo fk):=
 qy (qdr (ixG hu) ho.h hi.h hs) fun σ H Q⟨g,c,fp,q⟩=>⟨g,c,fp,q.bind fun d b v H1 c1 fp1 S1 F1 r1 h1=>⟨_,c1,fp1,h1.bind fun d' b' v' H2 c2 fp2 S2 F2 r2 h2=>by
  obtain⟨z,ez,k⟩:=h2.opt;cases d with
  |obj n=>
   cases d' with
   |int j=>
    obtain⟨ds,e1,e2⟩:=Option.bind_eq_some_iff.mp (show(wt b' n).bind (fun ds=>atI ds j)=some z from ez);obtain⟨a,rfl,ea⟩:=kU (r1.mono F2.cm);rw[VD]at ea;obtain⟨a',e3,_,xs,y1,y2⟩:=S2.toSE.ob (xc e1);rw[ea]at e3;cases e3;cases r2;obtain⟨w,h1,h2⟩:=wL y2 e2;exact .inl (.inl ⟨_,_,_,w,rfl,rfl,SqL.of y1,h1,k w H2 c2 fp2 S2 .refl h2⟩)
   |_=>cases ez
  |_=>cases ez⟩⟩
end
section
variable{W:Wo}{E:En}{X:Cx}{O:List Nat}{m:Bool}{pos:Pos}{a b:Expr}{fa fb:SS W->R W D}
def repD:D->D->Option D
 |.lst ds,.int k=>if 0<=k/\k<=1000/\ds.length<=1000 then some (.lst (List.replicate k.toNat ds).flatten)else none
 |_,_=>none
theorem Reps.rep{K:fL}{c:Co}{xs:List V}{ds:List D}(r:Reps K c xs ds):∀n:Nat,Reps K c (List.replicate n xs).flatten (List.replicate n ds).flatten
 |0=>.nil
 |n+1=>r.append (r.rep n)
theorem qev(ha:DE W E true X O a fa)(hb:DE W E m X O b fb):DO W E X O (.BinOp a .Mult b pos) (e2 repD fa fb):=
 qy (Zo qdw ha.h hb.h) fun σ H Q⟨g,c,fp,q⟩=>⟨g,c,fp,q.bind (rel:=Rep X.K) fun d b v H1 c1 fp1 S1 F1 r1 h1=>⟨_,c1,fp1,h1.bind (rel:=Rep X.K) fun d' b' v' H2 c2 fp2 S2 F2 r2 h2=>by
  obtain⟨z,ez,k⟩:=h2.opt;rw[ez]at h2;cases d with
  |lst ds=>
   cases d' with
   |int i=>
    obtain⟨⟨i0,i1,i2⟩,e⟩:=ja (show(if 0<=i/\i<=1000/\ds.length<=1000 then some (D.lst (List.replicate i.toNat ds).flatten)else none)=some z from ez);subst e;cases r2;have r1:=r1.mono F2.le;cases r1 with
    |lst ee l rr=>
     refine⟨_,i,_,rfl,rfl,S2.toSE.all (m:=true) _ _ ee,by omega,by omega,?_,fun p hp=>h2.list (Reps.rep ⟨l,rr⟩ _) p hp⟩;rw[l];exact aW (Nat.mul_le_mul i2 (show i.toNat<=1000 by omega)) (show 1000 * 1000<=sizeLine by decide)
   |_=>cases ez
  |_=>cases ez⟩⟩
end
section
variable{W:Wo}{E:En}{X:Cx}{O:List Nat}{m:Bool}{pos p:Pos}{a:Expr}{fa:SS W->R W D}
theorem Z9:bootBuiltins "sorted"=some (.builtin "sorted"):=by decide +kernel
def qaa:D->Option D
 |.lst []=>some (.lst [])
 |_=>none
theorem Y_(hg:Gl X "sorted")(hm:X.mg "sorted"=none)(ha:DE W E m X O a fa)(hs:starEach [a] X.env=(false,eval a X.env)::starEach [] X.env:=by rfl):DO W E X O (.Call (.Name "sorted" p) [a] [] pos) (e1 qaa fa):=
 qy (ky Z4 hg hm Z9 (qr ha.h zt hs) (he:=hs)) fun σ H Q⟨g,c,fp,q⟩=>⟨g,c,fp,q.bind (rel:=Rep X.K) fun d b v H1 c1 fp1 S1 F1 r1 h1=>by
  obtain⟨z,ez,k⟩:=h1.opt;rw[ez]at h1;unfold qaa at ez
  split at ez
  ·cases ez
   cases r1 with
   |@lst z xs _ ee l rr=>
    have:xs=[]:=by cases xs <;> first|rfl|cases l
    subst this;refine⟨_,[],rfl,SqL.of (S1.toSE.all _ _ ee),by decide,fun l out hl pm _=>?_⟩;have:out=[]:=List.perm_nil.mp pm;subst this;exact h1.list .nil l hl
  ·cases ez⟩
end
end M
namespace X2
open PySem PySem.Spec PyProof.Rows L2
variable{tg:Expr}{X:Cx}
def WV(a:Addr)(ep n:Nat):It:=
 ⟨fun i H=>∃o kvs p es,H a=some (.frz o (.dK kvs))/\o.data=.dict es ep/\kvs.length=n/\kvs[i]?=some p,fun i H x H'=>H'=H/\∀o kvs,H a=some (.frz o (.dK kvs))->∃p,kvs[i]?=some p/\x=p.2,fun i H=>∃o kvs es,H a=some (.frz o (.dK kvs))/\o.data=.dict es ep/\kvs.length=n/\n<=i⟩
theorem VO{P:Program}{w:World}{K:fL}(a it:Addr)(ep n:Nat):Turn P w K tg (WV a ep n) [it] it (fun i h=>h.IsValIter it a i n ep) where
 mem:=by simp
 obj:=fun i h st b hb=>by
  have e:b=it:=by simpa using hb
  subst e;obtain⟨o,e,c,d⟩:=st;exact⟨o,e,fun v z=>by rw[d]at z;cases z⟩
 keep:=fun i h h' st k=>st.at fun o e=>k it (by simp) o e
 item:=by
  intro X hP hw hK hc i pins s σ H E I hf st hg;subst hP hw hK;obtain⟨o,kvs,p,es,ha,hd,hn,hp⟩:=hg;obtain⟨vs,kv,da⟩:=KD I ha hd;have lv:vs.length=n:=by rw[<- hn];exact(bX kv).symm
  obtain⟨y,hy,e1,e2⟩:=xE kv hp;obtain⟨k,v⟩:=y;obtain⟨f0,f1,f2,f3,f4,f5⟩:=hf it (by simp);subst lv;refine wpAny_pyNext_values_item (knd:=qF X.prog X.w) st da hy fun h' st' sb=>?_
  have I1:Inv X pins σ H { s with heap:=h' }:=I.turned (t':=s.toks) (fun b o hb e=>(sb.2 b hb).trans e) f0 f1 f3 f4 f5;obtain⟨oi,e,c,d⟩:=id st';refine⟨v,rfl,Vu (s:={ s with heap:=h' }) e c d (by decide) ⟨p.2,H,I1,e2,⟨rfl,fun o' kvs' h2=>?_⟩,st',fun b hb=>(hf b hb).1⟩⟩;rw[ha]at h2;cases h2;exact⟨p,hp,rfl⟩
 done:=by
  intro X hP hw hK hc i pins s σ H E I hf st hg;subst hP hw hK;obtain⟨o,kvs,es,ha,hd,hn,hi⟩:=hg;obtain⟨vs,kv,da⟩:=KD I ha hd;have lv:vs.length=n:=by rw[<- hn];exact(bX kv).symm
  obtain⟨f0,f1,f2,f3,f4,f5⟩:=hf it (by simp);subst lv;exact wpAny_pyNext_values_end (knd:=qF X.prog X.w) (I.ok.hd hc) st da (dO hi) fun h' eb=>⟨rfl,I.turned (t':=s.toks) (fun b o hb e=>eb b o hb e) f0 f1 f3 f4 f5⟩
 self:=fun _ _ _ _ _ st h=>wpAny_pyIter_valiter st h
def VwAt(v d:Addr):HO:=.ext (fun h=>h.get? v=some { cls:=.type "dict_values",data:=.fields #[.ref d] })
theorem qba:MtR X "dict.values" (fun x xs H Q=>∃d kvs,x=.ref d/\xs=[]/\H d=some (.dK kvs)/\∀v,H v=none->Q (.ref v) (upd H v (VwAt v d))):=by
 intro pins s σ H x xs v us Q I rx rv h;obtain⟨d,kvs,rfl,rfl,hd,q⟩:=h;cases (show v=Value.ref d from rx);cases rv;obtain⟨_,nd,vs,r,da⟩:=yD I.hok hd;refine cy fC da.typeIs PySem.F.entry_dict_values (PySem.F.args_dict_values_1 _) (meets_dict_values (qF X.prog X.w) d nd) ⟨⟨vs,da⟩,?_⟩;refine⟨.ref s.heap.objs.size,_,I.laid (t':=s.toks) (o:=VwAt s.heap.objs.size d) (fun b o e=>ag _ e) (aj _) ?_,rfl,q _ (I.hok.fresh (aj _))⟩;exact⟨a7 _ rfl,⟨_,a7 _ rfl⟩,fun h1 h2 e k=>k _ e⟩
def qgc(tl:TE):TI:=fun σ H R=>tl σ H fun x H1=>∃v a kvs,x=.ref v/\H1 v=some (VwAt v a)/\H1 a=some (.dK kvs)/\∀o es ep,o.data=.dict es ep->R (WV a ep kvs.length) (upd H1 a (.frz o (.dK kvs)))
theorem qas{l:Expr}{tl:TE}(hl:PE X l tl):PI X tg l (qgc tl):=by
 intro pins s σ H R I h;refine thn (hl pins s σ H _ I h) fun v s1⟨x,H1,I1,r1,q1⟩=>?_
 obtain⟨v,a,kvs,e,hv,ha,q⟩:=q1;subst e;cases r1;obtain⟨hz,nd,vs,rkv,da⟩:=yD I1.hok ha;obtain⟨ep,dat⟩:=da.dictAt;have hview:s1.heap.get? v=some { cls:=.type "dict_values",data:=.fields #[.ref a] }:=(I1.hok v _ hv).1;refine wpAny_pyIter_values (knd:=qF X.prog X.w) ⟨_,hview,rfl,rfl⟩ dat ?_;obtain⟨o,es',ho,_,hd,_⟩:=id dat;have I2:=(Kz I1 ha ho).kept (t':=s1.toks) (h':=s1.heap.push { cls:=.type "dict_valueiterator",data:=.fields #[.ref a,.int 0 0,.int vs.length 0,.int ep 0] }) fun b o e=>ag _ e
 have lv:vs.length=kvs.length:=(bX rkv).symm;refine⟨s1.heap.objs.size,[s1.heap.objs.size],_,_,_,rfl,I2,VO a _ ep kvs.length,⟨_,a7 _ rfl,rfl,by rw[lv];rfl⟩,fun b hb=>?_,q o es' ep hd⟩;have e:b=s1.heap.objs.size:=by simpa using hb
 subst e;refine I1.fpOk (aj _) ?_;rw[qf (cI (au ho))];exact I1.hok.fresh (aj _)
theorem qav{o:Expr}{to:TE}{apos cpos:Pos}(ho:PE X o to)
  (hbase:attributeBase o "values" X.env (eval o X.env)=eval o X.env:=by rfl)(hline:(apos.endLine == cpos.line)=true:=by rfl):PE X (.Call (.Attribute o "values" apos) [] [] cpos) (tBM0 X.K "dict" (fun x xs H Q=>∃d kvs,x=.ref d/\xs=[]/\H d=some (.dK kvs)/\∀v,H v=none->Q (.ref v) (upd H v (VwAt v d))) to):=
 uG bC fC PySem.F.type_dict_values qba ho hbase hline
end X2
namespace M
open PySem PySem.Spec PyProof.Rows L2 X2
theorem VH{K:fL}{c:Co}{a:Addr}{o:Obj}{ys:List (Key×V)}{kvs:List (Key×D)}{es:Array DictEntry}{ep:Nat}(e:c.h a=some (.frz o (.dK ys)))(hd:o.data=.dict es ep)(k1:ys.map (·.1)=kvs.map (·.1))(k3:Reps K c (ys.map (·.2)) (kvs.map (·.2))):Walk K (WV a ep ys.length) c (kvs.map (·.2)):=by
 have l:ys.length=kvs.length:=by have:=bU List.length k1;simpa using this
 refine⟨fun i H1 c1 le s hi=>?_,fun i H1 c1 le s hi=>⟨o,ys,es,s _ _ (le.h _ _ e),hd,rfl,by rw[ak]at hi;rw[l];exact hi⟩⟩;rw[ak]at hi;have hy:i<ys.length:=by rw[l];exact hi
 have ha:=s _ _ (le.h _ _ e);refine⟨⟨o,ys,ys[i],es,ha,hd,rfl,aa hy⟩,fun x H2⟨eH,f⟩=>?_⟩;obtain⟨p,hp,ex⟩:=f o ys ha;subst ex;obtain⟨q,hq,e1,r⟩:=uC k1 (k3.mono le) hp;exact⟨q.2,by rw[aq,hq];rfl,.inl ⟨eH,r⟩⟩
section
variable{cl:Str->fR}{T:Hp->Prop}{hT:HTt T}{E:En}{X:Cx}{O:List Nat}{o:Expr}{m:Bool}{apos cpos:Pos}{fo:fJ X.K cl T hT}
def KA{K:fL}(fo:fJ K cl T hT):SS (WB K cl T hT)->R (WB K cl T hT) (List D):=ql fo (Vn (·.2))
theorem uc{tg:Expr}(ho:DE (WB X.K cl T hT) E m X O o fo)(hbase:attributeBase o "values" X.env (eval o X.env)=eval o X.env:=by rfl)(hline:(apos.endLine == cpos.line)=true:=by rfl):DI (WB X.K cl T hT) E X O tg (.Call (.Attribute o "values" apos) [] [] cpos) (KA fo):=
 xD (qas (qav ho.h hbase hline)) fun σ H Rr⟨g,c,fp,q⟩=>⟨g,c,fp,tI.bind q fun d b x H1 c1 fp1 S1 F1 r1 h1=>by
  obtain⟨a,ys,n,kvs,rfl,ha,y1,y2,y4,S,k⟩:=X0 r1 h1;refine⟨.inr (.inr (.inl ⟨rfl,.inl ⟨ys,y1⟩⟩)),a,ys,rfl,rfl,y1,fun v hv=>?_⟩;have nva:a≠v:=fun z=>by rw[z,hv]at y1;cases y1
  have y1':upd H1 v (VwAt v a) a=some (.dK ys):=(qf nva).trans y1;exact⟨v,a,ys,rfl,qi,y1',fun oo es ep hd=>k oo _ _ (S.newO hv) (FR.newO hv _) y1' (VH qi hd y2 (y4.mono (Co.add_le (S.toSE.fpc a ha))))⟩⟩
end
section
variable{cl:Str->fR}{T:Hp->Prop}{hT:HTt T}{E:En}{X:Cx}{O OL:List Nat}
def qbi{K:fL}(i n:Nat)(t:Str)(g:SS (WB K cl T hT)):Ou (WB K cl T hT):=match wt g.b n with
 |some ds=>if ds.length<big then .nx ⟨(g.v.set i none).set i none,List.set (α:=Ob) g.b n (.lst (ds++[.str t]))⟩else .bad
 |none=>.bad
def K9{K:fL}(i j:Nat)(kw:Str->Option Str)(f:fK K cl T hT):fK K cl T hT:=fun g=>match f g with
 |.ex x g'=>(match x.args,kw x.cls,(g'.v[j]?).join with
  |[],some t,some (.obj n)=>qbi i n t g'
  |_,_,_=>.bad)
 |.nx g'=>.nx g'
 |.rt d b=>.rt d b
 |.bk g'=>.bk g'
 |.ct g'=>.ct g'
 |.bad=>.bad
theorem qb0{cx nm x kn:Str}{Wc fk:Addr}{fdk:FuncData}{cs:fP}{kw:Str->Option Str}{i j k:Nat}{cp hp pos pos2 p2 p3 p4 p5 p6 apos:Pos}{body:List Stmt}{f:fK X.K cl T hT}(hex:X.ex=[])(hst:X.stack=X.env::X.outer)(hfr:X.env.frame=some X.env.locals)
  (hN:X.N.Nodup)(hi:X.N[i]?=some nm)(hloc:X.env.scope.names.lookup nm=some .local)(hgc:Gl X cx)(hmc:X.mg cx=some (.ref Wc))(hW:jG X.base Wc Wc)(hsub:∀y C,cl y=some C->jG X.base C Wc)
  (hb:∀pn Ex,DSs (WB X.K cl T hT) E false OL (trX X pn Ex) O body f [])
  (hj:X.N[j]?=some x)(hxl:X.env.scope.names.lookup x=some .local)(hij:i≠j)
  (G:FnOkH X.prog X.w X.K X.mg X.base CX0 k fk fdk ["_law_e"] (wM cs))(hr:RoomH k X.A)(hgk:Gl X kn)(hmk:X.mg kn=some (.ref fk))(hkk:PySem.W.keepIn X.K (.ref fk)=true)(hbk:Binds X.K fdk ["_law_e"] [])
  (hkw:∀y t,kw y=some t->∃n:Nat,∀C,cl y=some C->cs[n]?=some C/\kdN[n]?=some t)
  (hd:(cx == ("__debug__":Str))=false:=by decide)(hdk:(kn == ("__debug__":Str))=false:=by decide)(hdn:(nm == ("__debug__":Str))=false:=by decide)(hcd:(nm == ("__classdict__":Str))=false:=by decide)(hdx:(x == ("__debug__":Str))=false:=by decide)(hcx:(x == ("__classdict__":Str))=false:=by decide)
  (hs2:starEach [.Name nm p3] X.env=(false,eval (.Name nm p3) X.env)::starEach [] X.env:=by rfl)
  (hs4:starEach [.Call (.Name kn p2) [.Name nm p3] [] p4] X.env=(false,eval (.Call (.Name kn p2) [.Name nm p3] [] p4) X.env)::starEach [] X.env:=by rfl)
  (hpl:(backTo p4 (starEach [] X.env)).any (·.1)=false:=by rfl)(hpl2:(backTo p5 (starEach [] X.env)).any (·.1)=false:=by rfl)
  (hbase:attributeBase (.Name x p6) "append" X.env (eval (.Name x p6) X.env)=eval (.Name x p6) X.env:=by rfl)
  (hfew:((backTo p5 (starEach [.Call (.Name kn p2) [.Name nm p3] [] p4] X.env)).all (fun x=>!x.1) && (backToKw p5 (keywordEach [] X.env)).all (fun x=>x.1.isSome) && decide ([Expr.Call (.Name kn p2) [.Name nm p3] [] p4].length+([]:List Keyword).length+(if([]:List Keyword).isEmpty then 0 else 1)<30))=true:=by rfl)
  (hline:(apos.endLine == p5.line)=true:=by rfl)
  (hsw:swapsWith (.Call (.Attribute (.Name x p6) "append" apos) [.Call (.Name kn p2) [.Name nm p3] [] p4] [] p5) none pos2.line X.env=pure false:=by rfl) :
  DS (WB X.K cl T hT) E false OL X O (.Try body [.ExceptHandler (some (.Name cx cp)) (some nm) [.Expr (.Call (.Attribute (.Name x p6) "append" apos) [.Call (.Name kn p2) [.Name nm p3] [] p4] [] p5) pos2] hp] [] [] pos) (K9 i j kw f) []:=by
 have hvis:Vis X.env.scope nm:=.inl hloc;have hvx:Vis X.env.scope x:=.inl hxl;refine zT (uE hex hst hfr hN hi hloc hgc hmc hW (fun pn Ex=>(hb pn Ex).h) (fun a=>Qk (Jm (X:=hnd X a) (Xo (X:=hnd X a) cO dq dr v_ (Zn (X:=hnd X a) (i:=j) hj hvx hdx hcx) (qr (Kl (X:=hnd X a) (a:=a) G rfl ⟨hr.dp,hr.un⟩ hgk hmk hkk hbk (qr (Zn (X:=hnd X a) (i:=i) hi hvis hdn hcd) zt hs2) hdk hs2 hpl) zt hs4) hbase hfew hline hs4 hpl2) hsw)) hd) fun D σ H⟨g,c,fp,S,q⟩=>fun pn Ex hE=>?_
 refine⟨g,c,fp,S,?_⟩;unfold K9 at q;cases ef:f g with
 |nx g'=>rw[ef]at q;exact q
 |rt d b=>rw[ef]at q;exact q
 |bk g'=>rw[ef]at q;exact q
 |ct g'=>rw[ef]at q;exact q
 |bad=>rw[ef]at q;exact q
 |ex xn g'=>
  rw[ef]at q;intro ev σ' s' H' c' fp' I S' lc ⟨k',a',⟨e,C,h1,h2,h3,fl⟩,ha,C',hc,hC⟩;subst h1 h2;cases hC;refine hE [] σ' H' s' e C I fl (hsub _ _ hc) fun oe vs o1 o2 o3=>?_
  cases ek:kw xn.cls with
  |none=>simp only[ha,ek]at q;exact q.elim
  |some t=>
   cases ev:(g'.v[j]?).join with
   |none=>simp only[ha,ek,ev]at q;exact q.elim
   |some dv=>
    cases dv with
    |obj n=>
     simp only[ha,ek,ev]at q;unfold qbi at q;cases el:wt g'.b n with
     |none=>simp only[el]at q;exact q.elim
     |some ds=>
      simp only[el]at q
      by_cases hl:ds.length<big
      ·simp only[hl,aP]at q
       obtain⟨n',hn⟩:=hkw _ _ ek;obtain⟨c1,c2⟩:=hn C hc;have hne:H' e=none:=fl.1.2.1;have S1:=(S'.newO hne (u:=.frz oe (exO e C))).clear i (some (.ref e));have hiv:i<σ'.length:=by
        have:=I.len;have h:=(ai.mp hi).1;show i<σ'.length;rw[this];exact h
       obtain⟨y,hy,ry⟩:=S1.frz j (.obj n) aE (by rw[ay hij];exact join_some ev);obtain⟨a,rfl,ea⟩:=kU ry;obtain⟨a',e1,_,xs,y1,y2⟩:=S1.toSE.ob (xc el);rw[show c'.ob n=some a from ea]at e1;cases e1;refine⟨.ref a,hy,.inl ⟨rfl,_,SqL.of y1⟩,.ref e,aA hiv,⟨oe,vs,_,qi,o2,o3.1⟩,e,n',t,rfl,⟨C,oe,vs,c1,qi,o1,o2,o3.2⟩,c2,fun H3 sm=>?_⟩;have S2:=S1.more sm;have S3:=S2.toSE.setOb (o':=.lst (ds++[.str t])) (u':=.lst (xs++[.str t])) (xc el) ea rfl (VT (sm _ _ y1) S2.tab hT) ⟨_,qi,y2.append (.cons (.str _) .nil)⟩;have F3:=FR.setOb S2.toSE (u':=.lst (xs++[.str t])) (xc el) ea;exact⟨a,xs,.str t,rfl,rfl,sm _ _ y1,by rw[y2.l];exact xv hl,q _ _ _ _ ((S2.step F3 S3).clear i none) lc⟩
      ·simp only[hl,cv]at q;exact q.elim
    |_=>simp only[ha,ek,ev]at q;exact q.elim
end
section
variable{K:fL}{cl:Str->fR}{T:Hp->Prop}{hT:HTt T}{E:En}{b:List Ob}{H:Hp}{c:Co}{fp:fP}{n:Nat}{a:Addr}{kvs:List (Key×D)}
end
section
variable{cl:Str->fR}{T:Hp->Prop}{hT:HTt T}{E:En}{X:Cx}{O O' OL:List Nat}{st:Stmt}{o:Expr}{m1 m2 fr:Bool}{pos:Pos}{fo:fJ X.K cl T hT}{f:fK X.K cl T hT}
end
end M
namespace X2
open PySem PySem.Spec PyProof.Rows L2 PySem.W PySem.F
end X2
namespace M
open PySem PySem.Spec PyProof.Rows L2 X2
section
variable{cl:Str->fR}{T:Hp->Prop}{hT:HTt T}{E:En}{X:Cx}{O:List Nat}{p pos:Pos}{o:Expr}{fo:fJ X.K cl T hT}
end
end M
namespace X2
open PySem PySem.Spec PyProof.Rows L2 PySem.W
variable{P:Program}{w:World}{K:fL}{tg:Expr}
def ItS(x:Str):It:=⟨fun i _=>i<x.cps.size,fun i H v H'=>H'=H/\∃c,x.cps[i]?=some c/\v=.str ⟨#[c]⟩,fun i _=>x.cps.size<=i⟩
theorem K6(it:Addr)(x:Str)(t:Tok):Turn P w K tg (ItS x) [it] it (fun i h=>h.IsStrIter it "str_ascii_iterator" x t i) where
 mem:=by simp
 obj:=fun i h st b hb=>by
  have e:b=it:=by simpa using hb
  subst e;obtain⟨o,e,c,d⟩:=st;exact⟨o,e,fun v z=>by rw[d]at z;cases z⟩
 keep:=fun i h h' st k=>let⟨o,e,r⟩:=st;⟨o,k it (by simp) o e,r⟩
 item:=by
  intro X hP hw hK hc i pins s σ H E I hf st hg;subst hP hw hK;have hi:i<x.cps.size:=hg;obtain⟨f0,f1,f2,f3,f4,f5⟩:=hf it (by simp);refine wpAny_pyNext_ascii_item st (c:=x.cps[i]) (by simp[hi]) fun h' st' sb=>?_
  have I1:Inv X pins σ H { s with heap:=h',toks:=s.toks+1 }:=I.turned (t':=s.toks+1) (fun b o hb e=>sb.extBut b o hb e) f0 f1 f3 f4 f5;obtain⟨oi,e,c,d⟩:=id st';exact⟨_,rfl,Vu (s:={ s with heap:=h',toks:=s.toks+1 }) e c d (by decide) ⟨.str ⟨#[x.cps[i]]⟩,H,I1,⟨_,rfl⟩,⟨rfl,_,by simp[hi],rfl⟩,st',fun b hb=>(hf b hb).1⟩⟩
 done:=by
  intro X hP hw hK hc i pins s σ H E I hf st hg;subst hP hw hK;have hi:x.cps.size<=i:=hg;obtain⟨f0,f1,f2,f3,f4,f5⟩:=hf it (by simp);exact wpAny_pyNext_ascii_end (I.ok.hd hc) st (by simp[hi]) fun h' eb=>⟨rfl,I.turned (t':=s.toks) (fun b o hb e=>eb b o hb e) f0 f1 f3 f4 f5⟩
 self:=fun _ _ _ _ _ st h=>wpAny_pyIter_striter_ascii st h
theorem VN(it:Addr)(x:Str)(t:Tok):Turn P w K tg (ItS x) [it] it (fun i h=>h.IsStrIter it "str_iterator" x t i) where
 mem:=by simp
 obj:=fun i h st b hb=>by
  have e:b=it:=by simpa using hb
  subst e;obtain⟨o,e,c,d⟩:=st;exact⟨o,e,fun v z=>by rw[d]at z;cases z⟩
 keep:=fun i h h' st k=>let⟨o,e,r⟩:=st;⟨o,k it (by simp) o e,r⟩
 item:=by
  intro X hP hw hK hc i pins s σ H E I hf st hg;subst hP hw hK;have hi:i<x.cps.size:=hg;obtain⟨f0,f1,f2,f3,f4,f5⟩:=hf it (by simp);refine wpAny_pyNext_wide_item st (c:=x.cps[i]) (by simp[hi]) fun h' st' sb=>?_
  have I1:Inv X pins σ H { s with heap:=h',toks:=s.toks+1 }:=I.turned (t':=s.toks+1) (fun b o hb e=>sb.extBut b o hb e) f0 f1 f3 f4 f5;obtain⟨oi,e,c,d⟩:=id st';exact⟨_,rfl,Vu (s:={ s with heap:=h',toks:=s.toks+1 }) e c d (by decide) ⟨.str ⟨#[x.cps[i]]⟩,H,I1,⟨_,rfl⟩,⟨rfl,_,by simp[hi],rfl⟩,st',fun b hb=>(hf b hb).1⟩⟩
 done:=by
  intro X hP hw hK hc i pins s σ H E I hf st hg;subst hP hw hK;have hi:x.cps.size<=i:=hg;obtain⟨f0,f1,f2,f3,f4,f5⟩:=hf it (by simp);exact wpAny_pyNext_wide_end (I.ok.hd hc) st (by simp[hi]) fun h' eb=>⟨rfl,I.turned (t':=s.toks) (fun b o hb e=>eb b o hb e) f0 f1 f3 f4 f5⟩
 self:=fun _ _ _ _ _ st h=>wpAny_pyIter_striter_wide st h
def iTxt(tl:TE):TI:=fun σ H R=>tl σ H fun x H1=>∃s,x=.str s/\R (ItS s) H1
theorem qdm{X:Cx}{l:Expr}{tl:TE}(hl:PE X l tl):PI X tg l (iTxt tl):=by
 intro pins s σ H R I h;refine thn (hl pins s σ H _ I h) fun v s1⟨x,H1,I1,r1,q1⟩=>?_
 obtain⟨tx,e,q⟩:=q1;subst e;obtain⟨t,rfl⟩:=r1;have nf:∀(o:Obj)(b:Addr),b∈[s1.heap.objs.size]->FpOk X pins H1 b:=fun o b hb=>by
  have e:b=s1.heap.objs.size:=by simpa using hb
  subst e;exact I1.fpOk (aj _) (I1.hok.fresh (aj _))
 cases ha:tx.cps.all (·<128)
 ·refine wpAny_pyIter_wide ha ?_
  exact⟨s1.heap.objs.size,[s1.heap.objs.size],_,_,H1,rfl,I1.kept (t':=s1.toks) fun b o e=>ag _ e,VN _ tx t,⟨_,a7 _ rfl,rfl,rfl⟩,nf default,q⟩
 ·refine wpAny_pyIter_ascii ha ?_
  exact⟨s1.heap.objs.size,[s1.heap.objs.size],_,_,H1,rfl,I1.kept (t':=s1.toks) fun b o e=>ag _ e,K6 _ tx t,⟨_,a7 _ rfl,rfl,rfl⟩,nf default,q⟩
end X2
namespace M
open PySem PySem.Spec PyProof.Rows L2 X2
section
variable{W:Wo}{E:En}{X:Cx}{O:List Nat}{m:Bool}{e:Expr}{fe:SS W->R W D}
def sgnD(x:Str):List D:=x.cps.toList.map fun c=>D.str ⟨#[c]⟩
def qfk:D->Option (List D)
 |.str x=>some (sgnD x)
 |_=>none
def qbr(f:SS W->R W D):SS W->R W (List D):=ql f fun d=>eOpt (qfk d)
theorem WX{K:fL}{c:Co}{x:Str}:Walk K (ItS x) c (sgnD x):=by
 refine⟨fun i H1 c1 le s hi=>?_,fun i H1 c1 le s hi=>?_⟩
 ·have hi':i<x.cps.size:=by unfold sgnD at hi;rw[ak,bK]at hi;exact hi
  refine⟨hi',fun v H2⟨eH,c',hc,ev⟩=>⟨.str ⟨#[c']⟩,?_,.inl ⟨eH,by rw[ev];exact .str _⟩⟩⟩;unfold sgnD;rw[aq,Array.getElem?_toList,hc];rfl
 ·show x.cps.size<=i
  unfold sgnD at hi;rw[ak,bK]at hi;exact hi
theorem qex{tg:Expr}(h:DE W E m X O e fe):DI W E X O tg e (qbr fe):=xD (qdm h.h) fun σ H Rr⟨g,c,fp,q⟩=>⟨g,c,fp,q.bind (rel:=Rep X.K) (m:=m) fun d b v H1 c1 fp1 S1 F1 r1 h1=>by
 obtain⟨ds,e,k⟩:=tI.opt h1;cases d with
 |str x=>
  cases e;have ev:v=.str x:=by cases m <;> cases r1 <;> rfl
  exact⟨x,ev,k _ H1 c1 fp1 S1 .refl WX⟩
 |_=>cases e⟩
end
end M
namespace X2
open PySem PySem.Spec PyProof PyProof.Rows L2
variable{a:Addr}{xs:fS}{es:fU}{pos:Pos}
section
variable{P:Program}{w:World}{A:Around}{Ex:fN}{s:Shared}
theorem qgr{it:Addr}(ne:a≠it):∀(k j:Nat)(s:Shared)(R:fQ->Shared->Prop),s.heap.IsListIter it a j->s.heap.IsList a xs->j+k<=xs.size->(∀h',h'.IsListIter it a (j+k)->Heap.SameBut it s.heap h'->R ((xs.toList.drop j).take k) { s with heap:=h' })->wpAny (model P w) A (draw (.ref it) k) R Ex s:=by
 intro k
 induction k with
 |zero=>
  intro j s R hi _ _ hR;exact ax (by simpa using hR s.heap hi (Heap.SameBut.refl ..))
 |succ k ih=>
  intro j s R hi hl le hR;have lt:j<xs.size:=by omega
  show wpAny _ _ (pyNext (.ref it) >>= _) R Ex s;refine ae (wpAny_pyNext_list_item hi hl (x:=xs[j]) (by simp[lt]) fun h1 i1 s1=>?_);refine ae (bj (ih (j+1) _ _ i1 (hl.extBut s1.extBut ne) (by omega) fun h2 i2 s2=>ax ?_));have e1:j+(k+1)=j+1+k:=by omega
  have z:=hR h2 (by rw[e1];exact i2) (s1.trans s2);have e:xs.toList.drop j=xs[j]::xs.toList.drop (j+1):=by simp[dg,lt]
  rw[e,List.take_succ_cons]at z;exact z
theorem uX{R:fQ->Shared->Prop}(hh:A.handled=none)(hl:s.heap.IsList a xs)(hR:∀h',Heap.ExtBut s.heap.objs.size s.heap h'->R xs.toList { s with heap:=h' }):wpAny (model P w) A (unpackItems (.ref a) xs.size none) R Ex s:=by
 have ne:a≠s.heap.objs.size:=by obtain⟨o,ho,_⟩:=hl;exact aI (au ho)
 unfold unpackItems;refine ae ?_;unfold notIterableAtAll;refine ae (wpAny_specialOf hl.typeIs slot_list_iter.lookup (ax ?_));simp only[bQ,cv];refine ae (bj (fm hl ?_));refine ae (bj (qgr ne xs.size 0 _ _ ⟨_,a7 _ rfl,rfl,rfl⟩ (hl.push _) (by omega) fun h1 i1 s1=>?_));have e:List.take xs.size (List.drop 0 xs.toList)=xs.toList:=by rw[eZ];exact List.take_of_length_le (by simp)
 rw[e,aG (by simp)];refine ae (bj (wpAny_pyNext_list_end hh i1 ((hl.push _).extBut s1.extBut ne) (by simp) fun h2 x2=>?_));simp only[Option.isSome_none,bQ,cv];exact ax (hR h2 fun b o hb g=>x2 b o hb (s1.extBut b o hb (ag _ g)))
theorem qcf{env:Env}{k:Nat}{R:Unit->Shared->Prop}(hh:A.handled=none)(hl:s.heap.IsList a xs)(hn:(assignEach es env).length=xs.size)(hs:(assignEach es env).findIdx? (·.1)=none)
  (h:∀h',Heap.ExtBut s.heap.objs.size s.heap h'->wpAny (model P w) A (assignInOrder ((assignEach es env).map (·.2)) xs.toList) R Ex { s with heap:=h' }):wpAny (model P w) A (assign (.Tuple es k pos) env (.ref a)) R Ex s:=by
 rw[assign_Tuple];refine ae (eh ?_);unfold unpack;rw[hn,hs];exact ae (bj (uX hh hl h))
end
def gLst(K:fL)(n:Nat)(t:TGs):TG:=fun v σ H Q=>∃a xs,v=.ref a/\SqL K H a xs/\xs.length=n/\t xs σ H Q
theorem qdp{X:Cx}{k:Nat}{t:TGs}{n:Nat}(hc:X.calm=true)(h:PGs X es t)(hn:(assignEach es X.env).length=n:=by rfl)(hst:(assignEach es X.env).findIdx? (·.1)=none:=by rfl):PG X (.Tuple es k pos) (gLst X.K n t):=fun pins s σ H v u Q I r⟨a,xs,e1,hq,hl,hw⟩=>by
 subst e1;cases r;obtain⟨its,rv,ht,hz⟩:=I.list hq;refine qcf (I.ok.hd hc) ht.isList (by simp[hn,<- hl,rv.length]) hst fun h' hx=>?_
 exact h pins _ σ H xs _ Q (I.kept (t':=s.toks) fun b o e=>hx b o (aI (au e)) e) (by simpa using rv) hw
end X2
namespace M
open PySem PySem.Spec PyProof.Rows L2 X2
section
variable{W:Wo}{X:Cx}{E:En}{O O':List Nat}{pos:Pos}
def pLst(n:Nat)(ps:List D->SS W->Option (SS W)):D->SS W->Option (SS W):=fun d g=>match d with|.lst ds=>if ds.length=n then ps ds g else none|_=>none
theorem qey{ts:fU}{n k:Nat}{ps:List D->SS W->Option (SS W)}(hc:X.calm=true)(h:DGs W E X O ts ps O')(hn:(assignEach ts X.env).length=n:=by rfl)(hst:(assignEach ts X.env).findIdx? (·.1)=none:=by rfl):DG W E X O (.Tuple ts k pos) (pLst n ps) O':=Jp (qdp hc h.h hn hst) fun v σ H Q⟨g,c,fp,d,g',S,r,e,eb,kk⟩=>by
 cases r with
 |@lst z xs ds ex l rr=>
  by_cases hl:ds.length=n
  ·exact⟨z,xs,rfl,SqL.of (S.toSE.all (m:=true) _ _ ex),by rw[l];exact hl,g,c,fp,ds,g',S,⟨l,rr⟩,(aH hl).symm.trans e,eb,kk⟩
  ·cases (aG hl).symm.trans e
 |_=>cases e
theorem YR{n:Nat}{ps:List D->SS W->Option (SS W)}(h:∀ds g g',ps ds g=some g'->g'.b=g.b):wA (W:=W) (pLst n ps):=fun d g g' e=>by
 cases d with
 |lst ds=>
  by_cases hl:ds.length=n
  ·exact h _ _ _ ((aH hl).symm.trans e)
  ·cases (aG hl).symm.trans e
 |_=>cases e
end
end M
namespace X2
open PySem PySem.Spec PyProof.Rows L2
section
variable{prog:Program}{w:World}{A:Around}{E:fN}{s:Shared}
end
section
variable{prog:Program}{w:World}{A:Around}{R:Result->Shared->Prop}{I:Addr}{fp wr:fP}{G:Array GenState->Array GenState->Prop}{n:Nat}{St:Nat->Shared->Prop}
end
section
variable{prog:Program}{w:World}{A:Around}{E:fN}{s:Shared}
end
end X2
namespace M
open PySem PySem.Spec PyProof.Rows L2 X2
variable{l:List Ob}{S:List Nat}{q:Key}
section
variable{W:Wo}{X:Cx}{E:En}{O:List Nat}{pos:Pos}{a:Expr}{fa:SS W->R W D}
end
section
variable{X:Cx}
end
def intD:D->Option D
 |.bl k=>some (.int (if k then 1 else 0))
 |.int i=>some (.int i)
 |_=>none
section
variable{W:Wo}{X:Cx}{E:En}{O:List Nat}{m m1 m2:Bool}{pos apos p:Pos}{a b e f:Expr}{fa fb:SS W->R W D}
theorem qe2(hg:Gl X "int")(hm:X.mg "int"=none)(ha:DE W E m X O a fa)(hs:starEach [a] X.env=(false,eval a X.env)::starEach [] X.env:=by rfl):DE W E true X O (.Call (.Name "int" p) [a] [] pos) (e1 intD fa):=
 qy (Zp WG hg hm WK (qr ha.h zt hs) (he:=hs)) fun σ H Q⟨g,c,fp,q⟩=>⟨g,c,fp,q.bind fun d b v H1 c1 fp1 S1 F1 r1 h1=>by
  obtain⟨z,ez,k⟩:=h1.opt;cases r1 with
  |bl x=>cases ez;exact .inr ⟨_,rfl,k _ H1 c1 fp1 S1 .refl (.int _)⟩
  |int x=>cases ez;exact .inl ⟨_,rfl,k _ H1 c1 fp1 S1 .refl (.int _)⟩
  |_=>cases ez⟩
end
def top(i:Nat):Stmt:=PySem.Challenge.pw_wayhold_k14_runs_told.main.body.getD i (.Pass ⟨0,0,0,0⟩)
abbrev qv:Addr:=739
abbrev qe:Addr:=354
abbrev WJ:Addr:=142
abbrev Z8:Addr:=58
abbrev WI:Addr:=118
abbrev yS:Addr:=70
abbrev uT:Addr:=238
abbrev Z7:Addr:=130
abbrev KY:Addr:=226
abbrev yQ:Addr:=82
abbrev yR:Addr:=94
abbrev vv:Stmt:=clsAt (top 27) 1
abbrev qI:Addr:=311
abbrev wR:Stmt:=clsAt (top 60) 15
abbrev jP:Addr:=562
abbrev kR:Stmt:=clsAt (top 60) 29
abbrev zF:Addr:=646
abbrev wQ:Stmt:=clsAt (top 60) 16
abbrev jb:Addr:=569
abbrev wT:Stmt:=clsAt (top 60) 20
abbrev jR:Addr:=591
abbrev vz:Stmt:=clsAt (top 60) 40
abbrev z9:Addr:=719
abbrev vA:Stmt:=clsAt (top 60) 18
abbrev zy:Addr:=581
abbrev wS:Stmt:=clsAt (top 60) 17
abbrev jQ:Addr:=576
abbrev ke:Stmt:=clsAt (top 27) 0
abbrev zO:Addr:=304
abbrev kS:Stmt:=clsAt (top 60) 0
abbrev jp:Addr:=461
abbrev xR:Stmt:=clsAt (top 27) 2
abbrev j4:Addr:=318
abbrev vw:Stmt:=clsAt (top 27) 3
abbrev z8:Addr:=323
abbrev wO:Stmt:=top 57
abbrev jN:Addr:=433
abbrev xT:Stmt:=clsAt (top 60) 1
abbrev j5:Addr:=468
abbrev Ka:Stmt:=top 62
abbrev vm:Addr:=750
abbrev J_:Stmt:=top 65
abbrev xm:Addr:=767
abbrev Kb:Stmt:=top 69
abbrev xo:Addr:=793
abbrev xS:Stmt:=top 73
abbrev je:Addr:=819
abbrev V4:Stmt:=top 68
abbrev yk:Addr:=786
abbrev wP:Stmt:=top 67
abbrev jO:Addr:=779
abbrev Qe:Stmt:=top 63
abbrev ka:Addr:=757
abbrev kf:Stmt:=clsAt (top 60) 28
abbrev zP:Addr:=639
abbrev yH:Stmt:=clsAt (top 60) 2
abbrev vn:Addr:=475
abbrev V3:Stmt:=top 70
abbrev yj:Addr:=800
abbrev qc5:Stmt:=top 72
abbrev X8:Addr:=814
abbrev xU:Stmt:=clsAt (top 60) 19
abbrev j6:Addr:=586
abbrev V2:Stmt:=top 74
abbrev yi:Addr:=826
abbrev qc4:Stmt:=top 75
abbrev Y5:Addr:=833
structure TxtH(K:fL)(mg:fO)(base:Heap)(cl:Str->fR)(cs:fP)(kw:Str->Option Str)(Wc fk:Addr):Prop where
 mW:mg "WayError"=some (.ref Wc)
 ww:jG base Wc Wc
 sub:∀y C,cl y=some C->jG base C Wc
 mK:mg "_law_kinds"=some (.ref fk)
 kk:PySem.W.keepIn K (.ref fk)=true
 kw:∀y t,kw y=some t->∃n:Nat,∀C,cl y=some C->cs[n]?=some C/\kdN[n]?=some t
structure Txt(K:fL)(mg:fO)(base:Heap)(cl:Str->fR):Prop where
 cls_Book:Cls K qv
 cls_Ledger:Cls K qe
 na_Ledger_tables:NoAttr K qe "tables"
 na_Book_ledger:NoAttr K qv "ledger"
 me_Ledger_table:Meth K qe "table" qI
 b_len:mg "len"=none
 cl_NoRun:cl "NoRun"=some WJ
 oc_NoRun:OwnCls "NoRun" WJ bmVE "ValueError.__new__" mg base
 me_Book_need_run:Meth K qv "need_run" zF
 me_Book_told:Meth K qv "told" jb
 b_sorted:mg "sorted"=none
 me_Book_ride_by:Meth K qv "ride_by" z9
 me_Book_reports:Meth K qv "reports" zy
 na_Ledger_done:NoAttr K qe "done"
 na_Ledger_undone:NoAttr K qe "undone"
 mk_Ledger:Mk K qe zO
 mc_Ledger:mg "Ledger"=some (.ref qe)
 me_Ledger_put:Meth K qe "put" j4
 b_tuple:mg "tuple"=none
 b_all:mg "all"=none
 c_LONGEST_NAME:∃t,mg "LONGEST_NAME"=some (Value.int 12 t)
 s_SIGNS:∃t,mg "SIGNS"=some (Value.str "abcdefghijklmnopqrstuvwxyz0123456789" t)
 m_good_name:mg "good_name"=some (.ref jN)
 k_good_name:PySem.W.keepIn K (.ref jN)=true
 me_Ledger_enter:Meth K qe "enter" z8
 c_LONGEST_SPAN:∃t,mg "LONGEST_SPAN"=some (Value.int 1000 t)
 c_FARTHEST_AHEAD:∃t,mg "FARTHEST_AHEAD"=some (Value.int 900 t)
 c_MOST_PLACES:∃t,mg "MOST_PLACES"=some (Value.int 12 t)
 cl_BadName:cl "BadName"=some Z8
 oc_BadName:OwnCls "BadName" Z8 bmVE "ValueError.__new__" mg base
 cl_Taken:cl "Taken"=some WI
 oc_Taken:OwnCls "Taken" WI bmVE "ValueError.__new__" mg base
 cl_BadClock:cl "BadClock"=some yS
 oc_BadClock:OwnCls "BadClock" yS bmVE "ValueError.__new__" mg base
 cl_Full:cl "Full"=some uT
 oc_Full:OwnCls "Full" uT bmVE "ValueError.__new__" mg base
 m_Ldraws:mg "_law_draws"=some (.ref vm)
 k_Ldraws:PySem.W.keepIn K (.ref vm)=true
 b_range:mg "range"=none
 m_Lnames:mg "_law_names"=some (.ref xm)
 k_Lnames:PySem.W.keepIn K (.ref xm)=true
 m_Lbegin:mg "_law_begin"=some (.ref xo)
 k_Lbegin:PySem.W.keepIn K (.ref xo)=true
 m_Lafter_one:mg "_law_after_one"=some (.ref je)
 k_Lafter_one:PySem.W.keepIn K (.ref je)=true
 me_Book_place:Meth K qv "place" j5
 mk_Book:Mk K qv jp
 mc_Book:mg "Book"=some (.ref qv)
 m_Lbase:mg "_law_base"=some (.ref yk)
 k_Lbase:PySem.W.keepIn K (.ref yk)=true
 b_int:mg "int"=none
 m_Lword_one:mg "_law_word_one"=some (.ref jO)
 k_Lword_one:PySem.W.keepIn K (.ref jO)=true
 b_isinstance:mg "isinstance"=none
 b_list:mg "list"=none
 b_bool:mg "bool"=none
 b_str:mg "str"=none
 m_Lsame:mg "_law_same"=some (.ref ka)
 k_Lsame:PySem.W.keepIn K (.ref ka)=true
 cl_NoPlace:cl "NoPlace"=some Z7
 oc_NoPlace:OwnCls "NoPlace" Z7 bmVE "ValueError.__new__" mg base
 me_Book_need_place:Meth K qv "need_place" zP
 me_Book_many:Meth K qv "many" jP
 c_FARTHEST_MOMENT:∃t,mg "FARTHEST_MOMENT"=some (Value.int 40000 t)
 c_MOST_RUNS:∃t,mg "MOST_RUNS"=some (Value.int 40 t)
 cl_Astray:cl "Astray"=some KY
 oc_Astray:OwnCls "Astray" KY bmVE "ValueError.__new__" mg base
 cl_BadTimes:cl "BadTimes"=some yQ
 oc_BadTimes:OwnCls "BadTimes" yQ bmVE "ValueError.__new__" mg base
 cl_BadSeats:cl "BadSeats"=some yR
 oc_BadSeats:OwnCls "BadSeats" yR bmVE "ValueError.__new__" mg base
 me_Book_run:Meth K qv "run" vn
 m_Lcall:mg "_law_call"=some (.ref yj)
 k_Lcall:PySem.W.keepIn K (.ref yj)=true
 m_Ldo:mg "_law_do"=some (.ref X8)
 k_Ldo:PySem.W.keepIn K (.ref X8)=true
 me_Book_goes:Meth K qv "goes" jQ
 me_Book_known:Meth K qv "known" j6
 me_Book_free:Meth K qv "free" jR
 m_Lnone:mg "_law_none"=some (.ref yi)
 k_Lnone:PySem.W.keepIn K (.ref yi)=true
 m_law:mg "law"=some (.ref Y5)
 k_law:PySem.W.keepIn K (.ref Y5)=true
section
variable(K:fL)(cl:Str->fR)(T:Hp->Prop)(hT:HTt T)(kw:Str->Option Str)
noncomputable def jB:fK K cl T hT:=
 (sRet (Y7 (eFld qe "tables" (eVar 0)) (eVar 1) (eBox wy)))
noncomputable def qj:List Ob->List D->RO:=zD 2 (jB K cl T hT)
noncomputable def vS:fK K cl T hT:=
 (sRet (e1B lenD (qw qe "table" 2 (okF (qj K cl T hT)) (eFld qv "ledger" (eVar 0)) (qb (eC (.str "run")) aNil))))
noncomputable def zx:List Ob->List D->RO:=zD 1 (vS K cl T hT)
noncomputable def jr:fK K cl T hT:=
 (sIf (qOf (e2B ninO (eVar 1) (qw qe "table" 2 (okF (qj K cl T hT)) (eFld qv "ledger" (eVar 0)) (qb (eC (.str "run")) aNil))))
 (kT "NoRun")
 sNil)
noncomputable def qS:List Ob->List D->RO:=zD 2 (jr K cl T hT)
noncomputable def kH:fK K cl T hT:=
 (sSeq (zC (qw qv "need_run" 2 (qS K cl T hT) (eVar 0) (qb (eVar 1) aNil)))
 (sRet (eIxB (qw qe "table" 2 (okF (qj K cl T hT)) (eFld qv "ledger" (eVar 0)) (qb (eC (.str "run")) aNil)) (eVar 1))))
noncomputable def qN:List Ob->List D->RO:=zD 2 (kH K cl T hT)
noncomputable def kJ:fK K cl T hT:=
 (sSeq (sSet 2 (e2 ixD (qw qv "told" 2 (qN K cl T hT) (eVar 0) (qb (eVar 1) aNil)) (eC (.int 4))))
 (sRet (e2 subI (eVar 2) (e1B lenD (ZS (qw qe "table" 2 (okF (qj K cl T hT)) (eFld qv "ledger" (eVar 0)) (qb (eC (.str "journey")) aNil)) (jI 3 [1] (KA (qw qe "table" 2 (okF (qj K cl T hT)) (eFld qv "ledger" (eVar 0)) (qb (eC (.str "journey")) aNil))) (pTup 3 (qM (qA 0) (qM (qA 1) (qM (qA 2) pNil)))) (qOf (e2B inO (eVar 3) (eVar 2))) (eC (.bl true))))))))
noncomputable def zp:List Ob->List D->RO:=zD 3 (kJ K cl T hT)
noncomputable def kd:fK K cl T hT:=
 (sSeq (sAsg (pTup 5 (qM (qA 4) (qM (qA 5) (qM (qA 6) (qM (qA 7) (qM (qA 8) pNil)))))) (qw qv "told" 2 (qN K cl T hT) (eVar 0) (qb (eVar 1) aNil)))
 (sSeq (sSet 3 (eTup (qb (eVar 1) (qb (eVar 4) (qb (eVar 5) (qb (eVar 6) (qb (eVar 7) aNil)))))))
 (sSeq (sIf (qNot (qTru (eVar 2)))
 (sRet (eVar 3))
 sNil)
 (sSeq sBad
 (sSeq sBad
 sBad)))))
noncomputable def zn:List Ob->List D->RO:=zD 12 (kd K cl T hT)
noncomputable def jC:fK K cl T hT:=
 (sSeq (zC (qw qv "need_run" 2 (qS K cl T hT) (eVar 0) (qb (eVar 1) aNil)))
 (sSeq (sSet 2 (qw qe "table" 2 (okF (qj K cl T hT)) (eFld qv "ledger" (eVar 0)) (qb (eTup (qb (eC (.str "news")) (qb (eVar 1) aNil))) aNil)))
 (sRet (e1 qaa (ZS (eVar 2) (jI 3 [] (QG (eVar 2)) (pTup 2 (qM (qA 0) (qM (pTup 2 (qM (qA 1) (qM (qA 2) pNil))) pNil))) qAll (eTup (qb (eVar 0) (qb (eVar 1) (qb (eVar 2) aNil))))))))))
noncomputable def qJ:List Ob->List D->RO:=zD 3 (jC K cl T hT)
noncomputable def kI:fK K cl T hT:=
 (sRet (qw qv "ride_by" 3 (zn K cl T hT) (eVar 0) (qb (eVar 1) (qb (qw qv "reports" 2 (qJ K cl T hT) (eVar 0) (qb (eVar 1) aNil)) aNil))))
noncomputable def zo:List Ob->List D->RO:=zD 2 (kI K cl T hT)
noncomputable def jw:fK K cl T hT:=
 (sSeq (vJ qe "tables" (eVar 0) (eBox wy))
 (sSeq (vJ qe "done" (eVar 0) (eBox (eLst aNil)))
 (vJ qe "undone" (eVar 0) (eBox (eLst aNil)))))
noncomputable def qO:List Ob->List D->RO:=zD 1 (jw K cl T hT)
noncomputable def jX:fK K cl T hT:=
 (vJ qv "ledger" (eVar 0) (xp qe (qO K cl T hT)))
noncomputable def zg:List Ob->List D->RO:=zD 1 (jX K cl T hT)
noncomputable def j7:fK K cl T hT:=
 (sSeq (sSet 4 (xH (eFld qe "tables" (eVar 0)) (eVar 1)))
 (sIf (qCmp isND (eVar 3) (eC .non))
 (zC (Vz (eVar 4) (eVar 2) (eC .non)))
 (Qf (eVar 4) (eVar 2) (eVar 3))))
noncomputable def zm:List Ob->List D->RO:=zD 5 (j7 K cl T hT)
noncomputable def kc:fK K cl T hT:=
 (sSeq (sSet 3 (jI 3 [0] (iSeq (eVar 2)) (pTup 3 (qM (qA 0) (qM (qA 1) (qM (qA 2) pNil)))) qAll (eTup (qb (eVar 0) (qb (eVar 1) (qb (yN (qw qe "table" 2 (okF (qj K cl T hT)) (eVar 3) (qb (eVar 0) aNil)) (eVar 1)) (qb (eVar 2) aNil)))))))
 (sSeq (sFor (iSeq (eVar 2)) (pTup 3 (qM (qA 4) (qM (qA 5) (qM (qA 6) pNil))))
 (zC (qw qe "put" 4 (okF (zm K cl T hT)) (eVar 0) (qb (eVar 4) (qb (eVar 5) (qb (eVar 6) aNil))))))
 (sSeq (zC (QJ (eFld qe "done" (eVar 0)) (eTup (qb (eVar 1) (qb (e1 Za (eVar 3)) aNil)))))
 (vJ qe "undone" (eVar 0) (eBox (eLst aNil))))))
noncomputable def qX:List Ob->List D->RO:=zD 7 (kc K cl T hT)
def vP(T:Hp->Prop)(hT:HTb T):SS (W0 T hT)->Ou (W0 T hT):=
 (sRet (eAnd (vG leI leI (eC (.int 1)) (e1 lenD (eVar 0)) (eC (.int 12))) (e1 allD (jI 1 [] (qbr (eVar 0)) (qA 0) qAll (e2 inO (eVar 0) (eC (.str "abcdefghijklmnopqrstuvwxyz0123456789")))))))
def jy(T:Hp->Prop)(hT:HTb T):List D->Option D:=QZ 1 (vP T hT)
noncomputable def vd:fK K cl T hT:=
 (sSeq (sSet 4 (qw qe "table" 2 (okF (qj K cl T hT)) (eFld qv "ledger" (eVar 0)) (qb (eC (.str "place")) aNil)))
 (sSeq (sIf (qNot (qTru (jS 1 (jy T hT.b) (qb (eVar 1) aNil))))
 (kT "BadName")
 sNil)
 (sSeq (sIf (qOf (e2B inO (eVar 1) (eVar 4)))
 (kT "Taken")
 sNil)
 (sSeq (sIf (qNot (qAnd (qOf (vG leI leI (e1 negI (eC (.int 900))) (eVar 2) (eC (.int 900)))) (qOf (vG leI leI (eC (.int 0)) (eVar 3) (eC (.int 1000))))))
 (kT "BadClock")
 sNil)
 (sSeq (sIf (qCmp geI (e1B lenD (eVar 4)) (eC (.int 12)))
 (kT "Full")
 sNil)
 (zC (qw qe "enter" 3 (okF (qX K cl T hT)) (eFld qv "ledger" (eVar 0)) (qb (eTup (qb (eC (.str "place")) (qb (eVar 1) (qb (eVar 2) (qb (eVar 3) aNil))))) (qb (eLst (qb (eTup (qb (eC (.str "place")) (qb (eVar 1) (qb (eTup (qb (eVar 2) (qb (eVar 3) aNil))) aNil)))) aNil)) aNil)))))))))
noncomputable def zJ:List Ob->List D->RO:=zD 5 (vd K cl T hT)
def Q2(T:Hp->Prop)(hT:HTb T):SS (W0 T hT)->Ou (W0 T hT):=
 (sSeq (sSet 3 (e2 addD (e2 mulI (eC (.int 7)) (eVar 1)) (eC (.int 1))))
 (sSeq (sIf (qCmp ltI (eVar 1) (e1 lenD (eVar 0)))
 (sSet 3 (e2 ixD (eVar 0) (eVar 1)))
 (sIf (qCmp gtI (e1 lenD (eVar 0)) (eC (.int 0)))
 (sSet 3 (e2 addD (e2 addD (e2 modI (e2 ixD (eVar 0) (e2 modI (eVar 1) (e1 lenD (eVar 0)))) (eC (.int 999983))) (e2 mulI (e2 mulI (eVar 1) (eVar 1)) (eC (.int 97)))) (eC (.int 1))))
 sNil))
 (sSeq (sSet 4 (e2 addD (e2 addD (e2 modI (eVar 3) (eC (.int 999983))) (e2 mulI (eC (.int 31)) (eVar 1))) (eC (.int 5))))
 (sSeq (sSet 5 (eLst aNil))
 (sSeq (sIf (qCmp geI (eVar 3) (e2 powI (eC (.int 10)) (eC (.int 18))))
 (Zj (qAnd (qCmp gtI (eVar 3) (eC (.int 0))) (qCmp ltI (e1 lenD (eVar 5)) (eVar 2)))
 (sSeq (sApp 5 (e2 modI (eVar 3) (eC (.int 1013))))
 (sSet 3 (e2 yg (eVar 3) (eC (.int 1013))))))
 sNil)
 (sSeq (Zj (qCmp ltI (e1 lenD (eVar 5)) (eVar 2))
 (sSeq (sSet 6 (e2 addD (e1 lenD (eVar 5)) (eC (.int 1))))
 (sSeq (sSet 4 (e2 modI (e2 addD (e2 addD (e2 mulI (eVar 4) (eC (.int 48271))) (e2 mulI (e2 mulI (eVar 6) (eVar 6)) (eC (.int 6133)))) (eC (.int 17))) (eC (.int 2147483647))))
 (sApp 5 (e2 modI (e2 modI (e2 mulI (e2 modI (eVar 4) (eC (.int 65521))) (e2 addD (e2 modI (e2 yg (eVar 4) (eC (.int 65521))) (eC (.int 32749))) (eC (.int 1)))) (eC (.int 1000003))) (eC (.int 1013)))))))
 (sRet (eVar 5))))))))
def jJ(T:Hp->Prop)(hT:HTb T):List D->Option D:=QZ 7 (Q2 T hT)
def Q0(T:Hp->Prop)(hT:HTb T):SS (W0 T hT)->Ou (W0 T hT):=
 (sSeq (sSet 2 (eC (.str "abcdefghijklmnopqrstuvwxyz")))
 (sSeq (sSet 3 (eLst aNil))
 (sSeq (sFor (zX (qb (eVar 1) aNil)) (qA 4)
 (sSeq (sSet 5 (e2 ixD (eVar 2) (e2 modI (e2 addD (e2 mulI (eVar 4) (e2 ixD (eLst (qb (eC (.int 1)) (qb (eC (.int 3)) (qb (eC (.int 5)) (qb (eC (.int 7)) (qb (eC (.int 9)) (qb (eC (.int 11)) aNil))))))) (e2 modI (e2 ixD (eVar 0) (eC (.int 0))) (eC (.int 6))))) (e2 ixD (eVar 0) (eC (.int 1)))) (eC (.int 26)))))
 (sSeq (sSet 6 (Wa (eC (.str "")) (jI 1 [0,2] (zX (qb (e2 modI (e2 ixD (eVar 0) (e2 addD (eC (.int 4)) (eVar 4))) (eC (.int 12))) aNil)) (qA 0) qAll (e2 ixD (e2 addD (eVar 2) (eC (.str "0123456789"))) (e2 modI (e2 addD (e2 ixD (eVar 1) (eC (.int 2))) (e2 mulI (eVar 0) (e2 ixD (eVar 1) (eC (.int 3))))) (eC (.int 36)))))))
 (sApp 3 (e2 ixD (eLst (qb (e2 addD (eVar 5) (eVar 6)) (qb (e2 addD (eVar 6) (eVar 5)) aNil))) (e2 modI (e2 yg (e2 ixD (eVar 0) (eC (.int 0))) (eC (.int 6))) (eC (.int 2))))))))
 (sRet (eVar 3)))))
def xx(T:Hp->Prop)(hT:HTb T):List D->Option D:=QZ 7 (Q0 T hT)
noncomputable def Q3:fK K cl T hT:=
 (sRet (eTup (qb (eBox wy) (qb (eBox (eLst aNil)) (qb (eBox wy) (qb (eBox wy) (qb (eBox (eLst aNil)) (qb (eBox wy) aNil))))))))
noncomputable def xz:List Ob->List D->RO:=zD 0 (Q3 K cl T hT)
noncomputable def j8:fK K cl T hT:=
 (sSeq (sAsg (pLst 6 (qM (qA 2) (qM (qA 3) (qM (qA 4) (qM (qA 5) (qM (qA 6) (qM (qA 7) pNil))))))) (jI 1 [] (iSeq (eVar 0)) (qA 0) qAll (eBox (e1B JO (eVar 0)))))
 (sSeq (sIf (qOf (e2B eqD (e2 ixD (eVar 1) (eC (.int 0))) (eC (.str "place"))))
 (Qf (eVar 2) (e2 ixD (eVar 1) (eC (.int 1))) (yn (eVar 1) (Vd (eC (.int 2))) Ve))
 (sIf (qOf (e2B eqD (e2 ixD (eVar 1) (eC (.int 0))) (eC (.str "run"))))
 (zC (QJ (eVar 3) (yn (eVar 1) (Vd (eC (.int 1))) Ve)))
 sBad))
 (sRet (eTup (qb (eVar 2) (qb (eVar 3) (qb (eVar 4) (qb (eVar 5) (qb (eVar 6) (qb (eVar 7) aNil))))))))))
noncomputable def qU:List Ob->List D->RO:=zD 8 (j8 K cl T hT)
noncomputable def VE:fK K cl T hT:=
 (sSeq sBad
 (sSeq sBad
 (sSeq sBad
 (sSeq sBad
 (sSeq sBad
 (sSeq sBad
 (sSet 6 (zR 2 (okF (qU K cl T hT)) (qb (eVar 6) (qb (eVar 8) aNil))))))))))
noncomputable def xM:fK K cl T hT:=
 (sSeq (sSet 8 (eTup (qb (eC (.str "place")) (qb (e2 ixD (eVar 4) (eVar 7)) (qb (e2 ixD (eLst (qb (eC (.int 0)) (qb (eC (.int 60)) (qb (e2 subI (eC (.int 0)) (eC (.int 300))) (qb (eC (.int 570)) (qb (eC (.int 900)) aNil)))))) (e2 modI (e2 ixD (eVar 3) (eVar 7)) (eC (.int 5)))) (qb (e2 ixD (eLst (qb (eC (.int 0)) (qb (eC (.int 0)) (qb (eC (.int 20)) (qb (eC (.int 60)) (qb (eC (.int 300)) aNil)))))) (e2 modI (e2 ixD (eVar 3) (e2 addD (eC (.int 4)) (eVar 7))) (eC (.int 5)))) aNil))))))
 (sSeq (zC (qw qv "place" 4 (zJ K cl T hT) (eVar 5) (qb (e2 ixD (eVar 8) (eC (.int 1))) (qb (e2 ixD (eVar 8) (eC (.int 2))) (qb (e2 ixD (eVar 8) (eC (.int 3))) aNil)))))
 (sSet 6 (zR 2 (okF (qU K cl T hT)) (qb (eVar 6) (qb (eVar 8) aNil))))))
noncomputable def JS:fK K cl T hT:=
 (sSeq (sSet 3 (wz 3 (jJ T hT.b) (qb (eVar 0) (qb (eVar 1) (qb (eC (.int 20)) aNil)))))
 (sSeq (sSet 4 (wz 2 (xx T hT.b) (qb (eVar 3) (qb (e2 addD (eC (.int 2)) (e2 modI (e2 ixD (eVar 3) (eC (.int 18))) (eC (.int 4)))) aNil))))
 (sSeq (sSet 5 (xp qv (zg K cl T hT)))
 (sSeq (sSet 6 (zR 0 (okF (xz K cl T hT)) aNil))
 (sSeq (sFor (zX (qb (e1B lenD (eVar 4)) aNil)) (qA 7)
 (xM K cl T hT))
 (sSeq (sFor (zX (qb (eVar 2) aNil)) (qA 7)
 (VE K cl T hT))
 (sRet (eTup (qb (eVar 5) (qb (eVar 6) (qb (eVar 4) aNil)))))))))))
noncomputable def xO:List Ob->List D->RO:=zD 13 (JS K cl T hT)
noncomputable def vQ:fK K cl T hT:=
 (sSeq (sAsg (pTup 6 (qM (qA 2) (qM (qA 3) (qM (qA 4) (qM (qA 5) (qM (qA 6) (qM (qA 7) pNil))))))) (eVar 0))
 (sSeq (sIf (qOf (e2B eqD (e2 ixD (eVar 1) (eC (.int 0))) (eC (.str "place"))))
 (sSeq sBad
 (sSeq sBad
 (sSeq sBad
 sBad)))
 sNil)
 (sSeq (sIf (qOf (e2B eqD (e2 ixD (eVar 1) (eC (.int 0))) (eC (.str "run"))))
 (sSeq (sIf (qOr (qOf (e2B ninO (e2 ixD (eVar 1) (eC (.int 1))) (eVar 2))) (qOf (e2B ninO (e2 ixD (eVar 1) (eC (.int 2))) (eVar 2))))
 (sRet (eC (.str "place")))
 sNil)
 (sSeq (sIf (qOf (e2B eqD (e2 ixD (eVar 1) (eC (.int 1))) (e2 ixD (eVar 1) (eC (.int 2)))))
 (sRet (eC (.str "astray")))
 sNil)
 (sSeq (sIf (qOr (qCmp geI (e2 ixD (eVar 1) (eC (.int 3))) (e2 ixD (eVar 1) (eC (.int 4)))) (qOr (qCmp ltI (e2 ixD (eVar 1) (eC (.int 3))) (e2 subI (eC (.int 0)) (eC (.int 40000)))) (qCmp gtI (e2 ixD (eVar 1) (eC (.int 4))) (eC (.int 40000)))))
 (sRet (eC (.str "times")))
 sNil)
 (sSeq (sIf (qCmp ltI (e2 ixD (eVar 1) (eC (.int 5))) (eC (.int 1)))
 (sRet (eC (.str "seats")))
 sNil)
 (sRet (e2 ixD (eLst (qb (eC (.str "let")) (qb (eC (.str "full")) aNil))) (e1 intD (e2 gtI (e1B lenD (eVar 3)) (eC (.int 39))))))))))
 sNil)
 (sSeq sBad
 (sSeq sBad
 sBad)))))
noncomputable def jz:List Ob->List D->RO:=zD 8 (vQ K cl T hT)
def vR(T:Hp->Prop)(hT:HTb T)(F:List D->Option D):SS (W0 T hT)->Ou (W0 T hT):=
 (sSeq (sIf (qTru (e1 (isi2 "tuple" "list") (eVar 1)))
 (sSeq (sIf (qOr (qCmp neD (e1 (isi1 "tuple") (eVar 1)) (e1 (isi1 "tuple") (eVar 0))) (qCmp neD (e1 (isi1 "list") (eVar 1)) (e1 (isi1 "list") (eVar 0))))
 (sRet (eC (.bl false)))
 sNil)
 (sSeq (sIf (qCmp neD (e1 lenD (eVar 0)) (e1 lenD (eVar 1)))
 (sRet (eC (.bl false)))
 sNil)
 (sSeq (sFor (zX (qb (e1 lenD (eVar 1)) aNil)) (qA 2)
 (sIf (qNot (qTru (wz 2 F (qb (e2 ixD (eVar 0) (eVar 2)) (qb (e2 ixD (eVar 1) (eVar 2)) aNil)))))
 (sRet (eC (.bl false)))
 sNil))
 (sRet (eC (.bl true))))))
 sNil)
 (sSeq (sIf (qCmp isND (eVar 1) (eC .non))
 (sRet (e2 isND (eVar 0) (eC .non)))
 sNil)
 (sSeq (sIf (qOr (qTru (e1 (isi1 "bool") (eVar 1))) (qTru (e1 (isi1 "bool") (eVar 0))))
 (sRet (eAnd (e1 (isi1 "bool") (eVar 1)) (eAnd (e1 (isi1 "bool") (eVar 0)) (e2 eqD (eVar 0) (eVar 1)))))
 sNil)
 (sSeq (sIf (qTru (e1 (isi1 "int") (eVar 1)))
 (sRet (eAnd (e1 (isi1 "int") (eVar 0)) (e2 eqD (eVar 0) (eVar 1))))
 sNil)
 (sRet (eAnd (e1 (isi1 "str") (eVar 0)) (e2 eqD (eVar 0) (eVar 1))))))))
def zI(T:Hp->Prop)(hT:HTb T):Nat->List D->Option D
 |0=>fun _=>none
 |n+1=>QZ 3 (vR T hT (zI T hT n))
def jm:Nat:=4
noncomputable def jx:fK K cl T hT:=
 (sIf (qOf (e2B ninO (eVar 1) (qw qe "table" 2 (okF (qj K cl T hT)) (eFld qv "ledger" (eVar 0)) (qb (eC (.str "place")) aNil))))
 (kT "NoPlace")
 sNil)
noncomputable def ze:List Ob->List D->RO:=zD 2 (jx K cl T hT)
noncomputable def xN:fK K cl T hT:=
 (sSeq (zC (qw qv "need_place" 2 (ze K cl T hT) (eVar 0) (qb (eVar 1) aNil)))
 (sSeq (zC (qw qv "need_place" 2 (ze K cl T hT) (eVar 0) (qb (eVar 2) aNil)))
 (sSeq (sIf (qOf (e2B eqD (eVar 1) (eVar 2)))
 (kT "Astray")
 sNil)
 (sSeq (sIf (qNot (qOf (yo leI ltI leI (e1 negI (eC (.int 40000))) (eVar 3) (eVar 4) (eC (.int 40000)))))
 (kT "BadTimes")
 sNil)
 (sSeq (sIf (qCmp ltI (eVar 5) (eC (.int 1)))
 (kT "BadSeats")
 sNil)
 (sSeq (sSet 6 (qw qv "many" 1 (okF (zx K cl T hT)) (eVar 0) aNil))
 (sSeq (sIf (qCmp geI (eVar 6) (eC (.int 40)))
 (kT "Full")
 sNil)
 (sSeq (sSet 7 (eTup (qb (eVar 1) (qb (eVar 2) (qb (eVar 3) (qb (eVar 4) (qb (eVar 5) aNil)))))))
 (sSeq (zC (qw qe "enter" 3 (okF (qX K cl T hT)) (eFld qv "ledger" (eVar 0)) (qb (eTup (qb (eC (.str "run")) (qb (eVar 1) (qb (eVar 2) (qb (eVar 3) (qb (eVar 4) (qb (eVar 5) aNil))))))) (qb (eLst (qb (eTup (qb (eC (.str "run")) (qb (eVar 6) (qb (eVar 7) aNil)))) aNil)) aNil))))
 (sRet (eVar 6)))))))))))
noncomputable def jg:List Ob->List D->RO:=zD 8 (xN K cl T hT)
noncomputable def JR:fK K cl T hT:=
 (sSeq (sIf (qOf (e2B eqD (e2 ixD (eVar 1) (eC (.int 0))) (eC (.str "place"))))
 sBad
 sNil)
 (sSeq (sIf (qOf (e2B eqD (e2 ixD (eVar 1) (eC (.int 0))) (eC (.str "run"))))
 (sRet (qw qv "run" 6 (jg K cl T hT) (eVar 0) (qb (e2 ixD (eVar 1) (eC (.int 1))) (qb (e2 ixD (eVar 1) (eC (.int 2))) (qb (e2 ixD (eVar 1) (eC (.int 3))) (qb (e2 ixD (eVar 1) (eC (.int 4))) (qb (e2 ixD (eVar 1) (eC (.int 5))) aNil)))))))
 sNil)
 (sSeq (sIf (qOf (e2B eqD (e2 ixD (eVar 1) (eC (.int 0))) (eC (.str "news"))))
 sBad
 sNil)
 (sSeq (sIf (qOf (e2B eqD (e2 ixD (eVar 1) (eC (.int 0))) (eC (.str "journey"))))
 sBad
 sNil)
 (sSeq (sIf (qOf (e2B eqD (e2 ixD (eVar 1) (eC (.int 0))) (eC (.str "turn"))))
 sBad
 sNil)
 (sSeq (sIf (qOf (e2B eqD (e2 ixD (eVar 1) (eC (.int 0))) (eC (.str "share"))))
 sBad
 sNil)
 (sSeq (sIf (qOf (e2B eqD (e2 ixD (eVar 1) (eC (.int 0))) (eC (.str "unshare"))))
 sBad
 sNil)
 (sSeq (sIf (qOf (e2B eqD (e2 ixD (eVar 1) (eC (.int 0))) (eC (.str "bed"))))
 sBad
 sNil)
 (sSeq (sIf (qOf (e2B eqD (e2 ixD (eVar 1) (eC (.int 0))) (eC (.str "unbed"))))
 sBad
 sNil)
 (sSeq (sIf (qOf (e2B eqD (e2 ixD (eVar 1) (eC (.int 0))) (eC (.str "mend"))))
 sBad
 sNil)
 sBad))))))))))
noncomputable def vV:List Ob->List D->RO:=zD 2 (JR K cl T hT)
noncomputable def uu:fK K cl T hT:=
 (sSeq (sSet 2 (eC (.str "none")))
 (sSeq (Jj 3 2 kw (sSet 2 (zR 2 (vV K cl T hT) (qb (eVar 0) (qb (eVar 1) aNil)))))
 (sRet (eVar 2))))
noncomputable def Q7:List Ob->List D->RO:=zD 4 (uu K cl T hT kw)
noncomputable def ve:fK K cl T hT:=
 (sRet (qw qv "ride_by" 3 (zn K cl T hT) (eVar 0) (qb (eVar 1) (qb (jI 1 [2] (iSeq (qw qv "reports" 2 (qJ K cl T hT) (eVar 0) (qb (eVar 1) aNil))) (qA 0) (qCmp leI (e2 ixD (eVar 0) (eC (.int 0))) (eVar 1)) (eVar 0)) aNil))))
noncomputable def jE:List Ob->List D->RO:=zD 3 (ve K cl T hT)
noncomputable def vq:fK K cl T hT:=
 (K9 4 2 kw (sSeq (sIf (qOf (e2B eqD (eVar 3) (eC (.int 0))))
 (zC (qw qv "told" 2 (qN K cl T hT) (eVar 0) (qb (eVar 1) aNil)))
 (sIf (qOf (e2B eqD (eVar 3) (eC (.int 1))))
 (zC (qw qv "goes" 2 (zo K cl T hT) (eVar 0) (qb (eVar 1) aNil)))
 (sIf (qOf (e2B eqD (eVar 3) (eC (.int 2))))
 (zC (qw qv "reports" 2 (qJ K cl T hT) (eVar 0) (qb (eVar 1) aNil)))
 (sIf (qOf (e2B eqD (eVar 3) (eC (.int 3))))
 (zC (qw qv "known" 3 (jE K cl T hT) (eVar 0) (qb (eVar 1) (qb (eC (.int 0)) aNil))))
 (zC (qw qv "free" 2 (zp K cl T hT) (eVar 0) (qb (eVar 1) aNil)))))))
 (zC (QJ (eVar 2) (eC (.str "let"))))))
noncomputable def JQ:fK K cl T hT:=
 (sSeq (sSet 2 (eBox (eLst aNil)))
 (sSeq (sFor (zX (qb (eC (.int 5)) aNil)) (qA 3)
 (vq K cl T hT kw))
 (sRet (eVar 2))))
noncomputable def yz:List Ob->List D->RO:=zD 5 (JQ K cl T hT kw)
noncomputable def vp:fK K cl T hT:=
 (sIf (qOf (e2B neD (zR 2 (okF (yz K cl T hT kw)) (qb (eVar 3) (qb (eVar 2) aNil))) (e2 repD (eLst (qb (eC (.str "run")) aNil)) (eC (.int 5)))))
 (sRet (eC (.bl false)))
 sNil)
noncomputable def wK:fK K cl T hT:=
 (sSeq (sSet 14 (e2 addD (eTup (qb (eVar 2) aNil)) (yn (eIxL (e2 ixD (eVar 4) (eC (.int 1))) (eVar 2)) Ve (Vd (eC (.int 4))))))
 (sIf (qNot (qTru (jS 2 (zI T hT.b jm) (qb (eTup (qb (qw qv "told" 2 (qN K cl T hT) (eVar 3) (qb (eVar 2) aNil)) (qb (qw qv "goes" 2 (zo K cl T hT) (eVar 3) (qb (eVar 2) aNil)) (qb (qw qv "free" 2 (zp K cl T hT) (eVar 3) (qb (eVar 2) aNil)) aNil)))) (qb (eTup (qb (eIxL (e2 ixD (eVar 4) (eC (.int 1))) (eVar 2)) (qb (eVar 14) (qb (e2 ixD (eIxL (e2 ixD (eVar 4) (eC (.int 1))) (eVar 2)) (eC (.int 4))) aNil)))) aNil)))))
 (sRet (eC (.bl false)))
 sNil))
noncomputable def wJ:fK K cl T hT:=
 (sSeq (sSet 6 (wz 3 (jJ T hT.b) (qb (eVar 0) (qb (e2 addD (eC (.int 2)) (eVar 1)) (qb (eC (.int 10)) aNil)))))
 (sSeq (sSet 7 (e2 addD (e2 addD (eVar 5) (eVar 5)) (eLst (qb (eC (.str "nowhere")) (qb (eC (.str "")) aNil)))))
 (sSeq (sSet 8 (e2 ixD (eLst (qb (eC (.int 0)) (qb (e2 subI (eC (.int 0)) (eC (.int 40000))) (qb (eC (.int 40000)) (qb (eC (.int 39999)) (qb (e2 subI (eC (.int 0)) (eC (.int 40001))) (qb (e2 mulI (e2 ixD (eVar 6) (eC (.int 0))) (eC (.int 7))) (qb (e2 powI (eC (.int 10)) (eC (.int 30))) (qb (e2 subI (eC (.int 0)) (e2 ixD (eVar 6) (eC (.int 0)))) aNil))))))))) (e2 modI (e2 ixD (eVar 6) (eC (.int 1))) (eC (.int 8)))))
 (sSeq (sSet 9 (e2 addD (eVar 8) (e2 ixD (eLst (qb (eC (.int 1)) (qb (eC (.int 0)) (qb (e2 subI (eC (.int 0)) (eC (.int 1))) (qb (e2 ixD (eVar 6) (eC (.int 2))) (qb (eC (.int 40000)) (qb (eC (.int 80000)) (qb (eC (.int 80001)) (qb (e2 powI (eC (.int 10)) (eC (.int 30))) aNil))))))))) (e2 modI (e2 ixD (eVar 6) (eC (.int 3))) (eC (.int 8))))))
 (sSeq (sSet 10 (e2 ixD (eLst (qb (eC (.int 1)) (qb (eC (.int 0)) (qb (e2 subI (eC (.int 0)) (eC (.int 1))) (qb (e2 ixD (eVar 6) (eC (.int 4))) (qb (e2 powI (eC (.int 10)) (eC (.int 20))) (qb (eC (.int 2)) (qb (eC (.int 3)) (qb (eC (.int 1)) aNil))))))))) (e2 modI (e2 ixD (eVar 6) (eC (.int 5))) (eC (.int 8)))))
 (sSeq (sSet 11 (eTup (qb (eC (.str "run")) (qb (e2 ixD (eVar 7) (e2 modI (e2 ixD (eVar 6) (eC (.int 6))) (e1B lenD (eVar 7)))) (qb (e2 ixD (eVar 7) (e2 modI (e2 ixD (eVar 6) (eC (.int 7))) (e1B lenD (eVar 7)))) (qb (eVar 8) (qb (eVar 9) (qb (eVar 10) aNil))))))))
 (sSeq (sSet 12 (zR 2 (okF (jz K cl T hT)) (qb (eVar 4) (qb (eVar 11) aNil))))
 (sSeq (sSet 13 (eTup (qb (eC (.str "barred")) (qb (eVar 12) aNil))))
 (sSeq (sIf (qOf (e2B eqD (eVar 12) (eC (.str "let"))))
 (sSeq (sSet 13 (e1B lenD (e2 ixD (eVar 4) (eC (.int 1)))))
 (sSet 4 (zR 2 (okF (qU K cl T hT)) (qb (eVar 4) (qb (eVar 11) aNil)))))
 sNil)
 (sIf (qOr (qNot (qTru (jS 2 (zI T hT.b jm) (qb (zR 2 (okF (Q7 K cl T hT kw)) (qb (eVar 3) (qb (eVar 11) aNil))) (qb (eVar 13) aNil))))) (qNot (qTru (jS 2 (zI T hT.b jm) (qb (qw qv "many" 1 (okF (zx K cl T hT)) (eVar 3) aNil) (qb (e1B lenD (e2 ixD (eVar 4) (eC (.int 1)))) aNil))))))
 (sRet (eC (.bl false)))
 sNil))))))))))
noncomputable def qcc:fK K cl T hT:=
 (sSeq (sAsg (pTup 3 (qM (qA 3) (qM (qA 4) (qM (qA 5) pNil)))) (zR 3 (okF (xO K cl T hT)) (qb (eVar 0) (qb (eC (.int 0)) (qb (eC (.int 0)) aNil)))))
 (sSeq (sFor (zX (qb (e2 modI (e2 ixD (wz 3 (jJ T hT.b) (qb (eVar 0) (qb (eC (.int 1)) (qb (eC (.int 1)) aNil)))) (eC (.int 0))) (eC (.int 31))) aNil)) (qA 1)
 (wJ K cl T hT kw))
 (sSeq (sFor (zX (qb (e1B lenD (e2 ixD (eVar 4) (eC (.int 1)))) aNil)) (qA 2)
 (wK K cl T hT))
 (sSeq (sFor (iSeq (eLst (qb (e2 subI (eC (.int 0)) (eC (.int 1))) (qb (e1B lenD (e2 ixD (eVar 4) (eC (.int 1)))) (qb (e2 powI (eC (.int 10)) (eC (.int 40))) aNil))))) (qA 2)
 (vp K cl T hT kw))
 (sRet (eC (.bl true)))))))
noncomputable def qck:List Ob->List D->RO:=zD 15 (qcc K cl T hT kw)
end
section
variable{a c d:D}
theorem fl_t:List.lookup ("tables":Str) [(("tables":Str),a),(("done":Str),c),(("undone":Str),d)]=some a:=rfl
theorem fl_d:List.lookup ("done":Str) [(("tables":Str),a),(("done":Str),c),(("undone":Str),d)]=some c:=rfl
theorem fl_l:List.lookup ("ledger":Str) [(("ledger":Str),a)]=some a:=rfl
theorem KF:List.lookup ("table":Str) [(("tables":Str),a),(("done":Str),c),(("undone":Str),d)]=none:=rfl
theorem qes:List.lookup ("put":Str) [(("tables":Str),a),(("done":Str),c),(("undone":Str),d)]=none:=rfl
theorem Y4:List.lookup ("enter":Str) [(("tables":Str),a),(("done":Str),c),(("undone":Str),d)]=none:=rfl
theorem Ku{x:Str}:za (.str x)=some (.inr x):=rfl
theorem YQ{i:Int}:za (.int i)=some (.inl i):=rfl
end
section
variable{W:Wo}{p:D->SS W->Option (SS W)}{t:SS W->R W Bool}{f fk fv:SS W->R W D}{h:SS W->Ou W}{g g1 g2:SS W}{b1 b2 b3:W.BS}{d y k:D}{ds acc:List D}
theorem WA(hp:p d g=some g1)(ht:t g1=.ok true b1)(hf:f ⟨g1.v,b1⟩=.ok y b2)(hl:acc.length<big):k_ p t f (d::ds) g acc=k_ p t f ds ⟨g1.v,b2⟩ (acc++[y]):=by
 rw[vo,hp];simp only[ht,hf,hl,aP]
theorem QT{n:Nat}{ix:List Nat}{fi:SS W->R W (List D)}{out:List D}(hi:fi g=.ok ds b1)(hc:k_ p t f ds (capD n ix ⟨g.v,b1⟩) []=.ok out b2):jI n ix fi p t f g=.ok (.lst out) b2:=by
 unfold jI ql;simp only[hi,hc]
theorem JL(hp:p d g=some g1)(hh:h g1=.nx g2):forD p h (d::ds) g=forD p h ds g2:=by
 rw[forD,hp];simp only[hh]
end
section
variable{W:Wo}{fa fb:SS W->R W D}{fs:SS W->R W (List D)}{v:List (Option D)}{b b1 b2:W.BS}{x y z:D}{xs:List D}
theorem e1V{op:D->Option D}(ha:fa ⟨v,b⟩=.ok x b1)(o:op x=some z):e1 op fa ⟨v,b⟩=.ok z b1:=by
 unfold e1 ql;simp only[ha,o];rfl
theorem e2V{op:D->D->Option D}(ha:fa ⟨v,b⟩=.ok x b1)(hb:fb ⟨v,b1⟩=.ok y b2)(o:op x y=some z):e2 op fa fb ⟨v,b⟩=.ok z b2:=by
 unfold e2 ql;simp only[ha,hb,o];rfl
theorem aV(ha:fa ⟨v,b⟩=.ok x b1)(hb:fs ⟨v,b1⟩=.ok xs b2):qb fa fs ⟨v,b⟩=.ok (x::xs) b2:=by
 unfold qb ql;simp only[ha,hb];rfl
theorem tupV(hb:fs ⟨v,b⟩=.ok xs b1)(hl:xs.length<=1000):eTup fs ⟨v,b⟩=.ok (.tup xs) b1:=by
 unfold eTup ql;simp only[hb,hl,aP];rfl
theorem lstV(hb:fs ⟨v,b⟩=.ok xs b1)(hl:xs.length<=1000):eLst fs ⟨v,b⟩=.ok (.lst xs) b1:=by
 unfold eLst ql;simp only[hb,hl,aP];rfl
theorem varV{i:Nat}(h:(v[i]?).join=some x):eVar i ⟨v,b⟩=.ok x b:=by unfold eVar eOpt;rw[h]
theorem um{n:Nat}{F:List D->Option D}(hb:fs ⟨v,b⟩=.ok xs b1)(hl:xs.length=n)(o:F xs=some z):wz n F fs ⟨v,b⟩=.ok z b1:=by
 unfold wz ql;simp only[hb,hl,o,aP];rfl
theorem qfv{k:Bool}(ha:fa ⟨v,b⟩=.ok x b1)(o:truD x=some k):qTru fa ⟨v,b⟩=.ok k b1:=by
 unfold qTru ql;simp only[ha,o];rfl
theorem qdb{ta:SS W->R W Bool}{k:Bool}(ha:ta ⟨v,b⟩=.ok k b1):qNot ta ⟨v,b⟩=.ok (!k) b1:=by
 unfold qNot ql;simp only[ha];rfl
theorem qofW{k:Bool}(ha:fa ⟨v,b⟩=.ok (.bl k) b1):qOf fa ⟨v,b⟩=.ok k b1:=by
 unfold qOf ql;simp only[ha];rfl
theorem Yb{ta tb:SS W->R W Bool}{k:Bool}(ha:ta ⟨v,b⟩=.ok false b1)(hb:tb ⟨v,b1⟩=.ok k b2):qOr ta tb ⟨v,b⟩=.ok k b2:=by
 unfold qOr ql;simp only[ha];exact hb
theorem qfw{ta tb:SS W->R W Bool}(ha:ta ⟨v,b⟩=.ok true b1):qOr ta tb ⟨v,b⟩=.ok true b1:=by
 unfold qOr ql;simp only[ha];rfl
end
section
variable{K:fL}{cl:Str->fR}{T:Hp->Prop}{hT:HTt T}{fa fb:fJ K cl T hT}{fs:SS (WB K cl T hT)->R (WB K cl T hT) (List D)}{v:List (Option D)}{b b1 b2:List Ob}{x y x' y' z:D}{xs ys:List D}
theorem e1BV{op:D->Option D}(ha:fa ⟨v,b⟩=.ok x b1)(d:der b1 x=some x')(o:op x'=some z):e1B op fa ⟨v,b⟩=.ok z b1:=by
 unfold e1B ql;simp only[ha,d,aC,o];rfl
theorem e2BV{op:D->D->Option D}(ha:fa ⟨v,b⟩=.ok x b1)(hb:fb ⟨v,b1⟩=.ok y b2)(d:der b2 x=some x')(e:der b2 y=some y')(o:op x' y'=some z):e2B op fa fb ⟨v,b⟩=.ok z b2:=by
 unfold e2B ql;simp only[ha,hb,d,e,aC,o];rfl
theorem xu{n:Nat}{F:List Ob->List D->RO}(hb:fs ⟨v,b⟩=.ok xs b1)(hl:xs.length=n)(o:F b1 xs=.ok z b2):zR n F fs ⟨v,b⟩=.ok z b2:=by
 unfold zR ql;simp only[hb,hl,o,aP];rfl
theorem uq{n:Nat}{F:List Ob->List D->RO}{w:Str}(hb:fs ⟨v,b⟩=.ok xs b1)(hl:xs.length=n)(o:F b1 xs=.exc w b2):zR n F fs ⟨v,b⟩=.exc ⟨w,[]⟩ b2:=by
 unfold zR ql;simp only[hb,hl,o,aP];rfl
theorem qfc{n:Nat}{F:List D->Option D}{a:V}(hb:fs ⟨v,b⟩=.ok xs b1)(hl:xs.length=n)(d:ders b1 xs=some ys)(o:F ys=some z)(ha:isAt z=some a):jS n F fs ⟨v,b⟩=.ok z b1:=by
 unfold jS ql;simp only[hb,hl,d,o,aP,aC,atO,ha];rfl
theorem qgx{i:Nat}{ds:List D}(ha:fa ⟨v,b⟩=.ok (.obj i) b1)(o:obAt b1 i=some (.lst ds))(hb:fb ⟨v,b1⟩=.ok y b1)(hl:ds.length<big):QJ fa fb ⟨v,b⟩=.ok .non (b1.set i (.lst (ds++[y]))):=by
 unfold QJ eOb ql;simp only[ha,o,YW,eOpt,hb,kApp,wt,aC,hl,aP]
theorem qf0{i:Nat}{kvs:List (Key×D)}{k:Key}{fc:fJ K cl T hT}(hv:fc ⟨v,b⟩=.ok z b1)(ha:fa ⟨v,b1⟩=.ok (.obj i) b1)(o:obAt b1 i=some (.dic kvs))(hk:fb ⟨v,b1⟩=.ok y b1)(hy:za y=some k)(hl:kvs.length<big):Qf fa fb fc ⟨v,b⟩=.nx ⟨v,b1.set i (.dic (putD kvs k z))⟩:=by
 unfold Qf sOb zc;simp only[hv,ha,o,hk,kO,aC,vt,hy,hl,aP]
theorem okFV{F:List Ob->List D->RO}{ds:List D}(e:F b ds=.ok z b1):okF F b ds=.ok z b1:=by unfold okF;rw[e];rfl
theorem Wp{i:Nat}{kvs:List (Key×D)}(h:obAt b i=some (.dic kvs)):der b (.obj i)=some (.dic kvs):=by unfold der;simp only[h]
theorem ud{i:Nat}{ds:List D}(h:obAt b i=some (.lst ds)):der b (.obj i)=some (.lst ds):=by unfold der;simp only[h]
end
section
variable{K:fL}{cl:Str->fR}{T:Hp->Prop}{hT:HTt T}{f h:fK K cl T hT}{fa:fJ K cl T hT}{t:SS (WB K cl T hT)->R (WB K cl T hT) Bool}{g g':SS (WB K cl T hT)}{n i:Nat}{ds:List D}{d:D}{b b':List Ob}{x:Str}
theorem Jc{v:List (Option D)}(e:f (zA n ds b)=.nx ⟨v,b'⟩):zD n f b ds=.ok .non b':=by unfold zD;rw[e]
theorem vf(e:f (zA n ds b)=.rt d b'):zD n f b ds=.ok d b':=by unfold zD;rw[e]
theorem xw{v:List (Option D)}(e:f (zA n ds b)=.ex ⟨x,[]⟩ ⟨v,b'⟩):zD n f b ds=.exc x b':=by unfold zD;rw[e]
theorem sqB(e:f g=.nx g'):sSeq f h g=h g':=by unfold sSeq;rw[e]
theorem xQ(e:f g=.rt d b'):sSeq f h g=.rt d b':=by unfold sSeq;rw[e]
theorem kQ{x:Xn}(e:f g=.ex x g'):sSeq f h g=.ex x g':=by unfold sSeq;rw[e]
theorem stB(e:fa g=.ok d b'):sSet i fa g=.nx ⟨g.v.set i (some d),b'⟩:=by unfold sSet zc;rw[e];rfl
theorem rtB(e:fa g=.ok d b'):sRet fa g=.rt d b':=by unfold sRet zc;rw[e]
theorem dpB(e:fa g=.ok d b'):zC fa g=.nx ⟨g.v,b'⟩:=by unfold zC zc;rw[e]
theorem j_(e:t g=.ok true b'):sIf t f h g=f ⟨g.v,b'⟩:=by unfold sIf zc;rw[e];rfl
theorem zW(e:t g=.ok false b'):sIf t f h g=h ⟨g.v,b'⟩:=by unfold sIf zc;rw[e];rfl
end
section
variable{b b':List Ob}
theorem jl{i:Nat}{o:Ob}(h:obAt b i=some o):obAt (b++l) i=some o:=by
 rw[jj (aB (ai.mp (ji h)).1)];exact h
theorem zU{i:Nat}{o:Ob}(h:obAt b i=some o):i<b.length:=(ai.mp (ji h)).1
theorem ki{o:Ob}(hg:∀k,o≠.gone k):obAt (b++[o]) b.length=some o:=kA (by simp) hg
theorem kh{i:Nat}{o:Ob}(h:i<b.length)(hg:∀k,o≠.gone k):obAt (b.set i o) i=some o:=kA (aA h) hg
theorem jt{i j:Nat}{o:Ob}(h:i≠j):obAt (b.set i o) j=obAt b j:=jj (ay h)
structure Kp(S:List Nat)(b b':List Ob)(S':List Nat):Prop where
 len:b.length<=b'.length
 out:∀i,i<b.length->i∉S->b'[i]?=b[i]?
 new:∀i∈S',i∈S\/b.length<=i
theorem Kp.refl:Kp S b b S:=⟨aj _,fun _ _ _=>rfl,fun _ h=>.inl h⟩
theorem Kp.trans{S S1 S2:List Nat}{b1 b2:List Ob}(x:Kp S b b1 S1)(y:Kp S1 b1 b2 S2):Kp S b b2 S2:=
 ⟨aW x.len y.len,fun i hi hs=>(y.out i (az hi x.len) fun z=>(x.new i z).elim hs fun q=>bI _ (az hi q)).trans (x.out i hi hs),fun i hi=>(y.new i hi).elim (x.new i) fun q=>.inr (aW x.len q)⟩
theorem Kp.app:Kp S b (b++l) S:=⟨by simp,fun i hi _=>aB hi,fun _ h=>.inl h⟩
theorem Kp.set{S:List Nat}{i:Nat}{o:Ob}(hi:i∈S\/b.length<=i):Kp S b (b.set i o) S:=⟨by simp,fun j hj hs=>ay fun q=>by subst q;exact hi.elim hs fun z=>bI _ (az hj z),fun _ h=>.inl h⟩
theorem Kp.ob{S':List Nat}(k:Kp S b b' S'){i:Nat}{o:Ob}(h:obAt b i=some o)(hs:i∉S):obAt b' i=some o:=(jj (k.out i (zU h) hs)).trans h
abbrev nmT(ps:List (Key×Nat)):List (Key×D):=ps.map fun q=>(q.1,D.obj q.2)
structure LgP(b:List Ob)(l t d u:Nat)(ps:List (Key×Nat))(M:Key->List (Key×D))(dn un:List D):Prop where
 nd:(l::t::d::u::ps.map (·.2)).Nodup
 nk:(ps.map (·.1)).Nodup
 hl:obAt b l=some (.ins qe [("tables",.obj t),("done",.obj d),("undone",.obj u)])
 ht:obAt b t=some (.dic (nmT ps))
 hd:obAt b d=some (.lst dn)
 hu:obAt b u=some (.lst un)
 hr:∀q∈ps,obAt b q.2=some (.dic (M q.1))
 hm:∀k,k∉ps.map (·.1)->M k=[]
def Lg(b:List Ob)(l:Nat)(S:List Nat)(M:Key->List (Key×D))(dn un:List D):Prop:=∃(t d u:Nat)(ps:List (Key×Nat)),S=l::t::d::u::ps.map (·.2)/\LgP b l t d u ps M dn un
variable{l t d u:Nat}{ps:List (Key×Nat)}{S:List Nat}{M:Key->List (Key×D)}{dn un:List D}
theorem LgP.frame(h:LgP b l t d u ps M dn un)(hk:∀i∈(l::t::d::u::ps.map (·.2)),obAt b' i=obAt b i):LgP b' l t d u ps M dn un:=by
 refine⟨h.nd,h.nk,(hk _ (by simp)).trans h.hl,(hk _ (by simp)).trans h.ht,(hk _ (by simp)).trans h.hd,(hk _ (by simp)).trans h.hu,fun q hq=>(hk _ ?_).trans (h.hr q hq),h.hm⟩;simp only[ah,aZ];exact .inr (.inr (.inr (.inr ⟨q,hq,rfl⟩)))
theorem Lg.frame(h:Lg b l S M dn un)(hk:∀i∈S,obAt b' i=obAt b i):Lg b' l S M dn un:=by
 obtain⟨t,d,u,ps,rfl,h⟩:=h;exact⟨t,d,u,ps,rfl,h.frame hk⟩
theorem LgP.lt(h:LgP b l t d u ps M dn un):∀i∈(l::t::d::u::ps.map (·.2)),i<b.length:=by
 intro i hi;simp only[ah,aZ]at hi;rcases hi with rfl|rfl|rfl|rfl|⟨q,hq,rfl⟩
 ·exact zU h.hl
 ·exact zU h.ht
 ·exact zU h.hd
 ·exact zU h.hu
 ·exact zU (h.hr q hq)
theorem Lg.lt(h:Lg b l S M dn un):∀i∈S,i<b.length:=by
 obtain⟨t,d,u,ps,rfl,h⟩:=h;exact h.lt
theorem Lg.app(h:Lg b l S M dn un){x:List Ob}:Lg (b++x) l S M dn un:=h.frame fun i hi=>jj (aB (h.lt i hi))
theorem w9{α β:Type}{f:α->β}:∀{xs:List α},(xs.map f).Nodup->∀{x y:α},x∈xs->y∈xs->f x=f y->x=y
 |[],_,_,_,h,_,_=>nomatch h
 |z::xs,nd,x,y,hx,hy,e=>by
  rw[a9,bN]at nd;rcases ah.mp hx with h1|h1
  ·rcases ah.mp hy with h2|h2
   ·rw[h1,h2]
   ·exact absurd (aZ.mpr ⟨y,h2,by rw[<- e,h1]⟩) nd.1
  ·rcases ah.mp hy with h2|h2
   ·exact absurd (aZ.mpr ⟨x,h1,by rw[e,h2]⟩) nd.1
   ·exact w9 nd.2 h1 h2 e
theorem JB(f:Nat->D):∀(ps:List (Key×Nat))(k:Key),qK (ps.map fun q=>(q.1,f q.2)) k=((ps.find? fun q=>decide (q.1=k)).map fun q=>f q.2)
 |[],k=>rfl
 |p::ps,k=>by
  have ih:=JB f ps k;unfold qK at ih ⊢;rw[a9,bw,bw];cases q:decide (p.1=k)with
  |true=>rfl
  |false=>exact ih
variable{K:fL}{cl:Str->fR}{T:Hp->Prop}{hT:HTt T}
theorem JZ(h:Lg b l S M dn un){w:D}{k:Key}(hw:za w=some k):∃p,qj K cl T hT b [.obj l,w]=.ok (.obj p) (b++[.dic []])/\obAt (b++[.dic []]) p=some (.dic (M k))/\(p∈S\/p=b.length):=by
 obtain⟨t,d,u,ps,rfl,nd,nk,h1,h2,h3,h4,h5,h6⟩:=h;have e:qj K cl T hT b [.obj l,w]=.ok ((qK (nmT ps) k).getD (.obj b.length)) (b++[.dic []]):=by
  simp only[qj,zD,jB,sRet,zc,Y7,ql,eFld,eOb,eVar,eOpt,zA,a9,cf,ao,aR,b8,Nat.reduceAdd,bg,cH,aF,aL,h1,fl_t,aP,wx,der,h2,aC,dicD,aO,eBox,wy,eRet,cB,JJ,getT,jl h2,hw]
 rw[JB]at e;cases ef:ps.find? (fun q=>decide (q.1=k))with
 |none=>
  rw[ef]at e;refine⟨_,e,?_,.inr rfl⟩;rw[h6 k fun z=>?_]
  ·exact ki fun _=>by simp
  ·obtain⟨q,hq,rfl⟩:=aZ.mp z
   have:=dA.mp ef q hq;simp at this
 |some q=>
  rw[ef]at e;have hq:=fj ef;have hk:q.1=k:=by simpa using List.find?_some ef
  refine⟨_,e,?_,.inl ?_⟩
  ·rw[<- hk];exact jl (h5 q hq)
  ·simp only[ah,aZ]
   exact .inr (.inr (.inr (.inr ⟨q,hq,rfl⟩)))
end
def Mput(M:Key->List (Key×D))(k q:Key)(row:D):Key->List (Key×D):=fun j=>if j=k then(match row with
 |.non=>xI (M k) q
 |_=>putD (M k) q row)else M j
theorem XI{kvs:List (Key×D)}(h:qK kvs q=none):xI kvs q=kvs:=by
 unfold xI;rw[List.filter_eq_self];intro p hp;unfold qK at h;rw[Option.map_eq_none_iff]at h;have h:=dA.mp h p hp;simpa using h
section
variable{b b':List Ob}{l t d u:Nat}{ps:List (Key×Nat)}{S:List Nat}{M:Key->List (Key×D)}{dn un:List D}
theorem uK{q:Key×Nat}(hq:q∈ps):q.2∈(l::t::d::u::ps.map (·.2)):=by
 simp only[ah,aZ];exact .inr (.inr (.inr (.inr ⟨q,hq,rfl⟩)))
theorem LgP.setRows(h:LgP b l t d u ps M dn un){k:Key}{p:Nat}{rows:List (Key×D)}(hm:(k,p)∈ps):LgP (b.set p (.dic rows)) l t d u ps (fun j=>if j=k then rows else M j) dn un:=by
 have nd:=h.nd;simp only[bN,ah,aZ,fI]at nd;have n1:p≠l:=fun z=>nd.1.2.2.2 ⟨_,hm,z⟩
 have n2:p≠t:=fun z=>nd.2.1.2.2 ⟨_,hm,z⟩
 have n3:p≠d:=fun z=>nd.2.2.1.2 ⟨_,hm,z⟩
 have n4:p≠u:=fun z=>nd.2.2.2.1 ⟨_,hm,z⟩
 refine⟨h.nd,h.nk,(jt n1).trans h.hl,(jt n2).trans h.ht,(jt n3).trans h.hd,(jt n4).trans h.hu,fun q hq=>?_,fun j hj=>?_⟩
 ·have nn:(ps.map (·.2)).Nodup:=nd.2.2.2.2
  by_cases z:q.1=k
  ·have eq:q=(k,p):=w9 h.nk hq hm z
   subst eq;simp only[aP];exact kh (zU (h.hr _ hm)) fun _=>by simp
  ·rw[aG z,jt (fun y=>z ?_)]
   ·exact h.hr q hq
   ·have:=w9 nn hm hq y
    rw[<- this]
 ·rw[aG (fun z=>hj (by rw[z];exact aZ.mpr ⟨_,hm,rfl⟩))]
  exact h.hm j hj
theorem LgP.newTab(h:LgP b l t d u ps M dn un){k:Key}(hk:k∉ps.map (·.1)) :
  LgP ((b++[Ob.dic []]).set t (.dic (nmT (ps++[(k,b.length)])))) l t d u (ps++[(k,b.length)]) M dn un:=by
 have nd:=h.nd;simp only[bN,ah,aZ,fI]at nd;have out:∀i∈(l::t::d::u::ps.map (·.2)),i≠b.length:=fun i hi z=>bI _ (z▸h.lt i hi)
 have aw:∀i o,i≠t->obAt b i=some o->obAt ((b++[Ob.dic []]).set t (.dic (nmT (ps++[(k,b.length)])))) i=some o:=fun i o hi e=>(jt (bc hi)).trans (jl e)
 refine⟨?_,?_,aw _ _ nd.1.1 h.hl,kh (by rw[ar];exact az (zU h.ht) (bT _ _)) fun _=>by simp,aw _ _ (fun z=>nd.2.1.1 z.symm) h.hd,aw _ _ (fun z=>nd.2.1.2.1 z.symm) h.hu,fun q hq=>?_,fun j hj=>?_⟩
 ·rw[bz,<- bg,<- bg,<- bg,<- bg]
  refine f7.mpr ⟨h.nd,by simp,fun x hx y hy=>?_⟩;simp at hy;rw[hy];exact out x hx
 ·rw[bz]
  refine f7.mpr ⟨h.nk,by simp,fun x hx y hy z=>?_⟩;simp at hy;rw[z,hy]at hx;exact hk hx
 ·rcases bZ.mp hq with hq|hq
  ·exact aw _ _ (fun z=>nd.2.1.2.2 ⟨q,hq,z⟩) (h.hr q hq)
  ·simp at hq
   subst hq;rw[h.hm k hk];exact(jt (fun z=>out t (by simp) z)).trans (ki fun _=>by simp)
 ·rw[bz,bZ,fI]at hj
  exact h.hm j hj.1
variable{K:fL}{cl:Str->fR}{T:Hp->Prop}{hT:HTt T}
theorem qak(ps:List (Key×Nat))(k:Key)(n:Nat)(h:k∉ps.map (·.1)):putD (nmT ps) k (.obj n)=nmT (ps++[(k,n)]):=by
 unfold putD;rw[aG]
 ·unfold nmT;rw[bz];rfl
 ·intro z
  rw[dW]at z;obtain⟨x,hx,e⟩:=z;obtain⟨q,hq,rfl⟩:=aZ.mp hx;exact h (aZ.mpr ⟨q,hq,by simpa using e⟩)
theorem uy{k:Key}:Mput M k q .non=fun j=>if j=k then xI (M k) q else M j:=rfl
theorem Q4{k:Key}{row:D}(h:row≠.non):Mput M k q row=fun j=>if j=k then putD (M k) q row else M j:=by
 unfold Mput;cases row <;> first|rfl|exact absurd rfl h
theorem Kf(h:LgP b l t d u ps M dn un){k:Key}{p:Nat}{key row:D}(hm:(k,p)∈ps)(hq:za key=some q)(hl:(M k).length<big)(x:List (Option D))(hx:x[2]?=some (some key))(h3:x[3]?=some (some row))(h4:x[4]?=some (some (.obj p))) :
  ∃b',(sIf (qCmp isND (eVar 3) (eC .non)) (zC (Vz (eVar 4) (eVar 2) (eC .non))) (Qf (eVar 4) (eVar 2) (eVar 3))) (⟨x,b⟩:SS (WB K cl T hT))=.nx ⟨x,b'⟩/\LgP b' l t d u ps (Mput M k q row) dn un/\Kp (l::t::d::u::ps.map (·.2)) b b' (l::t::d::u::ps.map (·.2)):=by
 have ho:=h.hr _ hm;have ins:=uK (l:=l) (t:=t) (d:=d) (u:=u) hm
 by_cases hn:row=.non
 ·subst hn
  rw[uy];cases el:qK (M k) q with
  |none=>
   refine⟨b,?_,?_,.refl⟩
   ·simp only[sIf,zc,qCmp,ql,e2,eVar,eOpt,h3,aL,eC,eRet,isND,asB,zC,Vz,eOb,h4,ho,vt,hx,kPop,kO,aC,hq,el,Qf,sOb,aP]
   ·rw[XI el]
    have:(fun j=>if j=k then M k else M j)=M:=by funext j;split <;> simp_all
    rw[this];exact h
  |some z=>
   refine⟨b.set p (.dic (xI (M k) q)),?_,h.setRows hm,.set (.inl ins)⟩;simp only[sIf,zc,qCmp,ql,e2,eVar,eOpt,h3,aL,eC,eRet,isND,asB,zC,Vz,eOb,h4,ho,vt,hx,kPop,kO,aC,hq,el,Qf,sOb,aP]
 ·rw[Q4 hn]
  refine⟨b.set p (.dic (putD (M k) q row)),?_,h.setRows hm,.set (.inl ins)⟩;have hi:isND row .non=some (.bl false):=by cases row <;> first|rfl|exact absurd rfl hn
  simp only[sIf,zc,qCmp,ql,e2,eVar,eOpt,h3,aL,eC,eRet,hi,asB,zC,Vz,eOb,h4,ho,vt,hx,kPop,kO,aC,hq,Qf,sOb,hl,aP];rfl
theorem qdg(h:Lg b l S M dn un){w key row:D}{k:Key}(hw:za w=some k)(hq:za key=some q)(hl:(M k).length<big)(hS:S.length<big) :
  ∃b' S',zm K cl T hT b [.obj l,w,key,row]=.ok .non b'/\Lg b' l S' (Mput M k q row) dn un/\Kp S b b' S'/\S'.length<=S.length+1:=by
 obtain⟨t,d,u,ps,rfl,h⟩:=h;have hps:ps.length<big:=by simp only[ao,ak]at hS;omega
 have lk:=JB D.obj ps k;cases ef:ps.find? (fun q=>decide (q.1=k))with
 |some r=>
  rw[ef]at lk;have hr:=fj ef;have hk:r.1=k:=by simpa using List.find?_some ef
  obtain⟨r1,p⟩:=r;subst hk;obtain⟨b',e,h',kp⟩:=Kf (K:=K) (cl:=cl) (T:=T) (hT:=hT) h (key:=key) (row:=row) hr hq hl [some (.obj l),some w,some key,some row,some (.obj p)] rfl rfl rfl;refine⟨b',_,?_,⟨t,d,u,ps,rfl,h'⟩,kp,eL _⟩;have e0:(xH (eFld qe "tables" (eVar 0)) (eVar 1)) (⟨[some (.obj l),some w,some key,some row,none],b⟩:SS (WB K cl T hT))=.ok (.obj p) b:=by
   simp only[xH,eOb,ql,eFld,eVar,eOpt,aF,aL,h.hl,fl_t,aP,h.ht,vt,aO,ye,kO,aC,hw,ak,hps,lk,bx]
  unfold zm j7;exact Jc (af (sqB (stB e0)) e)
 |none=>
  rw[ef]at lk;have hk:k∉ps.map (·.1):=fun z=>by
   obtain⟨q,hq,rfl⟩:=aZ.mp z;have:=dA.mp ef q hq;simp at this
  have h1:=h.newTab hk;have hm:(k,b.length)∈ps++[(k,b.length)]:=by simp
  obtain⟨b',e,h',kp⟩:=Kf (K:=K) (cl:=cl) (T:=T) (hT:=hT) h1 (key:=key) (row:=row) hm hq hl [some (.obj l),some w,some key,some row,some (.obj b.length)] rfl rfl rfl;have kp0:Kp (l::t::d::u::ps.map (·.2)) b ((b++[Ob.dic []]).set t (.dic (nmT (ps++[(k,b.length)])))) (l::t::d::u::(ps++[(k,b.length)]).map (·.2)):=by
   have k1:Kp (l::t::d::u::ps.map (·.2)) b ((b++[Ob.dic []]).set t (.dic (nmT (ps++[(k,b.length)])))) (l::t::d::u::ps.map (·.2)):=Kp.app.trans (.set (.inl (by simp)));refine⟨k1.len,k1.out,fun i hi=>?_⟩;rw[bz,<- bg,<- bg,<- bg,<- bg]at hi;rcases bZ.mp hi with hi|hi
   ·exact .inl hi
   ·simp at hi;exact .inr (by rw[hi];exact aj _)
  refine⟨b',_,?_,⟨t,d,u,_,rfl,h'⟩,kp0.trans kp,by simp⟩;have e0:(xH (eFld qe "tables" (eVar 0)) (eVar 1)) (⟨[some (.obj l),some w,some key,some row,none],b⟩:SS (WB K cl T hT))=.ok (.obj b.length) ((b++[Ob.dic []]).set t (.dic (nmT (ps++[(k,b.length)])))):=by
   simp only[xH,eOb,ql,eFld,eVar,eOpt,aF,aL,h.hl,fl_t,aP,h.ht,vt,aO,ye,kO,aC,hw,ak,hps,lk,cB];rw[qak ps k _ hk];rfl
  unfold zm j7;exact Jc (af (sqB (stB e0)) e)
end
theorem xk(k:Key):za (kD k)=some k:=by cases k <;> rfl
abbrev Ch:=Key×Key×D
def chD(c:Ch):D:=.tup [kD c.1,kD c.2.1,c.2.2]
def stp(M:Key->List (Key×D))(c:Ch):D:=.tup [kD c.1,kD c.2.1,(qK (M c.1) c.2.1).getD .non,c.2.2]
def Ment(M:Key->List (Key×D))(cs:List Ch):Key->List (Key×D):=cs.foldl (fun M c=>Mput M c.1 c.2.1 c.2.2) M
theorem Yc{kvs:List (Key×D)}{k:Key}{v:D}:(putD kvs k v).length<=kvs.length+1:=by
 unfold putD
 split
 ·simp
 ·simp
theorem Wi{kvs:List (Key×D)}{k:Key}:(xI kvs k).length<=kvs.length:=by unfold xI;exact List.length_filter_le _ _
theorem Q6{M:Key->List (Key×D)}{k j:Key}{row:D}:(Mput M k q row j).length<=(M j).length+1:=by
 unfold Mput
 split
 ·rename_i h
  subst h
  split
  ·exact aW Wi (eL _)
  ·exact Yc
 ·exact eL _
theorem pf_u{a c d e:D}:wX ("undone":Str) e [(("tables":Str),a),(("done":Str),c),(("undone":Str),d)]=[(("tables":Str),a),(("done":Str),c),(("undone":Str),e)]:=rfl
section
variable{b b':List Ob}{l t d u:Nat}{ps:List (Key×Nat)}{S:List Nat}{M:Key->List (Key×D)}{dn un:List D}
variable{K:fL}{cl:Str->fR}{T:Hp->Prop}{hT:HTt T}
theorem J8:∀(cs:List Ch)(b:List Ob)(acc:List D)(x y z:Option D),Lg b l S M dn un->acc.length+cs.length<big->
  ∃(w v':List Ob),k_ (pTup 3 (qM (qA 0) (qM (qA 1) (qM (qA 2) pNil)))) qAll (eTup (qb (eVar 0) (qb (eVar 1) (qb (yN (qw qe "table" 2 (okF (qj K cl T hT)) (eVar 3) (qb (eVar 0) aNil)) (eVar 1)) (qb (eVar 2) aNil))))) (cs.map chD) (⟨[x,y,z,some (.obj l)],b⟩:SS (WB K cl T hT)) acc=.ok (acc++cs.map (stp M)) v'/\v'=b++w
 |[],b,acc,x,y,z,h,hl=>⟨[],b,by rw[cf,cf,xt,aQ],(aQ b).symm⟩
 |c::cs,b,acc,x,y,z,h,hl=>by
  obtain⟨p,e,ho,_⟩:=JZ (K:=K) (cl:=cl) (T:=T) (hT:=hT) h (xk c.1);have hL:∃t d u,obAt b l=some (.ins qe [("tables",.obj t),("done",.obj d),("undone",.obj u)]):=by
   obtain⟨t,d,u,ps,rfl,h⟩:=h;exact⟨t,d,u,h.hl⟩
  obtain⟨t,d,u,hL⟩:=hL;have e1:(eTup (qb (eVar 0) (qb (eVar 1) (qb (yN (qw qe "table" 2 (okF (qj K cl T hT)) (eVar 3) (qb (eVar 0) aNil)) (eVar 1)) (qb (eVar 2) aNil))))) (⟨[some (kD c.1),some (kD c.2.1),some c.2.2,some (.obj l)],b⟩:SS (WB K cl T hT))=.ok (stp M c) (b++[Ob.dic []]):=by
   simp only[eTup,ql,qb,eVar,eOpt,aF,aL,aO,yN,qw,hL,KF,eD,aNil,eRet,ao,aR,b8,Nat.reduceAdd,ofRO,okF,okRO,e,aP,wx,der,ho,aC,dicD,YS,JJ,getT,xk,Nat.reduceLeDiff];rfl
  obtain⟨w,v',e2,e3⟩:=J8 cs (b++[Ob.dic []]) (acc++[stp M c]) (some (kD c.1)) (some (kD c.2.1)) (some c.2.2) h.app (by rw[ar,aY];rw[ao]at hl;omega);refine⟨[Ob.dic []]++w,v',?_,by rw[e3,cG]⟩;have ha:acc.length<big:=by rw[ao]at hl;omega
  rw[a9,WA (g1:=⟨[some (kD c.1),some (kD c.2.1),some c.2.2,some (.obj l)],b⟩) (b1:=b) rfl rfl e1 ha];refine af e2 ?_;rw[cG];rfl
theorem Xa:∀(cs:List Ch)(b:List Ob)(S:List Nat)(M:Key->List (Key×D))(deed st chs:D)(x y z:Option D),Lg b l S M dn un->(∀k,(M k).length+cs.length<big)->S.length+cs.length<big->
  ∃(b':List Ob)(S':List Nat)(x' y' z':Option D),forD (pTup 3 (qM (qA 4) (qM (qA 5) (qM (qA 6) pNil)))) (zC (qw qe "put" 4 (okF (zm K cl T hT)) (eVar 0) (qb (eVar 4) (qb (eVar 5) (qb (eVar 6) aNil))))) (cs.map chD) (⟨[some (.obj l),some deed,some chs,some st,x,y,z],b⟩:SS (WB K cl T hT))=.nx ⟨[some (.obj l),some deed,some chs,some st,x',y',z'],b'⟩/\Lg b' l S' (Ment M cs) dn un/\Kp S b b' S'/\S'.length<=S.length+cs.length
 |[],b,S,M,deed,st,chs,x,y,z,h,_,_=>⟨b,S,x,y,z,rfl,h,.refl,aj _⟩
 |c::cs,b,S,M,deed,st,chs,x,y,z,h,h1,h2=>by
  have hL:∃t d u,obAt b l=some (.ins qe [("tables",.obj t),("done",.obj d),("undone",.obj u)]):=by
   obtain⟨t,d,u,ps,rfl,h⟩:=h;exact⟨t,d,u,h.hl⟩
  obtain⟨t,d,u,hL⟩:=hL;rw[ao]at h2;obtain⟨b1,S1,e,h',kp,hS⟩:=qdg (K:=K) (cl:=cl) (T:=T) (hT:=hT) (row:=c.2.2) h (xk c.1) (xk c.2.1) (by have:=h1 c.1;rw[ao]at this;omega) (by omega);obtain⟨b2,S2,x',y',z',e2,h'',kp2,hS2⟩:=Xa cs b1 S1 _ deed st chs (some (kD c.1)) (some (kD c.2.1)) (some c.2.2) h' (fun k=>by have:=h1 k;rw[ao]at this;have:=Q6 (M:=M) (k:=c.1) (q:=c.2.1) (j:=k) (row:=c.2.2);omega) (by omega);refine⟨b2,S2,x',y',z',?_,h'',kp.trans kp2,by rw[ao];omega⟩;have e1:(zC (qw qe "put" 4 (okF (zm K cl T hT)) (eVar 0) (qb (eVar 4) (qb (eVar 5) (qb (eVar 6) aNil))))) (⟨[some (.obj l),some deed,some chs,some st,some (kD c.1),some (kD c.2.1),some c.2.2],b⟩:SS (WB K cl T hT))=.nx ⟨[some (.obj l),some deed,some chs,some st,some (kD c.1),some (kD c.2.1),some c.2.2],b1⟩:=by
   simp only[zC,zc,qw,ql,eVar,eOpt,aF,aL,hL,qes,eD,qb,aO,aNil,eRet,ao,aR,b8,Nat.reduceAdd,ofRO,okF,okRO,e,aP]
  rw[a9,JL (g1:=⟨[some (.obj l),some deed,some chs,some st,some (kD c.1),some (kD c.2.1),some c.2.2],b⟩) rfl e1];exact e2
theorem LgP.done(h:LgP b l t d u ps M dn un){dn':List D}:LgP (((b.set d (.lst dn'))++[Ob.lst []]).set l (.ins qe [("tables",.obj t),("done",.obj d),("undone",.obj b.length)])) l t d b.length ps M dn' []/\Kp (l::t::d::u::ps.map (·.2)) b (((b.set d (.lst dn'))++[Ob.lst []]).set l (.ins qe [("tables",.obj t),("done",.obj d),("undone",.obj b.length)])) (l::t::d::b.length::ps.map (·.2)):=by
 have nd:=h.nd;simp only[bN,ah,aZ,fI]at nd;have lt:=h.lt;have out:∀i∈(l::t::d::u::ps.map (·.2)),i≠b.length:=fun i hi z=>bI _ (z▸lt i hi)
 have bl:(b.set d (.lst dn')).length=b.length:=aS;have aw:∀i o,i≠l->i≠d->obAt b i=some o->obAt (((b.set d (.lst dn'))++[Ob.lst []]).set l (.ins qe [("tables",.obj t),("done",.obj d),("undone",.obj b.length)])) i=some o:=fun i o h1 h2 e=>(jt (bc h1)).trans (jl ((jt (bc h2)).trans e))
 refine⟨⟨?_,h.nk,kh (by rw[ar,bl];exact az (zU h.hl) (bT _ _)) (fun _=>by simp),aw _ _ (fun z=>nd.1.1 z.symm) nd.2.1.1 h.ht,(jt nd.1.2.1).trans (jl (kh (zU h.hd) fun _=>by simp)),?_,fun q hq=>aw _ _ (fun z=>nd.1.2.2.2 ⟨q,hq,z⟩) (fun z=>nd.2.2.1.2 ⟨q,hq,z⟩) (h.hr q hq),h.hm⟩,?_⟩
 ·have nm:∀{x},x∈(l::t::d::u::ps.map (·.2))->x≠b.length:=fun hx=>out _ hx
  simp only[bN,ah,aZ,fI];refine⟨⟨nd.1.1,nd.1.2.1,nm (by simp),nd.1.2.2.2⟩,⟨nd.2.1.1,nm (by simp),nd.2.1.2.2⟩,⟨nm (by simp),nd.2.2.1.2⟩,fun⟨q,hq,z⟩=>nm (uK hq) z,nd.2.2.2.2⟩
 ·rw[jt (out l (by simp))]
  have:=ki (b:=b.set d (.lst dn')) (o:=Ob.lst []) fun _=>by simp
  rw[bl]at this;exact this
 ·have k:Kp (l::t::d::u::ps.map (·.2)) b (((b.set d (.lst dn'))++[Ob.lst []]).set l (.ins qe [("tables",.obj t),("done",.obj d),("undone",.obj b.length)])) (l::t::d::u::ps.map (·.2)):=(Kp.set (.inl (by simp))).trans (Kp.app.trans (.set (.inl (by simp))))
  refine⟨k.len,k.out,fun i hi=>?_⟩;simp only[ah]at hi ⊢;rcases hi with h|h|h|h|h
  ·exact .inl (.inl h)
  ·exact .inl (.inr (.inl h))
  ·exact .inl (.inr (.inr (.inl h)))
  ·exact .inr (Nat.le_of_eq h.symm)
  ·exact .inl (.inr (.inr (.inr (.inr h))))
theorem KJ(h:Lg b l S M dn un){deed:D}{cs:List Ch}(h1:∀k,(M k).length+cs.length<big)(h2:S.length+cs.length<big)(h3:dn.length<big)(h4:cs.length<big) :
  ∃(b':List Ob)(S':List Nat),qX K cl T hT b [.obj l,deed,.lst (cs.map chD)]=.ok .non b'/\Lg b' l S' (Ment M cs) (dn++[.tup [deed,.tup (cs.map (stp M))]]) []/\Kp S b b' S'/\S'.length<=S.length+cs.length:=by
 obtain⟨w,v',f1,f2⟩:=J8 (K:=K) (cl:=cl) (T:=T) (hT:=hT) cs b [] none none none h (by simpa using h4);rw[cH]at f1;have hb:Lg v' l S M dn un:=by rw[f2];exact h.app
 have kb:Kp S b v' S:=by rw[f2];exact .app
 obtain⟨b1,S1,x',y',z',e3,h5,kp,hS⟩:=Xa (K:=K) (cl:=cl) (T:=T) (hT:=hT) cs v' S M deed (.lst (cs.map (stp M))) (.lst (cs.map chD)) none none none hb h1 h2;obtain⟨t,d,u,ps,rfl,h6⟩:=h5;obtain⟨h7,k7⟩:=h6.done (dn':=dn++[.tup [deed,.tup (cs.map (stp M))]]);refine⟨_,_,?_,⟨t,d,b1.length,ps,rfl,h7⟩,(kb.trans kp).trans k7,by simpa using hS⟩;have nd:=h6.nd;simp only[bN,ah,aZ,fI]at nd;have s1:(sSet 3 (jI 3 [0] (iSeq (eVar 2)) (pTup 3 (qM (qA 0) (qM (qA 1) (qM (qA 2) pNil)))) qAll (eTup (qb (eVar 0) (qb (eVar 1) (qb (yN (qw qe "table" 2 (okF (qj K cl T hT)) (eVar 3) (qb (eVar 0) aNil)) (eVar 1)) (qb (eVar 2) aNil))))))) (⟨[some (.obj l),some deed,some (.lst (cs.map chD)),none,none,none,none],b⟩:SS (WB K cl T hT))=.nx ⟨[some (.obj l),some deed,some (.lst (cs.map chD)),some (.lst (cs.map (stp M))),none,none,none],v'⟩:=by
  refine stB (d:=.lst (cs.map (stp M))) ?_;exact QT (hi:=rfl) f1
 have s2:(sFor (iSeq (eVar 2)) (pTup 3 (qM (qA 4) (qM (qA 5) (qM (qA 6) pNil)))) (zC (qw qe "put" 4 (okF (zm K cl T hT)) (eVar 0) (qb (eVar 4) (qb (eVar 5) (qb (eVar 6) aNil)))))) (⟨[some (.obj l),some deed,some (.lst (cs.map chD)),some (.lst (cs.map (stp M))),none,none,none],v'⟩:SS (WB K cl T hT))=.nx ⟨[some (.obj l),some deed,some (.lst (cs.map chD)),some (.lst (cs.map (stp M))),x',y',z'],b1⟩:=e3;have s3:(zC (QJ (eFld qe "done" (eVar 0)) (eTup (qb (eVar 1) (qb (e1 Za (eVar 3)) aNil))))) (⟨[some (.obj l),some deed,some (.lst (cs.map chD)),some (.lst (cs.map (stp M))),x',y',z'],b1⟩:SS (WB K cl T hT))=.nx ⟨[some (.obj l),some deed,some (.lst (cs.map chD)),some (.lst (cs.map (stp M))),x',y',z'],b1.set d (.lst (dn++[.tup [deed,.tup (cs.map (stp M))]]))⟩:=by
  simp only[zC,zc,QJ,eOb,ql,eFld,eVar,eOpt,aF,aL,h6.hl,fl_d,aP,h6.hd,YW,eTup,qb,aO,e1,Za,qad,bx,aNil,eRet,ao,aR,b8,Nat.reduceAdd,Nat.reduceLeDiff,kApp,wt,aC,h3]
 have s4:(vJ qe "undone" (eVar 0) (eBox (eLst aNil))) (⟨[some (.obj l),some deed,some (.lst (cs.map chD)),some (.lst (cs.map (stp M))),x',y',z'],b1.set d (.lst (dn++[.tup [deed,.tup (cs.map (stp M))]]))⟩:SS (WB K cl T hT))=.nx ⟨[some (.obj l),some deed,some (.lst (cs.map chD)),some (.lst (cs.map (stp M))),x',y',z'],((b1.set d (.lst (dn++[.tup [deed,.tup (cs.map (stp M))]])))++[Ob.lst []]).set l (.ins qe [("tables",.obj t),("done",.obj d),("undone",.obj b1.length)])⟩:=by
  have hl2:obAt ((b1.set d (.lst (dn++[.tup [deed,.tup (cs.map (stp M))]])))++[Ob.lst []]) l=some (.ins qe [("tables",.obj t),("done",.obj d),("undone",.obj u)]):=jl ((jt (fun z=>nd.1.2.1 z.symm)).trans h6.hl);simp only[vJ,zc,eBox,ql,eLst,aNil,eRet,eOpt,aR,bW,aP,aS,cB,sOb,eVar,aF,aL,hl2,ao,b8,Nat.reduceAdd,fH,pf_u];rfl
 unfold qX kc;exact Jc (af (sqB s1) (af (sqB s2) (af (sqB s3) s4)))
end
end M
namespace M
open PySem L2 X2
variable{α:Type}{ix:List Nat}{lo:Int}
section
variable{T:Hp->Prop}{hT:HTb T}{B:Hp->Co->fP->Prop}{hB:HBb B}{p:D->SS (W1 T hT B hB)->Option (SS (W1 T hT B hB))}{t:SS (W1 T hT B hB)->R (W1 T hT B hB) Bool}{f:SS (W1 T hT B hB)->R (W1 T hT B hB) D}{h:SS (W1 T hT B hB)->Ou (W1 T hT B hB)}
theorem uO{I:List D->SS (W1 T hT B hB)->Prop}:∀(ds done:List D)(g:SS (W1 T hT B hB)),I done g->(∀dn d g,(∃r,done++ds=dn++d::r)->I dn g->∃g1 g2,p d g=some g1/\h g1=.nx g2/\I (dn++[d]) g2)->∃g',forD p h ds g=.nx g'/\I (done++ds) g'
 |[],done,g,i,_=>⟨g,rfl,by simpa using i⟩
 |d::ds,done,g,i,st=>by
  obtain⟨g1,g2,e1,e2,i2⟩:=st done d g ⟨ds,rfl⟩ i;obtain⟨g',e3,i3⟩:=uO ds (done++[d]) g2 i2 (fun dn d g h=>st dn d g (by simpa using h));refine⟨g',?_,by simpa using i3⟩;unfold forD;simp only[e1,e2,e3]
theorem X5{I:List D->SS (W1 T hT B hB)->Prop}{ds:List D}{g:SS (W1 T hT B hB)}(i:I [] g)(st:∀dn d g,(∃r,ds=dn++d::r)->I dn g->∃g1 g2,p d g=some g1/\h g1=.nx g2/\I (dn++[d]) g2):∃g',forD p h ds g=.nx g'/\I ds g':=by
 have:=uO (p:=p) (h:=h) (I:=I) ds [] g i (by simpa using st);simpa using this
theorem JW{I:Nat->SS (W1 T hT B hB)->Prop}{Post:SS (W1 T hT B hB)->Prop}(st:∀n g,I n g->(t g=.ok false ()/\Post g)\/(t g=.ok true ()/\∃g2 n',h g=.nx g2/\n'<n/\I n' g2)):∀(fuel n:Nat)(g:SS (W1 T hT B hB)),I n g->n<fuel->∃g',xP t h fuel g=.nx g'/\Post g'
 |0,n,g,_,hl=>absurd hl (by omega)
 |fuel+1,n,g,i,hl=>by
  unfold xP;rcases st n g i with⟨e,pg⟩|⟨e,g2,n',e2,hn,i2⟩
  ·simp only[e]
   exact⟨_,rfl,pg⟩
  ·simp only[e]
   rw[show(⟨g.v,()⟩:SS (W1 T hT B hB))=g from rfl];simp only[e2];exact JW st fuel n' g2 i2 (by omega)
theorem Q8{I:Nat->SS (W1 T hT B hB)->Prop}{Post:SS (W1 T hT B hB)->Prop}{n:Nat}{g:SS (W1 T hT B hB)}(i:I n g)(hl:n<Vw)(st:∀n g,I n g->(t g=.ok false ()/\Post g)\/(t g=.ok true ()/\∃g2 n',h g=.nx g2/\n'<n/\I n' g2)):∃g',Zj t h g=.nx g'/\Post g':=JW st Vw n g i hl
theorem zq{a b:SS (W1 T hT B hB)->Ou (W1 T hT B hB)}{g g':SS (W1 T hT B hB)}(e:a g=.nx g'):sSeq a b g=b g':=by unfold sSeq;rw[e]
theorem VY{a b:SS (W1 T hT B hB)->Ou (W1 T hT B hB)}{g:SS (W1 T hT B hB)}{d:D}(e:a g=.rt d ()):sSeq a b g=.rt d ():=by unfold sSeq;rw[e]
theorem kK{i:Nat}{g:SS (W1 T hT B hB)}{d:D}(e:f g=.ok d ()):sSet i f g=.nx ⟨g.v.set i (some d),()⟩:=by unfold sSet zc;rw[e];rfl
theorem if_t{a b:SS (W1 T hT B hB)->Ou (W1 T hT B hB)}{g:SS (W1 T hT B hB)}(e:t g=.ok true ()):sIf t a b g=a g:=by unfold sIf zc;rw[e];rfl
theorem if_f{a b:SS (W1 T hT B hB)->Ou (W1 T hT B hB)}{g:SS (W1 T hT B hB)}(e:t g=.ok false ()):sIf t a b g=b g:=by unfold sIf zc;rw[e];rfl
theorem vO{n:Nat}{ds:List D}{d:D}(e:h (zA n ds ())=.rt d ()):QZ n h ds=some d:=by unfold QZ;rw[e]
theorem wU{g:SS (W1 T hT B hB)}{d:D}(e:f g=.ok d ()):sRet f g=.rt d ():=by unfold sRet zc;rw[e]
theorem WQ{i:Nat}{g:SS (W1 T hT B hB)}{ds:List D}{y:D}(hg:(g.v[i]?).join=some (.lst ds))(e:f g=.ok y ())(hl:ds.length<big):sApp i f g=.nx ⟨g.v.set i (some (.lst (ds++[y]))),()⟩:=by
 unfold sApp W6 zc sPut;simp only[hg,e,hl,aP];rfl
theorem uN{fi:SS (W1 T hT B hB)->R (W1 T hT B hB) (List D)}{ds:List D}{g g':SS (W1 T hT B hB)}(e:fi g=.ok ds ())(e2:forD p h ds g=.nx g'):sFor fi p h g=.nx g':=by unfold sFor zc;rw[e];exact e2
theorem qp{i:Nat}{g:SS (W1 T hT B hB)}{d:D}(h:(g.v[i]?).join=some d):eVar i g=.ok d ():=by unfold eVar eOpt;rw[h];rfl
theorem c_ok{g:SS (W1 T hT B hB)}{d:D}:eC d g=.ok d ():=rfl
theorem zY{op:D->Option D}{fa:SS (W1 T hT B hB)->R (W1 T hT B hB) D}{g:SS (W1 T hT B hB)}{x z:D}(a:fa g=.ok x ())(o:op x=some z):e1 op fa g=.ok z ():=by
 unfold e1 ql eOpt;rw[a];simp only[o]
theorem qP{op:D->D->Option D}{fa fb:SS (W1 T hT B hB)->R (W1 T hT B hB) D}{g:SS (W1 T hT B hB)}{x y z:D}(a:fa g=.ok x ())(b:fb g=.ok y ())(o:op x y=some z):e2 op fa fb g=.ok z ():=by
 have b':fb ⟨g.v,()⟩=.ok y ():=b;unfold e2 ql eOpt;rw[a];simp only[b',o]
theorem q_ok{op:D->D->Option D}{fa fb:SS (W1 T hT B hB)->R (W1 T hT B hB) D}{g:SS (W1 T hT B hB)}{x y:D}{z:Bool}(a:fa g=.ok x ())(b:fb g=.ok y ())(o:op x y=some (.bl z)):qCmp op fa fb g=.ok z ():=by
 unfold qCmp ql;rw[qP a b o];rfl
theorem Jd{g:SS (W1 T hT B hB)}:aNil g=.ok [] ():=rfl
theorem ku{fa:SS (W1 T hT B hB)->R (W1 T hT B hB) D}{fs:SS (W1 T hT B hB)->R (W1 T hT B hB) (List D)}{g:SS (W1 T hT B hB)}{x:D}{xs:List D}(a:fa g=.ok x ())(b:fs g=.ok xs ()):qb fa fs g=.ok (x::xs) ():=by
 have b':fs ⟨g.v,()⟩=.ok xs ():=b;unfold qb ql eRet;rw[a];simp only[b']
theorem qb9{n:Nat}{F:List D->Option D}{fs:SS (W1 T hT B hB)->R (W1 T hT B hB) (List D)}{g:SS (W1 T hT B hB)}{xs:List D}{z:D}(b:fs g=.ok xs ())(hl:xs.length=n)(o:F xs=some z):wz n F fs g=.ok z ():=by
 unfold wz ql eOpt;rw[b];simp only[hl,aP,o]
theorem Ks{fs:SS (W1 T hT B hB)->R (W1 T hT B hB) (List D)}{g:SS (W1 T hT B hB)}{xs:List D}(b:fs g=.ok xs ())(hl:xs.length<=1000):eLst fs g=.ok (.lst xs) ():=by
 unfold eLst ql eOpt;rw[b];simp only[hl,aP]
theorem qfg{ta tb:SS (W1 T hT B hB)->R (W1 T hT B hB) Bool}{g:SS (W1 T hT B hB)}{z:Bool}(a:ta g=.ok true ())(b:tb g=.ok z ()):qAnd ta tb g=.ok z ():=by
 have b':tb ⟨g.v,()⟩=.ok z ():=b;unfold qAnd ql;rw[a];exact b'
theorem qgz{ta tb:SS (W1 T hT B hB)->R (W1 T hT B hB) Bool}{g:SS (W1 T hT B hB)}(a:ta g=.ok false ()):qAnd ta tb g=.ok false ():=by
 unfold qAnd ql;rw[a];rfl
theorem or_t{ta tb:SS (W1 T hT B hB)->R (W1 T hT B hB) Bool}{g:SS (W1 T hT B hB)}(a:ta g=.ok true ()):qOr ta tb g=.ok true ():=by
 unfold qOr ql;rw[a];rfl
theorem or_f{ta tb:SS (W1 T hT B hB)->R (W1 T hT B hB) Bool}{g:SS (W1 T hT B hB)}{z:Bool}(a:ta g=.ok false ())(b:tb g=.ok z ()):qOr ta tb g=.ok z ():=by
 have b':tb ⟨g.v,()⟩=.ok z ():=b;unfold qOr ql;rw[a];exact b'
theorem qd3{ta:SS (W1 T hT B hB)->R (W1 T hT B hB) Bool}{g:SS (W1 T hT B hB)}{z:Bool}(a:ta g=.ok z ()):qNot ta g=.ok (!z) ():=by
 unfold qNot ql;rw[a];rfl
theorem jY{fa:SS (W1 T hT B hB)->R (W1 T hT B hB) D}{g:SS (W1 T hT B hB)}{x:D}{z:Bool}(a:fa g=.ok x ())(o:truD x=some z):qTru fa g=.ok z ():=by
 unfold qTru ql eOpt;rw[a];simp only[o]
theorem W8{j:Int}(h:-(2 ^ 62)<=j/\j<2 ^ 62):rng1 [.int j]=some (rngD 0 j.toNat):=aH h
theorem Kd{n:Nat}(h:n<2 ^ 62):rng1 [.int (n:Int)]=some (rngD 0 n):=by
 have e:=W8 (j:=(n:Int)) ⟨by omega,by omega⟩;rw[cY]at e;exact e
theorem qdv{o:Option (List D)}{ds:List D}{g:SS (W1 T hT B hB)}(h:o=some ds):eOpt o g=.ok ds ():=by rw[h];rfl
theorem V7{fs:SS (W1 T hT B hB)->R (W1 T hT B hB) (List D)}{g:SS (W1 T hT B hB)}{n:Nat}(b:fs g=.ok [.int (n:Int)] ())(h:n<2 ^ 62):zX fs g=.ok (rngD 0 n) ():=by
 have e:=qdv (T:=T) (hT:=hT) (B:=B) (hB:=hB) (g:=⟨g.v,()⟩) (Kd h);unfold zX ql;rw[b];exact e
theorem ok_t{t:SS (W1 T hT B hB)->R (W1 T hT B hB) Bool}{g:SS (W1 T hT B hB)}{p:Prop}[Decidable p](a:t g=.ok (decide p) ())(h:p):t g=.ok true ():=by rw[a,aX h]
theorem ok_f{t:SS (W1 T hT B hB)->R (W1 T hT B hB) Bool}{g:SS (W1 T hT B hB)}{p:Prop}[Decidable p](a:t g=.ok (decide p) ())(h:¬ p):t g=.ok false ():=by rw[a,aK h]
theorem ok_c{t:SS (W1 T hT B hB)->R (W1 T hT B hB) α}{g:SS (W1 T hT B hB)}{x y:α}(a:t g=.ok x ())(h:x=y):t g=.ok y ():=by rw[a,h]
theorem kF{I:SS (W1 T hT B hB)->Prop}{Pd:D->D->Prop}:∀(ds:List D)(g:SS (W1 T hT B hB))(acc:List D),I g->(∀d∈ds,∀g,I g->∃g1,p d g=some g1/\I g1/\((t g1=.ok true ()/\∃y,f g1=.ok y ()/\Pd d y)\/t g1=.ok false ()))->acc.length+ds.length<=big->
  ∃ys,k_ p t f ds g acc=.ok (acc++ys) ()/\ys.length<=ds.length/\∀y∈ys,∃d∈ds,Pd d y
 |[],g,acc,_,_,_=>⟨[],by rw[xt];simp;rfl,aj _,fun y hy=>(nomatch hy)⟩
 |d::ds,g,acc,i,st,hb=>by
  obtain⟨g1,e1,i1,e2⟩:=st d (aN ..) g i;have hb2:acc.length<big:=by simp at hb;omega
  have st':=fun d hd=>st d (aD _ hd)
  rw[vo];rcases e2 with⟨e2,y,e3,py⟩|e2
  ·obtain⟨ys,e4,l4,p4⟩:=kF ds g1 (acc++[y]) i1 st' (by simp at hb ⊢;omega)
   refine⟨y::ys,?_,by simp;omega,fun z hz=>?_⟩
   ·simp only[e1,e2]
    rw[show(⟨g1.v,()⟩:SS (W1 T hT B hB))=g1 from rfl];simp only[e3,hb2,aP];rw[show(⟨g1.v,()⟩:SS (W1 T hT B hB))=g1 from rfl,e4];simp
   ·rcases ah.mp hz with rfl|hz
    ·exact⟨d,aN ..,py⟩
    ·obtain⟨d',h1,h2⟩:=p4 z hz
     exact⟨d',aD _ h1,h2⟩
  ·obtain⟨ys,e4,l4,p4⟩:=kF ds g1 acc i1 st' (by simp at hb;omega)
   refine⟨ys,?_,by simp;omega,fun z hz=>?_⟩
   ·simp only[e1,e2]
    rw[show(⟨g1.v,()⟩:SS (W1 T hT B hB))=g1 from rfl,e4]
   ·obtain⟨d',h1,h2⟩:=p4 z hz
    exact⟨d',aD _ h1,h2⟩
theorem uk{I:SS (W1 T hT B hB)->Prop}{Pd:D->D->Prop}{n:Nat}{fi:SS (W1 T hT B hB)->R (W1 T hT B hB) (List D)}{ds:List D}{g:SS (W1 T hT B hB)}(hi:fi g=.ok ds ())(i0:I (capD n ix g))(st:∀d∈ds,∀g,I g->∃g1,p d g=some g1/\I g1/\((t g1=.ok true ()/\∃y,f g1=.ok y ()/\Pd d y)\/t g1=.ok false ()))(hb:ds.length<=big) :
  ∃ys,jI n ix fi p t f g=.ok (.lst ys) ()/\ys.length<=ds.length/\∀y∈ys,∃d∈ds,Pd d y:=by
 obtain⟨ys,e,l,q⟩:=kF ds (capD n ix g) [] i0 st (by simpa using hb);refine⟨ys,?_,l,q⟩;unfold jI ql;simp only[hi];rw[show(⟨g.v,()⟩:SS (W1 T hT B hB))=g from rfl,e];simp
theorem vK{n:Nat}:(rngD lo n).length=n:=by unfold rngD;simp
theorem qag{n i:Nat}(h:i<n):(rngD lo n)[i]?=some (.int (lo+i)):=by
 unfold rngD;rw[aq,eP h];rfl
theorem qaf{n:Nat}{d:D}(h:d∈rngD lo n):∃k:Nat,k<n/\d=.int (lo+k):=by
 unfold rngD at h;obtain⟨k,hk,rfl⟩:=aZ.mp h;exact⟨k,eX.mp hk,rfl⟩
theorem xA{n:Nat}{dn r:List D}{d:D}(h:rngD 0 n=dn++d::r):d=.int (dn.length:Int)/\dn.length<n:=by
 have hl:dn.length<n:=by
  have:=bU List.length h;rw[vK]at this;simp at this;omega
 have e:=qag (lo:=0) hl;rw[h,aJ (aj _),Nat.sub_self]at e;simp at e;exact⟨by rw[e],hl⟩
theorem qez{x y:α}{g:SS (W1 T hT B hB)}{fa:SS (W1 T hT B hB)->R (W1 T hT B hB) α}(h:fa g=.ok x ())(e:x=y):fa g=.ok y ():=by rw[h,e]
theorem YU{fa fb:SS (W1 T hT B hB)->R (W1 T hT B hB) D}{g:SS (W1 T hT B hB)}{x:Str}{y z:D}(a:fa g=.ok (.str x) ())(b:fb g=.ok y ())(o:qbl (.str x) y=some z):Wa fa fb g=.ok z ():=by
 have b':fb ⟨g.v,()⟩=.ok y ():=b;unfold Wa ql eOpt;rw[a];simp only[];rw[b'];simp only[o]
theorem QU{α:Type}{emb:α->D}{I:SS (W1 T hT B hB)->Prop}{sel:α->Bool}{out:α->D}:∀(xs:List α)(g:SS (W1 T hT B hB))(acc:List D),I g->(∀x∈xs,∀g,I g->∃g1,p (emb x) g=some g1/\I g1/\t g1=.ok (sel x) ()/\(sel x=true->f g1=.ok (out x) ()))->acc.length+xs.length<=big->
  k_ p t f (xs.map emb) g acc=.ok (acc++(xs.filter sel).map out) ()
 |[],g,acc,_,_,_=>by rw[cf,xt];simp;rfl
 |d::ds,g,acc,i,st,hb=>by
  obtain⟨g1,e1,i1,e2,e3⟩:=st d (aN ..) g i;have hb2:acc.length<big:=by simp at hb;omega
  have st':=fun d hd=>st d (aD _ hd)
  rw[a9,vo];simp only[e1,e2];cases es:sel d with
  |true=>
   have e3:=e3 es;have eg:(⟨g1.v,()⟩:SS (W1 T hT B hB))=g1:=rfl;simp only[eg,e3,hb2,aP];rw[QU ds g1 (acc++[out d]) i1 st' (by simp at hb ⊢;omega)];simp[es]
  |false=>
   simp only[];rw[show(⟨g1.v,()⟩:SS (W1 T hT B hB))=g1 from rfl,QU ds g1 acc i1 st' (by simp at hb;omega)];simp[es]
theorem Wx{emb:α->D}{I:SS (W1 T hT B hB)->Prop}{sel:α->Bool}{out:α->D}{n:Nat}{fi:SS (W1 T hT B hB)->R (W1 T hT B hB) (List D)}{xs:List α}{g:SS (W1 T hT B hB)}(hi:fi g=.ok (xs.map emb) ())(i0:I (capD n ix g))(st:∀x∈xs,∀g,I g->∃g1,p (emb x) g=some g1/\I g1/\t g1=.ok (sel x) ()/\(sel x=true->f g1=.ok (out x) ()))(hb:xs.length<=big) :
  jI n ix fi p t f g=.ok (.lst ((xs.filter sel).map out)) ():=by
 unfold jI ql;simp only[hi];rw[show(⟨g.v,()⟩:SS (W1 T hT B hB))=g from rfl,QU xs (capD n ix g) [] i0 st (by simpa using hb)];simp
end
theorem Jw{i j:Int}(h1:-(2 ^ 64)<i)(h2:i<2 ^ 64):mulI (.int i) (.int j)=some (.int (i * j)):=by
 exact aH (Or.inl ⟨h1,h2⟩)
theorem mul_r{i j:Int}(h1:-(2 ^ 64)<j)(h2:j<2 ^ 64):mulI (.int i) (.int j)=some (.int (i * j)):=by
 exact aH (Or.inr ⟨h1,h2⟩)
theorem jL{i j:Int}(h:0<j):modI (.int i) (.int j)=some (.int (i % j)):=aH h
theorem X7{i j:Int}(h:0<j)(h2:j<1073741824):yg (.int i) (.int j)=some (.int (i / j)):=aH ⟨h,h2⟩
theorem pw18:powI (.int 10) (.int 18)=some (.int (10 ^ 18)):=rfl
theorem yx{i j:Int}:addD (.int i) (.int j)=some (.int (i+j)):=rfl
theorem Jh{i j:Int}:subI (.int i) (.int j)=some (.int (i - j)):=rfl
theorem lt_i{i j:Int}:ltI (.int i) (.int j)=some (.bl (decide (i<j))):=rfl
theorem le_i{i j:Int}:leI (.int i) (.int j)=some (.bl (decide (i<=j))):=rfl
theorem gt_i{i j:Int}:gtI (.int i) (.int j)=some (.bl (decide (j<i))):=rfl
theorem ge_i{i j:Int}:geI (.int i) (.int j)=some (.bl (decide (j<=i))):=rfl
theorem qbf{ds:List D}:lenD (.lst ds)=some (.int ds.length):=rfl
theorem Vj{ds:List D}:lenD (.scr ds)=some (.int ds.length):=rfl
theorem at_l{xs:List α}{i:Nat}:atI xs (i:Int)=xs[i]?:=by
 unfold atI ixN
 by_cases h:i<xs.length
 ·simp[h]
 ·simp[h]
theorem ix_l{ds:List D}{i:Nat}:ixD (.lst ds) (.int (i:Int))=ds[i]?:=at_l
theorem ix_s{ds:List D}{i:Nat}:ixD (.scr ds) (.int (i:Int))=ds[i]?:=at_l
theorem XR{ds:List D}{i:Int}(h:0<=i):ixD (.lst ds) (.int i)=ds[i.toNat]?:=by
 obtain⟨k,rfl⟩:=d8 h;exact at_l
section
variable(T:Hp->Prop)(hT:HTb T)
def Drawn(vs:fV)(n:Nat):Prop:=vs.length=n/\∀v∈vs,0<=v/\v<1013
def isD(vs:fV):List D:=vs.map .int
theorem jM{vs:fV}:(isD vs).length=vs.length:=ak ..
theorem QC{vs:fV}{i:Nat}:(isD vs)[i]?=(vs[i]?).map .int:=aq ..
theorem Kx{vs:fV}{v:Int}:isD vs++[.int v]=isD (vs++[v]):=by unfold isD;simp
theorem QK(ins:fV)(at_ many:Nat)(h1:at_<100000)(h2:many<=1000):∃vs,jJ T hT [.scr (isD ins),.int at_,.int many]=some (.lst (isD vs))/\Drawn vs many:=by
 have ha1:-(2 ^ 64:Int)<(at_:Int):=by omega
 have ha2:(at_:Int)<2 ^ 64:=by omega
 unfold jJ Q2;have m1:mulI (.int 7) (.int at_)=some (.int (7 * at_)):=Jw (by decide) (by decide);have cell:∃c:Int,∀(r:SS (W0 T hT)->Ou (W0 T hT)),sSeq (sIf (qCmp ltI (eVar 1) (e1 lenD (eVar 0)))
   (sSet 3 (e2 ixD (eVar 0) (eVar 1)))
   (sIf (qCmp gtI (e1 lenD (eVar 0)) (eC (.int 0)))
   (sSet 3 (e2 addD (e2 addD (e2 modI (e2 ixD (eVar 0) (e2 modI (eVar 1) (e1 lenD (eVar 0)))) (eC (.int 999983))) (e2 mulI (e2 mulI (eVar 1) (eVar 1)) (eC (.int 97)))) (eC (.int 1))))
   sNil)) r ⟨[some (.scr (isD ins)),some (.int at_),some (.int many),some (.int (7 * at_+1)),none,none,none],()⟩=r ⟨[some (.scr (isD ins)),some (.int at_),some (.int many),some (.int c),none,none,none],()⟩:=by
  by_cases hl:at_<ins.length
  ·refine⟨ins[at_],fun r=>?_⟩
   have e1:(isD ins)[at_]?=some (.int ins[at_]):=by rw[QC,aa hl];rfl
   have e2:((at_:Int)<(isD ins).length):=by rw[jM];omega
   refine zq ?_;rw[if_t (ok_t (q_ok (qp rfl) (zY (qp rfl) Vj) lt_i) e2)];exact(kK (d:=.int ins[at_]) (qP (qp rfl) (qp rfl) (ix_s.trans e1))).trans rfl
  ·have e2:¬ ((at_:Int)<(isD ins).length):=by rw[jM];omega
   by_cases hz:ins.length=0
   ·refine⟨7 * at_+1,fun r=>zq ?_⟩
    rw[if_f (ok_f (q_ok (qp rfl) (zY (qp rfl) Vj) lt_i) e2)];rw[if_f (ok_f (q_ok (zY (qp rfl) Vj) c_ok gt_i) (by rw[jM,hz];decide))];rfl
   ·have hp:(0:Int)<(isD ins).length:=by rw[jM];omega
    have hm:at_ % ins.length<ins.length:=Nat.mod_lt _ (by omega);have e3:((at_:Int) % ((isD ins).length:Int))=((at_ % ins.length:Nat):Int):=by rw[jM];rfl
    obtain⟨x,e4⟩:∃x:Int,(isD ins)[at_ % ins.length]?=some (.int x):=⟨ins[at_ % ins.length],by rw[QC,aa hm];rfl⟩;have m2:mulI (.int at_) (.int at_)=some (.int ((at_:Int) * at_)):=Jw ha1 ha2;have m3:mulI (.int ((at_:Int) * at_)) (.int 97)=some (.int ((at_:Int) * at_ * 97)):=mul_r (by decide) (by decide);have m4:modI (.int x) (.int 999983)=some (.int (x % 999983)):=jL (by decide);obtain⟨y,hy⟩:∃y:Int,addD (.int (x % 999983+(at_:Int) * at_ * 97)) (.int 1)=some (.int y):=⟨_,rfl⟩;refine⟨y,fun r=>zq ?_⟩;rw[if_f (ok_f (q_ok (qp rfl) (zY (qp rfl) Vj) lt_i) e2)];rw[if_t (ok_t (q_ok (zY (qp rfl) Vj) c_ok gt_i) hp)];have q3:(M.e2 modI (M.e2 ixD (eVar 0) (M.e2 modI (eVar 1) (M.e1 lenD (eVar 0)))) (eC (.int 999983))) (⟨[some (.scr (isD ins)),some (.int at_),some (.int many),some (.int (7 * at_+1)),none,none,none],()⟩:SS (W0 T hT))=.ok (.int (x % 999983)) ():=qP (qP (qp rfl) (qP (qp rfl) (zY (qp rfl) Vj) (jL hp)) (by rw[e3];exact ix_s.trans e4)) c_ok m4;have q4:(M.e2 mulI (M.e2 mulI (eVar 1) (eVar 1)) (eC (.int 97))) (⟨[some (.scr (isD ins)),some (.int at_),some (.int many),some (.int (7 * at_+1)),none,none,none],()⟩:SS (W0 T hT))=.ok (.int ((at_:Int) * at_ * 97)) ():=qP (qP (qp rfl) (qp rfl) m2) c_ok m3;have q5:=qP (qP q3 q4 yx) (c_ok (d:=.int 1)) hy;exact kK q5
 obtain⟨c,cell⟩:=cell;let S (c sd:Int) (vs:fV) (mk:Option D):SS (W0 T hT):=⟨[some (.scr (isD ins)),some (.int at_),some (.int many),some (.int c),some (.int sd),some (.lst (isD vs)),mk],()⟩;have mod1:∀x:Int,0<=x % 1013/\x % 1013<1013:=fun x=>⟨d9 _ (by decide),cU _ (by decide)⟩
 have snoc:∀{vs:fV}{n:Nat}(x:Int),Drawn vs n->Drawn (vs++[x % 1013]) (n+1):=fun x⟨a,b⟩=>⟨by simp[a],fun v hv=>by
  rcases bZ.mp hv with z|z
  ·exact b v z
  ·rw[cT.mp z];exact mod1 x⟩
 have w1:∀sd:Int,∃(vs:fV)(c':Int),Drawn vs vs.length/\vs.length<=many/\sIf (qCmp geI (eVar 3) (e2 powI (eC (.int 10)) (eC (.int 18))))
   (Zj (qAnd (qCmp gtI (eVar 3) (eC (.int 0))) (qCmp ltI (e1 lenD (eVar 5)) (eVar 2)))
   (sSeq (sApp 5 (e2 modI (eVar 3) (eC (.int 1013))))
   (sSet 3 (e2 yg (eVar 3) (eC (.int 1013))))))
   sNil (S c sd [] none)=.nx (S c' sd vs none):=fun sd=>by
  have pw:=pw18;have tst:(qCmp geI (eVar 3) (e2 powI (eC (.int 10)) (eC (.int 18)))) (S c sd [] none)=.ok (decide ((10 ^ 18:Int)<=c)) ():=q_ok (qp rfl) (qP c_ok c_ok pw) ge_i
  by_cases hc:(10 ^ 18:Int)<=c
  ·rw[if_t (ok_t tst hc)]
   obtain⟨g',e,vs,c',h3,h4,rfl⟩:=Q8 (T:=T) (hT:=hT) (B:=B0) (hB:=hB0) (t:=qAnd (qCmp gtI (eVar 3) (eC (.int 0))) (qCmp ltI (e1 lenD (eVar 5)) (eVar 2))) (h:=sSeq (sApp 5 (e2 modI (eVar 3) (eC (.int 1013)))) (sSet 3 (e2 yg (eVar 3) (eC (.int 1013)))))
    (I:=fun n g=>∃vs c',Drawn vs vs.length/\vs.length<=many/\n=many - vs.length/\g=S c' sd vs none) (Post:=fun g=>∃vs c',Drawn vs vs.length/\vs.length<=many/\g=S c' sd vs none) (n:=many) (g:=S c sd [] none) ⟨[],c,⟨rfl,fun v hv=>(nomatch hv)⟩,bW _,rfl,rfl⟩ (by unfold Vw;omega) (by
     rintro n g ⟨vs,c',h3,h4,hn,rfl⟩;have t1:(qCmp gtI (eVar 3) (eC (.int 0))) (S c' sd vs none)=.ok (decide (0<c')) ():=q_ok (qp rfl) c_ok gt_i;have t2:(qCmp ltI (e1 lenD (eVar 5)) (eVar 2)) (S c' sd vs none)=.ok (decide (((isD vs).length:Int)<many)) ():=q_ok (zY (qp rfl) qbf) (qp rfl) lt_i
     by_cases hp:0<c'
     ·by_cases hl:vs.length<many
      ·right
       have hl2:((isD vs).length:Int)<many:=by rw[jM];omega
       refine⟨qfg (ok_t t1 hp) (ok_t t2 hl2),S (c' / 1013) sd (vs++[c' % 1013]) none,many - (vs.length+1),?_,by omega,vs++[c' % 1013],c' / 1013,?_,?_,?_,rfl⟩
       ·refine(zq (WQ (ds:=isD vs) (y:=.int (c' % 1013)) rfl (qP (qp rfl) c_ok (jL (by decide))) (by rw[jM];unfold big;omega))).trans ?_
        rw[Kx];exact kK (d:=.int (c' / 1013)) (qP (qp rfl) c_ok (X7 (by decide) (by decide)))
       ·have:=snoc c' h3;rw[ar];exact this
       ·simp;omega
       ·simp
      ·left
       have hl2:¬ ((isD vs).length:Int)<many:=by rw[jM];omega
       exact⟨qfg (ok_t t1 hp) (ok_f t2 hl2),vs,c',h3,h4,rfl⟩
     ·left
      exact⟨qgz (ok_f t1 hp),vs,c',h3,h4,rfl⟩)
   exact⟨vs,c',h3,h4,e⟩
  ·refine⟨[],c,⟨rfl,fun v hv=>(nomatch hv)⟩,bW _,?_⟩
   rw[if_f (ok_f tst hc)];rfl
 obtain⟨vs1,c',d1,l1,w1⟩:=w1 (c % 999983+31 * at_+5);obtain⟨g',w2,vs,sd',mk,d2,rfl⟩:=Q8 (T:=T) (hT:=hT) (B:=B0) (hB:=hB0) (t:=qCmp ltI (e1 lenD (eVar 5)) (eVar 2)) (h:=(sSeq (sSet 6 (e2 addD (e1 lenD (eVar 5)) (eC (.int 1))))
 (sSeq (sSet 4 (e2 modI (e2 addD (e2 addD (e2 mulI (eVar 4) (eC (.int 48271))) (e2 mulI (e2 mulI (eVar 6) (eVar 6)) (eC (.int 6133)))) (eC (.int 17))) (eC (.int 2147483647))))
 (sApp 5 (e2 modI (e2 modI (e2 mulI (e2 modI (eVar 4) (eC (.int 65521))) (e2 addD (e2 modI (e2 yg (eVar 4) (eC (.int 65521))) (eC (.int 32749))) (eC (.int 1)))) (eC (.int 1000003))) (eC (.int 1013)))))))
  (I:=fun n g=>∃vs sd mk,Drawn vs vs.length/\vs.length<=many/\n=many - vs.length/\g=S c' sd vs mk) (Post:=fun g=>∃vs sd mk,Drawn vs many/\g=S c' sd vs mk) (n:=many - vs1.length) (g:=S c' (c % 999983+31 * at_+5) vs1 none) ⟨vs1,_,none,d1,l1,rfl,rfl⟩ (by unfold Vw;omega) (by
   rintro n g ⟨vs,sd,mk,h3,h4,hn,rfl⟩;have t2:(qCmp ltI (e1 lenD (eVar 5)) (eVar 2)) (S c' sd vs mk)=.ok (decide (((isD vs).length:Int)<many)) ():=q_ok (zY (qp rfl) qbf) (qp rfl) lt_i
   by_cases hl:vs.length<many
   ·right
    have hl2:((isD vs).length:Int)<many:=by rw[jM];omega
    have hv:(isD vs).length<=1000:=by rw[jM];omega
    obtain⟨k,hk⟩:∃k:Int,((isD vs).length:Int)+1=k:=⟨_,rfl⟩;have k1:-(2 ^ 64)<k:=by omega
    have k2:k<2 ^ 64:=by omega
    have a8:∀x y:Int,mulI (.int (x % 65521)) (.int y)=some (.int (x % 65521 * y)):=fun x y=>Jw (by have:=d9 x (show(65521:Int)≠0 by decide);omega) (by have:=cU x (show(0:Int)<65521 by decide);omega)
    have p1:(e2 addD (e1 lenD (eVar 5)) (eC (.int 1))) (S c' sd vs mk)=.ok (.int k) ():=ok_c (qP (zY (qp rfl) qbf) c_ok yx) (by rw[hk]);obtain⟨sd2,p2⟩:∃sd2:Int,(e2 modI (e2 addD (e2 addD (e2 mulI (eVar 4) (eC (.int 48271))) (e2 mulI (e2 mulI (eVar 6) (eVar 6)) (eC (.int 6133)))) (eC (.int 17))) (eC (.int 2147483647))) (S c' sd vs (some (.int k)))=.ok (.int sd2) ():=⟨_,qP (qP (qP (qP (qp rfl) c_ok (mul_r (by decide) (by decide))) (qP (qP (qp rfl) (qp rfl) (Jw k1 k2)) c_ok (mul_r (by decide) (by decide))) yx) c_ok yx) c_ok (jL (by decide))⟩;obtain⟨v,p3⟩:∃v:Int,(e2 modI (e2 modI (e2 mulI (e2 modI (eVar 4) (eC (.int 65521))) (e2 addD (e2 modI (e2 yg (eVar 4) (eC (.int 65521))) (eC (.int 32749))) (eC (.int 1)))) (eC (.int 1000003))) (eC (.int 1013))) (S c' sd2 vs (some (.int k)))=.ok (.int (v % 1013)) ():=⟨_,qP (qP (qP (qP (qp rfl) c_ok (jL (by decide))) (qP (qP (qP (qp rfl) c_ok (X7 (by decide) (by decide))) c_ok (jL (by decide))) c_ok yx) (a8 _ _)) c_ok (jL (by decide))) c_ok (jL (by decide))⟩;refine⟨ok_t t2 hl2,S c' sd2 (vs++[v % 1013]) (some (.int k)),many - (vs.length+1),?_,by omega,_,_,_,?_,?_,?_,rfl⟩
    ·refine(zq (kK p1)).trans ?_
     refine(zq (kK p2)).trans ?_;refine(WQ (ds:=isD vs) (y:=.int (v % 1013)) rfl p3 (by unfold big;omega)).trans ?_;rw[Kx];rfl
    ·have:=snoc v h3;rw[ar];exact this
    ·simp;omega
    ·simp
   ·left
    have hl2:¬ ((isD vs).length:Int)<many:=by rw[jM];omega
    have he:vs.length=many:=by omega
    exact⟨ok_f t2 hl2,vs,sd,mk,by rw[<- he];exact h3,rfl⟩)
 refine⟨vs,vO ?_,d2⟩;have s1:(e2 addD (e2 mulI (eC (.int 7)) (eVar 1)) (eC (.int 1))) (zA 7 [.scr (isD ins),.int at_,.int many] ():SS (W0 T hT))=.ok (.int (7 * at_+1)) ():=qP (qP c_ok (qp rfl) m1) c_ok yx;have s2:(e2 addD (e2 addD (e2 modI (eVar 3) (eC (.int 999983))) (e2 mulI (eC (.int 31)) (eVar 1))) (eC (.int 5))) (⟨[some (.scr (isD ins)),some (.int at_),some (.int many),some (.int c),none,none,none],()⟩:SS (W0 T hT))=.ok (.int (c % 999983+31 * at_+5)) ():=qP (qP (qP (qp rfl) c_ok (jL (by decide))) (qP c_ok (qp rfl) (Jw (by decide) (by decide))) yx) c_ok yx;generalize 7 * (at_:Int)+1=c0 at s1 cell
 generalize c % 999983+31 * (at_:Int)+5=sd0 at s2 w1 w2
 refine(zq (kK s1)).trans ?_;refine(cell _).trans ?_;refine(zq (kK s2)).trans ?_;refine(zq (kK (d:=.lst []) (Ks Jd (by decide)))).trans ?_;refine(zq w1).trans ?_;refine(zq w2).trans ?_;exact wU (qp rfl)
end
theorem len_app(x y:Str):(x++y).length=x.length+y.length:=by show(x.cps++y.cps).size=_;rw[Array.size_append];rfl
def gv(vs:fV)(i:Int):Int:=vs.getD i.toNat 0
theorem gv_b{vs:fV}{n:Nat}(h:Drawn vs n)(i:Int):0<=gv vs i/\gv vs i<1013:=by
 unfold gv;rw[bE];cases e:vs[i.toNat]? with
 |none=>exact⟨by decide,by decide⟩
 |some v=>exact h.2 v (aM e)
theorem dri{vs:fV}{n:Nat}(h:Drawn vs n){i:Int}(h0:0<=i)(h1:i<n):ixD (.lst (isD vs)) (.int i)=some (.int (gv vs i)):=by
 rw[XR h0,QC];have hl:i.toNat<vs.length:=by rw[h.1];omega
 unfold gv;rw[bE,aa hl];rfl
theorem Jo(ms:fV){i:Int}(h0:0<=i)(h1:i<ms.length):∃m,m∈ms/\ixD (.lst (isD ms)) (.int i)=some (.int m):=by
 have hl:i.toNat<ms.length:=by omega
 refine⟨ms[i.toNat],cR hl,?_⟩;rw[XR h0,QC,aa hl];rfl
theorem qdl(ds:List D){i:Int}(h0:0<=i)(h1:i<ds.length):∃d,d∈ds/\ixD (.lst ds) (.int i)=some d:=by
 have hl:i.toNat<ds.length:=by omega
 exact⟨ds[i.toNat],cR hl,by rw[XR h0,aa hl]⟩
theorem qci{x y:Str}(h:x.length+y.length<=1000000):addD (.str x) (.str y)=some (.str (x++y)):=aH h
theorem qgb:abc.length+("0123456789":Str).length<=1000000:=by decide +kernel
theorem kN{x j:Int}(h:0<j):0<=x % j/\x % j<j:=⟨d9 _ (by omega),cU _ h⟩
theorem y_:∀{ys:List D},(∀y∈ys,∃c:Nat,y=.str ⟨#[c]⟩)->∃ts:fT,wk ys=some ts/\ts.length=ys.length/\∀t∈ts,t.length=1
 |[],_=>⟨[],rfl,rfl,fun t h=>(nomatch h)⟩
 |y::ys,h=>by
  obtain⟨ts,e,l,q⟩:=y_ (ys:=ys) fun y hy=>h y (aD _ hy)
  obtain⟨c,rfl⟩:=h y (aN ..);refine⟨⟨#[c]⟩::ts,?_,by simp[l],fun t ht=>?_⟩
  ·unfold wk
   rw[e]
  ·rcases ah.mp ht with rfl|ht
   ·rfl
   ·exact q t ht
section
variable(T:Hp->Prop)(hT:HTb T)
end
end M
namespace M
open PySem PySem.Spec PyProof.Rows L2 X2
section
variable{X:Cx}{pins:fM}{σ:L2.St}{H:Hp}{s:Shared}{c:Co}
end
end M
namespace M
open PySem L2 X2
def PlN:Nat->D->Prop
 |0,_=>False
 |n+1,d=>match d with
  |.lst xs=>xs.length<2 ^ 60/\∀x∈xs,PlN n x
  |.tup xs=>xs.length<2 ^ 60/\∀x∈xs,PlN n x
  |.non=>True
  |.bl _=>True
  |.int _=>True
  |.str _=>True
  |_=>False
section
variable(T:Hp->Prop)(hT:HTb T)
theorem qd4(a:Bool):neD (.bl a) (.bl a)=some (.bl false):=by cases a <;> rfl
theorem ne_int(a:Int):neD (.int a) (.int a)=some (.bl false):=by
 show some (D.bl (!(a == a)))=_;rw[c8];rfl
theorem eq_int(a:Int):eqD (.int a) (.int a)=some (.bl true):=by
 show some (D.bl (a == a))=_;rw[c8]
theorem eq_str(a:Str):eqD (.str a) (.str a)=some (.bl true):=by
 show some (D.bl (a == a))=_;rw[c8]
theorem qgo(a:Bool):eqD (.bl a) (.bl a)=some (.bl true):=by
 show some (D.bl (a == a))=_;rw[c8]
theorem K0{fa fb:SS (W0 T hT)->R (W0 T hT) D}{g:SS (W0 T hT)}{x:D}(a:fa g=.ok (.bl true) ())(b:fb g=.ok x ()):eAnd fa fb g=.ok x ():=by
 unfold eAnd ql;rw[a];exact b
theorem J9{n:Nat}{d:D}{xs:List D}(hl:xs.length<2 ^ 60)(h1:isi2 "tuple" "list" d=some (.bl true)){bt bl:Bool}(h2:isi1 "tuple" d=some (.bl bt))(h3:isi1 "list" d=some (.bl bl))(h4:lenD d=some (.int xs.length))(h5:∀i,i<xs.length->∃x∈xs,ixD d (.int (i:Nat))=some x)(ih:∀x∈xs,zI T hT n [x,x]=some (.bl true)):zI T hT (n+1) [d,d]=some (.bl true):=by
 refine vO ?_;unfold vR;refine VY ?_;refine(if_t (jY (zY (qp rfl) h1) rfl)).trans ?_;refine(zq ((if_f (or_f (q_ok (zY (qp rfl) h2) (zY (qp rfl) h2) (qd4 bt)) (q_ok (zY (qp rfl) h3) (zY (qp rfl) h3) (qd4 bl)))).trans rfl)).trans ?_;refine(zq ((if_f (q_ok (zY (qp rfl) h4) (zY (qp rfl) h4) (ne_int _))).trans rfl)).trans ?_;have h6:zX (qb (M.e1 lenD (eVar 1)) aNil) (zA 3 [d,d] ():SS (W0 T hT))=.ok (rngD 0 xs.length) ():=V7 (ku (zY (qp rfl) h4) Jd) (by omega);obtain⟨g',e,o,rfl⟩:=X5 (T:=T) (hT:=hT) (B:=B0) (hB:=hB0) (p:=(qA 2)) (h:=(sIf (qNot (qTru (wz 2 (zI T hT n) (qb (M.e2 ixD (eVar 0) (eVar 2)) (qb (M.e2 ixD (eVar 1) (eVar 2)) aNil))))) (sRet (eC (.bl false))) sNil)) (I:=fun _ g=>∃o,g=⟨[some d,some d,o],()⟩) (ds:=rngD 0 xs.length) (g:=zA 3 [d,d] ()) ⟨none,rfl⟩ fun dn y g⟨r,er⟩⟨o,eg⟩=>by
  subst eg;obtain⟨ey,hlt⟩:=xA er;subst ey;obtain⟨x,hx,ex⟩:=h5 dn.length hlt;refine⟨_,_,rfl,(if_f (qd3 (jY (qb9 (ku (qP (qp rfl) (qp rfl) ex) (ku (qP (qp rfl) (qp rfl) ex) Jd)) rfl (ih x hx)) rfl))).trans rfl,_,rfl⟩
 exact(zq (uN h6 e)).trans (wU c_ok)
theorem qej{xs:List D}{i:Nat}(h:i<xs.length)(hl:xs.length<2 ^ 60):ixD (.lst xs) (.int (i:Nat))=some xs[i]/\ixD (.tup xs) (.int (i:Nat))=some xs[i]:=by
 have e:xs[i]?=some xs[i]:=aa h;exact⟨ix_l.trans e,(at_l:atI xs (i:Int)=xs[i]?).trans e⟩
theorem Ji:∀(n:Nat)(d:D),PlN n d->zI T hT n [d,d]=some (.bl true)
 |0,_,h=>h.elim
 |n+1,.lst xs,h=>J9 T hT h.1 rfl rfl rfl rfl (fun i hi=>⟨xs[i],cR hi,(qej hi h.1).1⟩) fun x hx=>Ji n x (h.2 x hx)
 |n+1,.tup xs,h=>J9 T hT h.1 rfl rfl rfl rfl (fun i hi=>⟨xs[i],cR hi,(qej hi h.1).2⟩) fun x hx=>Ji n x (h.2 x hx)
 |n+1,.non,_=>rfl
 |n+1,.bl b,_=>by
  refine vO ?_;unfold vR;refine af (zq (af (if_f (jY (x:=.bl false) (zY (qp rfl) rfl) rfl)) rfl)) ?_;refine af (zq (af (if_f (q_ok (qp rfl) c_ok rfl)) rfl)) ?_;refine VY (af (if_t (or_t (jY (x:=.bl true) (zY (qp rfl) rfl) rfl))) ?_);exact wU (K0 T hT (zY (qp rfl) rfl) (K0 T hT (zY (qp rfl) rfl) (qP (qp rfl) (qp rfl) (qgo b))))
 |n+1,.int b,_=>by
  refine vO ?_;unfold vR;refine af (zq (af (if_f (jY (x:=.bl false) (zY (qp rfl) rfl) rfl)) rfl)) ?_;refine af (zq (af (if_f (q_ok (qp rfl) c_ok rfl)) rfl)) ?_;refine af (zq (af (if_f (or_f (jY (x:=.bl false) (zY (qp rfl) rfl) rfl) (jY (x:=.bl false) (zY (qp rfl) rfl) rfl))) rfl)) ?_;refine VY (af (if_t (jY (x:=.bl true) (zY (qp rfl) rfl) rfl)) ?_);exact wU (K0 T hT (zY (qp rfl) rfl) (qP (qp rfl) (qp rfl) (eq_int b)))
 |n+1,.str b,_=>by
  refine vO ?_;unfold vR;refine af (zq (af (if_f (jY (x:=.bl false) (zY (qp rfl) rfl) rfl)) rfl)) ?_;refine af (zq (af (if_f (q_ok (qp rfl) c_ok rfl)) rfl)) ?_;refine af (zq (af (if_f (or_f (jY (x:=.bl false) (zY (qp rfl) rfl) rfl) (jY (x:=.bl false) (zY (qp rfl) rfl) rfl))) rfl)) ?_;refine af (zq (af (if_f (jY (x:=.bl false) (zY (qp rfl) rfl) rfl)) rfl)) ?_;exact wU (K0 T hT (zY (qp rfl) rfl) (qP (qp rfl) (qp rfl) (eq_str b)))
end
end M
namespace M
open PySem PySem.Spec PyProof.Rows L2 X2
variable{S0:List Nat}{ahead span:Int}{b1 b2:List Ob}{C:Addr}{m:Str}
def SGN:Str:="abcdefghijklmnopqrstuvwxyz0123456789"
def sg(c:Nat):Bool:=!(Builtin.Str.occurrences SGN ⟨#[c]⟩ 0 SGN.length 1).isEmpty
def gnm(x:Str):Bool:=(decide ((1:Int)<=x.length) && decide ((x.length:Int)<=12)) && x.cps.toList.all sg
section
variable{W:Wo}{fa fb fc:SS W->R W D}{v:List (Option D)}{b:W.BS}{x y z:Int}{a c:Bool}
theorem QV(ha:fa ⟨v,b⟩=.ok (.int x) b)(hb:fb ⟨v,b⟩=.ok (.int y) b)(hc:fc ⟨v,b⟩=.ok (.int z) b):vG leI leI fa fb fc ⟨v,b⟩=.ok (.bl (decide (x<=y) && decide (y<=z))) b:=by
 unfold vG ql;simp only[ha,hb,le_i];cases decide (x<=y)with
 |false=>rfl
 |true=>simp only[hc];rfl
theorem qofV(ha:fa ⟨v,b⟩=.ok (.bl a) b):qOf fa ⟨v,b⟩=.ok a b:=by
 unfold qOf ql;simp only[ha];rfl
theorem qfx{ta:SS W->R W Bool}(ha:ta ⟨v,b⟩=.ok a b):qNot ta ⟨v,b⟩=.ok (!a) b:=by
 unfold qNot ql;simp only[ha];rfl
theorem qfy{ta tb:SS W->R W Bool}(ha:ta ⟨v,b⟩=.ok a b)(hb:tb ⟨v,b⟩=.ok c b):qAnd ta tb ⟨v,b⟩=.ok (a && c) b:=by
 unfold qAnd ql;simp only[ha];cases a with
 |false=>rfl
 |true=>exact hb
theorem qorV{ta tb:SS W->R W Bool}(ha:ta ⟨v,b⟩=.ok a b)(hb:tb ⟨v,b⟩=.ok c b):qOr ta tb ⟨v,b⟩=.ok (a || c) b:=by
 unfold qOr ql;simp only[ha];cases a with
 |false=>exact hb
 |true=>rfl
theorem qgy(ha:fa ⟨v,b⟩=.ok (.bl a) b)(hb:fb ⟨v,b⟩=.ok (.bl c) b):eAnd fa fb ⟨v,b⟩=.ok (.bl (a && c)) b:=by
 unfold eAnd ql;simp only[ha];cases a with
 |false=>rfl
 |true=>exact hb
end
section
variable(T:Hp->Prop)(hT:HTb T)
theorem Z_(f:Nat->Bool):∀cs:List Nat,we (cs.map fun c=>D.bl (f c))=some (cs.map f)
 |[]=>rfl
 |c::cs=>by
  rw[a9];show(we _).map _=_;rw[Z_ f cs];rfl
theorem qbs{x:Str}(hx:x.length<=1000):jy T hT [.str x]=some (.bl (gnm x)):=by
 unfold jy vP;refine vO (wU ?_);have hl:lenD (.str x)=some (.int x.length):=aH (by omega);have c2:(jI 1 [] (qbr (eVar 0)) (qA 0) qAll (e2 inO (eVar 0) (eC (.str "abcdefghijklmnopqrstuvwxyz0123456789")))) (⟨[some (.str x)],()⟩:SS (W0 T hT))=.ok (.lst ((x.cps.toList.filter fun _=>true).map fun c=>D.bl (sg c))) ():=by
  refine Wx (T:=T) (hT:=hT) (B:=B0) (hB:=hB0) (emb:=fun c:Nat=>D.str ⟨#[c]⟩) (I:=fun g=>∃z,g=⟨[z],()⟩) (sel:=fun _=>true) (out:=fun c=>D.bl (sg c)) (xs:=x.cps.toList) rfl ⟨none,rfl⟩ ?_ ?_
  ·rintro c _ g ⟨z,rfl⟩
   exact⟨⟨[some (.str ⟨#[c]⟩)],()⟩,rfl,⟨_,rfl⟩,rfl,fun _=>rfl⟩
  ·have:x.cps.toList.length=x.length:=bK ..
   rw[this];unfold big;omega
 rw[show(x.cps.toList.filter fun _=>true)=x.cps.toList from List.filter_eq_self.mpr fun _ _=>rfl]at c2;exact qgy (v:=[some (.str x)]) (QV c_ok (zY (qp rfl) hl) c_ok) (zY c2 (by
  show(we _).map _=_;rw[Z_];simp))
end
def Bk(b:List Ob)(n:Nat)(S:List Nat)(M:Key->List (Key×D))(dn un:List D):Prop:=∃(l:Nat)(S0:List Nat),S=n::S0/\n∉S0/\obAt b n=some (.ins qv [("ledger",.obj l)])/\Lg b l S0 M dn un
section
variable{b b':List Ob}{n:Nat}{S:List Nat}{M:Key->List (Key×D)}{dn un:List D}
theorem Bk.lt(h:Bk b n S M dn un):∀i∈S,i<b.length:=by
 obtain⟨l,S0,rfl,hn,ho,h⟩:=h;intro i hi;rcases ah.mp hi with rfl|hi
 ·exact zU ho
 ·exact h.lt i hi
theorem Bk.frame(h:Bk b n S M dn un)(hk:∀i∈S,obAt b' i=obAt b i):Bk b' n S M dn un:=by
 obtain⟨l,S0,rfl,hn,ho,h⟩:=h;exact⟨l,S0,rfl,hn,(hk n (by simp)).trans ho,h.frame fun i hi=>hk i (by simp[hi])⟩
theorem Bk.app(h:Bk b n S M dn un){x:List Ob}:Bk (b++x) n S M dn un:=h.frame fun i hi=>jj (aB (h.lt i hi))
theorem Bk.kp{S0':List Nat}(h:Bk b n S M dn un)(k:Kp S0 b b' S0')(hd:∀i∈S,i∉S0):Bk b' n S M dn un:=h.frame fun i hi=>jj (k.out i (h.lt i hi) (hd i hi))
theorem Kp.cons{S S':List Nat}(k:Kp S b b' S'):Kp (n::S) b b' (n::S'):=
 ⟨k.len,fun i hi hs=>k.out i hi fun z=>hs (by simp[z]),fun i hi=>by
  rcases ah.mp hi with rfl|hi
  ·exact .inl (by simp)
  ·exact(k.new i hi).imp (fun z=>by simp[z]) id⟩
theorem Bk.led{l:Nat}{S':List Nat}{M':Key->List (Key×D)}{dn' un':List D}(hn:n∉S0)(ho:obAt b n=some (.ins qv [("ledger",.obj l)]))(k:Kp S0 b b' S')(h:Lg b' l S' M' dn' un'):Bk b' n (n::S') M' dn' un':=
 ⟨l,S',rfl,fun z=>(k.new n z).elim hn fun q=>bI _ (az (zU ho) q),k.ob ho hn,h⟩
variable{K:fL}{cl:Str->fR}{T:Hp->Prop}{hT:HTt T}
theorem kr(h:Bk b n S M dn un){w:Str}{v:List (Option D)}(hv:v[0]?=some (some (.obj n))):∃p,(qw qe "table" 2 (okF (qj K cl T hT)) (eFld qv "ledger" (eVar 0)) (qb (eC (.str w)) aNil)) (⟨v,b⟩:SS (WB K cl T hT))=.ok (.obj p) (b++[Ob.dic []])/\obAt (b++[Ob.dic []]) p=some (.dic (M (.inr w)))/\(p∈S\/p=b.length):=by
 obtain⟨l,S0,rfl,hn,ho,h⟩:=h;obtain⟨p,e,hp,hs⟩:=JZ (K:=K) (cl:=cl) (T:=T) (hT:=hT) h (w:=.str w) (k:=.inr w) rfl;have hL:∃t d u,obAt b l=some (.ins qe [("tables",.obj t),("done",.obj d),("undone",.obj u)]):=by
  obtain⟨t,d,u,ps,rfl,h⟩:=h;exact⟨t,d,u,h.hl⟩
 obtain⟨t,d,u,hL⟩:=hL;refine⟨p,?_,hp,hs.imp (fun z=>by simp[z]) id⟩;simp only[qw,ql,eFld,eOb,eVar,eOpt,hv,aL,ho,fl_l,aP,hL,KF,eD,qb,eC,eRet,aNil,ao,aR,b8,Nat.reduceAdd,ofRO,okF,okRO,e]
def VG(R:List (Key×D))(name:Str)(ahead span:Int):Option Str:=
 if gnm name=false then some "BadName" else if(qK R (.inr name)).isSome=true then some "Taken" else if ¬ (((-900:Int)<=ahead/\ahead<=900)/\((0:Int)<=span/\span<=1000))then some "BadClock" else if 12<=R.length then some "Full" else none
theorem Jn{name:Str}{p:Nat}(hx:name.length<=1000)(hp:obAt b1 p=some (.dic (M (.inr "place"))))(g:SS (WB K cl T hT))(hg:g=⟨[some (.obj n),some (.str name),some (.int ahead),some (.int span),some (.obj p)],b1⟩) :
  (qNot (qTru (jS 1 (jy T hT.b) (qb (eVar 1) aNil)))) g=.ok (!gnm name) b1/\(qOf (e2B inO (eVar 1) (eVar 4))) g=.ok (qK (M (.inr "place")) (.inr name)).isSome b1/\(qNot (qAnd (qOf (vG leI leI (e1 negI (eC (.int 900))) (eVar 2) (eC (.int 900)))) (qOf (vG leI leI (eC (.int 0)) (eVar 3) (eC (.int 1000)))))) g=.ok (!((decide ((-900:Int)<=ahead) && decide (ahead<=900)) && (decide ((0:Int)<=span) && decide (span<=1000)))) b1/\(qCmp geI (e1B lenD (eVar 4)) (eC (.int 12))) g=.ok (decide ((12:Int)<=(M (.inr "place")).length)) b1:=by
 subst hg;refine⟨?_,?_,?_,?_⟩
 ·simp only[qNot,ql,qTru,jS,qb,eVar,eOpt,aO,aF,aL,aNil,eRet,ao,aR,b8,ders,der,bx,aC,atO,isAt,qbs T hT.b hx,aP,truD]
 ·simp only[qOf,ql,e2B,eVar,eOpt,aO,aF,aL,der,hp,inO,inD,aC,Ku,bx,asB]
 ·have c1:=QV (W:=WB K cl T hT) (v:=[some (.obj n),some (.str name),some (.int ahead),some (.int span),some (.obj p)]) (b:=b1) (fa:=e1 negI (eC (.int 900))) (fb:=eVar 2) (fc:=eC (.int 900)) (x:=-900) (y:=ahead) (z:=900) rfl rfl rfl
  have c2:=QV (W:=WB K cl T hT) (v:=[some (.obj n),some (.str name),some (.int ahead),some (.int span),some (.obj p)]) (b:=b1) (fa:=eC (.int 0)) (fb:=eVar 3) (fc:=eC (.int 1000)) (x:=0) (y:=span) (z:=1000) rfl rfl rfl;exact qfx (qfy (qofV c1) (qofV c2))
 ·simp only[qCmp,ql,e2,e1B,eVar,eOpt,aO,aF,aL,der,hp,aC,lenD,eC,eRet,ge_i,asB]
theorem Xj(h:Bk b n S M dn un){name:Str}(hx:name.length<=1000)(hw:VG (M (.inr "place")) name ahead span=none)(h1:∀k,(M k).length+1<big)(h2:S.length+1<big)(h3:dn.length<big) :
  ∃(b':List Ob)(S':List Nat),zJ K cl T hT b [.obj n,.str name,.int ahead,.int span]=.ok .non b'/\Bk b' n S' (Mput M (.inr "place") (.inr name) (.tup [.int ahead,.int span])) (dn++[.tup [.tup [.str "place",.str name,.int ahead,.int span],.tup [stp M (.inr "place",.inr name,.tup [.int ahead,.int span])]]]) []/\Kp S b b' S'/\S'.length<=S.length+1:=by
 obtain⟨p,e,hp,_⟩:=kr (K:=K) (cl:=cl) (T:=T) (hT:=hT) h (w:="place") (v:=[some (.obj n),some (.str name),some (.int ahead),some (.int span),none]) rfl;obtain⟨t1,t2,t3,t4⟩:=Jn (n:=n) (K:=K) (cl:=cl) (T:=T) (hT:=hT) (ahead:=ahead) (span:=span) hx hp _ rfl;unfold VG at hw
 split at hw
 ·cases hw
 rename_i hg;have hg:gnm name=true:=by simpa using hg
 rw[hg]at t1
 split at hw
 ·cases hw
 rename_i hl;have hl:(qK (M (.inr "place")) (.inr name)).isSome=false:=by simpa using hl
 rw[hl]at t2
 split at hw
 ·cases hw
 rename_i hc;have hc:((decide ((-900:Int)<=ahead) && decide (ahead<=900)) && (decide ((0:Int)<=span) && decide (span<=1000)))=true:=by simpa[and_assoc] using hc
 rw[hc]at t3
 split at hw
 ·cases hw
 rename_i hf;rw[aK (by omega)]at t4;obtain⟨l,S0,rfl,hn,ho,hl⟩:=h;have hS0:S0.length+1<big:=by simp only[ao]at h2;omega
 obtain⟨b',S',e2,hL,kp,hS⟩:=KJ (K:=K) (cl:=cl) (T:=T) (hT:=hT) (hl.app (x:=[Ob.dic []])) (deed:=.tup [.str "place",.str name,.int ahead,.int span]) (cs:=[(.inr "place",.inr name,.tup [.int ahead,.int span])]) h1 hS0 h3 (by show 1<big;decide);have hLl:∃t d u,obAt (b++[Ob.dic []]) l=some (.ins qe [("tables",.obj t),("done",.obj d),("undone",.obj u)]):=by
  obtain⟨t,d,u,ps,rfl,h⟩:=hl.app (x:=[Ob.dic []]);exact⟨t,d,u,h.hl⟩
 obtain⟨t,d,u,hLl⟩:=hLl;refine⟨b',n::S',?_,Bk.led hn (jl ho) kp hL,Kp.cons (Kp.app.trans kp),by simp only[ao];simpa using hS⟩;unfold zJ vd;refine Jc (v:=[some (.obj n),some (.str name),some (.int ahead),some (.int span),some (.obj p)]) ?_;refine af (sqB (stB e)) ?_;refine af (sqB (af (zW t1) rfl)) ?_;refine af (sqB (af (zW t2) rfl)) ?_;refine af (sqB (af (zW t3) rfl)) ?_;refine af (sqB (af (zW t4) rfl)) ?_;have e2:qX K cl T hT (b++[Ob.dic []]) [.obj l,.tup [.str "place",.str name,.int ahead,.int span],.lst [.tup [.str "place",.str name,.tup [.int ahead,.int span]]]]=.ok .non b':=e2;simp only[zC,zc,qw,ql,eFld,eOb,eVar,eOpt,zA,a9,cf,ao,aR,b8,Nat.reduceAdd,List.replicate,bg,cH,List.set_cons_succ,List.set_cons_zero,aF,aL,jl ho,fl_l,aP,hLl,Y4,eD,qb,eTup,eC,eRet,aO,aNil,Nat.reduceLeDiff,eLst,ofRO,okF,okRO,e2]
end
theorem pf_1{a:D}:wX ("tables":Str) a []=[(("tables":Str),a)]:=rfl
theorem pf_2{a c:D}:wX ("done":Str) c [(("tables":Str),a)]=[(("tables":Str),a),(("done":Str),c)]:=rfl
theorem pf_3{a c d:D}:wX ("undone":Str) d [(("tables":Str),a),(("done":Str),c)]=[(("tables":Str),a),(("done":Str),c),(("undone":Str),d)]:=rfl
theorem pf_4{a:D}:wX ("ledger":Str) a []=[(("ledger":Str),a)]:=rfl
abbrev Pl:=Str×Int×Int
def plD(pl:List Pl):List (Key×D):=pl.map fun r=>(.inr r.1,.tup [.int r.2.1,.int r.2.2])
section
variable{b b':List Ob}{n:Nat}{S:List Nat}{M:Key->List (Key×D)}{dn un:List D}
variable{K:fL}{cl:Str->fR}{T:Hp->Prop}{hT:HTt T}
theorem Vk(b:List Ob):∃b',qO K cl T hT (b++[Ob.ins qe []]) [.obj b.length]=.ok .non b'/\b'=b++[Ob.ins qe [("tables",.obj (b.length+1)),("done",.obj (b.length+2)),("undone",.obj (b.length+3))],Ob.dic [],Ob.lst [],Ob.lst []]:=by
 refine⟨_,?_,rfl⟩;have o1:obAt (b++[Ob.ins qe []]++[Ob.dic []]) b.length=some (.ins qe []):=kA (by simp) fun _=>by simp
 have e1:(b++[Ob.ins qe []]++[Ob.dic []]).set b.length (Ob.ins qe [("tables",.obj (b.length+1))])=b++[Ob.ins qe [("tables",.obj (b.length+1))],Ob.dic []]:=by simp
 have o2:obAt (b++[Ob.ins qe [("tables",.obj (b.length+1))],Ob.dic []]++[Ob.lst []]) b.length=some (.ins qe [("tables",.obj (b.length+1))]):=kA (by simp) fun _=>by simp
 have e2:(b++[Ob.ins qe [("tables",.obj (b.length+1))],Ob.dic []]++[Ob.lst []]).set b.length (Ob.ins qe [("tables",.obj (b.length+1)),("done",.obj (b.length+2))])=b++[Ob.ins qe [("tables",.obj (b.length+1)),("done",.obj (b.length+2))],Ob.dic [],Ob.lst []]:=by simp
 have o3:obAt (b++[Ob.ins qe [("tables",.obj (b.length+1)),("done",.obj (b.length+2))],Ob.dic [],Ob.lst []]++[Ob.lst []]) b.length=some (.ins qe [("tables",.obj (b.length+1)),("done",.obj (b.length+2))]):=kA (by simp) fun _=>by simp
 have e3:(b++[Ob.ins qe [("tables",.obj (b.length+1)),("done",.obj (b.length+2))],Ob.dic [],Ob.lst []]++[Ob.lst []]).set b.length (Ob.ins qe [("tables",.obj (b.length+1)),("done",.obj (b.length+2)),("undone",.obj (b.length+3))])=b++[Ob.ins qe [("tables",.obj (b.length+1)),("done",.obj (b.length+2)),("undone",.obj (b.length+3))],Ob.dic [],Ob.lst [],Ob.lst []]:=by simp
 have s1:(vJ qe "tables" (eVar 0) (eBox wy)) (⟨[some (.obj b.length)],b++[Ob.ins qe []]⟩:SS (WB K cl T hT))=.nx ⟨[some (.obj b.length)],b++[Ob.ins qe [("tables",.obj (b.length+1))],Ob.dic []]⟩:=by
  rw[<- e1];simp only[vJ,zc,eBox,ql,wy,eRet,ar,ao,aR,b8,cB,sOb,eVar,eOpt,aF,aL,o1,fH,pf_1,e1];rfl
 have s2:(vJ qe "done" (eVar 0) (eBox (eLst aNil))) (⟨[some (.obj b.length)],b++[Ob.ins qe [("tables",.obj (b.length+1))],Ob.dic []]⟩:SS (WB K cl T hT))=.nx ⟨[some (.obj b.length)],b++[Ob.ins qe [("tables",.obj (b.length+1)),("done",.obj (b.length+2))],Ob.dic [],Ob.lst []]⟩:=by
  rw[<- e2];simp only[vJ,zc,eBox,ql,eLst,aNil,eRet,eOpt,aR,bW,aP,ar,ao,b8,Nat.reduceAdd,cB,sOb,eVar,aF,aL,o2,fH,pf_2,e2];rfl
 have s3:(vJ qe "undone" (eVar 0) (eBox (eLst aNil))) (⟨[some (.obj b.length)],b++[Ob.ins qe [("tables",.obj (b.length+1)),("done",.obj (b.length+2))],Ob.dic [],Ob.lst []]⟩:SS (WB K cl T hT))=.nx ⟨[some (.obj b.length)],b++[Ob.ins qe [("tables",.obj (b.length+1)),("done",.obj (b.length+2)),("undone",.obj (b.length+3))],Ob.dic [],Ob.lst [],Ob.lst []]⟩:=by
  rw[<- e3];simp only[vJ,zc,eBox,ql,eLst,aNil,eRet,eOpt,aR,bW,aP,ar,ao,b8,Nat.reduceAdd,cB,sOb,eVar,aF,aL,o3,fH,pf_3];rfl
 unfold qO jw;exact Jc (af (sqB s1) (af (sqB s2) s3))
theorem qd7(b:List Ob):Lg (b++[Ob.ins qe [("tables",.obj (b.length+1)),("done",.obj (b.length+2)),("undone",.obj (b.length+3))],Ob.dic [],Ob.lst [],Ob.lst []]) b.length [b.length,b.length+1,b.length+2,b.length+3] (fun _=>[]) [] []:=by
 have g:∀i o,[Ob.ins qe [("tables",.obj (b.length+1)),("done",.obj (b.length+2)),("undone",.obj (b.length+3))],Ob.dic [],Ob.lst [],Ob.lst []][i]?=some o->(∀k,o≠.gone k)->obAt (b++[Ob.ins qe [("tables",.obj (b.length+1)),("done",.obj (b.length+2)),("undone",.obj (b.length+3))],Ob.dic [],Ob.lst [],Ob.lst []]) (b.length+i)=some o:=fun i o h hg=>kA (by rw[aJ (by omega),cP];exact h) hg
 exact⟨b.length+1,b.length+2,b.length+3,[],rfl,by simp,.nil,g 0 _ rfl fun _=>by simp,g 1 _ rfl fun _=>by simp,g 2 _ rfl fun _=>by simp,g 3 _ rfl fun _=>by simp,(fun _ h=>nomatch h),fun _ _=>rfl⟩
theorem ur{v:List (Option D)}(b:List Ob):∃(b':List Ob)(S:List Nat),(xp qv (zg K cl T hT)) (⟨v,b⟩:SS (WB K cl T hT))=.ok (.obj b.length) b'/\Bk b' b.length S (fun _=>[]) [] []/\Kp [] b b' S/\S.length=5:=by
 obtain⟨b1,e,hb1⟩:=Vk (K:=K) (cl:=cl) (T:=T) (hT:=hT) (b++[Ob.ins qv []]);have hL:=qd7 (b++[Ob.ins qv []]);rw[<- hb1]at hL;have hl:(b++[Ob.ins qv []]).length=b.length+1:=by simp
 have o1:obAt b1 b.length=some (.ins qv []):=by rw[hb1];exact jl (ki fun _=>by simp)
 have hlt:b.length<b1.length:=zU o1;refine⟨b1.set b.length (.ins qv [("ledger",.obj (b.length+1))]),b.length::[b.length+1,b.length+2,b.length+3,b.length+4],?_,⟨b.length+1,_,rfl,by simp,kh hlt fun _=>by simp,?_⟩,⟨?_,fun i hi _=>?_,fun i hi=>.inr ?_⟩,rfl⟩
 ·have s1:(xp qe (qO K cl T hT)) (⟨[some (.obj b.length)],b++[Ob.ins qv []]⟩:SS (WB K cl T hT))=.ok (.obj (b.length+1)) b1:=by
   unfold xp;show(match qO K cl T hT (b++[Ob.ins qv []]++[Ob.ins qe []]) [.obj (b++[Ob.ins qv []]).length]with
    |.ok .non b'=>R.ok (W:=WB K cl T hT) (D.obj (b++[Ob.ins qv []]).length) b'
    |_=>.bad)=_
   rw[e,hl]
  have s2:zg K cl T hT (b++[Ob.ins qv []]) [.obj b.length]=.ok .non (b1.set b.length (.ins qv [("ledger",.obj (b.length+1))])):=by
   unfold zg jX;refine Jc (v:=[some (.obj b.length)]) ?_;have s1':(xp qe (qO K cl T hT)) (zA 1 [.obj b.length] (b++[Ob.ins qv []]):SS (WB K cl T hT))=.ok (.obj (b.length+1)) b1:=s1;unfold vJ zc;simp only[s1'];simp only[sOb,zc,eVar,eOpt,zA,a9,cf,ao,aR,b8,bg,cH,aF,aL,o1,fH,pf_4];rfl
  unfold xp;show(match zg K cl T hT (b++[Ob.ins qv []]) [.obj b.length]with
    |.ok .non b'=>R.ok (W:=WB K cl T hT) (D.obj b.length) b'
    |_=>.bad)=_
  rw[s2]
 ·rw[hl]at hL
  exact hL.frame fun i hi=>jt fun z=>by
   simp at hi;omega
 ·rw[aS];omega
 ·rw[ay (by omega),hb1,aB (by simp;omega),aB hi]
 ·simp at hi;omega
theorem W4{b:List Ob}{p:Nat}{rows:List (Key×D)}(h:obAt b p=some (.dic rows))(g:Ob):(b.set p g).set p (.dic rows)=b:=by
 rw[List.set_set];have:=ji h;obtain⟨hl,e⟩:=ai.mp this;rw[<- e,List.set_getElem_self]
theorem Vt{b:List Ob}{p:Nat}{rows:List (Key×D)}(h:p<b.length):x_ (b.set p (.gone rows)) p=some rows:=by
 unfold x_;rw[aA h]
theorem VR{fo f:fJ K cl T hT}{v:List (Option D)}{p:Nat}{rows:List (Key×D)}{d:D}(hx:∀i,i<b.length->b1[i]?=b[i]?)(h1:fo ⟨v,b⟩=.ok (.obj p) b1)(hp:obAt b1 p=some (.dic rows))(hf:f ⟨v,b⟩=.ok d (b1.set p (.gone rows))):ZS fo f ⟨v,b⟩=.ok d b1:=by
 unfold ZS;have hc:(obAt b p).isSome=true\/b.length<=p:=by
  by_cases hl:p<b.length
  ·left
   rw[<- jj (hx p hl),hp];rfl
  ·exact .inr (by omega)
 simp only[h1,hf,hc,aP,Vt (zU hp)];rw[W4 hp]
theorem qcg(b x:List Ob):∀i,i<b.length->(b++x)[i]?=b[i]?:=fun _ hi=>aB hi
theorem YV{fo:fJ K cl T hT}{g:SS (WB K cl T hT)}{p:Nat}{rows:List (Key×D)}(h1:fo g=.ok (.obj p) b1)(hp:obAt b1 p=some (.dic rows)):QG fo g=.ok (rows.map itD) (b1.set p (.gone rows)):=by
 unfold QG ql Vn;simp only[h1,kO,hp,aC,vt]
theorem qca{fe:fJ K cl T hT}{g:SS (WB K cl T hT)}{kvs:List (Key×D)}(h:fe g=.ok (.dic kvs) b1):eBox fe g=.ok (.obj b1.length) (b1++[Ob.dic kvs]):=by
 unfold eBox ql;simp only[h];rfl
theorem WL{fe:fJ K cl T hT}{g:SS (WB K cl T hT)}{ds:List D}(h:fe g=.ok (.lst ds) b1):eBox fe g=.ok (.obj b1.length) (b1++[Ob.lst ds]):=by
 unfold eBox ql;simp only[h];rfl
theorem Qj{kvs:List (Key×D)}{k:Key}{v:D}(h:k∉kvs.map (·.1)):putD kvs k v=kvs++[(k,v)]:=by
 unfold putD;rw[aG];intro z;rw[dW]at z;obtain⟨x,hx,e⟩:=z;exact h (aZ.mpr ⟨x,hx,by simpa using e⟩)
theorem Ki(pl:List Pl):(plD pl).map (·.1)=pl.map fun r=>(Sum.inr r.1:Key):=by unfold plD;simp
theorem XZ{x:Str}{pl:List Pl}:(Sum.inr x:Key)∈(pl.map fun r=>(Sum.inr r.1:Key))↔x∈pl.map (·.1):=by
 simp only[aZ];constructor
 ·rintro⟨r,hr,e⟩;exact⟨r,hr,by injection e⟩
 ·rintro⟨r,hr,e⟩;exact⟨r,hr,by rw[e]⟩
theorem XE(h:Bk b n S M dn un){name:Str}:ze K cl T hT b [.obj n,.str name]=if(qK (M (.inr "place")) (.inr name)).isSome=true then .ok .non (b++[Ob.dic []])else .exc "NoPlace" (b++[Ob.dic []]):=by
 obtain⟨p,e,hp,_⟩:=kr (K:=K) (cl:=cl) (T:=T) (hT:=hT) h (w:="place") (v:=[some (.obj n),some (.str name)]) rfl;have t:(qOf (e2B ninO (eVar 1) (qw qe "table" 2 (okF (qj K cl T hT)) (eFld qv "ledger" (eVar 0)) (qb (eC (.str "place")) aNil)))) (⟨[some (.obj n),some (.str name)],b⟩:SS (WB K cl T hT))=.ok (!(qK (M (.inr "place")) (.inr name)).isSome) (b++[Ob.dic []]):=by
  unfold qOf e2B ql;simp only[e,eVar,aO,aF,aL,eOpt,der,hp,aC,ninO,inD,Ku,bx,asB]
 unfold ze jx;cases hk:(qK (M (.inr "place")) (.inr name)).isSome with
 |true=>
  rw[hk]at t;exact Jc (af (zW t) rfl)
 |false=>
  rw[hk]at t;exact xw (af (j_ t) rfl)
theorem kB{x:Str}{F:List Ob->List D->RO}{k i:Nat}{fs:List (Str×D)}{v:List (Option D)}{ds:List D}{fo:fJ K cl T hT}{fa:SS (WB K cl T hT)->R (WB K cl T hT) (List D)}(ho:fo ⟨v,b⟩=.ok (.obj i) b)(hi:obAt b i=some (.ins C fs))(hf:fs.lookup m=none)(ha:fa ⟨v,b⟩=.ok ds b1)(hl:ds.length+1=k)(e:F b1 (.obj i::ds)=.exc x b2):qw C m k F fo fa ⟨v,b⟩=.exc ⟨x,[]⟩ b2:=by
 unfold qw ql;simp only[ho,hi,hf,eD,aP,ha,ao,hl,e,ofRO]
theorem zz{F:List Ob->List D->RO}{k i:Nat}{fs:List (Str×D)}{v:List (Option D)}{ds:List D}{d:D}{fo:fJ K cl T hT}{fa:SS (WB K cl T hT)->R (WB K cl T hT) (List D)}(ho:fo ⟨v,b⟩=.ok (.obj i) b)(hi:obAt b i=some (.ins C fs))(hf:fs.lookup m=none)(ha:fa ⟨v,b⟩=.ok ds b1)(hl:ds.length+1=k)(e:F b1 (.obj i::ds)=.ok d b2):qw C m k F fo fa ⟨v,b⟩=.ok d b2:=by
 unfold qw ql;simp only[ho,hi,hf,eD,aP,ha,ao,hl,e,ofRO]
theorem Bk.at_(h:Bk b n S M dn un):∃l,obAt b n=some (.ins qv [("ledger",.obj l)]):=by
 obtain⟨l,S0,rfl,hn,ho,h⟩:=h;exact⟨l,ho⟩
theorem ZW{fa:fJ K cl T hT}{v:List (Option D)}{x:Str}(e:fa ⟨v,b⟩=.exc ⟨x,[]⟩ b1):zC fa ⟨v,b⟩=.ex ⟨x,[]⟩ ⟨v,b1⟩:=by unfold zC zc;rw[e]
theorem V6{fa:fJ K cl T hT}{v:List (Option D)}{x:Str}(e:fa ⟨v,b⟩=.exc ⟨x,[]⟩ b1):sRet fa ⟨v,b⟩=.ex ⟨x,[]⟩ ⟨v,b1⟩:=by unfold sRet zc;rw[e]
theorem uA{fa:fJ K cl T hT}{v:List (Option D)}{x:Str}{i:Nat}(e:fa ⟨v,b⟩=.exc ⟨x,[]⟩ b1):sSet i fa ⟨v,b⟩=.ex ⟨x,[]⟩ ⟨v,b1⟩:=by unfold sSet zc;rw[e]
end
end M
namespace M
open PySem L2 X2
theorem XQ{z:Str}{n:Nat}(hz:z.cps.toList.length=n)(hn:n<=1000){i:Int}(h0:0<=i)(h1:i<n):∃c:Nat,ixD (.str z) (.int i)=some (.str ⟨#[c]⟩)/\z.cps.toList[i.toNat]?=some c:=by
 obtain⟨v,hv,hv2⟩:=qf2 (xs:=z.cps.toList) h0 (by omega);have hl:z.length<=1000000:=by show z.cps.size<=_;rw[<- bK,hz];omega
 exact⟨v,by show(if z.length<=1000000 then _ else _)=_;rw[aH hl,hv];rfl,hv2⟩
theorem sg9:∀{c:Nat},c∈abc9.cps.toList->sg c=true:=fun{c} h=>bA.mp (show abc9.cps.toList.all sg=true by decide +kernel) c h
theorem qg0{c:Nat}(h:c∈abc.cps.toList):c∈abc9.cps.toList:=by
 show c∈(abc.cps++("0123456789":Str).cps).toList;rw[di];exact bR _ h
theorem J6:∀{ys:List D},(∀y∈ys,∃c:Nat,y=.str ⟨#[c]⟩/\sg c=true)->∃ts:fT,wk ys=some ts/\ts.length=ys.length/\(∀t∈ts,t.length=1)/\∀t∈ts,t.cps.toList.all sg=true
 |[],_=>⟨[],rfl,rfl,(fun t h=>(nomatch h)),fun t h=>(nomatch h)⟩
 |y::ys,h=>by
  obtain⟨ts,e,l,q,g⟩:=J6 (ys:=ys) fun y hy=>h y (aD _ hy)
  obtain⟨c,rfl,hc⟩:=h y (aN ..);refine⟨⟨#[c]⟩::ts,?_,by simp[l],fun t ht=>?_,fun t ht=>?_⟩
  ·unfold wk
   rw[e]
  ·rcases ah.mp ht with rfl|ht
   ·rfl
   ·exact q t ht
  ·rcases ah.mp ht with rfl|ht
   ·simp[hc]
   ·exact g t ht
theorem WS(x y:Str):(x++y).cps.toList.all sg=(x.cps.toList.all sg && y.cps.toList.all sg):=by
 show(x.cps++y.cps).toList.all sg=_;rw[di,List.all_append]
theorem qgl{c:Nat}{r:Str}(h:sg c=true)(g:r.cps.toList.all sg=true)(l:r.length<=11):gnm (⟨#[c]⟩++r)=true:=by
 unfold gnm;rw[WS,g,len_app,show(⟨#[c]⟩:Str).length=1 from rfl];simp[h];omega
theorem qgk{c:Nat}{r:Str}(h:sg c=true)(g:r.cps.toList.all sg=true)(l:r.length<=11):gnm (r++⟨#[c]⟩)=true:=by
 unfold gnm;rw[WS,g,len_app,show(⟨#[c]⟩:Str).length=1 from rfl];simp[h];omega
theorem qbj{ts:fT}(h:∀t∈ts,t.cps.toList.all sg=true):(Txt.join ("":Str) ts).cps.toList.all sg=true:=by
 have e0:("":Str).cps=#[]:=by decide +kernel
 have go:∀(rest:fT)(acc:Array Nat),acc.toList.all sg=true->(∀t∈rest,t.cps.toList.all sg=true)->(rest.foldl (fun acc p=>acc++("":Str).cps++p.cps) acc).toList.all sg=true:=by
  intro rest
  induction rest with
  |nil=>intro acc ha _;exact ha
  |cons t r ih=>
   intro acc ha hr;rw[List.foldl_cons];refine ih _ ?_ fun t ht=>hr t (aD _ ht)
   rw[e0,Array.append_empty,di,List.all_append,ha,hr t aN];rfl
 cases ts with
 |nil=>rfl
 |cons t r=>exact go r t.cps (h t aN) fun t ht=>h t (aD _ ht)
section
variable(T:Hp->Prop)(hT:HTb T)
theorem XF{vs:fV}{n:Nat}(hd:Drawn vs n)(h16:10<=n)(many:Nat)(hm:many<=5):∃ns:fT,xx T hT [.lst (isD vs),.int many]=some (.lst (ns.map .str))/\ns.length=many/\ns.Nodup/\∀x∈ns,gnm x=true:=by
 unfold xx Q0;have x0:=dri hd (i:=0) (by decide) (by omega);have x1:=dri hd (i:=1) (by decide) (by omega);have b0:=gv_b hd 0;generalize gv vs 0=v0 at x0 b0
 generalize gv vs 1=v1 at x1
 obtain⟨m,hmm,em⟩:=Jo [1,3,5,7,9,11] (kN (x:=v0) (j:=6) (by decide)).1 (kN (x:=v0) (j:=6) (by decide)).2;have hz:okZ m:=by simpa[okZ] using hmm
 let S (ns:fT) (k o r:Option D):SS (W0 T hT):=⟨[some (.lst (isD vs)),some (.int many),some (.str abc),some (.lst (ns.map .str)),k,o,r],()⟩;obtain⟨g',e,ns,k,o,r,hl,mk,gd,rfl⟩:=X5 (T:=T) (hT:=hT) (B:=B0) (hB:=hB0) (p:=qA 4) (h:=(sSeq (sSet 5 (e2 ixD (eVar 2) (e2 modI (e2 addD (e2 mulI (eVar 4) (e2 ixD (eLst (qb (eC (.int 1)) (qb (eC (.int 3)) (qb (eC (.int 5)) (qb (eC (.int 7)) (qb (eC (.int 9)) (qb (eC (.int 11)) aNil))))))) (e2 modI (e2 ixD (eVar 0) (eC (.int 0))) (eC (.int 6))))) (e2 ixD (eVar 0) (eC (.int 1)))) (eC (.int 26)))))
 (sSeq (sSet 6 (Wa (eC (.str "")) (jI 1 [0,2] (zX (qb (e2 modI (e2 ixD (eVar 0) (e2 addD (eC (.int 4)) (eVar 4))) (eC (.int 12))) aNil)) (qA 0) qAll (e2 ixD (e2 addD (eVar 2) (eC (.str "0123456789"))) (e2 modI (e2 addD (e2 ixD (eVar 1) (eC (.int 2))) (e2 mulI (eVar 0) (e2 ixD (eVar 1) (eC (.int 3))))) (eC (.int 36)))))))
 (sApp 3 (e2 ixD (eLst (qb (e2 addD (eVar 5) (eVar 6)) (qb (e2 addD (eVar 6) (eVar 5)) aNil))) (e2 modI (e2 yg (e2 ixD (eVar 0) (eC (.int 0))) (eC (.int 6))) (eC (.int 2))))))))
  (I:=fun dn g=>∃ns k o r,ns.length=dn.length/\(∀(t:Nat) x,ns[t]?=some x->mark (v0 / 6 % 2) x=abc.cps.toList[((((0:Int)+(t:Int)) * m+v1) % 26).toNat]?)/\(∀x∈ns,gnm x=true)/\g=S ns k o r) (ds:=rngD 0 many) (g:=S [] none none none) ⟨[],none,none,none,rfl,(fun t x h=>by simp at h),(fun _ h=>nomatch h),rfl⟩ (by
   rintro dn d g ⟨rr,hr⟩ ⟨ns,k,o,r,hl,mk,gd,rfl⟩;obtain⟨rfl,hlt⟩:=xA hr;generalize hjd:dn.length=j at hlt hl
   have hj1:-(2 ^ 64)<(j:Int):=by omega
   have hj2:(j:Int)<2 ^ 64:=by omega
   have x2:=dri hd (i:=2) (by decide) (by omega);have x3:=dri hd (i:=3) (by decide) (by omega);have x4:=dri hd (i:=4+(j:Int)) (by omega) (by omega);have b2:=gv_b hd 2;have b3:=gv_b hd 3;generalize gv vs 2=v2 at x2 b2
   generalize gv vs 3=v3 at x3 b3
   obtain⟨cc,ec,hcc⟩:=XQ WT (by decide) (i:=((j:Int) * m+v1) % 26) (kN (by decide)).1 (kN (by decide)).2;have s1:(e2 ixD (eVar 2) (e2 modI (e2 addD (e2 mulI (eVar 4) (e2 ixD (eLst (qb (eC (.int 1)) (qb (eC (.int 3)) (qb (eC (.int 5)) (qb (eC (.int 7)) (qb (eC (.int 9)) (qb (eC (.int 11)) aNil))))))) (e2 modI (e2 ixD (eVar 0) (eC (.int 0))) (eC (.int 6))))) (e2 ixD (eVar 0) (eC (.int 1)))) (eC (.int 26)))) (S ns (some (.int j)) o r)=.ok (.str ⟨#[cc]⟩) ():=
    qP (qp rfl) (qP (qP (qP (qp rfl) (qP (Ks (ku c_ok (ku c_ok (ku c_ok (ku c_ok (ku c_ok (ku c_ok Jd)))))) (by decide)) (qP (qP (qp rfl) c_ok x0) c_ok (jL (by decide))) em) (Jw hj1 hj2)) (qP (qp rfl) c_ok x1) yx) c_ok (jL (by decide))) ec
   obtain⟨q,hq⟩:∃q:Nat,(gv vs (4+(j:Int))) % 12=(q:Int)/\q<12:=⟨((gv vs (4+(j:Int))) % 12).toNat,by have:=kN (x:=gv vs (4+(j:Int))) (j:=12) (by decide);omega,by have:=kN (x:=gv vs (4+(j:Int))) (j:=12) (by decide);omega⟩;obtain⟨ys,e2c,ly,py⟩:=uk (T:=T) (hT:=hT) (B:=B0) (hB:=hB0) (p:=qA 0) (t:=qAll) (f:=(e2 ixD (e2 addD (eVar 2) (eC (.str "0123456789"))) (e2 modI (e2 addD (e2 ixD (eVar 1) (eC (.int 2))) (e2 mulI (eVar 0) (e2 ixD (eVar 1) (eC (.int 3))))) (eC (.int 36))))) (n:=1) (ix:=[0,2]) (fi:=(zX (qb (e2 modI (e2 ixD (eVar 0) (e2 addD (eC (.int 4)) (eVar 4))) (eC (.int 12))) aNil))) (ds:=rngD 0 q) (g:=S ns (some (.int j)) (some (.str ⟨#[cc]⟩)) r)
    (I:=fun g=>∃z,g=⟨[z,some (.lst (isD vs)),some (.str abc)],()⟩) (Pd:=fun _ y=>∃c:Nat,y=.str ⟨#[c]⟩/\sg c=true)
    (V7 (qez (ku (qP (qP (qp rfl) (qP c_ok (qp rfl) yx) x4) c_ok (jL (by decide))) Jd) (by rw[hq.1])) (by have:=hq.2;omega)) ⟨none,rfl⟩ (by
     rintro d hd' g ⟨z,rfl⟩;obtain⟨i,hi,rfl⟩:=qaf hd';have hi2:=hq.2;have m1:mulI (.int (0+(i:Int))) (.int v3)=some (.int ((0+(i:Int)) * v3)):=Jw (by omega) (by omega);obtain⟨c2,ec2,hc2⟩:=XQ ux (by decide) (i:=(v2+(0+(i:Int)) * v3) % 36) (kN (by decide)).1 (kN (by decide)).2;refine⟨⟨[some (.int (0+(i:Int))),some (.lst (isD vs)),some (.str abc)],()⟩,rfl,⟨_,rfl⟩,.inl ⟨rfl,.str ⟨#[c2]⟩,?_,c2,rfl,sg9 (aM hc2)⟩⟩;exact qP (qP (qp rfl) c_ok (qci qgb)) (qP (qP (qP (qp rfl) c_ok x2) (qP (qp rfl) (qP (qp rfl) c_ok x3) m1) yx) c_ok (jL (by decide))) ec2) (by rw[vK];unfold big;omega)
   obtain⟨ts,et,lt,qt,qg⟩:=J6 (ys:=ys) fun y hy=>by obtain⟨_,_,h⟩:=py y hy;exact h
   rw[vK]at ly;have jk:=qbk qt (by omega);have ej:qbl (.str "") (.lst ys)=some (.str (PySem.Txt.join ("":Str) ts)):=by
    show(wk ys).bind _=_;rw[et];show(if JoinOk ("":Str) ts=true then _ else _)=_;rw[aH jk]
   have lj:(Txt.join ("":Str) ts).length<=11:=by rw[YT qt];have:=hq.2;omega
   have gj:=qbj qg;generalize (Txt.join ("":Str) ts)=rest at ej lj gj
   have l1:(⟨#[cc]⟩:Str).length=1:=rfl;obtain⟨nm,eu,hmk,hgn⟩:∃nm:Str,ixD (.lst [.str (⟨#[cc]⟩++rest),.str (rest++⟨#[cc]⟩)]) (.int (v0 / 6 % 2))=some (.str nm)/\mark (v0 / 6 % 2) nm=some cc/\gnm nm=true:=by
    have sc:sg cc=true:=sg9 (qg0 (aM hcc));have h2:=kN (x:=v0 / 6) (j:=2) (by decide);generalize v0 / 6 % 2=f at h2
    have:f=0\/f=1:=by omega
    rcases this with rfl|rfl
    ·exact⟨_,rfl,qga,qgl sc gj lj⟩
    ·exact⟨_,rfl,qf9,qgk sc gj lj⟩
   refine⟨S ns (some (.int j)) o r,S (ns++[nm]) (some (.int j)) (some (.str ⟨#[cc]⟩)) (some (.str rest)),rfl,?_,_,_,_,_,by simp[hl,hjd],?_,(fun x hx=>by
    rcases bZ.mp hx with hx|hx
    ·exact gd x hx
    ·rw[cT.mp hx];exact hgn),rfl⟩
   rotate_left
   ·intro t x ht
    by_cases hlt2:t<ns.length
    ·rw[aB hlt2]at ht
     exact mk t x ht
    ·have et:t=ns.length:=by
      have:t<(ns++[nm]).length:=(ai.mp ht).1;simp at this;omega
     subst et;have ex:nm=x:=by simpa using ht
     rw[<- ex,hmk,hl,Int.zero_add];exact hcc.symm
   refine(zq (kK s1)).trans ?_;refine(zq (kK (YU c_ok e2c ej))).trans ?_;refine(WQ (ds:=ns.map .str) (y:=.str nm) rfl (qP (Ks (ku (qP (qp rfl) (qp rfl) (qci (by omega))) (ku (qP (qp rfl) (qp rfl) (qci (by omega))) Jd)) (by simp)) (qP (qP (qP (qp rfl) c_ok x0) c_ok (X7 (by decide) (by decide))) c_ok (jL (by decide))) eu) (by simp;unfold big;omega)).trans ?_;have en:ns.map D.str++[.str nm]=(ns++[nm]).map .str:=by simp
   rw[en];rfl)
 refine⟨ns,vO ?_,by rw[hl,vK],YG hz (by rw[hl,vK];exact hm) mk,gd⟩;refine(zq (kK c_ok)).trans ?_;refine(zq (kK (d:=.lst []) (Ks Jd (by decide)))).trans ?_;refine(zq (uN (V7 (ku (qp rfl) Jd) (by omega)) e)).trans ?_;exact wU (qp rfl)
end
end M
namespace M
open PySem PySem.Spec PyProof.Rows L2 X2
variable{rs:List Rn}{b1:List Ob}{ahead span:Int}{w:Str}
abbrev Rn:=Str×Str×Int×Int×Int
def ruD(r:Rn):D:=.tup [.str r.1,.str r.2.1,.int r.2.2.1,.int r.2.2.2.1,.int r.2.2.2.2]
def rnF:Nat->List Rn->List (Key×D)
 |_,[]=>[]
 |i,r::rs=>(.inl (i:Int),ruD r)::rnF (i+1) rs
abbrev rnD(rs:List Rn):List (Key×D):=rnF 0 rs
theorem qah(rs:List Rn)(r:Rn):∀i,rnF i (rs++[r])=rnF i rs++[(.inl ((i+rs.length:Nat):Int),ruD r)]:=by
 induction rs with
 |nil=>intro i;rfl
 |cons a rs ih=>
  intro i;show _::rnF (i+1) (rs++[r])=_::(rnF (i+1) rs++_);rw[ih,ao,show i+1+rs.length=i+(rs.length+1) by omega]
theorem Qg:∀(rs:List Rn)(i:Nat),(rnF i rs).length=rs.length
 |[],_=>rfl
 |r::rs,i=>by rw[ao,<- Qg rs (i+1)];rfl
theorem Jk:∀(rs:List Rn)(i:Nat){k:Key},k∈(rnF i rs).map (·.1)->∃j:Nat,k=.inl (j:Int)/\i<=j/\j<i+rs.length
 |[],_,_,h=>nomatch h
 |r::rs,i,k,h=>by
  rcases ah.mp (show k∈_::(rnF (i+1) rs).map (·.1)from h)with h|h
  ·exact⟨i,h,aj _,by simp⟩
  ·obtain⟨j,h1,h2,h3⟩:=Jk rs (i+1) h
   exact⟨j,h1,by omega,by rw[ao];omega⟩
theorem Kt:∀(rs:List Rn)(i j:Nat),qK (rnF i rs) (.inl ((i+j:Nat):Int))=(rs[j]?).map ruD
 |[],i,j=>rfl
 |r::rs,i,j=>by
  show(List.find? _ (_::_)).map _=_;rw[bw];cases j with
  |zero=>rw[aX (show(Sum.inl (i:Int):Key)=Sum.inl ((i+0:Nat):Int)from rfl)];rfl
  |succ j=>
   rw[aK (fun z=>by injection z with z;omega)];have:=Kt rs (i+1) j;rw[show i+1+j=i+(j+1) by omega]at this;exact this
theorem qbe{kvs:List (Key×D)}{k:Key}(h:k∉kvs.map (·.1)):qK kvs k=none:=by
 unfold qK;rw[dA.mpr fun x hx z=>h (aZ.mpr ⟨x,hx,fy z⟩)];rfl
theorem qbd(rs:List Rn)(j:Nat):qK (rnD rs) (.inl (j:Int))=(rs[j]?).map ruD:=by
 have:=Kt rs 0 j;rw[b8]at this;exact this
theorem Vi{i:Int}(h:i<0\/(rs.length:Int)<=i):qK (rnD rs) (.inl i)=none:=qbe fun z=>by
 obtain⟨j,h1,_,h3⟩:=Jk rs 0 z
 injection h1 with h1
 omega
theorem qde(rs:List Rn)(r:Rn):putD (rnD rs) (.inl (rs.length:Int)) (ruD r)=rnD (rs++[r]):=by
 rw[Qj fun z=>by obtain⟨j,h1,_,h3⟩:=Jk rs 0 z;injection h1 with h1;omega];show _=rnF 0 (rs++[r]);rw[qah,b8]
theorem Qw(pl:List Pl)(x:Str):(qK (plD pl) (.inr x)).isSome=decide (x∈pl.map (·.1)):=by
 induction pl with
 |nil=>rfl
 |cons r pl ih=>
  unfold plD qK at ih ⊢;rw[a9,bw]
  by_cases h:r.1=x
  ·rw[show decide ((Sum.inr r.1:Key)=Sum.inr x)=true by simp[h]]
   simp[h]
  ·rw[show decide ((Sum.inr r.1:Key)=Sum.inr x)=false by simp[h]]
   rw[a9];simp only[ah];rw[ih];congr 1;simp[bc h]
section
variable{W:Wo}{fa fb:SS W->R W D}{fs:SS W->R W (List D)}{g:SS W}{b1 b2:W.BS}{x:Xn}{y:D}
theorem qgp{op:D->D->Option D}(ha:fa g=.exc x b1):e2 op fa fb g=.exc x b1:=by unfold e2 ql;rw[ha]
theorem qfj(ha:fa g=.exc x b1):qb fa fs g=.exc x b1:=by unfold qb ql;rw[ha]
theorem qfi(ha:fa g=.ok y b1)(hb:fs ⟨g.v,b1⟩=.exc x b2):qb fa fs g=.exc x b2:=by unfold qb ql;rw[ha];simp only[hb]
theorem qb4{n:Nat}{ix:List Nat}{fi:SS W->R W (List D)}{p:D->SS W->Option (SS W)}{t:SS W->R W Bool}(hi:fi g=.exc x b1):jI n ix fi p t fa g=.exc x b1:=by unfold jI ql;rw[hi]
theorem qc3(ha:fa g=.exc x b1):iSeq fa g=.exc x b1:=by unfold iSeq ql;rw[ha]
theorem asV{p:D->SS W->Option (SS W)}{g':SS W}(e:fa g=.ok y b1)(hp:p y ⟨g.v,b1⟩=some g'):sAsg p fa g=.nx g':=by unfold sAsg zc;rw[e];simp only[hp]
end
def Gv(F:List Ob->List D->RO)(b:List Ob)(ds:List D)(d:D):Prop:=∃b',F b ds=.ok d b'/\Kp [] b b' []
def Rz(F:List Ob->List D->RO)(b:List Ob)(ds:List D)(w:Str):Prop:=∃b',F b ds=.exc w b'/\Kp [] b b' []
section
variable{b b':List Ob}{n:Nat}{S:List Nat}{M:Key->List (Key×D)}{dn un:List D}{rs:List Rn}{i:Int}
variable{K:fL}{cl:Str->fR}{T:Hp->Prop}{hT:HTt T}
theorem XH{C:Addr}{m:Str}{x:Xn}{F:List Ob->List D->RO}{k i:Nat}{fs:List (Str×D)}{v:List (Option D)}{fo:fJ K cl T hT}{fa:SS (WB K cl T hT)->R (WB K cl T hT) (List D)}(ho:fo ⟨v,b⟩=.ok (.obj i) b)(hi:obAt b i=some (.ins C fs))(hf:fs.lookup m=none)(ha:fa ⟨v,b⟩=.exc x b1):qw C m k F fo fa ⟨v,b⟩=.exc x b1:=by
 unfold qw ql;simp only[ho,hi,hf,eD,aP,ha]
theorem fldV{v:List (Option D)}{l:Nat}(hv:v[0]?=some (some (.obj n)))(ho:obAt b n=some (.ins qv [("ledger",.obj l)])):(eFld qv "ledger" (eVar 0)) (⟨v,b⟩:SS (WB K cl T hT))=.ok (.obj l) b:=by
 simp only[eFld,eOb,ql,eVar,eOpt,hv,aL,ho,fl_l,aP]
theorem Bk.gv(h:Bk b n S M dn un)(k:Kp [] b b' []):Bk b' n S M dn un:=h.kp k fun _ _ z=>nomatch z
theorem JA(h:Bk b n S M dn un)(hr:M (.inr "run")=rnD rs):zx K cl T hT b [.obj n]=.ok (.int rs.length) (b++[Ob.dic []]):=by
 obtain⟨p,e,hp,_⟩:=kr (K:=K) (cl:=cl) (T:=T) (hT:=hT) h (w:="run") (v:=[some (.obj n)]) rfl;rw[hr]at hp;unfold zx vS;rw[<- Qg rs 0];exact vf (rtB (e1BV (v:=[some (.obj n)]) e (Wp hp) rfl))
theorem XD(h:Bk b n S M dn un):(qOf (e2B ninO (eVar 1) (qw qe "table" 2 (okF (qj K cl T hT)) (eFld qv "ledger" (eVar 0)) (qb (eC (.str "run")) aNil)))) (⟨[some (.obj n),some (.int i)],b⟩:SS (WB K cl T hT))=.ok (!(qK (M (.inr "run")) (.inl i)).isSome) (b++[Ob.dic []]):=by
 obtain⟨p,e,hp,_⟩:=kr (K:=K) (cl:=cl) (T:=T) (hT:=hT) h (w:="run") (v:=[some (.obj n),some (.int i)]) rfl;exact qofW (e2BV (varV rfl) e rfl (Wp hp) rfl)
theorem Kq(h:Bk b n S M dn un)(hk:qK (M (.inr "run")) (.inl i)=none):qS K cl T hT b [.obj n,.int i]=.exc "NoRun" (b++[Ob.dic []]):=by
 have t:=XD (K:=K) (cl:=cl) (T:=T) (hT:=hT) h (i:=i);rw[hk]at t;unfold qS jr;exact xw (af (j_ t) rfl)
theorem ZB(h:Bk b n S M dn un){d:D}(hk:qK (M (.inr "run")) (.inl i)=some d):qS K cl T hT b [.obj n,.int i]=.ok .non (b++[Ob.dic []]):=by
 have t:=XD (K:=K) (cl:=cl) (T:=T) (hT:=hT) h (i:=i);rw[hk]at t;unfold qS jr;exact Jc (af (zW t) rfl)
section
variable(h:Bk b n S M dn un)
include h
theorem VQ(hk:qK (M (.inr "run")) (.inl i)=none):Rz (qN K cl T hT) b [.obj n,.int i] "NoRun":=by
 obtain⟨l,ho⟩:=h.at_;unfold qN kH;exact⟨_,xw (kQ (ZW (v:=[some (.obj n),some (.int i)]) (kB (i:=n) (varV rfl) ho rfl (aV (varV rfl) rfl) rfl (Kq h hk)))),.app⟩
theorem y0{d:D}(hk:qK (M (.inr "run")) (.inl i)=some d):Gv (qN K cl T hT) b [.obj n,.int i] d:=by
 obtain⟨l,ho⟩:=h.at_;obtain⟨p,e,hp,_⟩:=kr (K:=K) (cl:=cl) (T:=T) (hT:=hT) (h.app (x:=[Ob.dic []])) (w:="run") (v:=[some (.obj n),some (.int i)]) rfl;unfold qN kH;refine⟨_,vf (af (sqB (dpB (g:=⟨[some (.obj n),some (.int i)],b⟩) (zz (i:=n) (varV rfl) ho rfl (aV (varV rfl) rfl) rfl (ZB h hk)))) (rtB (d:=d) (b':=b++[Ob.dic []]++[Ob.dic []]) ?_)),Kp.app.trans .app⟩;unfold eIxB ql;simp only[e,eVar,aO,aF,aL,eOpt,hp,aC,vt,YQ,hk]
theorem xB(hk:qK (M (.inr "run")) (.inl i)=none):Rz (qJ K cl T hT) b [.obj n,.int i] "NoRun":=by
 obtain⟨l,ho⟩:=h.at_;unfold qJ jC;exact⟨_,xw (kQ (ZW (v:=[some (.obj n),some (.int i),none]) (kB (i:=n) (varV rfl) ho rfl (aV (varV rfl) rfl) rfl (Kq h hk)))),.app⟩
theorem qcp{v:List (Option D)}{ds:List D}{ks:List Key}(hv:v[0]?=some (some (.obj n))){fa:fJ K cl T hT}(ha:fa ⟨v,b⟩=.ok (.tup ds) b)(hk:zV ds=some ks):(qw qe "table" 2 (okF (qj K cl T hT)) (eFld qv "ledger" (eVar 0)) (qb fa aNil)) (⟨v,b⟩:SS (WB K cl T hT))=.ok (.obj b.length) (b++[Ob.dic []]):=by
 obtain⟨l,S0,rfl,hn,ho,t,d,u,ps,rfl,hL⟩:=h;have e:qj K cl T hT b [.obj l,.tup ds]=.ok (.obj b.length) (b++[.dic []]):=by
  simp only[qj,zD,jB,sRet,zc,Y7,ql,eFld,eOb,eVar,eOpt,zA,a9,cf,ao,aR,b8,Nat.reduceAdd,bg,cH,aF,aL,hL.hl,fl_t,aP,wx,der,hL.ht,aC,dicD,aO,eBox,wy,eRet,cB,JJ,getT,jl hL.ht,za,uY,hk,bx]
 exact zz (fldV hv ho) hL.hl rfl (aV ha rfl) rfl (okFV e)
theorem Jl{d:D}(hk:qK (M (.inr "run")) (.inl i)=some d):Gv (qJ K cl T hT) b [.obj n,.int i] (.lst []):=by
 obtain⟨l,ho⟩:=h.at_;have h1:=h.app (x:=[Ob.dic []]);have e:=qcp (K:=K) (cl:=cl) (T:=T) (hT:=hT) h1 (v:=[some (.obj n),some (.int i),none]) (ds:=[.str "news",.int i]) (ks:=[.inr "news",.inl i]) rfl (fa:=eTup (qb (eC (.str "news")) (qb (eVar 1) aNil))) (tupV (aV rfl (aV (varV rfl) rfl)) (by simp)) rfl;let b1:=b++[Ob.dic []];have hp:obAt (b1++[Ob.dic []]) b1.length=some (.dic []):=ki fun _=>by simp
 unfold qJ jC;refine⟨_,vf (af (sqB (dpB (g:=⟨[some (.obj n),some (.int i),none],b⟩) (zz (i:=n) (varV rfl) ho rfl (aV (varV rfl) rfl) rfl (ZB h hk)))) (af (sqB (stB e)) (rtB (e1V (v:=[some (.obj n),some (.int i),some (.obj b1.length)]) (VR (fun _ _=>rfl) (varV rfl) hp (QT (out:=[]) (YV (varV rfl) hp) rfl)) rfl)))),Kp.app.trans .app⟩
theorem W9{r:Rn}(hk:qK (M (.inr "run")) (.inl i)=some (ruD r)):Gv (zn K cl T hT) b [.obj n,.int i,.lst []] (.tup [.int i,.str r.1,.str r.2.1,.int r.2.2.1,.int r.2.2.2.1]):=by
 obtain⟨l,ho⟩:=h.at_;obtain⟨b1,e,kp⟩:=y0 (K:=K) (cl:=cl) (T:=T) (hT:=hT) h hk;unfold zn kd;refine⟨b1,vf (af (sqB (g':=⟨[some (.obj n),some (.int i),some (.lst []),none,some (.str r.1),some (.str r.2.1),some (.int r.2.2.1),some (.int r.2.2.2.1),some (.int r.2.2.2.2),none,none,none],b1⟩) ?_) (af (sqB (stB (d:=.tup [.int i,.str r.1,.str r.2.1,.int r.2.2.1,.int r.2.2.2.1]) rfl)) (xQ rfl))),kp⟩;refine asV (p:=pTup 5 (qM (qA 4) (qM (qA 5) (qM (qA 6) (qM (qA 7) (qM (qA 8) pNil)))))) (g:=⟨[some (.obj n),some (.int i),some (.lst []),none,none,none,none,none,none,none,none,none],b⟩) (fa:=qw qv "told" 2 (qN K cl T hT) (eVar 0) (qb (eVar 1) aNil)) (zz (i:=n) (varV rfl) ho rfl (aV (varV rfl) rfl) rfl e) rfl
theorem YY{r:Rn}(hk:qK (M (.inr "run")) (.inl i)=some (ruD r)):Gv (zo K cl T hT) b [.obj n,.int i] (.tup [.int i,.str r.1,.str r.2.1,.int r.2.2.1,.int r.2.2.2.1]):=by
 obtain⟨l,ho⟩:=h.at_;obtain⟨b1,e1,k1⟩:=Jl (K:=K) (cl:=cl) (T:=T) (hT:=hT) h hk;have h1:=h.gv k1;obtain⟨l',ho'⟩:=h1.at_;obtain⟨b2,e2,k2⟩:=W9 (K:=K) (cl:=cl) (T:=T) (hT:=hT) h1 hk;unfold zo kI;exact⟨b2,vf (rtB (zz (i:=n) (v:=[some (.obj n),some (.int i)]) (varV rfl) ho rfl (aV (varV rfl) (aV (zz (i:=n) (varV rfl) ho rfl (aV (varV rfl) rfl) rfl e1) rfl)) rfl e2)),k1.trans k2⟩
theorem Y1{r:Rn}(hk:qK (M (.inr "run")) (.inl i)=some (ruD r))(hj:M (.inr "journey")=[]):Gv (zp K cl T hT) b [.obj n,.int i] (.int r.2.2.2.2):=by
 obtain⟨l,ho⟩:=h.at_;obtain⟨b1,e1,k1⟩:=y0 (K:=K) (cl:=cl) (T:=T) (hT:=hT) h hk;obtain⟨p,e,hp,_⟩:=kr (K:=K) (cl:=cl) (T:=T) (hT:=hT) (h.gv k1) (w:="journey") (v:=[some (.obj n),some (.int i),some (.int r.2.2.2.2)]) rfl;rw[hj]at hp;have ev:(KA (qw qe "table" 2 (okF (qj K cl T hT)) (eFld qv "ledger" (eVar 0)) (qb (eC (.str "journey")) aNil))) (⟨[some (.obj n),some (.int i),some (.int r.2.2.2.2)],b1⟩:SS (WB K cl T hT))=.ok [] ((b1++[Ob.dic []]).set p (.gone [])):=by
  unfold KA ql Vn;simp only[e,kO,hp,aC,vt,cf]
 unfold zp kJ;refine⟨_,vf (af (sqB (stB (d:=.int r.2.2.2.2) (e2V (v:=[some (.obj n),some (.int i),none]) (zz (i:=n) (varV rfl) ho rfl (aV (varV rfl) rfl) rfl e1) rfl rfl))) (rtB (d:=.int r.2.2.2.2) (e2V (varV rfl) (e1BV (VR (qcg _ _) e hp (QT (out:=[]) ev rfl)) rfl rfl) ?_))),k1.trans .app⟩;show some (D.int (r.2.2.2.2 - ((0:Nat):Int)))=_;rw[Int.ofNat_zero,Int.sub_zero]
theorem qbt(hk:qK (M (.inr "run")) (.inl i)=none):Rz (zo K cl T hT) b [.obj n,.int i] "NoRun":=by
 obtain⟨l,ho⟩:=h.at_;obtain⟨b1,e,kp⟩:=xB (K:=K) (cl:=cl) (T:=T) (hT:=hT) h hk;unfold zo kI;exact⟨b1,xw (V6 (v:=[some (.obj n),some (.int i)]) (XH (i:=n) (varV rfl) ho rfl (qfi (b1:=b) (varV rfl) (qfj (kB (i:=n) (varV rfl) ho rfl (aV (varV rfl) rfl) rfl e))))),kp⟩
theorem YN(hk:qK (M (.inr "run")) (.inl i)=none){j:Int}:Rz (jE K cl T hT) b [.obj n,.int i,.int j] "NoRun":=by
 obtain⟨l,ho⟩:=h.at_;obtain⟨b1,e,kp⟩:=xB (K:=K) (cl:=cl) (T:=T) (hT:=hT) h hk;unfold jE ve;exact⟨b1,xw (V6 (v:=[some (.obj n),some (.int i),some (.int j)]) (XH (i:=n) (varV rfl) ho rfl (qfi (b1:=b) (varV rfl) (qfj (qb4 (qc3 (kB (i:=n) (varV rfl) ho rfl (aV (varV rfl) rfl) rfl e))))))),kp⟩
theorem qbw(hk:qK (M (.inr "run")) (.inl i)=none):Rz (zp K cl T hT) b [.obj n,.int i] "NoRun":=by
 obtain⟨l,ho⟩:=h.at_;obtain⟨b1,e,kp⟩:=VQ (K:=K) (cl:=cl) (T:=T) (hT:=hT) h hk;unfold zp kJ;exact⟨b1,xw (kQ (uA (v:=[some (.obj n),some (.int i),none]) (qgp (kB (i:=n) (varV rfl) ho rfl (aV (varV rfl) rfl) rfl e)))),kp⟩
end
end
def ddP(name:Str)(ahead span:Int):D:=.tup [.str "place",.str name,.int ahead,.int span]
def ddR(r:Rn):D:=.tup [.str "run",.str r.1,.str r.2.1,.int r.2.2.1,.int r.2.2.2.1,.int r.2.2.2.2]
def stO(pl:List Pl)(rs:List Rn):List Ob:=[.dic (plD pl),.lst (rs.map ruD),.dic [],.dic [],.lst [],.dic []]
def stD(s:Nat):D:=.tup [.obj s,.obj (s+1),.obj (s+2),.obj (s+3),.obj (s+4),.obj (s+5)]
def St(b:List Ob)(s:Nat)(pl:List Pl)(rs:List Rn):Prop:=∀i o,(stO pl rs)[i]?=some o->obAt b (s+i)=some o
section
variable{b b':List Ob}{s n:Nat}{pl:List Pl}{rs:List Rn}
variable{K:fL}{cl:Str->fR}{T:Hp->Prop}{hT:HTt T}{kw:Str->Option Str}
theorem St.lt(h:St b s pl rs):s+6<=b.length:=zU (h 5 _ rfl)
theorem St.frame(h:St b s pl rs)(hk:∀i,s<=i->i<s+6->obAt b' i=obAt b i):St b' s pl rs:=fun i o e=>(hk _ (bT _ _) (Nat.add_lt_add_left (ai.mp e).1 s)).trans (h i o e)
theorem St.gv(h:St b s pl rs)(k:Kp [] b b' []):St b' s pl rs:=h.frame fun i _ hi=>jj (k.out i (az hi h.lt) fun z=>nomatch z)
theorem VV{x:List Ob}(pl:List Pl)(rs:List Rn)(b:List Ob)(e:x=b++stO pl rs):St x b.length pl rs:=fun i o h=>by
 subst e;refine kA (by rw[aJ (bT _ _),cP];exact h) fun k z=>?_
 subst z;have:=aM h;simp[stO]at this
theorem ut(b:List Ob):xz K cl T hT b []=.ok (stD b.length) (b++stO [] []):=by
 unfold xz Q3;refine vf (rtB ?_);simp only[eTup,ql,qb,eBox,wy,eRet,zA,cf,aR,cH,cB,eLst,aNil,eOpt,bW,aP,ar,ao,b8,cG,bg,Nat.reduceAdd,Nat.reduceLeDiff];rfl
def cpO:Ob->Option D
 |.dic kvs=>some (.dic kvs)
 |.lst ds=>some (.lst ds)
 |_=>none
theorem Z2:∀(os:List Ob)(s:Nat)(b:List Ob)(acc:List D)(x:Option D),(∀i o,os[i]?=some o->obAt b (s+i)=some o/\(cpO o).isSome=true)->acc.length+os.length<big->
  k_ (qA 0) qAll (eBox (e1B JO (eVar 0))) ((List.range' s os.length).map D.obj) (⟨[x],b⟩:SS (WB K cl T hT)) acc=.ok (acc++(List.range' b.length os.length).map D.obj) (b++os)
 |[],s,b,acc,x,h,hl=>by rw[aQ];exact bU (fun l=>R.ok (W:=WB K cl T hT) l b) (aQ acc).symm
 |o::os,s,b,acc,x,h,hl=>by
  rw[ao]at hl;obtain⟨h1,h2⟩:=h 0 o rfl;have e:=Z2 os (s+1) (b++[o]) (acc++[.obj b.length]) (some (.obj s)) (fun i o e=>by
   have:=h (i+1) o e;rw[show s+(i+1)=s+1+i by omega]at this;exact⟨jl this.1,this.2⟩) (by rw[ar,aY];omega)
  have step:(eBox (e1B JO (eVar 0))) (⟨[some (.obj s)],b⟩:SS (WB K cl T hT))=.ok (.obj b.length) (b++[o]):=by
   cases o with
   |dic kvs=>exact qca (e1BV (varV rfl) (Wp h1) rfl)
   |lst ds=>exact WL (e1BV (varV rfl) (ud h1) rfl)
   |ins _ _=>cases h2
   |gone _=>cases h2
  rw[ao,List.range'_succ,a9,WA (g1:=⟨[some (.obj s)],b⟩) (b1:=b) (b2:=b++[o]) (y:=.obj b.length) rfl rfl step (by omega)];refine af e ?_;rw[cG,cG,ar,aY,List.range'_succ];rfl
theorem uR(h:St b s pl rs){dd:D}:(sAsg (pLst 6 (qM (qA 2) (qM (qA 3) (qM (qA 4) (qM (qA 5) (qM (qA 6) (qM (qA 7) pNil))))))) (jI 1 [] (iSeq (eVar 0)) (qA 0) qAll (eBox (e1B JO (eVar 0))))) (⟨[some (stD s),some dd,none,none,none,none,none,none],b⟩:SS (WB K cl T hT))=.nx ⟨[some (stD s),some dd,some (.obj b.length),some (.obj (b.length+1)),some (.obj (b.length+2)),some (.obj (b.length+3)),some (.obj (b.length+4)),some (.obj (b.length+5))],b++stO pl rs⟩:=by
 have c:=Z2 (K:=K) (cl:=cl) (T:=T) (hT:=hT) (stO pl rs) s b [] none (fun i o e=>⟨h i o e,by
  have:=aM e;simp only[stO,ah,aE,cA]at this;rcases this with rfl|rfl|rfl|rfl|rfl|rfl <;> rfl⟩) (show 0+6<big by decide)
 exact asV (QT (hi:=rfl) c) rfl
theorem uw(h:St b s pl rs){name:Str}(hn:name∉pl.map (·.1))(hl:pl.length<big):∃b':List Ob,qU K cl T hT b [stD s,ddP name ahead span]=.ok (stD b.length) b'/\St b' b.length (pl++[(name,ahead,span)]) rs/\Kp [] b b' []:=by
 let b1:=b++stO pl rs;have g0:obAt b1 b.length=some (.dic (plD pl)):=VV pl rs b rfl 0 _ rfl;have e1:b1.set b.length (.dic (plD (pl++[(name,ahead,span)])))=b++stO (pl++[(name,ahead,span)]) rs:=by
  show(b++stO pl rs).set _ _=_;rw[List.set_append_right _ _ (aj _),Nat.sub_self];rfl
 have hp:putD (plD pl) (.inr name) (.tup [.int ahead,.int span])=plD (pl++[(name,ahead,span)]):=by
  rw[Qj (by rw[Ki,XZ];exact hn)];unfold plD;simp
 refine⟨b++stO (pl++[(name,ahead,span)]) rs,?_,VV _ _ b rfl,.app⟩;unfold qU j8;refine vf (af (sqB (uR h)) (af (sqB (g':=⟨[some (stD s),some (ddP name ahead span),some (.obj b.length),some (.obj (b.length+1)),some (.obj (b.length+2)),some (.obj (b.length+3)),some (.obj (b.length+4)),some (.obj (b.length+5))],b1.set b.length (.dic (plD (pl++[(name,ahead,span)])))⟩) (af (j_ (b':=b1) rfl) ?_)) (af (rtB (tupV (aV (varV rfl) (aV (varV rfl) (aV (varV rfl) (aV (varV rfl) (aV (varV rfl) (aV (varV rfl) rfl)))))) (by simp))) (by rw[e1];rfl))));rw[<- hp];exact qf0 (v:=[some (stD s),some (ddP name ahead span),some (.obj b.length),some (.obj (b.length+1)),some (.obj (b.length+2)),some (.obj (b.length+3)),some (.obj (b.length+4)),some (.obj (b.length+5))]) (b1:=b1) rfl (varV rfl) g0 (y:=.str name) rfl rfl (by unfold plD;rw[ak];exact hl)
theorem uv(h:St b s pl rs){r:Rn}(hl:rs.length<big):∃b':List Ob,qU K cl T hT b [stD s,ddR r]=.ok (stD b.length) b'/\St b' b.length pl (rs++[r])/\Kp [] b b' []:=by
 let b1:=b++stO pl rs;have g0:obAt b1 (b.length+1)=some (.lst (rs.map ruD)):=VV pl rs b rfl 1 _ rfl;have e1:b1.set (b.length+1) (.lst (rs.map ruD++[ruD r]))=b++stO pl (rs++[r]):=by
  show(b++stO pl rs).set _ _=_;rw[List.set_append_right _ _ (bT _ 1),cP];unfold stO;rw[bz];rfl
 refine⟨b++stO pl (rs++[r]),?_,VV _ _ b rfl,.app⟩;unfold qU j8;refine vf (af (sqB (uR h)) (af (sqB (g':=⟨[some (stD s),some (ddR r),some (.obj b.length),some (.obj (b.length+1)),some (.obj (b.length+2)),some (.obj (b.length+3)),some (.obj (b.length+4)),some (.obj (b.length+5))],b1.set (b.length+1) (.lst (rs.map ruD++[ruD r]))⟩) (af (zW (b':=b1) rfl) (af (j_ (b':=b1) rfl) ?_))) (af (rtB (tupV (aV (varV rfl) (aV (varV rfl) (aV (varV rfl) (aV (varV rfl) (aV (varV rfl) (aV (varV rfl) rfl)))))) (by simp))) (by rw[e1];rfl))));exact dpB (qgx (v:=[some (stD s),some (ddR r),some (.obj b.length),some (.obj (b.length+1)),some (.obj (b.length+2)),some (.obj (b.length+3)),some (.obj (b.length+4)),some (.obj (b.length+5))]) (b:=b1) (varV rfl) g0 rfl (by rw[ak];exact hl))
end
def yV(pl:List Pl)(rs:List Rn)(r:Rn):Option Str:=
 if ¬ (r.1∈pl.map (·.1))then some "NoPlace" else if ¬ (r.2.1∈pl.map (·.1))then some "NoPlace" else if r.1=r.2.1 then some "Astray" else if ¬ ((-40000:Int)<=r.2.2.1/\r.2.2.1<r.2.2.2.1/\r.2.2.2.1<=40000)then some "BadTimes" else if r.2.2.2.2<1 then some "BadSeats" else if 40<=rs.length then some "Full" else none
def wl:Option Str->Str
 |none=>"let"
 |some w=>if w="NoPlace" then "place" else if w="Astray" then "astray" else if w="BadTimes" then "times" else if w="BadSeats" then "seats" else "full"
structure Kw(kw:Str->Option Str):Prop where
 p:kw "NoPlace"=some "place"
 a:kw "Astray"=some "astray"
 t:kw "BadTimes"=some "times"
 s:kw "BadSeats"=some "seats"
 f:kw "Full"=some "full"
 r:kw "NoRun"=some "run"
theorem uW{kw:Str->Option Str}(hk:Kw kw){pl:List Pl}{r:Rn}(h:yV pl rs r=some w):kw w=some (wl (some w))/\(wl (some w) == "let")=false:=by
 unfold yV at h
 split at h
 ·cases h;exact⟨hk.p,by decide +kernel⟩
 split at h
 ·cases h;exact⟨hk.p,by decide +kernel⟩
 split at h
 ·cases h;exact⟨hk.a,by decide +kernel⟩
 split at h
 ·cases h;exact⟨hk.t,by decide +kernel⟩
 split at h
 ·cases h;exact⟨hk.s,by decide +kernel⟩
 split at h
 ·cases h;exact⟨hk.f,by decide +kernel⟩
 ·cases h
section
variable{b b':List Ob}{s n:Nat}{S:List Nat}{M:Key->List (Key×D)}{dn un:List D}{pl:List Pl}{rs:List Rn}{r:Rn}
variable{K:fL}{cl:Str->fR}{T:Hp->Prop}{hT:HTt T}{kw:Str->Option Str}
theorem uV(h:St b s pl rs):jz K cl T hT b [stD s,ddR r]=.ok (.str (wl (yV pl rs r))) b:=by
 let V:List (Option D):=[some (stD s),some (ddR r),some (.obj s),some (.obj (s+1)),some (.obj (s+2)),some (.obj (s+3)),some (.obj (s+4)),some (.obj (s+5))];have h0:obAt b s=some (.dic (plD pl)):=h 0 _ rfl;have h1:obAt b (s+1)=some (.lst (rs.map ruD)):=h 1 _ rfl;have t1:(qOf (e2B ninO (e2 ixD (eVar 1) (eC (.int 1))) (eVar 2))) (⟨V,b⟩:SS (WB K cl T hT))=.ok (!decide (r.1∈pl.map (·.1))) b:=by
  rw[<- Qw];exact qofW (e2BV (e2V (x:=ddR r) (z:=.str r.1) (varV rfl) rfl rfl) (varV (x:=.obj s) rfl) rfl (Wp h0) rfl)
 have t2:(qOf (e2B ninO (e2 ixD (eVar 1) (eC (.int 2))) (eVar 2))) (⟨V,b⟩:SS (WB K cl T hT))=.ok (!decide (r.2.1∈pl.map (·.1))) b:=by
  rw[<- Qw];exact qofW (e2BV (e2V (x:=ddR r) (z:=.str r.2.1) (varV rfl) rfl rfl) (varV (x:=.obj s) rfl) rfl (Wp h0) rfl)
 have t3:(qOf (e2B eqD (e2 ixD (eVar 1) (eC (.int 1))) (e2 ixD (eVar 1) (eC (.int 2))))) (⟨V,b⟩:SS (WB K cl T hT))=.ok (r.1 == r.2.1) b:=rfl;have t4:(qOr (qCmp geI (e2 ixD (eVar 1) (eC (.int 3))) (e2 ixD (eVar 1) (eC (.int 4)))) (qOr (qCmp ltI (e2 ixD (eVar 1) (eC (.int 3))) (e2 subI (eC (.int 0)) (eC (.int 40000)))) (qCmp gtI (e2 ixD (eVar 1) (eC (.int 4))) (eC (.int 40000))))) (⟨V,b⟩:SS (WB K cl T hT))=.ok (decide (r.2.2.2.1<=r.2.2.1) || (decide (r.2.2.1 < -40000) || decide ((40000:Int)<r.2.2.2.1))) b:=qorV rfl (qorV rfl rfl);have t5:(qCmp ltI (e2 ixD (eVar 1) (eC (.int 5))) (eC (.int 1))) (⟨V,b⟩:SS (WB K cl T hT))=.ok (decide (r.2.2.2.2<1)) b:=rfl;have t6:(e1 intD (e2 gtI (e1B lenD (eVar 3)) (eC (.int 39)))) (⟨V,b⟩:SS (WB K cl T hT))=.ok (.int (if decide ((39:Int)<rs.length)=true then 1 else 0)) b:=by
  rw[show rs.length=(rs.map ruD).length from(ak ..).symm];exact e1V (e2V (e1BV (varV (x:=.obj (s+1)) rfl) (ud h1) rfl) rfl rfl) rfl
 unfold jz vQ;refine vf (af (sqB (g':=⟨V,b⟩) rfl) (af (sqB (g':=⟨V,b⟩) rfl) (xQ (af (j_ (b':=b) rfl) ?_))));unfold yV
 by_cases c1:r.1∈pl.map (·.1)
 ·rw[aX c1]at t1
  rw[aG (cZ c1)]
  by_cases c2:r.2.1∈pl.map (·.1)
  ·rw[aX c2]at t2
   rw[aG (cZ c2)];refine af (sqB (af (zW (Yb t1 t2)) rfl)) ?_
   by_cases c3:r.1=r.2.1
   ·rw[bS.mpr c3]at t3
    rw[aH c3];exact xQ (af (j_ t3) rfl)
   ·rw[bJ.mpr c3]at t3
    rw[aG c3];refine af (sqB (af (zW t3) rfl)) ?_
    by_cases c4:(-40000:Int)<=r.2.2.1/\r.2.2.1<r.2.2.2.1/\r.2.2.2.1<=40000
    ·rw[aK (by omega),aK (by omega),aK (by omega)]at t4
     rw[aG (cZ c4)];refine af (sqB (af (zW t4) rfl)) ?_
     by_cases c5:r.2.2.2.2<1
     ·rw[aX c5]at t5
      rw[aH c5];exact xQ (af (j_ t5) rfl)
     ·rw[aK c5]at t5
      rw[aG c5];refine af (sqB (af (zW t5) rfl)) ?_
      by_cases c6:40<=rs.length
      ·rw[aX (by omega)]at t6
       rw[aH c6];exact rtB (e2V (lstV (aV rfl (aV rfl rfl)) (by decide)) t6 rfl)
      ·rw[aK (by omega)]at t6
       rw[aG c6];exact rtB (e2V (lstV (aV rfl (aV rfl rfl)) (by decide)) t6 rfl)
    ·have:(decide (r.2.2.2.1<=r.2.2.1) || (decide (r.2.2.1 < -40000) || decide ((40000:Int)<r.2.2.2.1)))=true:=by
      rw[fE,fE,eW,eW,eW];omega
     rw[this]at t4;rw[aH c4];exact xQ (af (j_ t4) rfl)
  ·rw[aK c2]at t2
   rw[aH c2];exact xQ (af (j_ (Yb t1 t2)) rfl)
 ·rw[aK c1]at t1
  rw[aH c1];exact xQ (af (j_ (qfw t1)) rfl)
theorem qb7{W:Wo}{fa fb fc fd:SS W->R W D}{v:List (Option D)}{b:W.BS}{x y z u:Int}(ha:fa ⟨v,b⟩=.ok (.int x) b)(hb:fb ⟨v,b⟩=.ok (.int y) b)(hc:fc ⟨v,b⟩=.ok (.int z) b)(hd:fd ⟨v,b⟩=.ok (.int u) b):yo leI ltI leI fa fb fc fd ⟨v,b⟩=.ok (.bl (decide (x<=y/\y<z/\z<=u))) b:=by
 unfold yo ql;simp only[ha,hb,le_i]
 by_cases h1:x<=y
 ·rw[aX h1]
  simp only[hc,lt_i]
  by_cases h2:y<z
  ·rw[aX h2]
   simp only[hd];show R.ok (W:=W) (D.bl (decide (z<=u))) b=_;simp[h1,h2]
  ·rw[aK h2]
   simp[h2,eRet]
 ·rw[aK h1]
  simp[h1,eRet]
theorem uB(h:Bk b n S M dn un)(hp:M (.inr "place")=plD pl)(hr:M (.inr "run")=rnD rs):match yV pl rs r with
  |some w=>Rz (jg K cl T hT) b [.obj n,.str r.1,.str r.2.1,.int r.2.2.1,.int r.2.2.2.1,.int r.2.2.2.2] w
  |none=>(∀k,(M k).length+1<big)->S.length+1<big->dn.length<big->∃(b':List Ob)(S':List Nat),jg K cl T hT b [.obj n,.str r.1,.str r.2.1,.int r.2.2.1,.int r.2.2.2.1,.int r.2.2.2.2]=.ok (.int rs.length) b'/\Bk b' n S' (Mput M (.inr "run") (.inl (rs.length:Int)) (ruD r)) (dn++[.tup [ddR r,.tup [stp M (.inr "run",.inl (rs.length:Int),ruD r)]]]) []/\Kp S b b' S'/\S'.length<=S.length+1:=by
 let V (x y:Option D):List (Option D):=[some (.obj n),some (.str r.1),some (.str r.2.1),some (.int r.2.2.1),some (.int r.2.2.2.1),some (.int r.2.2.2.2),x,y];let b1:=b++[Ob.dic []];let b2:=b1++[Ob.dic []];let b3:=b2++[Ob.dic []];have h1:Bk b1 n S M dn un:=h.app;have h2:Bk b2 n S M dn un:=h1.app;obtain⟨l0,o0⟩:=h.at_;obtain⟨l1,o1⟩:=h1.at_;obtain⟨l2,o2⟩:=h2.at_;have f1:=XE (K:=K) (cl:=cl) (T:=T) (hT:=hT) h (name:=r.1);have f2:=XE (K:=K) (cl:=cl) (T:=T) (hT:=hT) h1 (name:=r.2.1);have e3:=JA (K:=K) (cl:=cl) (T:=T) (hT:=hT) h2 hr;rw[hp,Qw]at f1 f2;have t3:(qOf (e2B eqD (eVar 1) (eVar 2))) (⟨V none none,b2⟩:SS (WB K cl T hT))=.ok (r.1 == r.2.1) b2:=rfl;have t4:(qNot (qOf (yo leI ltI leI (e1 negI (eC (.int 40000))) (eVar 3) (eVar 4) (eC (.int 40000))))) (⟨V none none,b2⟩:SS (WB K cl T hT))=.ok (!decide ((-40000:Int)<=r.2.2.1/\r.2.2.1<r.2.2.2.1/\r.2.2.2.1<=40000)) b2:=qdb (qofW (qb7 rfl rfl rfl rfl));have t5:(qCmp ltI (eVar 5) (eC (.int 1))) (⟨V none none,b2⟩:SS (WB K cl T hT))=.ok (decide (r.2.2.2.2<1)) b2:=rfl;have t6:(qCmp geI (eVar 6) (eC (.int 40))) (⟨V (some (.int rs.length)) none,b3⟩:SS (WB K cl T hT))=.ok (decide ((40:Int)<=rs.length)) b3:=rfl;unfold yV jg xN
 by_cases c1:r.1∈pl.map (·.1)
 ·rw[aH (aX c1)]at f1
  rw[aG (cZ c1)];have s1:=dpB (g:=⟨V none none,b⟩) (zz (K:=K) (cl:=cl) (T:=T) (hT:=hT) (fo:=eVar 0) (fa:=qb (eVar 1) aNil) (m:="need_place") (k:=2) (i:=n) (varV rfl) o0 rfl (aV (varV rfl) rfl) rfl f1)
  by_cases c2:r.2.1∈pl.map (·.1)
  ·rw[aH (aX c2)]at f2
   rw[aG (cZ c2)];have s2:=dpB (g:=⟨V none none,b1⟩) (zz (K:=K) (cl:=cl) (T:=T) (hT:=hT) (fo:=eVar 0) (fa:=qb (eVar 2) aNil) (m:="need_place") (k:=2) (i:=n) (varV rfl) o1 rfl (aV (varV rfl) rfl) rfl f2)
   by_cases c3:r.1=r.2.1
   ·rw[bS.mpr c3]at t3
    rw[aH c3];exact⟨b2,xw (v:=V none none) (af (sqB s1) (af (sqB s2) (kQ (af (j_ t3) rfl)))),Kp.app.trans .app⟩
   ·rw[bJ.mpr c3]at t3
    rw[aG c3];have s3:=fun{f}=>af (zW (f:=f) (h:=sNil) t3) rfl
    by_cases c4:(-40000:Int)<=r.2.2.1/\r.2.2.1<r.2.2.2.1/\r.2.2.2.1<=40000
    ·rw[aX c4]at t4
     rw[aG (cZ c4)]
     by_cases c5:r.2.2.2.2<1
     ·rw[aX c5]at t5
      rw[aH c5];exact⟨b2,xw (v:=V none none) (af (sqB s1) (af (sqB s2) (af (sqB s3) (af (sqB (af (zW t4) rfl)) (kQ (af (j_ t5) rfl)))))),Kp.app.trans .app⟩
     ·rw[aK c5]at t5
      rw[aG c5];have s6:=stB (i:=6) (g:=⟨V none none,b2⟩) (zz (K:=K) (cl:=cl) (T:=T) (hT:=hT) (fo:=eVar 0) (fa:=aNil) (m:="many") (k:=1) (ds:=[]) (i:=n) (varV rfl) o2 rfl rfl rfl (okFV e3))
      by_cases c6:40<=rs.length
      ·rw[aX (by omega)]at t6
       rw[aH c6];exact⟨b3,xw (v:=V (some (.int rs.length)) none) (af (sqB s1) (af (sqB s2) (af (sqB s3) (af (sqB (af (zW t4) rfl)) (af (sqB (af (zW t5) rfl)) (af (sqB s6) (kQ (af (j_ t6) rfl)))))))),(Kp.app.trans .app).trans .app⟩
      ·rw[aK (by omega)]at t6
       rw[aG c6];intro g1 g2 g3;obtain⟨l,S0,rfl,hn,ho,hl⟩:=h2.app (x:=[Ob.dic []]);obtain⟨b',S',e4,hL,kp,hS⟩:=KJ (K:=K) (cl:=cl) (T:=T) (hT:=hT) hl (deed:=ddR r) (cs:=[(.inr "run",.inl (rs.length:Int),ruD r)]) g1 (by simp only[ao,aR]at g2 ⊢;omega) g3 (by show 1<big;decide);have e4:qX K cl T hT b3 [.obj l,ddR r,.lst [.tup [.str "run",.int rs.length,ruD r]]]=.ok .non b':=e4;obtain⟨t,d,u,hLl⟩:∃t d u,obAt b3 l=some (.ins qe [("tables",.obj t),("done",.obj d),("undone",.obj u)]):=by
        obtain⟨t,d,u,ps,rfl,hq⟩:=hl;exact⟨t,d,u,hq.hl⟩
       have a1:(qb (eTup (qb (eC (.str "run")) (qb (eVar 1) (qb (eVar 2) (qb (eVar 3) (qb (eVar 4) (qb (eVar 5) aNil))))))) (qb (eLst (qb (eTup (qb (eC (.str "run")) (qb (eVar 6) (qb (eVar 7) aNil)))) aNil)) aNil)) (⟨V (some (.int rs.length)) (some (ruD r)),b3⟩:SS (WB K cl T hT))=.ok [ddR r,.lst [.tup [.str "run",.int rs.length,ruD r]]] b3:=
        aV (tupV (aV rfl (aV (varV rfl) (aV (varV rfl) (aV (varV rfl) (aV (varV rfl) (aV (varV rfl) rfl)))))) (by simp)) (aV (lstV (aV (tupV (aV rfl (aV (varV rfl) (aV (varV rfl) rfl))) (by simp)) rfl) (by simp)) rfl)
       refine⟨b',n::S',vf (af (sqB s1) (af (sqB s2) (af (sqB s3) (af (sqB (af (zW t4) rfl)) (af (sqB (af (zW t5) rfl)) (af (sqB s6) (af (sqB (af (zW t6) rfl)) (af (sqB (stB (d:=ruD r) (b':=b3) (tupV (aV (varV rfl) (aV (varV rfl) (aV (varV rfl) (aV (varV rfl) (aV (varV rfl) rfl))))) (by simp)))) (af (sqB (dpB (g:=⟨V (some (.int rs.length)) (some (ruD r)),b3⟩) (zz (fldV rfl ho) hLl rfl a1 rfl (okFV e4)))) (rtB (varV rfl))))))))))),Bk.led hn ho kp hL,Kp.cons (((Kp.app.trans .app).trans .app).trans kp),by simp only[ao];simpa using hS⟩
    ·rw[aK c4]at t4
     rw[aH c4];exact⟨b2,xw (v:=V none none) (af (sqB s1) (af (sqB s2) (af (sqB s3) (kQ (af (j_ t4) rfl))))),Kp.app.trans .app⟩
  ·rw[aG (by simp[c2])]at f2
   rw[aH c2];exact⟨b2,xw (v:=V none none) (af (sqB s1) (kQ (ZW (v:=V none none) (kB (i:=n) (varV rfl) o1 rfl (aV (varV rfl) rfl) rfl f2)))),Kp.app.trans .app⟩
 ·rw[aG (by simp[c1])]at f1
  rw[aH c1];exact⟨b1,xw (v:=V none none) (kQ (ZW (v:=V none none) (kB (i:=n) (varV rfl) o0 rfl (aV (varV rfl) rfl) rfl f1))),.app⟩
end
section
variable{W:Wo}{p:D->SS W->Option (SS W)}{h:SS W->Ou W}
theorem X6{I:List D->SS W->Prop}:∀(ds done:List D)(g:SS W),I done g->(∀dn d g,(∃r,done++ds=dn++d::r)->I dn g->∃g1 g2,p d g=some g1/\h g1=.nx g2/\I (dn++[d]) g2)->∃g',forD p h ds g=.nx g'/\I (done++ds) g'
 |[],done,g,i,_=>⟨g,rfl,by rw[aQ];exact i⟩
 |d::ds,done,g,i,st=>by
  obtain⟨g1,g2,h1,h2,i2⟩:=st done d g ⟨ds,rfl⟩ i;obtain⟨g',e,i'⟩:=X6 ds (done++[d]) g2 i2 (by simpa using st);exact⟨g',(JL h1 h2).trans e,by simpa using i'⟩
theorem wE{I:List D->SS W->Prop}{ds:List D}{g:SS W}(i:I [] g)(st:∀dn d g,(∃r,ds=dn++d::r)->I dn g->∃g1 g2,p d g=some g1/\h g1=.nx g2/\I (dn++[d]) g2):∃g',forD p h ds g=.nx g'/\I ds g':=by
 have:=X6 (p:=p) (h:=h) (I:=I) ds [] g i (by simpa using st);simpa using this
theorem forV{fi:SS W->R W (List D)}{v:List (Option D)}{b b1:W.BS}{ds:List D}{g':SS W}(e:fi ⟨v,b⟩=.ok ds b1)(e2:forD p h ds ⟨v,b1⟩=.nx g'):sFor fi p h ⟨v,b⟩=.nx g':=by unfold sFor zc;rw[e];exact e2
theorem rngV{fs:SS W->R W (List D)}{v:List (Option D)}{b b1:W.BS}{n:Nat}(e:fs ⟨v,b⟩=.ok [.int (n:Int)] b1)(hn:n<2 ^ 62):zX fs ⟨v,b⟩=.ok (rngD 0 n) b1:=by
 unfold zX ql;rw[e];show eOpt (rng1 [.int (n:Int)]) _=_;rw[Kd hn];rfl
end
structure BkI(b:List Ob)(nb k:Nat)(S:List Nat)(M:Key->List (Key×D))(dn:List D)(pl:List Pl)(rs:List Rn):Prop where
 bk:Bk b nb S M dn []
 mp:M (.inr "place")=plD pl
 mr:M (.inr "run")=rnD rs
 mj:M (.inr "journey")=[]
 ls:S.length<=5+k
 ld:dn.length<=k
 lm:∀j,(M j).length<=k
def Dj(s:Nat)(S:List Nat):Prop:=∀i,s<=i->i<s+6->i∉S
theorem Q5{M:Key->List (Key×D)}{k q j:Key}{row:D}(h:j≠k):Mput M k q row j=M j:=aG h
section
variable{b b':List Ob}{nb s k:Nat}{S S':List Nat}{M:Key->List (Key×D)}{dn un:List D}{pl:List Pl}{rs:List Rn}
variable{K:fL}{cl:Str->fR}{T:Hp->Prop}{hT:HTt T}{kw:Str->Option Str}
theorem Dj.kp(h:Dj s S)(k:Kp S b b' S')(hl:s+6<=b.length):Dj s S':=fun i h1 h2 z=>(k.new i z).elim (h i h1 h2) fun q=>by omega
theorem Dj.new(h:Bk b nb S M dn un):Dj b.length S:=fun i h1 _ z=>bI _ (az (h.lt i z) h1)
theorem St.kp(h:St b s pl rs)(k:Kp S b b' S')(d:Dj s S):St b' s pl rs:=h.frame fun i h1 h2=>jj (k.out i (az h2 h.lt) (d i h1 h2))
theorem BkI.gv(h:BkI b nb k S M dn pl rs)(kp:Kp [] b b' []):BkI b' nb k S M dn pl rs:={ h with bk:=h.bk.gv kp }
theorem BkI.up(h:BkI b nb k S M dn pl rs):BkI b nb (k+1) S M dn pl rs:={ h with ls:=fD h.ls,ld:=fD h.ld,lm:=fun j=>fD (h.lm j) }
theorem qdf{name:Str}(hn:name∉pl.map (·.1)):putD (plD pl) (.inr name) (.tup [.int ahead,.int span])=plD (pl++[(name,ahead,span)]):=by
 rw[Qj (by rw[Ki,XZ];exact hn)];unfold plD;simp
theorem BkI.place(h:BkI b nb k S M dn pl rs)(hk:k<100){name:Str}{ahead span:Int}(hx:name.length<=1000)(hw:VG (plD pl) name ahead span=none)(hn:name∉pl.map (·.1)):∃(b':List Ob)(S':List Nat)(M':Key->List (Key×D))(dn':List D),zJ K cl T hT b [.obj nb,.str name,.int ahead,.int span]=.ok .non b'/\BkI b' nb (k+1) S' M' dn' (pl++[(name,ahead,span)]) rs/\Kp S b b' S':=by
 obtain⟨b2,S2,ep,hb2,k2,hS2⟩:=Xj (K:=K) (cl:=cl) (T:=T) (hT:=hT) h.bk (name:=name) (ahead:=ahead) (span:=span) hx (by rw[h.mp];exact hw) (fun j=>by have:=h.lm j;unfold big;omega) (by have:=h.ls;unfold big;omega) (by have:=h.ld;unfold big;omega);refine⟨b2,S2,_,_,ep,⟨hb2,?_,(Q5 (by decide +kernel)).trans h.mr,(Q5 (by decide +kernel)).trans h.mj,by have:=h.ls;omega,by rw[ar,aY];have:=h.ld;omega,fun j=>?_⟩,k2⟩
 ·rw[Q4 (by simp)]
  show(if _ then _ else _)=_;rw[aH rfl,h.mp,qdf hn]
 ·have:=h.lm j;have:=Q6 (M:=M) (k:=.inr "place") (q:=.inr name) (j:=j) (row:=.tup [.int ahead,.int span]);omega
theorem BkI.run(h:BkI b nb k S M dn pl rs)(hk:k<100){r:Rn}(hw:yV pl rs r=none):∃(b':List Ob)(S':List Nat)(M':Key->List (Key×D))(dn':List D),jg K cl T hT b [.obj nb,.str r.1,.str r.2.1,.int r.2.2.1,.int r.2.2.2.1,.int r.2.2.2.2]=.ok (.int rs.length) b'/\BkI b' nb (k+1) S' M' dn' pl (rs++[r])/\Kp S b b' S':=by
 have ro:=uB (K:=K) (cl:=cl) (T:=T) (hT:=hT) (r:=r) h.bk h.mp h.mr;rw[hw]at ro;obtain⟨b2,S2,ep,hb2,k2,hS2⟩:=ro (fun j=>by have:=h.lm j;unfold big;omega) (by have:=h.ls;unfold big;omega) (by have:=h.ld;unfold big;omega);refine⟨b2,S2,_,_,ep,⟨hb2,(Q5 (by decide +kernel)).trans h.mp,?_,(Q5 (by decide +kernel)).trans h.mj,by have:=h.ls;omega,by rw[ar,aY];have:=h.ld;omega,fun j=>?_⟩,k2⟩
 ·rw[Q4 (by simp[ruD])]
  show(if _ then _ else _)=_;rw[aH rfl,h.mr,qde]
 ·have:=h.lm j;have:=Q6 (M:=M) (k:=.inr "run") (q:=.inl (rs.length:Int)) (j:=j) (row:=ruD r);omega
theorem uU{name:Str}(hg:gnm name=true)(hn:name∉pl.map (·.1))(ha:-900<=ahead/\ahead<=900)(hs:0<=span/\span<=1000)(hl:pl.length<12):VG (plD pl) name ahead span=none:=by
 unfold VG;rw[aG (by simp[hg]),aG (by rw[Qw];simpa using hn),aG (cZ ⟨ha,hs⟩),aG (by unfold plD;rw[ak];omega)]
theorem qcb(ins:fV)(b0:List Ob):∃(b:List Ob)(nb s k:Nat)(S:List Nat)(M:Key->List (Key×D))(dn:List D)(pl:List Pl),xO K cl T hT b0 [.scr (isD ins),.int 0,.int 0]=.ok (.tup [.obj nb,stD s,.lst ((pl.map (·.1)).map .str)]) b/\BkI b nb k S M dn pl []/\St b s pl []/\Dj s S/\k<=5/\2<=pl.length/\pl.length<=5:=by
 obtain⟨vs,f1,hd⟩:=QK T hT.b ins 0 20 (by omega) (by omega);have d18:=dri hd (i:=18) (by decide) (by decide);have m18:=kN (x:=gv vs 18) (j:=4) (by decide);obtain⟨many,hm1,hm2,hm3⟩:∃m:Nat,2+gv vs 18 % 4=(m:Int)/\2<=m/\m<=5:=⟨(2+gv vs 18 % 4).toNat,by omega,by omega,by omega⟩;obtain⟨ns,f2,hn,hnd,hg⟩:=XF T hT.b hd (by omega) many hm3;obtain⟨b1,S,f3,h1,k1,hS⟩:=ur (K:=K) (cl:=cl) (T:=T) (hT:=hT) (v:=[some (.scr (isD ins)),some (.int 0),some (.int 0),some (.lst (isD vs)),some (.lst (ns.map .str)),none,none,none,none,none,none,none,none]) b0;have f4:=ut (K:=K) (cl:=cl) (T:=T) (hT:=hT) b1;let b2:List Ob:=b1++stO [] [];let V (s:Nat) (x7 x8:Option D):List (Option D):=[some (.scr (isD ins)),some (.int 0),some (.int 0),some (.lst (isD vs)),some (.lst (ns.map .str)),some (.obj b0.length),some (stD s),x7,x8,none,none,none,none];have i0:BkI b2 b0.length 0 S (fun _=>[]) [] [] []:=⟨h1.app,rfl,rfl,rfl,by omega,aj _,fun _=>aj _⟩;obtain⟨g',ef,b,s,S3,M3,dn3,pl,x7,x8,rfl,h3,s3,j3,p3⟩:=wE (W:=WB K cl T hT) (p:=qA 7) (h:=xM K cl T hT) (I:=fun dn g=>∃(b:List Ob)(s:Nat)(S:List Nat)(M:Key->List (Key×D))(dn':List D)(pl:List Pl)(x7 x8:Option D),g=⟨V s x7 x8,b⟩/\BkI b b0.length dn.length S M dn' pl []/\St b s pl []/\Dj s S/\pl.map (·.1)=ns.take dn.length) (ds:=rngD 0 many) (g:=⟨V b1.length none none,b2⟩) ⟨b2,b1.length,S,_,_,[],_,_,rfl,i0,VV [] [] b1 rfl,Dj.new h1,rfl⟩ (by
  rintro dn d g ⟨r,hr⟩ ⟨b,s,S,M,dn',pl,x7,x8,rfl,h,hs,dj,hp⟩;obtain⟨rfl,hlt⟩:=xA hr;generalize hj:dn.length=j at *
  have hjn:j<ns.length:=by omega
  have lp:pl.length=j:=by have:=bU List.length hp;rw[ak,c7]at this;omega
  have dj1:=dri hd (i:=(j:Int)) (by omega) (by omega);have dj4:=dri hd (i:=4+(j:Int)) (by omega) (by omega);have m1:=kN (x:=gv vs (j:Int)) (j:=5) (by decide);have m4:=kN (x:=gv vs (4+(j:Int))) (j:=5) (by decide);generalize gv vs (j:Int)=g1 at dj1 m1
  generalize gv vs (4+(j:Int))=g4 at dj4 m4
  obtain⟨ahead,ha,ea⟩:=Jo [0,60,0 - 300,570,900] (i:=g1 % 5) m1.1 m1.2;obtain⟨span,hsp,es⟩:=Jo [0,0,20,60,300] (i:=g4 % 5) m4.1 m4.2;have en:ixD (.lst (ns.map .str)) (.int (j:Int))=some (.str ns[j]):=by
   rw[XR (by omega),aq,cY,aa hjn];rfl
  have hnm:ns[j]∉pl.map (·.1):=by
   rw[hp];intro z;obtain⟨i,hi,e⟩:=List.mem_take_iff_getElem.mp z;have:=(List.getElem_inj hnd).mp e;omega
  have hgn:=hg _ (cR hjn);have hx:(ns[j]).length<=1000:=by
   unfold gnm at hgn;simp only[b9,decide_eq_true_eq]at hgn;omega
  have ht:ns.take (j+1)=ns.take j++[ns[j]]:=(List.take_append_getElem hjn).symm;generalize ns[j]=name at *
  simp only[ah,aE,cA]at ha hsp;obtain⟨b3,S3,M3,dn3,e3,h3,k3⟩:=h.place (K:=K) (cl:=cl) (T:=T) (hT:=hT) (by omega) (name:=name) (ahead:=ahead) (span:=span) hx (uU hgn hnm (by omega) (by omega) (by omega)) hnm;have hs3:=hs.kp k3 dj;obtain⟨b4,e4,hs4,k4⟩:=uw (K:=K) (cl:=cl) (T:=T) (hT:=hT) hs3 (name:=name) (ahead:=ahead) (span:=span) hnm (by unfold big;omega);obtain⟨l,ho⟩:=h.bk.at_;have q1:(sSet 8 (eTup (qb (eC (.str "place")) (qb (e2 ixD (eVar 4) (eVar 7)) (qb (e2 ixD (eLst (qb (eC (.int 0)) (qb (eC (.int 60)) (qb (e2 subI (eC (.int 0)) (eC (.int 300))) (qb (eC (.int 570)) (qb (eC (.int 900)) aNil)))))) (e2 modI (e2 ixD (eVar 3) (eVar 7)) (eC (.int 5)))) (qb (e2 ixD (eLst (qb (eC (.int 0)) (qb (eC (.int 0)) (qb (eC (.int 20)) (qb (eC (.int 60)) (qb (eC (.int 300)) aNil)))))) (e2 modI (e2 ixD (eVar 3) (e2 addD (eC (.int 4)) (eVar 7))) (eC (.int 5)))) aNil)))))) (⟨V s (some (.int (j:Int))) x8,b⟩:SS (WB K cl T hT))=.nx ⟨V s (some (.int (j:Int))) (some (ddP name ahead span)),b⟩:=
   stB (d:=ddP name ahead span) (tupV (aV rfl (aV (e2V (varV rfl) (varV rfl) en) (aV (e2V (lstV (aV rfl (aV rfl (aV (e2V rfl rfl Jh) (aV rfl (aV rfl rfl))))) (by simp)) (e2V (e2V (varV rfl) (varV rfl) dj1) rfl (jL (by decide))) ea) (aV (e2V (lstV (aV rfl (aV rfl (aV rfl (aV rfl (aV rfl rfl))))) (by simp)) (e2V (e2V (varV rfl) (e2V rfl (varV rfl) rfl) dj4) rfl (jL (by decide))) es) rfl)))) (by simp))
  have q2:(zC (qw qv "place" 4 (zJ K cl T hT) (eVar 5) (qb (e2 ixD (eVar 8) (eC (.int 1))) (qb (e2 ixD (eVar 8) (eC (.int 2))) (qb (e2 ixD (eVar 8) (eC (.int 3))) aNil))))) (⟨V s (some (.int (j:Int))) (some (ddP name ahead span)),b⟩:SS (WB K cl T hT))=.nx ⟨V s (some (.int (j:Int))) (some (ddP name ahead span)),b3⟩:=
   dpB (zz (i:=b0.length) (varV rfl) ho rfl (aV (e2V (x:=ddP name ahead span) (varV rfl) rfl rfl) (aV (e2V (x:=ddP name ahead span) (varV rfl) rfl rfl) (aV (e2V (x:=ddP name ahead span) (varV rfl) rfl rfl) rfl))) rfl e3)
  refine⟨_,⟨V b3.length (some (.int (j:Int))) (some (ddP name ahead span)),b4⟩,rfl,?_,b4,b3.length,S3,M3,dn3,pl++[(name,ahead,span)],_,_,rfl,?_,hs4,Dj.new h3.bk,?_⟩
  ·unfold xM
   exact af (sqB q1) (af (sqB q2) (stB (xu (aV (varV rfl) (aV (varV rfl) rfl)) rfl (okFV e4))))
  ·rw[ar,aY,hj]
   exact h3.gv k4
  ·rw[ar,aY,hj,ht,bz,hp]
   rfl)
 rw[vK]at h3 p3;rw[<- hn,List.take_length]at p3;have lp:pl.length=many:=by rw[<- hn,<- p3,ak]
 have r0:(qb (e1B lenD (eVar 4)) aNil) (⟨V b1.length none none,b2⟩:SS (WB K cl T hT))=.ok [.int (many:Int)] b2:=by
  rw[show(many:Int)=((ns.map D.str).length:Nat) by rw[ak,hn]];exact aV (e1BV (varV rfl) rfl rfl) rfl
 refine⟨b,b0.length,s,many,S3,M3,dn3,pl,?_,h3,s3,j3,hm3,by omega,by omega⟩;unfold xO JS;refine vf (af (sqB (stB (um (v:=[some (.scr (isD ins)),some (.int 0),some (.int 0),none,none,none,none,none,none,none,none,none,none]) (aV (varV rfl) (aV (varV rfl) (aV rfl rfl))) rfl f1))) ?_);refine af (sqB (stB (um (v:=[some (.scr (isD ins)),some (.int 0),some (.int 0),some (.lst (isD vs)),none,none,none,none,none,none,none,none,none]) (xs:=[.lst (isD vs),.int many]) (aV (varV rfl) (aV (e2V rfl (e2V (e2V (varV rfl) rfl d18) rfl (jL (by decide))) (by rw[<- hm1];rfl)) rfl)) rfl f2))) ?_;refine af (sqB (stB f3)) ?_;refine af (sqB (stB (xu (v:=[some (.scr (isD ins)),some (.int 0),some (.int 0),some (.lst (isD vs)),some (.lst (ns.map .str)),some (.obj b0.length),none,none,none,none,none,none,none]) (fs:=aNil) (xs:=[]) rfl rfl (okFV f4)))) ?_;refine af (sqB (forV (rngV r0 (by omega)) ef)) ?_;refine af (sqB (g':=⟨V s x7 x8,b⟩) rfl) ?_;rw[p3];exact rtB (tupV (aV (varV rfl) (aV (varV rfl) (aV (varV rfl) rfl))) (by simp))
end
section
variable{b b':List Ob}{nb s k:Nat}{S S':List Nat}{M:Key->List (Key×D)}{dn un:List D}{pl:List Pl}{rs:List Rn}{r:Rn}
variable{K:fL}{cl:Str->fR}{T:Hp->Prop}{hT:HTt T}{kw:Str->Option Str}
theorem Kp.setOut(k:Kp S b b' S'){i:Nat}{o:Ob}(hi:b.length<=i):Kp S b (b'.set i o) S':=⟨by rw[aS];exact k.len,fun j hj hs=>(ay (by omega)).trans (k.out j hj hs),k.new⟩
theorem KS{x:RO}(ho:∃l,obAt b nb=some (.ins qv [("ledger",.obj l)]))(e:jg K cl T hT b [.obj nb,.str r.1,.str r.2.1,.int r.2.2.1,.int r.2.2.2.1,.int r.2.2.2.2]=x)(hx:x≠.bad):vV K cl T hT b [.obj nb,ddR r]=x:=by
 obtain⟨l,ho⟩:=ho;have t:∀(i:Int) d,ixD (ddR r) (.int i)=some d->(e2 ixD (eVar 1) (eC (.int i))) (⟨[some (.obj nb),some (ddR r)],b⟩:SS (WB K cl T hT))=.ok d b:=fun i d e=>e2V (x:=ddR r) (varV rfl) rfl e
 have ha:=aV (t 1 _ rfl) (aV (t 2 _ rfl) (aV (t 3 _ rfl) (aV (t 4 _ rfl) (aV (t 5 _ rfl) (rfl:aNil (⟨[some (.obj nb),some (ddR r)],b⟩:SS (WB K cl T hT))=.ok [] b)))));unfold vV JR;cases x with
 |bad=>exact absurd rfl hx
 |ok d b1=>exact vf (af (sqB (g':=⟨[some (.obj nb),some (ddR r)],b⟩) rfl) (xQ (af (j_ (b':=b) rfl) (rtB (zz (i:=nb) (varV rfl) ho rfl ha rfl e)))))
 |exc w b1=>exact xw (af (sqB (g':=⟨[some (.obj nb),some (ddR r)],b⟩) rfl) (kQ (af (j_ (b':=b) rfl) (V6 (kB (i:=nb) (varV rfl) ho rfl ha rfl e)))))
theorem qcn{i j:Nat}{f:fK K cl T hT}{g g':SS (WB K cl T hT)}(e:f g=.nx g'):Jj i j kw f g=.nx g':=by unfold Jj;rw[e]
theorem qco{i j:Nat}{f:fK K cl T hT}{g:SS (WB K cl T hT)}{v:List (Option D)}{t:Str}(e:f g=.ex ⟨w,[]⟩ ⟨v,b1⟩)(hk:kw w=some t):Jj i j kw f g=.nx ⟨((v.set i none).set j (some (.tup [.str "barred",.str t]))).set i none,b1⟩:=by unfold Jj;rw[e];simp only[hk]
theorem qew{dd d:D}(e:vV K cl T hT b [.obj nb,dd]=.ok d b1):Q7 K cl T hT kw b [.obj nb,dd]=.ok d b1:=by
 unfold Q7 uu;exact vf (af (sqB (stB (d:=.str "none") (b':=b) rfl)) (af (sqB (qcn (stB (g:=⟨[some (.obj nb),some dd,some (.str "none"),none],b⟩) (xu (aV (varV rfl) (aV (varV rfl) rfl)) rfl e)))) (rtB (varV rfl))))
theorem qgs{dd:D}{t:Str}(e:vV K cl T hT b [.obj nb,dd]=.exc w b1)(hk:kw w=some t):Q7 K cl T hT kw b [.obj nb,dd]=.ok (.tup [.str "barred",.str t]) b1:=by
 unfold Q7 uu;exact vf (af (sqB (stB (d:=.str "none") (b':=b) rfl)) (af (sqB (qco (uA (v:=[some (.obj nb),some dd,some (.str "none"),none]) (uq (aV (varV rfl) (aV (varV rfl) rfl)) rfl e)) hk)) (rtB (varV rfl))))
theorem uZ{i j p:Nat}{f:fK K cl T hT}{g:SS (WB K cl T hT)}{v:List (Option D)}{t:Str}{ds:List D}(e:f g=.ex ⟨w,[]⟩ ⟨v,b1⟩)(hk:kw w=some t)(hj:(v[j]?).join=some (.obj p))(hp:obAt b1 p=some (.lst ds))(hl:ds.length<big):K9 i j kw f g=.nx ⟨(v.set i none).set i none,b1.set p (.lst (ds++[.str t]))⟩:=by
 unfold K9;rw[e];simp only[hk,hj,qbi,wt,hp,aC,hl,aP]
theorem XC(hw:Kw kw)(h:Bk b nb S M dn un){i:Int}(hk:qK (M (.inr "run")) (.inl i)=none){j p:Nat}(hj:j<5){x4:Option D}{ds:List D}(hp:obAt b p=some (.lst ds))(hl:ds.length<big):∃b1,vq K cl T hT kw (⟨[some (.obj nb),some (.int i),some (.obj p),some (.int (j:Int)),x4],b⟩:SS (WB K cl T hT))=.nx ⟨[some (.obj nb),some (.int i),some (.obj p),some (.int (j:Int)),none],b1.set p (.lst (ds++[.str "run"]))⟩/\Kp [] b b1 []:=by
 obtain⟨l,ho⟩:=h.at_;have fin:∀{f:fK K cl T hT}{b1:List Ob},f ⟨[some (.obj nb),some (.int i),some (.obj p),some (.int (j:Int)),x4],b⟩=.ex ⟨"NoRun",[]⟩ ⟨[some (.obj nb),some (.int i),some (.obj p),some (.int (j:Int)),x4],b1⟩->Kp [] b b1 []->∃b1,K9 4 2 kw (sSeq f (zC (QJ (eVar 2) (eC (.str "let"))))) ⟨[some (.obj nb),some (.int i),some (.obj p),some (.int (j:Int)),x4],b⟩=.nx ⟨[some (.obj nb),some (.int i),some (.obj p),some (.int (j:Int)),none],b1.set p (.lst (ds++[.str "run"]))⟩/\Kp [] b b1 []:=fun e kp=>⟨_,uZ (kQ e) hw.r rfl (kp.ob hp fun z=>nomatch z) hl,kp⟩
 have one:∀{m:Str}{F:List Ob->List D->RO}{ds:List D}{fs:SS (WB K cl T hT)->R (WB K cl T hT) (List D)}{k:Nat}{b1:List Ob},fs ⟨[some (.obj nb),some (.int i),some (.obj p),some (.int (j:Int)),x4],b⟩=.ok ds b->List.lookup m [(("ledger":Str),D.obj l)]=none->ds.length+1=k->F b (.obj nb::ds)=.exc "NoRun" b1->zC (qw qv m k F (eVar 0) fs) ⟨[some (.obj nb),some (.int i),some (.obj p),some (.int (j:Int)),x4],b⟩=.ex ⟨"NoRun",[]⟩ ⟨[some (.obj nb),some (.int i),some (.obj p),some (.int (j:Int)),x4],b1⟩:=fun ha hm hl e=>ZW (kB (i:=nb) (varV rfl) ho hm ha hl e)
 unfold vq
 match j,hj with
 |0,_=>
  obtain⟨b1,e,kp⟩:=VQ (K:=K) (cl:=cl) (T:=T) (hT:=hT) h hk;exact fin (af (j_ (b':=b) rfl) (one (aV (varV rfl) rfl) rfl rfl e)) kp
 |1,_=>
  obtain⟨b1,e,kp⟩:=qbt (K:=K) (cl:=cl) (T:=T) (hT:=hT) h hk;exact fin (af (zW (b':=b) rfl) (af (j_ (b':=b) rfl) (one (aV (varV rfl) rfl) rfl rfl e))) kp
 |2,_=>
  obtain⟨b1,e,kp⟩:=xB (K:=K) (cl:=cl) (T:=T) (hT:=hT) h hk;exact fin (af (zW (b':=b) rfl) (af (zW (b':=b) rfl) (af (j_ (b':=b) rfl) (one (aV (varV rfl) rfl) rfl rfl e)))) kp
 |3,_=>
  obtain⟨b1,e,kp⟩:=YN (K:=K) (cl:=cl) (T:=T) (hT:=hT) h hk (j:=0);exact fin (af (zW (b':=b) rfl) (af (zW (b':=b) rfl) (af (zW (b':=b) rfl) (af (j_ (b':=b) rfl) (one (aV (varV rfl) (aV rfl rfl)) rfl rfl e))))) kp
 |4,_=>
  obtain⟨b1,e,kp⟩:=qbw (K:=K) (cl:=cl) (T:=T) (hT:=hT) h hk;exact fin (af (zW (b':=b) rfl) (af (zW (b':=b) rfl) (af (zW (b':=b) rfl) (af (zW (b':=b) rfl) (one (aV (varV rfl) rfl) rfl rfl e))))) kp
theorem qa8(hw:Kw kw)(h:Bk b nb S M dn un){i:Int}(hk:qK (M (.inr "run")) (.inl i)=none):∃b',yz K cl T hT kw b [.obj nb,.int i]=.ok (.obj b.length) b'/\obAt b' b.length=some (.lst (List.replicate 5 (.str "run")))/\Kp [] b b' []:=by
 obtain⟨g',ef,bb,x3,x4,rfl,hp,kp⟩:=wE (W:=WB K cl T hT) (p:=qA 3) (h:=vq K cl T hT kw) (I:=fun dn g=>∃(bb:List Ob)(x3 x4:Option D),g=⟨[some (.obj nb),some (.int i),some (.obj b.length),x3,x4],bb⟩/\obAt bb b.length=some (.lst (List.replicate dn.length (.str "run")))/\Kp [] b bb []) (ds:=rngD 0 5) (g:=⟨[some (.obj nb),some (.int i),some (.obj b.length),none,none],b++[Ob.lst []]⟩) ⟨_,_,_,rfl,ki fun _=>by simp,.app⟩ (by
  rintro dn d g ⟨r,hr⟩ ⟨bb,x3,x4,rfl,hp,kp⟩;obtain⟨rfl,hlt⟩:=xA hr;obtain⟨b1,e,k1⟩:=XC (K:=K) (cl:=cl) (T:=T) (hT:=hT) hw (h.gv kp) hk hlt (x4:=x4) hp (by rw[bL];unfold big;omega);have hlt1:b.length<b1.length:=az (zU hp) k1.len;refine⟨_,_,rfl,e,_,_,_,rfl,?_,(kp.trans k1).setOut (aj _)⟩;rw[ar,aY,List.replicate_succ'];exact kh hlt1 fun _=>by simp)
 refine⟨bb,?_,hp,kp⟩;unfold yz JQ;exact vf (af (sqB (stB (WL (ds:=[]) (b1:=b) rfl))) (af (sqB (forV (rngV (n:=5) rfl (by decide)) ef)) (rtB (varV rfl))))
end
theorem pw30:powI (.int 10) (.int 30)=some (.int (10 ^ 30)):=rfl
theorem pw20:powI (.int 10) (.int 20)=some (.int (10 ^ 20)):=rfl
theorem pw40:powI (.int 10) (.int 40)=some (.int (10 ^ 40)):=rfl
theorem qby(x y:Str):eqD (.str x) (.str y)=some (.bl (x == y)):=rfl
section
variable{b b':List Ob}{nb s k:Nat}{S S':List Nat}{M:Key->List (Key×D)}{dn un:List D}{pl:List Pl}{rs:List Rn}{r:Rn}{v:List (Option D)}
variable{K:fL}{cl:Str->fR}{T:Hp->Prop}{hT:HTt T}{kw:Str->Option Str}
theorem Zi{fs:SS (WB K cl T hT)->R (WB K cl T hT) (List D)}{x y d:D}(hb:fs ⟨v,b⟩=.ok [x,y] b1)(hd:ders b1 [x,y]=some [d,d])(hp:PlN 4 d):(qNot (qTru (jS 2 (zI T hT.b jm) fs))) ⟨v,b⟩=.ok false b1:=qdb (k:=true) (qfv (qfc hb rfl hd (Ji T hT.b 4 _ hp) rfl) rfl)
theorem lenS(h:St b s pl rs)(hv:(v[4]?).join=some (stD s)):(e1B lenD (e2 ixD (eVar 4) (eC (.int 1)))) (⟨v,b⟩:SS (WB K cl T hT))=.ok (.int rs.length) b:=by
 rw[show rs.length=(rs.map ruD).length from(ak ..).symm];exact e1BV (e2V (z:=.obj (s+1)) (varV hv) rfl rfl) (ud (h 1 _ rfl)) rfl
theorem Wj(ins:fV)(i:Nat)(hi:i<31)(ns:fT)(h2:2<=ns.length)(h5:ns.length<=5)(x2 x3 x4 x6 x7 x8 x9 x10 x11 x12 x13 x14:Option D){f:fK K cl T hT} :
  ∃(r:Rn)(y6 y7 y8 y9 y10:D),(sSeq (sSet 6 (wz 3 (jJ T hT.b) (qb (eVar 0) (qb (e2 addD (eC (.int 2)) (eVar 1)) (qb (eC (.int 10)) aNil)))))
 (sSeq (sSet 7 (e2 addD (e2 addD (eVar 5) (eVar 5)) (eLst (qb (eC (.str "nowhere")) (qb (eC (.str "")) aNil)))))
 (sSeq (sSet 8 (e2 ixD (eLst (qb (eC (.int 0)) (qb (e2 subI (eC (.int 0)) (eC (.int 40000))) (qb (eC (.int 40000)) (qb (eC (.int 39999)) (qb (e2 subI (eC (.int 0)) (eC (.int 40001))) (qb (e2 mulI (e2 ixD (eVar 6) (eC (.int 0))) (eC (.int 7))) (qb (e2 powI (eC (.int 10)) (eC (.int 30))) (qb (e2 subI (eC (.int 0)) (e2 ixD (eVar 6) (eC (.int 0)))) aNil))))))))) (e2 modI (e2 ixD (eVar 6) (eC (.int 1))) (eC (.int 8)))))
 (sSeq (sSet 9 (e2 addD (eVar 8) (e2 ixD (eLst (qb (eC (.int 1)) (qb (eC (.int 0)) (qb (e2 subI (eC (.int 0)) (eC (.int 1))) (qb (e2 ixD (eVar 6) (eC (.int 2))) (qb (eC (.int 40000)) (qb (eC (.int 80000)) (qb (eC (.int 80001)) (qb (e2 powI (eC (.int 10)) (eC (.int 30))) aNil))))))))) (e2 modI (e2 ixD (eVar 6) (eC (.int 3))) (eC (.int 8))))))
 (sSeq (sSet 10 (e2 ixD (eLst (qb (eC (.int 1)) (qb (eC (.int 0)) (qb (e2 subI (eC (.int 0)) (eC (.int 1))) (qb (e2 ixD (eVar 6) (eC (.int 4))) (qb (e2 powI (eC (.int 10)) (eC (.int 20))) (qb (eC (.int 2)) (qb (eC (.int 3)) (qb (eC (.int 1)) aNil))))))))) (e2 modI (e2 ixD (eVar 6) (eC (.int 5))) (eC (.int 8)))))
 (sSeq (sSet 11 (eTup (qb (eC (.str "run")) (qb (e2 ixD (eVar 7) (e2 modI (e2 ixD (eVar 6) (eC (.int 6))) (e1B lenD (eVar 7)))) (qb (e2 ixD (eVar 7) (e2 modI (e2 ixD (eVar 6) (eC (.int 7))) (e1B lenD (eVar 7)))) (qb (eVar 8) (qb (eVar 9) (qb (eVar 10) aNil))))))))
 f)))))) (⟨[some (.scr (isD ins)),some (.int (i:Int)),x2,x3,x4,some (.lst (ns.map .str)),x6,x7,x8,x9,x10,x11,x12,x13,x14],b⟩:SS (WB K cl T hT))=f ⟨[some (.scr (isD ins)),some (.int (i:Int)),x2,x3,x4,some (.lst (ns.map .str)),some y6,some y7,some y8,some y9,some y10,some (ddR r),x12,x13,x14],b⟩:=by
 obtain⟨es,ee,hd⟩:=QK T hT.b ins (2+i) 10 (by omega) (by omega);rw[show((2+i:Nat):Int)=2+(i:Int) by omega]at ee;have b1:=kN (x:=gv es 1) (j:=8) (by decide);have b3:=kN (x:=gv es 3) (j:=8) (by decide);have b5:=kN (x:=gv es 5) (j:=8) (by decide);have d0:=dri hd (i:=0) (by decide) (by decide);have d1:=dri hd (i:=1) (by decide) (by decide);have d2:=dri hd (i:=2) (by decide) (by decide);have d3:=dri hd (i:=3) (by decide) (by decide);have d4:=dri hd (i:=4) (by decide) (by decide);have d5:=dri hd (i:=5) (by decide) (by decide);have d6:=dri hd (i:=6) (by decide) (by decide);have d7:=dri hd (i:=7) (by decide) (by decide);generalize gv es 0=g0 at d0
 generalize gv es 1=g1 at b1 d1
 generalize gv es 2=g2 at d2
 generalize gv es 3=g3 at b3 d3
 generalize gv es 4=g4 at d4
 generalize gv es 5=g5 at b5 d5
 generalize gv es 6=g6 at d6
 generalize gv es 7=g7 at d7
 obtain⟨lv,_,el⟩:=Jo [0,0 - 40000,40000,39999,0 - 40001,g0 * 7,10 ^ 30,0 - g0] (i:=g1 % 8) b1.1 b1.2;obtain⟨cm,_,ec⟩:=Jo [1,0,0 - 1,g2,40000,80000,80001,10 ^ 30] (i:=g3 % 8) b3.1 b3.2;obtain⟨se,_,es'⟩:=Jo [1,0,0 - 1,g4,10 ^ 20,2,3,1] (i:=g5 % 8) b5.1 b5.2;let si:List D:=ns.map .str++ns.map .str++[.str "nowhere",.str ""];have sl:si.length=ns.length+ns.length+2:=by simp[si];omega
 have str:∀d∈si,∃x,d=.str x:=fun d h=>by
  rcases bZ.mp h with h|h
  ·rcases bZ.mp h with h|h <;> (obtain⟨x,_,rfl⟩:=aZ.mp h;exact⟨x,rfl⟩)
  ·simp only[ah,aE,cA]at h
   rcases h with rfl|rfl <;> exact⟨_,rfl⟩
 have b6:=kN (x:=g6) (j:=(si.length:Int)) (by omega);have b7:=kN (x:=g7) (j:=(si.length:Int)) (by omega);obtain⟨da,ha,ea⟩:=qdl si (i:=g6 % (si.length:Int)) b6.1 b6.2;obtain⟨dz,hz,ez⟩:=qdl si (i:=g7 % (si.length:Int)) b7.1 b7.2;obtain⟨a,rfl⟩:=str da ha;obtain⟨z,rfl⟩:=str dz hz;have a1:addD (.lst (ns.map .str)) (.lst (ns.map .str))=some (.lst (ns.map .str++ns.map .str)):=aH (by rw[ak];unfold big;omega);have a2:addD (.lst (ns.map .str++ns.map .str)) (.lst [.str "nowhere",.str ""])=some (.lst si):=aH (by rw[ar,ak];show _+2<=_;unfold big;omega);have ml:mulI (.int g0) (.int 7)=some (.int (g0 * 7)):=mul_r (by decide) (by decide);refine⟨(a,z,lv,lv+cm,se),.lst (isD es),.lst si,.int lv,.int (lv+cm),.int se,?_⟩;refine af (sqB (stB (um (aV (varV rfl) (aV (e2V rfl (varV rfl) rfl) (aV rfl rfl))) rfl ee))) ?_;refine af (sqB (stB (e2V (e2V (varV rfl) (varV rfl) a1) (lstV (aV rfl (aV rfl rfl)) (by simp)) a2))) ?_;refine af (sqB (stB (e2V (lstV (aV rfl (aV (e2V rfl rfl Jh) (aV rfl (aV rfl (aV (e2V rfl rfl Jh) (aV (e2V (e2V (varV rfl) rfl d0) rfl ml) (aV (e2V rfl rfl pw30) (aV (e2V rfl (e2V (varV rfl) rfl d0) Jh) rfl)))))))) (by simp)) (e2V (e2V (varV rfl) rfl d1) rfl (jL (by decide))) el))) ?_;refine af (sqB (stB (e2V (varV rfl) (e2V (lstV (aV rfl (aV rfl (aV (e2V rfl rfl Jh) (aV (e2V (varV rfl) rfl d2) (aV rfl (aV rfl (aV rfl (aV (e2V rfl rfl pw30) rfl)))))))) (by simp)) (e2V (e2V (varV rfl) rfl d3) rfl (jL (by decide))) ec) rfl))) ?_;refine af (sqB (stB (e2V (lstV (aV rfl (aV rfl (aV (e2V rfl rfl Jh) (aV (e2V (varV rfl) rfl d4) (aV (e2V rfl rfl pw20) (aV rfl (aV rfl (aV rfl rfl)))))))) (by simp)) (e2V (e2V (varV rfl) rfl d5) rfl (jL (by decide))) es'))) ?_;exact sqB (stB (d:=ddR (a,z,lv,lv+cm,se)) (tupV (aV rfl (aV (e2V (varV rfl) (e2V (e2V (varV rfl) rfl d6) (e1BV (varV rfl) rfl rfl) (jL (by omega))) ea) (aV (e2V (varV rfl) (e2V (e2V (varV rfl) rfl d7) (e1BV (varV rfl) rfl rfl) (jL (by omega))) ez) (aV (varV rfl) (aV (varV rfl) (aV (varV rfl) rfl)))))) (by simp)))
theorem WO(w:Str):PlN 4 (.tup [.str "barred",.str w]):=⟨by show 2<2 ^ 60;decide,fun x hx=>by simp only[ah,aE,cA]at hx;rcases hx with rfl|rfl <;> trivial⟩
theorem u_(hw:Kw kw)(h:BkI b nb k S M dn pl rs)(hs:St b s pl rs)(hj:Dj s S)(hk:k<100)(ins:fV)(i:Nat)(hi:i<31)(h2:2<=pl.length)(h5:pl.length<=5)(x2 x6 x7 x8 x9 x10 x11 x12 x13 x14:Option D) :
  ∃(b':List Ob)(s':Nat)(S':List Nat)(M':Key->List (Key×D))(dn':List D)(rs':List Rn)(y6 y7 y8 y9 y10 y11 y12 y13:Option D),wJ K cl T hT kw (⟨[some (.scr (isD ins)),some (.int (i:Int)),x2,some (.obj nb),some (stD s),some (.lst ((pl.map (·.1)).map .str)),x6,x7,x8,x9,x10,x11,x12,x13,x14],b⟩:SS (WB K cl T hT))=.nx ⟨[some (.scr (isD ins)),some (.int (i:Int)),x2,some (.obj nb),some (stD s'),some (.lst ((pl.map (·.1)).map .str)),y6,y7,y8,y9,y10,y11,y12,y13,x14],b'⟩/\BkI b' nb (k+1) S' M' dn' pl rs'/\St b' s' pl rs'/\Dj s' S':=by
 unfold wJ;obtain⟨r,y6,y7,y8,y9,y10,e0⟩:=Wj (K:=K) (cl:=cl) (T:=T) (hT:=hT) (b:=b) ins i hi (pl.map (·.1)) (by rw[ak];exact h2) (by rw[ak];exact h5) x2 (some (.obj nb)) (some (stD s)) x6 x7 x8 x9 x10 x11 x12 x13 x14 (f:=(sSeq (sSet 12 (zR 2 (okF (jz K cl T hT)) (qb (eVar 4) (qb (eVar 11) aNil))))
 (sSeq (sSet 13 (eTup (qb (eC (.str "barred")) (qb (eVar 12) aNil))))
 (sSeq (sIf (qOf (e2B eqD (eVar 12) (eC (.str "let"))))
 (sSeq (sSet 13 (e1B lenD (e2 ixD (eVar 4) (eC (.int 1)))))
 (sSet 4 (zR 2 (okF (qU K cl T hT)) (qb (eVar 4) (qb (eVar 11) aNil)))))
 sNil)
 (sIf (qOr (qNot (qTru (jS 2 (zI T hT.b jm) (qb (zR 2 (okF (Q7 K cl T hT kw)) (qb (eVar 3) (qb (eVar 11) aNil))) (qb (eVar 13) aNil))))) (qNot (qTru (jS 2 (zI T hT.b jm) (qb (qw qv "many" 1 (okF (zx K cl T hT)) (eVar 3) aNil) (qb (e1B lenD (e2 ixD (eVar 4) (eC (.int 1)))) aNil))))))
 (sRet (eC (.bl false)))
 sNil)))))
 let V (s:Nat) (y12 y13:Option D):List (Option D):=[some (.scr (isD ins)),some (.int (i:Int)),x2,some (.obj nb),some (stD s),some (.lst ((pl.map (·.1)).map .str)),some y6,some y7,some y8,some y9,some y10,some (ddR r),y12,y13,x14];have ew:=uV (K:=K) (cl:=cl) (T:=T) (hT:=hT) (r:=r) hs;have t8:∀w:Str,(qOf (e2B eqD (eVar 12) (eC (.str "let")))) (⟨V s (some (.str w)) (some (.tup [.str "barred",.str w])),b⟩:SS (WB K cl T hT))=.ok (w == "let") b:=fun w=>qofW (e2BV (varV rfl) rfl rfl rfl (qby _ _))
 have e1:∀w:Str,wl (yV pl rs r)=w->∀{g},(sIf (qOf (e2B eqD (eVar 12) (eC (.str "let")))) (sSeq (sSet 13 (e1B lenD (e2 ixD (eVar 4) (eC (.int 1))))) (sSet 4 (zR 2 (okF (qU K cl T hT)) (qb (eVar 4) (qb (eVar 11) aNil))))) sNil) (⟨V s (some (.str w)) (some (.tup [.str "barred",.str w])),b⟩:SS (WB K cl T hT))=.nx g->∀{g2},(sIf (qOr (qNot (qTru (jS 2 (zI T hT.b jm) (qb (zR 2 (okF (Q7 K cl T hT kw)) (qb (eVar 3) (qb (eVar 11) aNil))) (qb (eVar 13) aNil))))) (qNot (qTru (jS 2 (zI T hT.b jm) (qb (qw qv "many" 1 (okF (zx K cl T hT)) (eVar 3) aNil) (qb (e1B lenD (e2 ixD (eVar 4) (eC (.int 1)))) aNil)))))) (sRet (eC (.bl false))) sNil) g=g2->_=g2:=fun w hw' g q g2 q2=>af e0 (af (sqB (stB (xu (aV (varV rfl) (aV (varV rfl) rfl)) rfl (okFV ew)))) (af (sqB (stB (tupV (aV rfl (aV (varV rfl) rfl)) (by simp)))) (by rw[hw'];exact af (sqB q) q2)))
 cases ewr:yV pl rs r with
 |some w=>
  obtain⟨hkw,hne⟩:=uW hw ewr;have ro:=uB (K:=K) (cl:=cl) (T:=T) (hT:=hT) (r:=r) h.bk h.mp h.mr;rw[ewr]at ro;obtain⟨b1,er,k1⟩:=ro;have ed:=qgs (kw:=kw) (KS h.bk.at_ er (by simp)) hkw;have t9:=t8 (wl (some w));rw[hne]at t9;have hs1:=hs.gv k1;have h1:=h.gv k1;obtain⟨l,ho⟩:=h1.bk.at_;have em:=JA (K:=K) (cl:=cl) (T:=T) (hT:=hT) h1.bk h1.mr;have hs2:=hs1.gv (Kp.app (l:=[Ob.dic []]));refine⟨b1++[Ob.dic []],s,S,M,dn,rs,_,_,_,_,_,_,_,_,e1 (wl (some w)) (by rw[ewr]) (af (zW t9) rfl) (af (zW (Yb (Zi (aV (xu (aV (varV rfl) (aV (varV rfl) rfl)) rfl (okFV ed)) (aV (varV rfl) rfl)) rfl (WO _)) (Zi (aV (zz (i:=nb) (ds:=[]) (varV rfl) ho rfl rfl rfl (okFV em)) (aV (lenS hs2 rfl) rfl)) rfl trivial))) rfl),(h1.gv .app).up,hs2,hj⟩
 |none=>
  have t9:=t8 "let";obtain⟨b1,ea,hs1,k1⟩:=uv (K:=K) (cl:=cl) (T:=T) (hT:=hT) (r:=r) hs (by have:=h.lm (.inr "run");rw[h.mr,Qg]at this;unfold big;omega);have h1:=h.gv k1;obtain⟨b2,S2,M2,dn2,er,h3,k2⟩:=h1.run (K:=K) (cl:=cl) (T:=T) (hT:=hT) hk ewr;have ed:=qew (kw:=kw) (KS h1.bk.at_ er (by simp));have hj1:Dj b.length S:=Dj.new h.bk;have hs2:=hs1.kp k2 hj1;obtain⟨l,ho⟩:=h3.bk.at_;have em:=JA (K:=K) (cl:=cl) (T:=T) (hT:=hT) h3.bk h3.mr;have hs3:=hs2.gv (Kp.app (l:=[Ob.dic []]));refine⟨b2++[Ob.dic []],b.length,S2,M2,dn2,rs++[r],_,_,_,_,_,_,_,_,e1 "let" (by rw[ewr];rfl) (g:=⟨V b.length (some (.str "let")) (some (.int rs.length)),b1⟩) (af (j_ t9) (af (sqB (stB (lenS hs rfl))) (stB (xu (aV (varV rfl) (aV (varV rfl) rfl)) rfl (okFV ea))))) (af (zW (Yb (Zi (aV (xu (aV (varV rfl) (aV (varV rfl) rfl)) rfl (okFV ed)) (aV (varV rfl) rfl)) rfl trivial) (Zi (aV (zz (i:=nb) (ds:=[]) (varV rfl) ho rfl rfl rfl (okFV em)) (aV (lenS hs3 rfl) rfl)) rfl trivial))) rfl),h3.gv .app,hs3,hj1.kp k2 hs1.lt⟩
theorem ixLS(h:St b s pl rs)(hv:(v[4]?).join=some (stD s)){j:Nat}(h2:(v[2]?).join=some (.int (j:Int)))(hr:rs[j]?=some r):(eIxL (e2 ixD (eVar 4) (eC (.int 1))) (eVar 2)) (⟨v,b⟩:SS (WB K cl T hT))=.ok (ruD r) b:=by
 have e1:(e2 ixD (eVar 4) (eC (.int 1))) (⟨v,b⟩:SS (WB K cl T hT))=.ok (.obj (s+1)) b:=e2V (varV hv) rfl rfl;have e2:(eVar 2) (⟨v,b⟩:SS (WB K cl T hT))=.ok (.int (j:Int)) b:=varV h2;have e3:obAt b (s+1)=some (.lst (rs.map ruD)):=h 1 _ rfl;have e4:atI (rs.map ruD) (j:Int)=some (ruD r):=by
  have:=XR (ds:=rs.map ruD) (i:=(j:Int)) (by omega);rw[cY,aq,hr]at this;exact this
 unfold eIxL ql;simp only[e1,e2,wt,e3,aC,e4,eOpt]
theorem qae(h:BkI b nb k S M dn pl rs)(hs:St b s pl rs){j:Nat}(hj:j<rs.length)(x0 x1 x5 x6 x7 x8 x9 x10 x11 x12 x13 x14:Option D) :
  ∃(b':List Ob)(y14:Option D),wK K cl T hT (⟨[x0,x1,some (.int (j:Int)),some (.obj nb),some (stD s),x5,x6,x7,x8,x9,x10,x11,x12,x13,x14],b⟩:SS (WB K cl T hT))=.nx ⟨[x0,x1,some (.int (j:Int)),some (.obj nb),some (stD s),x5,x6,x7,x8,x9,x10,x11,x12,x13,y14],b'⟩/\Kp [] b b' []:=by
 have hr:rs[j]?=some rs[j]:=aa hj;generalize rs[j]=r at hr
 have hk:qK (M (.inr "run")) (.inl (j:Int))=some (ruD r):=by rw[h.mr,qbd,hr];rfl
 obtain⟨b1,e1,k1⟩:=y0 (K:=K) (cl:=cl) (T:=T) (hT:=hT) h.bk hk;obtain⟨b2,f2,k2⟩:=YY (K:=K) (cl:=cl) (T:=T) (hT:=hT) (h.bk.gv k1) hk;obtain⟨b3,f3,k3⟩:=Y1 (K:=K) (cl:=cl) (T:=T) (hT:=hT) ((h.bk.gv k1).gv k2) hk h.mj;obtain⟨l,o0⟩:=h.bk.at_;have o1:=k1.ob o0 (fun z=>nomatch z);have o2:=k2.ob o1 (fun z=>nomatch z);have kk:=(k1.trans k2).trans k3;let rd:D:=.tup [.int (j:Int),.str r.1,.str r.2.1,.int r.2.2.1,.int r.2.2.2.1];let V (y:Option D):List (Option D):=[x0,x1,some (.int (j:Int)),some (.obj nb),some (stD s),x5,x6,x7,x8,x9,x10,x11,x12,x13,y];have q1:(e2 addD (eTup (qb (eVar 2) aNil)) (yn (eIxL (e2 ixD (eVar 4) (eC (.int 1))) (eVar 2)) Ve (Vd (eC (.int 4))))) (⟨V x14,b⟩:SS (WB K cl T hT))=.ok rd b:=by
  have sl:(yn (eIxL (e2 ixD (eVar 4) (eC (.int 1))) (eVar 2)) Ve (Vd (eC (.int 4)))) (⟨V x14,b⟩:SS (WB K cl T hT))=.ok (.tup [.str r.1,.str r.2.1,.int r.2.2.1,.int r.2.2.2.1]) b:=by
   unfold yn ql;rw[ixLS hs rfl rfl hr];rfl
  exact e2V (tupV (aV (varV rfl) rfl) (by simp)) sl rfl
 have hs3:=hs.gv kk;have x3:=ixLS (K:=K) (cl:=cl) (T:=T) (hT:=hT) (v:=V (some rd)) hs3 rfl rfl hr;have t:(qNot (qTru (jS 2 (zI T hT.b jm) (qb (eTup (qb (qw qv "told" 2 (qN K cl T hT) (eVar 3) (qb (eVar 2) aNil)) (qb (qw qv "goes" 2 (zo K cl T hT) (eVar 3) (qb (eVar 2) aNil)) (qb (qw qv "free" 2 (zp K cl T hT) (eVar 3) (qb (eVar 2) aNil)) aNil)))) (qb (eTup (qb (eIxL (e2 ixD (eVar 4) (eC (.int 1))) (eVar 2)) (qb (eVar 14) (qb (e2 ixD (eIxL (e2 ixD (eVar 4) (eC (.int 1))) (eVar 2)) (eC (.int 4))) aNil)))) aNil))))) (⟨V (some rd),b⟩:SS (WB K cl T hT))=.ok false b3:=
  Zi (d:=.tup [ruD r,rd,.int r.2.2.2.2]) (aV (tupV (aV (zz (i:=nb) (varV rfl) o0 rfl (aV (varV rfl) rfl) rfl e1) (aV (zz (i:=nb) (varV rfl) o1 rfl (aV (varV rfl) rfl) rfl f2) (aV (zz (i:=nb) (varV rfl) o2 rfl (aV (varV rfl) rfl) rfl f3) rfl))) (by simp)) (aV (tupV (aV x3 (aV (varV rfl) (aV (e2V x3 rfl rfl) rfl))) (by simp)) rfl)) rfl (by
   refine⟨by show 3<2 ^ 60;decide,fun x hx=>?_⟩;simp only[ah,aE,cA]at hx;rcases hx with rfl|rfl|rfl
   ·refine⟨by show 5<2 ^ 60;decide,fun x hx=>?_⟩
    simp only[ah,aE,cA]at hx;rcases hx with rfl|rfl|rfl|rfl|rfl <;> trivial
   ·refine⟨by show 5<2 ^ 60;decide,fun x hx=>?_⟩
    simp only[ah,aE,cA]at hx;rcases hx with rfl|rfl|rfl|rfl|rfl <;> trivial
   ·trivial)
 unfold wK;exact⟨b3,some rd,af (sqB (stB q1)) (af (zW t) rfl),kk⟩
theorem Qv(hw:Kw kw)(h:BkI b nb k S M dn pl rs){i:Int}(hi:i<0\/(rs.length:Int)<=i){v:List (Option D)}(h2:(v[2]?).join=some (.int i))(h3:(v[3]?).join=some (.obj nb)):∃b':List Ob,vp K cl T hT kw (⟨v,b⟩:SS (WB K cl T hT))=.nx ⟨v,b'⟩/\Kp [] b b' []:=by
 obtain⟨b1,e,hp,kp⟩:=qa8 (K:=K) (cl:=cl) (T:=T) (hT:=hT) hw h.bk (i:=i) (by rw[h.mr];exact Vi hi);refine⟨b1,?_,kp⟩;unfold vp;exact af (zW (qofW (e2BV (xu (aV (varV h3) (aV (varV h2) rfl)) rfl (okFV e)) (e2V (lstV (aV rfl rfl) (by simp)) rfl (z:=.lst (List.replicate 5 (.str "run"))) rfl) (ud hp) rfl (by kernel_rfl)))) rfl
theorem qd8(hw:Kw kw)(ins:fV)(b0:List Ob):∃b':List Ob,qck K cl T hT kw b0 [.scr (isD ins)]=.ok (.bl true) b':=by
 obtain⟨b1,nb,s1,k1,S1,M1,dn1,pl,e1,h1,hs1,hj1,hk1,hp2,hp5⟩:=qcb (K:=K) (cl:=cl) (T:=T) (hT:=hT) ins b0;obtain⟨vs,f2,hd⟩:=QK T hT.b ins 1 1 (by omega) (by omega);have d0:=dri hd (i:=0) (by decide) (by decide);have m0:=kN (x:=gv vs 0) (j:=31) (by decide);obtain⟨n,hn1,hn2⟩:∃n:Nat,gv vs 0 % 31=(n:Int)/\n<31:=⟨(gv vs 0 % 31).toNat,by omega,by omega⟩;let V (s:Nat) (x1 x2 x6 x7 x8 x9 x10 x11 x12 x13 x14:Option D):List (Option D):=[some (.scr (isD ins)),x1,x2,some (.obj nb),some (stD s),some (.lst ((pl.map (·.1)).map .str)),x6,x7,x8,x9,x10,x11,x12,x13,x14];obtain⟨g',ef,b2,s2,S2,M2,dn2,rs,x1,x6,x7,x8,x9,x10,x11,x12,x13,rfl,h2,hs2,hj2⟩:=wE (W:=WB K cl T hT) (p:=qA 1) (h:=wJ K cl T hT kw) (I:=fun dn g=>∃(b:List Ob)(s:Nat)(S:List Nat)(M:Key->List (Key×D))(dn':List D)(rs:List Rn)(x1 x6 x7 x8 x9 x10 x11 x12 x13:Option D),g=⟨V s x1 none x6 x7 x8 x9 x10 x11 x12 x13 none,b⟩/\BkI b nb (k1+dn.length) S M dn' pl rs/\St b s pl rs/\Dj s S) (ds:=rngD 0 n) (g:=⟨V s1 none none none none none none none none none none none,b1⟩) ⟨b1,s1,S1,M1,dn1,[],_,_,_,_,_,_,_,_,_,rfl,h1,hs1,hj1⟩ (by
  rintro dn d g ⟨r,hr⟩ ⟨b,s,S,M,dn',rs,x1,x6,x7,x8,x9,x10,x11,x12,x13,rfl,h,hs,hj⟩;obtain⟨rfl,hlt⟩:=xA hr;obtain⟨b',s',S',M',dn2,rs2,y6,y7,y8,y9,y10,y11,y12,y13,e,h',hs',hj'⟩:=u_ (K:=K) (cl:=cl) (T:=T) (hT:=hT) hw h hs hj (by omega) ins dn.length (by omega) hp2 hp5 none x6 x7 x8 x9 x10 x11 x12 x13 none;exact⟨_,_,rfl,e,b',s',S',M',dn2,rs2,_,y6,y7,y8,y9,y10,y11,y12,y13,rfl,by rw[ar,aY];exact h',hs',hj'⟩)
 obtain⟨g3,ef3,b3,x2,x14,rfl,k3⟩:=wE (W:=WB K cl T hT) (p:=qA 2) (h:=wK K cl T hT) (I:=fun _ g=>∃(b:List Ob)(x2 x14:Option D),g=⟨V s2 x1 x2 x6 x7 x8 x9 x10 x11 x12 x13 x14,b⟩/\Kp [] b2 b []) (ds:=rngD 0 rs.length) (g:=⟨V s2 x1 none x6 x7 x8 x9 x10 x11 x12 x13 none,b2⟩) ⟨b2,_,_,rfl,.refl⟩ (by
  rintro dn d g ⟨r,hr⟩ ⟨b,x2,x14,rfl,kp⟩;obtain⟨rfl,hlt⟩:=xA hr;obtain⟨b',y14,e,k'⟩:=qae (K:=K) (cl:=cl) (T:=T) (hT:=hT) (h2.gv kp) (hs2.gv kp) hlt (some (.scr (isD ins))) x1 (some (.lst ((pl.map (·.1)).map .str))) x6 x7 x8 x9 x10 x11 x12 x13 x14;exact⟨_,_,rfl,e,b',_,y14,rfl,kp.trans k'⟩)
 have h3:=h2.gv k3;have hs3:=hs2.gv k3;have hl:rs.length<=k1+n:=by have:=h3.lm (.inr "run");rw[h3.mr,Qg,vK]at this;exact this
 obtain⟨z,hz,pz⟩:∃z:Int,(rs.length:Int)<=z/\powI (.int 10) (.int 40)=some (.int z):=⟨10 ^ 40,by omega,pw40⟩;obtain⟨y,hy,py⟩:∃y:Int,y<0/\subI (.int 0) (.int 1)=some (.int y):=⟨0 - 1,by omega,Jh⟩;obtain⟨b4,f4,k4⟩:=Qv (K:=K) (cl:=cl) (T:=T) (hT:=hT) (b:=b3) hw h3 (i:=y) (.inl hy) (v:=V s2 x1 (some (.int y)) x6 x7 x8 x9 x10 x11 x12 x13 x14) rfl rfl;obtain⟨b5,f5,k5⟩:=Qv (K:=K) (cl:=cl) (T:=T) (hT:=hT) (b:=b4) hw (h3.gv k4) (i:=(rs.length:Int)) (by omega) (v:=V s2 x1 (some (.int (rs.length:Int))) x6 x7 x8 x9 x10 x11 x12 x13 x14) rfl rfl;obtain⟨b6,f6,k6⟩:=Qv (K:=K) (cl:=cl) (T:=T) (hT:=hT) (b:=b5) hw ((h3.gv k4).gv k5) (i:=z) (.inr hz) (v:=V s2 x1 (some (.int z)) x6 x7 x8 x9 x10 x11 x12 x13 x14) rfl rfl;refine⟨b6,?_⟩;unfold qck qcc;refine vf ?_;refine af (sqB (g':=⟨V s1 none none none none none none none none none none none,b1⟩) (asV (p:=pTup 3 (qM (qA 3) (qM (qA 4) (qM (qA 5) pNil)))) (g:=⟨[some (.scr (isD ins)),none,none,none,none,none,none,none,none,none,none,none,none,none,none],b0⟩) (fa:=zR 3 (okF (xO K cl T hT)) (qb (eVar 0) (qb (eC (.int 0)) (qb (eC (.int 0)) aNil)))) (xu (aV (varV rfl) (aV rfl (aV rfl rfl))) rfl (okFV e1)) rfl)) ?_;refine af (sqB (forV (rngV (n:=n) (by rw[<- hn1];exact aV (e2V (e2V (um (aV (varV rfl) (aV rfl (aV rfl rfl))) rfl f2) rfl d0) rfl (jL (by decide))) rfl) (by omega)) ef)) ?_;refine af (sqB (forV (rngV (n:=rs.length) (aV (lenS hs2 rfl) rfl) (by omega)) ef3)) ?_;refine af (sqB (forV (b1:=b3) (ds:=[.int y,.int (rs.length:Int),.int z]) (g':=⟨V s2 x1 (some (.int z)) x6 x7 x8 x9 x10 x11 x12 x13 x14,b6⟩) ?_ ?_)) rfl
 ·have q:(eLst (qb (e2 subI (eC (.int 0)) (eC (.int 1))) (qb (e1B lenD (e2 ixD (eVar 4) (eC (.int 1)))) (qb (e2 powI (eC (.int 10)) (eC (.int 40))) aNil)))) (⟨V s2 x1 x2 x6 x7 x8 x9 x10 x11 x12 x13 x14,b3⟩:SS (WB K cl T hT))=.ok (.lst [.int y,.int (rs.length:Int),.int z]) b3:=lstV (aV (e2V rfl rfl py) (aV (lenS hs3 rfl) (aV (e2V rfl rfl pz) rfl))) (by simp)
  unfold iSeq ql;rw[q];rfl
 ·have go:∀(d:D)(ds:List D)(b b':List Ob)(x2:Option D),vp K cl T hT kw ⟨V s2 x1 (some d) x6 x7 x8 x9 x10 x11 x12 x13 x14,b⟩=.nx ⟨V s2 x1 (some d) x6 x7 x8 x9 x10 x11 x12 x13 x14,b'⟩->forD (qA 2) (vp K cl T hT kw) (d::ds) ⟨V s2 x1 x2 x6 x7 x8 x9 x10 x11 x12 x13 x14,b⟩=forD (qA 2) (vp K cl T hT kw) ds ⟨V s2 x1 (some d) x6 x7 x8 x9 x10 x11 x12 x13 x14,b'⟩:=fun d ds b b' x2 e=>JL (p:=qA 2) (show qA 2 d (⟨V s2 x1 x2 x6 x7 x8 x9 x10 x11 x12 x13 x14,b⟩:SS (WB K cl T hT))=some (⟨V s2 x1 (some d) x6 x7 x8 x9 x10 x11 x12 x13 x14,b⟩:SS (WB K cl T hT))from rfl) e
  rw[go _ _ _ _ _ f4,go _ _ _ _ _ f5,go _ _ _ _ _ f6];rfl
end
end M
namespace My
open PySem L2 X2
def top(i:Nat):Stmt:=PySem.Challenge.pw_wayhold_k14_runs_told.main.body.getD i (.Pass ⟨0,0,0,0⟩)
abbrev wC:Stmt:=top 64
structure TxtK(K:fL)(mg:fO)(C_BadName C_BadClock C_BadTimes C_BadSeats C_BadNews C_Taken C_NoPlace C_NoRun C_NoJourney C_NoLeg C_NoBed C_NoShare C_NoWay C_Twice C_Astray C_Full C_Broken C_NoDeed C_BadText:Addr):Prop where
 b_isinstance:mg "isinstance"=none
 b_zip:mg "zip"=none
 m_BadName:mg "BadName"=some (.ref C_BadName)
 m_BadClock:mg "BadClock"=some (.ref C_BadClock)
 m_BadTimes:mg "BadTimes"=some (.ref C_BadTimes)
 m_BadSeats:mg "BadSeats"=some (.ref C_BadSeats)
 m_BadNews:mg "BadNews"=some (.ref C_BadNews)
 m_Taken:mg "Taken"=some (.ref C_Taken)
 m_NoPlace:mg "NoPlace"=some (.ref C_NoPlace)
 m_NoRun:mg "NoRun"=some (.ref C_NoRun)
 m_NoJourney:mg "NoJourney"=some (.ref C_NoJourney)
 m_NoLeg:mg "NoLeg"=some (.ref C_NoLeg)
 m_NoBed:mg "NoBed"=some (.ref C_NoBed)
 m_NoShare:mg "NoShare"=some (.ref C_NoShare)
 m_NoWay:mg "NoWay"=some (.ref C_NoWay)
 m_Twice:mg "Twice"=some (.ref C_Twice)
 m_Astray:mg "Astray"=some (.ref C_Astray)
 m_Full:mg "Full"=some (.ref C_Full)
 m_Broken:mg "Broken"=some (.ref C_Broken)
 m_NoDeed:mg "NoDeed"=some (.ref C_NoDeed)
 m_BadText:mg "BadText"=some (.ref C_BadText)
 kds:Kds K [C_BadName,C_BadClock,C_BadTimes,C_BadSeats,C_BadNews,C_Taken,C_NoPlace,C_NoRun,C_NoJourney,C_NoLeg,C_NoBed,C_NoShare,C_NoWay,C_Twice,C_Astray,C_Full,C_Broken,C_NoDeed,C_BadText]
theorem sc_Lkinds:FnScope ["_law_e","_law_some","_law_names_here"] ["_law_e"] (qm wC):=⟨rfl,rfl,rfl,by decide +kernel,rfl,by decide +kernel,by decide +kernel⟩
def glN:fT:=[("isinstance":Str),("zip":Str),("BadName":Str),("BadClock":Str),("BadTimes":Str),("BadSeats":Str),("BadNews":Str),("Taken":Str),("NoPlace":Str),("NoRun":Str),("NoJourney":Str),("NoLeg":Str),("NoBed":Str),("NoShare":Str),("NoWay":Str),("Twice":Str),("Astray":Str),("Full":Str),("Broken":Str),("NoDeed":Str),("BadText":Str)]
theorem glx:∀x∈glN,(qm wC).names.lookup x=some .globalImplicit:=by decide +kernel
theorem gm(i:Nat){x:Str}(h:glN[i]?=some x):(qm wC).names.lookup x=some .globalImplicit:=glx x (aM h)
section
variable{P:Program}{w:World}{K:fL}{mg:fO}{base:Heap}{C_BadName C_BadClock C_BadTimes C_BadSeats C_BadNews C_Taken C_NoPlace C_NoRun C_NoJourney C_NoLeg C_NoBed C_NoShare C_NoWay C_Twice C_Astray C_Full C_Broken C_NoDeed C_BadText:Addr}{KH:Addr}{yh:FuncData}
theorem ok_Lkinds(T:TxtK K mg C_BadName C_BadClock C_BadTimes C_BadSeats C_BadNews C_Taken C_NoPlace C_NoRun C_NoJourney C_NoLeg C_NoBed C_NoShare C_NoWay C_Twice C_Astray C_Full C_Broken C_NoDeed C_BadText)(F:Fun K "_law_kinds" "_law_kinds" wC KH yh):FnOkH P w K mg base CX0 1 KH yh ["_law_e"] (wM [C_BadName,C_BadClock,C_BadTimes,C_BadSeats,C_BadNews,C_Taken,C_NoPlace,C_NoRun,C_NoJourney,C_NoLeg,C_NoBed,C_NoShare,C_NoWay,C_Twice,C_Astray,C_Full,C_Broken,C_NoDeed,C_BadText]):=by
 refine X2.Fun.okH F sc_Lkinds (fun vs H Q E h=>?_) (fun cdv A outer s H vs Q E hr hx h=>?_)
 ·obtain⟨a,i,t,rfl,_⟩:=h
  rfl
 obtain⟨a,i,t,rfl,hE,ht,q⟩:=h;refine⟨_,
  (jZ (vB (i:=1) sc_Lkinds.nd rfl (by trivial) (xW (qr (jh 0 (gm 0 rfl) T.b_isinstance (gm 2 rfl) T.m_BadName) (qr (jh 0 (gm 0 rfl) T.b_isinstance (gm 3 rfl) T.m_BadClock) (qr (jh 0 (gm 0 rfl) T.b_isinstance (gm 4 rfl) T.m_BadTimes) (qr (jh 0 (gm 0 rfl) T.b_isinstance (gm 5 rfl) T.m_BadSeats) zt))))))
(jZ (vB (i:=1) sc_Lkinds.nd rfl (by trivial) (Zo yI (pv 1) (xW (qr (jh 0 (gm 0 rfl) T.b_isinstance (gm 6 rfl) T.m_BadNews) (qr (jh 0 (gm 0 rfl) T.b_isinstance (gm 7 rfl) T.m_Taken) (qr (jh 0 (gm 0 rfl) T.b_isinstance (gm 8 rfl) T.m_NoPlace) (qr (jh 0 (gm 0 rfl) T.b_isinstance (gm 9 rfl) T.m_NoRun) zt)))))))
(jZ (vB (i:=1) sc_Lkinds.nd rfl (by trivial) (Zo yI (pv 1) (xW (qr (jh 0 (gm 0 rfl) T.b_isinstance (gm 10 rfl) T.m_NoJourney) (qr (jh 0 (gm 0 rfl) T.b_isinstance (gm 11 rfl) T.m_NoLeg) (qr (jh 0 (gm 0 rfl) T.b_isinstance (gm 12 rfl) T.m_NoBed) (qr (jh 0 (gm 0 rfl) T.b_isinstance (gm 13 rfl) T.m_NoShare) zt)))))))
(jZ (vB (i:=1) sc_Lkinds.nd rfl (by trivial) (Zo yI (pv 1) (xW (qr (jh 0 (gm 0 rfl) T.b_isinstance (gm 14 rfl) T.m_NoWay) (qr (jh 0 (gm 0 rfl) T.b_isinstance (gm 15 rfl) T.m_Twice) (qr (jh 0 (gm 0 rfl) T.b_isinstance (gm 16 rfl) T.m_Astray) (qr (jh 0 (gm 0 rfl) T.b_isinstance (gm 17 rfl) T.m_Full) zt)))))))
(jZ (vB (i:=1) sc_Lkinds.nd rfl (by trivial) (Zo yI (pv 1) (xW (qr (jh 0 (gm 0 rfl) T.b_isinstance (gm 18 rfl) T.m_Broken) (qr (jh 0 (gm 0 rfl) T.b_isinstance (gm 19 rfl) T.m_NoDeed) (qr (jh 0 (gm 0 rfl) T.b_isinstance (gm 20 rfl) T.m_BadText) zt))))))
(jZ (vB (i:=2) sc_Lkinds.nd rfl (by trivial) (xW (qr zQ (qr zQ (qr zQ (qr zQ (qr zQ (qr zQ (qr zQ (qr zQ (qr zQ (qr zQ zt))))))))))))
(jZ (vB (i:=2) sc_Lkinds.nd rfl (by trivial) (Zo yI (pv 2) (xW (qr zQ (qr zQ (qr zQ (qr zQ (qr zQ (qr zQ (qr zQ (qr zQ (qr zQ zt))))))))))))
(Qk (uF (Xo PySem.F.plainAttrs_str PySem.F.slot_str_join PySem.F.type_str_join XG zQ (qr (Ys (T:=["_law_name","_law_so"]) (caps:=[]) (ix:=[]) (wd rfl (by rfl) (by decide +kernel) (by decide +kernel) rfl (by contradiction) (by rfl) (by contradiction)) hx (qar (gm 1 rfl) T.b_zip (qr (pv 2) (qr (pv 1) zt))) (fun _ _ _ _ hx=>(Yj (n:=2) K rfl hx (Qm (qx (i:=0) (by show(["_law_name","_law_so"]:fT).Nodup;decide +kernel) rfl (by trivial)) (Qm (qx (i:=1) (by show(["_law_name","_law_so"]:fT).Nodup;decide +kernel) rfl (by trivial)) Xl)))) (fun _ _ _ _=>(Xc (Xd K rfl (pv 1) (fun _=>rfl)))) (fun _ _ _ _=>(pv 0))) zt))))))))))),?_⟩
 have E0:=hE;refine jn T.kds E0 (j:=0) rfl rfl (jn T.kds E0 (j:=1) rfl rfl (jn T.kds E0 (j:=2) rfl rfl (jn T.kds E0 (j:=3) rfl rfl (?_))));refine⟨(by show 4<=sizeLine;decide),fun p0 n0=>?_⟩;have s0:Same H (upd H p0 (.lst [.bl (decide (i=0)),.bl (decide (i=1)),.bl (decide (i=2)),.bl (decide (i=3))])):=zK n0 _;have h0:(upd H p0 (.lst [.bl (decide (i=0)),.bl (decide (i=1)),.bl (decide (i=2)),.bl (decide (i=3))])) p0=some (.lst [.bl (decide (i=0)),.bl (decide (i=1)),.bl (decide (i=2)),.bl (decide (i=3))]):=qi
 revert s0 h0
 generalize upd H p0 (.lst [.bl (decide (i=0)),.bl (decide (i=1)),.bl (decide (i=2)),.bl (decide (i=3))])=H0
 intro s0 h0;have E1:=hE.same s0;refine⟨_,rfl,jn T.kds E1 (j:=4) rfl rfl (jn T.kds E1 (j:=5) rfl rfl (jn T.kds E1 (j:=6) rfl rfl (jn T.kds E1 (j:=7) rfl rfl (?_))))⟩;refine⟨(by show 4<=sizeLine;decide),fun q1 m1=>⟨p0,q1,_,_,rfl,rfl,zK m1 _ _ _ h0,qi,(by show 4+4<=sizeLine;decide),fun p1 n1=>?_⟩⟩;have s1:Same H (upd (upd H0 q1 (.lst [.bl (decide (i=4)),.bl (decide (i=5)),.bl (decide (i=6)),.bl (decide (i=7))])) p1 (.lst ([.bl (decide (i=0)),.bl (decide (i=1)),.bl (decide (i=2)),.bl (decide (i=3))]++[.bl (decide (i=4)),.bl (decide (i=5)),.bl (decide (i=6)),.bl (decide (i=7))]))):=(s0.new m1 _).new n1 _;have h1:(upd (upd H0 q1 (.lst [.bl (decide (i=4)),.bl (decide (i=5)),.bl (decide (i=6)),.bl (decide (i=7))])) p1 (.lst ([.bl (decide (i=0)),.bl (decide (i=1)),.bl (decide (i=2)),.bl (decide (i=3))]++[.bl (decide (i=4)),.bl (decide (i=5)),.bl (decide (i=6)),.bl (decide (i=7))]))) p1=some (.lst [.bl (decide (i=0)),.bl (decide (i=1)),.bl (decide (i=2)),.bl (decide (i=3)),.bl (decide (i=4)),.bl (decide (i=5)),.bl (decide (i=6)),.bl (decide (i=7))]):=qi
 revert s1 h1
 generalize (upd (upd H0 q1 (.lst [.bl (decide (i=4)),.bl (decide (i=5)),.bl (decide (i=6)),.bl (decide (i=7))])) p1 (.lst ([.bl (decide (i=0)),.bl (decide (i=1)),.bl (decide (i=2)),.bl (decide (i=3))]++[.bl (decide (i=4)),.bl (decide (i=5)),.bl (decide (i=6)),.bl (decide (i=7))])))=H1
 intro s1 h1;have E2:=hE.same s1;refine⟨_,rfl,jn T.kds E2 (j:=8) rfl rfl (jn T.kds E2 (j:=9) rfl rfl (jn T.kds E2 (j:=10) rfl rfl (jn T.kds E2 (j:=11) rfl rfl (?_))))⟩;refine⟨(by show 4<=sizeLine;decide),fun q2 m2=>⟨p1,q2,_,_,rfl,rfl,zK m2 _ _ _ h1,qi,(by show 8+4<=sizeLine;decide),fun p2 n2=>?_⟩⟩;have s2:Same H (upd (upd H1 q2 (.lst [.bl (decide (i=8)),.bl (decide (i=9)),.bl (decide (i=10)),.bl (decide (i=11))])) p2 (.lst ([.bl (decide (i=0)),.bl (decide (i=1)),.bl (decide (i=2)),.bl (decide (i=3)),.bl (decide (i=4)),.bl (decide (i=5)),.bl (decide (i=6)),.bl (decide (i=7))]++[.bl (decide (i=8)),.bl (decide (i=9)),.bl (decide (i=10)),.bl (decide (i=11))]))):=(s1.new m2 _).new n2 _;have h2:(upd (upd H1 q2 (.lst [.bl (decide (i=8)),.bl (decide (i=9)),.bl (decide (i=10)),.bl (decide (i=11))])) p2 (.lst ([.bl (decide (i=0)),.bl (decide (i=1)),.bl (decide (i=2)),.bl (decide (i=3)),.bl (decide (i=4)),.bl (decide (i=5)),.bl (decide (i=6)),.bl (decide (i=7))]++[.bl (decide (i=8)),.bl (decide (i=9)),.bl (decide (i=10)),.bl (decide (i=11))]))) p2=some (.lst [.bl (decide (i=0)),.bl (decide (i=1)),.bl (decide (i=2)),.bl (decide (i=3)),.bl (decide (i=4)),.bl (decide (i=5)),.bl (decide (i=6)),.bl (decide (i=7)),.bl (decide (i=8)),.bl (decide (i=9)),.bl (decide (i=10)),.bl (decide (i=11))]):=qi
 revert s2 h2
 generalize (upd (upd H1 q2 (.lst [.bl (decide (i=8)),.bl (decide (i=9)),.bl (decide (i=10)),.bl (decide (i=11))])) p2 (.lst ([.bl (decide (i=0)),.bl (decide (i=1)),.bl (decide (i=2)),.bl (decide (i=3)),.bl (decide (i=4)),.bl (decide (i=5)),.bl (decide (i=6)),.bl (decide (i=7))]++[.bl (decide (i=8)),.bl (decide (i=9)),.bl (decide (i=10)),.bl (decide (i=11))])))=H2
 intro s2 h2;have E3:=hE.same s2;refine⟨_,rfl,jn T.kds E3 (j:=12) rfl rfl (jn T.kds E3 (j:=13) rfl rfl (jn T.kds E3 (j:=14) rfl rfl (jn T.kds E3 (j:=15) rfl rfl (?_))))⟩;refine⟨(by show 4<=sizeLine;decide),fun q3 m3=>⟨p2,q3,_,_,rfl,rfl,zK m3 _ _ _ h2,qi,(by show 12+4<=sizeLine;decide),fun p3 n3=>?_⟩⟩;have s3:Same H (upd (upd H2 q3 (.lst [.bl (decide (i=12)),.bl (decide (i=13)),.bl (decide (i=14)),.bl (decide (i=15))])) p3 (.lst ([.bl (decide (i=0)),.bl (decide (i=1)),.bl (decide (i=2)),.bl (decide (i=3)),.bl (decide (i=4)),.bl (decide (i=5)),.bl (decide (i=6)),.bl (decide (i=7)),.bl (decide (i=8)),.bl (decide (i=9)),.bl (decide (i=10)),.bl (decide (i=11))]++[.bl (decide (i=12)),.bl (decide (i=13)),.bl (decide (i=14)),.bl (decide (i=15))]))):=(s2.new m3 _).new n3 _;have h3:(upd (upd H2 q3 (.lst [.bl (decide (i=12)),.bl (decide (i=13)),.bl (decide (i=14)),.bl (decide (i=15))])) p3 (.lst ([.bl (decide (i=0)),.bl (decide (i=1)),.bl (decide (i=2)),.bl (decide (i=3)),.bl (decide (i=4)),.bl (decide (i=5)),.bl (decide (i=6)),.bl (decide (i=7)),.bl (decide (i=8)),.bl (decide (i=9)),.bl (decide (i=10)),.bl (decide (i=11))]++[.bl (decide (i=12)),.bl (decide (i=13)),.bl (decide (i=14)),.bl (decide (i=15))]))) p3=some (.lst [.bl (decide (i=0)),.bl (decide (i=1)),.bl (decide (i=2)),.bl (decide (i=3)),.bl (decide (i=4)),.bl (decide (i=5)),.bl (decide (i=6)),.bl (decide (i=7)),.bl (decide (i=8)),.bl (decide (i=9)),.bl (decide (i=10)),.bl (decide (i=11)),.bl (decide (i=12)),.bl (decide (i=13)),.bl (decide (i=14)),.bl (decide (i=15))]):=qi
 revert s3 h3
 generalize (upd (upd H2 q3 (.lst [.bl (decide (i=12)),.bl (decide (i=13)),.bl (decide (i=14)),.bl (decide (i=15))])) p3 (.lst ([.bl (decide (i=0)),.bl (decide (i=1)),.bl (decide (i=2)),.bl (decide (i=3)),.bl (decide (i=4)),.bl (decide (i=5)),.bl (decide (i=6)),.bl (decide (i=7)),.bl (decide (i=8)),.bl (decide (i=9)),.bl (decide (i=10)),.bl (decide (i=11))]++[.bl (decide (i=12)),.bl (decide (i=13)),.bl (decide (i=14)),.bl (decide (i=15))])))=H3
 intro s3 h3;have E4:=hE.same s3;refine⟨_,rfl,jn T.kds E4 (j:=16) rfl rfl (jn T.kds E4 (j:=17) rfl rfl (jn T.kds E4 (j:=18) rfl rfl (?_)))⟩;refine⟨(by show 3<=sizeLine;decide),fun q4 m4=>⟨p3,q4,_,_,rfl,rfl,zK m4 _ _ _ h3,qi,(by show 16+3<=sizeLine;decide),fun p4 n4=>?_⟩⟩;have s4:Same H (upd (upd H3 q4 (.lst [.bl (decide (i=16)),.bl (decide (i=17)),.bl (decide (i=18))])) p4 (.lst ([.bl (decide (i=0)),.bl (decide (i=1)),.bl (decide (i=2)),.bl (decide (i=3)),.bl (decide (i=4)),.bl (decide (i=5)),.bl (decide (i=6)),.bl (decide (i=7)),.bl (decide (i=8)),.bl (decide (i=9)),.bl (decide (i=10)),.bl (decide (i=11)),.bl (decide (i=12)),.bl (decide (i=13)),.bl (decide (i=14)),.bl (decide (i=15))]++[.bl (decide (i=16)),.bl (decide (i=17)),.bl (decide (i=18))]))):=(s3.new m4 _).new n4 _;have h4:(upd (upd H3 q4 (.lst [.bl (decide (i=16)),.bl (decide (i=17)),.bl (decide (i=18))])) p4 (.lst ([.bl (decide (i=0)),.bl (decide (i=1)),.bl (decide (i=2)),.bl (decide (i=3)),.bl (decide (i=4)),.bl (decide (i=5)),.bl (decide (i=6)),.bl (decide (i=7)),.bl (decide (i=8)),.bl (decide (i=9)),.bl (decide (i=10)),.bl (decide (i=11)),.bl (decide (i=12)),.bl (decide (i=13)),.bl (decide (i=14)),.bl (decide (i=15))]++[.bl (decide (i=16)),.bl (decide (i=17)),.bl (decide (i=18))]))) p4=some (.lst [.bl (decide (i=0)),.bl (decide (i=1)),.bl (decide (i=2)),.bl (decide (i=3)),.bl (decide (i=4)),.bl (decide (i=5)),.bl (decide (i=6)),.bl (decide (i=7)),.bl (decide (i=8)),.bl (decide (i=9)),.bl (decide (i=10)),.bl (decide (i=11)),.bl (decide (i=12)),.bl (decide (i=13)),.bl (decide (i=14)),.bl (decide (i=15)),.bl (decide (i=16)),.bl (decide (i=17)),.bl (decide (i=18))]):=qi
 revert s4 h4
 generalize (upd (upd H3 q4 (.lst [.bl (decide (i=16)),.bl (decide (i=17)),.bl (decide (i=18))])) p4 (.lst ([.bl (decide (i=0)),.bl (decide (i=1)),.bl (decide (i=2)),.bl (decide (i=3)),.bl (decide (i=4)),.bl (decide (i=5)),.bl (decide (i=6)),.bl (decide (i=7)),.bl (decide (i=8)),.bl (decide (i=9)),.bl (decide (i=10)),.bl (decide (i=11)),.bl (decide (i=12)),.bl (decide (i=13)),.bl (decide (i=14)),.bl (decide (i=15))]++[.bl (decide (i=16)),.bl (decide (i=17)),.bl (decide (i=18))])))=H4
 intro s4 h4;refine⟨(by show 10<=sizeLine;decide),fun u0 v0=>?_⟩;have t0:Same H4 (upd H4 u0 (.lst [.str "name",.str "clock",.str "times",.str "seats",.str "news",.str "taken",.str "place",.str "run",.str "journey",.str "leg"])):=zK v0 _;have g0:(upd H4 u0 (.lst [.str "name",.str "clock",.str "times",.str "seats",.str "news",.str "taken",.str "place",.str "run",.str "journey",.str "leg"])) u0=some (.lst [.str "name",.str "clock",.str "times",.str "seats",.str "news",.str "taken",.str "place",.str "run",.str "journey",.str "leg"]):=qi
 revert t0 g0
 generalize (upd H4 u0 (.lst [.str "name",.str "clock",.str "times",.str "seats",.str "news",.str "taken",.str "place",.str "run",.str "journey",.str "leg"]))=J0
 intro t0 g0;refine⟨_,rfl,(by show 9<=sizeLine;decide),fun u1 v1=>⟨u0,u1,_,_,rfl,rfl,zK v1 _ _ _ g0,qi,(by show 10+9<=sizeLine;decide),fun u2 v2=>?_⟩⟩;have t2:Same H4 (upd (upd J0 u1 (.lst [.str "bed",.str "share",.str "way",.str "twice",.str "astray",.str "full",.str "broken",.str "deed",.str "text"])) u2 (.lst ([.str "name",.str "clock",.str "times",.str "seats",.str "news",.str "taken",.str "place",.str "run",.str "journey",.str "leg"]++[.str "bed",.str "share",.str "way",.str "twice",.str "astray",.str "full",.str "broken",.str "deed",.str "text"]))):=(t0.new v1 _).new v2 _;have g2:(upd (upd J0 u1 (.lst [.str "bed",.str "share",.str "way",.str "twice",.str "astray",.str "full",.str "broken",.str "deed",.str "text"])) u2 (.lst ([.str "name",.str "clock",.str "times",.str "seats",.str "news",.str "taken",.str "place",.str "run",.str "journey",.str "leg"]++[.str "bed",.str "share",.str "way",.str "twice",.str "astray",.str "full",.str "broken",.str "deed",.str "text"]))) u2=some (.lst (kdN.map V.str)):=qi
 revert t2 g2
 generalize (upd (upd J0 u1 (.lst [.str "bed",.str "share",.str "way",.str "twice",.str "astray",.str "full",.str "broken",.str "deed",.str "text"])) u2 (.lst ([.str "name",.str "clock",.str "times",.str "seats",.str "news",.str "taken",.str "place",.str "run",.str "journey",.str "leg"]++[.str "bed",.str "share",.str "way",.str "twice",.str "astray",.str "full",.str "broken",.str "deed",.str "text"])))=J2
 intro t2 g2;have hb:J2 p4=some (.lst ((List.range 19).map fun j=>V.bl (decide (i=j)))):=t2 _ _ h4;have sJ:Same H J2:=fun b x e=>t2 _ _ (s4 _ _ e)
 refine⟨rfl,_,rfl,_,rfl,u2,p4,rfl,⟨_,SqL.of g2⟩,⟨_,SqL.of hb⟩,?_⟩;refine Ww (xs:=kdN.map V.str) (zs:=(List.range 19).map fun j=>V.bl (decide (i=j))) (n:=19) (by rw[ak,ak,List.length_range];rfl) (fun j D σ ys H2=>∃v w:Option V,σ=[v,w]/\Same J2 H2/\H2 D=some (.lst ys)/\ys=if i<j then[.str t] else[]) (fun D nD=>⟨_,_,rfl,zK nD _,qi,(aG (Nat.not_lt_zero i)).symm⟩) ?_ ?_ ?_
 ·rintro j D σ ys H2 hj nD ⟨v,w,rfl,s,hD,rfl⟩
  refine⟨SqL.of (s _ _ g2),SqL.of (s _ _ hb),hD,?_⟩
  split
  ·exact vY (by show 1<=1000;decide)
  ·exact vY (bW _)
 ·rintro j x z D σ ys H2 T' hx' hz hj nD hT ⟨v,w,rfl,s,hD,rfl⟩
  have s2:=s.new hT (.tup [x,z]);rw[aq,eP hj,bx]at hz;cases hz;rw[aq]at hx';obtain⟨tj,et⟩:∃tj,kdN[j]?=some tj:=by
   cases et:kdN[j]? with
   |none=>rw[et]at hx';cases hx'
   |some tj=>exact⟨tj,rfl⟩
  rw[et]at hx';cases hx';refine⟨T',_,rfl,SqT.of qi,rfl,_,_,rfl,_,_,rfl,rfl,?_⟩;refine⟨_,rfl,_,rfl,?_⟩;have hDT:=(qf (o:=.tup [.str tj,.bl (decide (i=j))]) (zh hD hT)).trans hD
  by_cases hij:i=j
  ·subst hij
   refine iteP (aX rfl) ⟨_,rfl,hDT,CW.of hj ⟨_,_,rfl,s2.put nD _,qi,?_⟩⟩;rw[et]at ht;cases ht;rw[aG (bI _),aH (cQ _)];rfl
  ·have hb0:¬ (decide (i=j)=true):=fun z=>hij (fy z)
   refine iteN hb0 (CW.of hj ⟨_,_,rfl,s2,hDT,?_⟩)
   by_cases hl:i<j
   ·rw[aH hl,aH (Nat.lt_succ_of_lt hl)]
   ·rw[aG hl,aG (fun z=>hl (by omega))]
 ·rintro D ys σ H2 nD ⟨v,w,rfl,s,hD,rfl⟩
  have i19:i<19:=(ai.mp ht).1;rw[aH i19]at hD;obtain⟨j1,j2⟩:=qbh t (aM ht);refine⟨_,D,[t],rfl,rfl,hD,j1,?_⟩;rw[j2];exact q _ fun b x e=>s _ _ (sJ _ _ e)
end
end My
namespace M
open PySem PySem.Spec PyProof.Rows L2 X2
variable{fdLk jc jd jo jv kl km q8 qE qG qL qQ qR qZ qk vh vi vj yM zL zM zN zb zi zj zk zl zr:FuncData}
section
variable{P:Program}{w:World}{K:fL}{mg:fO}{base:Heap}{cl:Str->fR}{T:Hp->Prop}{hT:HTt T}{kw:Str->Option Str}{cs:fP}{Wc fLk:Addr}
theorem wN:FnScope g8 g8 (qm vv):=⟨rfl,rfl,rfl,by decide +kernel,rfl,by decide +kernel,by decide +kernel⟩
theorem wY(Tx:Txt K mg base cl)(Fu:Fun K "table" "Ledger.table" vv qI qk):FnOk P w K mg base CX0 1 qI qk g8 (spB0 K T 2 (qj K cl T hT)):=by
 have z:=ju (P:=P) (w:=w) (K:=K) (mg:=mg) (base:=base) (k:=0) (n:=2) (N:=g8) (ps:=g8) (body:=(jB K cl T hT)) (O':=[]) Fu wN rfl (fun cdv A outer s H EX E hr=>
  (qh (qY (qb3 (huR hr) (kM (dv 0) Tx.cls_Ledger Tx.na_Ledger_tables) (dv 1) (kq (xJ kx)) ⟨rfl,rfl,rfl,rfl⟩))))
 exact z
theorem Zg:FnScope ["self"] ["self"] (qm wR):=⟨rfl,rfl,rfl,by decide +kernel,rfl,by decide +kernel,by decide +kernel⟩
theorem Zw(Tx:Txt K mg base cl)(Fu:Fun K "many" "Book.many" wR jP zj)(GLedger_table:FnOk P w K mg base CX0 1 qI qk g8 (spB0 K T 2 (qj K cl T hT)))(BLedger_table:Binds K qk g8 []):FnOk P w K mg base CX0 2 jP zj ["self"] (spB0 K T 1 (zx K cl T hT)):=by
 have z:=ju (P:=P) (w:=w) (K:=K) (mg:=mg) (base:=base) (k:=1) (n:=1) (N:=["self"]) (ps:=["self"]) (body:=(vS K cl T hT)) (O':=[]) Fu Zg rfl (fun cdv A outer s H EX E hr=>
  (qh (qY (jU rfl Tx.b_len (zH (kM (dv 0) Tx.cls_Book Tx.na_Book_ledger) Tx.cls_Ledger Tx.me_Ledger_table GLedger_table (mo hr) BLedger_table (qa (m:=true) dcs (qo (m:=true))))))))
 exact z
theorem wn:FnScope fW fW (qm kR):=⟨rfl,rfl,rfl,by decide +kernel,rfl,by decide +kernel,by decide +kernel⟩
theorem wp(Tx:Txt K mg base cl)(Fu:Fun K "need_run" "Book.need_run" kR zF qL)(GLedger_table:FnOk P w K mg base CX0 1 qI qk g8 (spB0 K T 2 (qj K cl T hT)))(BLedger_table:Binds K qk g8 []):FnOk P w K mg base (CX1 P w) 2 zF qL fW (spB K cl T 2 (qS K cl T hT)):=by
 have z:=k9 (P:=P) (w:=w) (K:=K) (mg:=mg) (base:=base) (k:=1) (n:=2) (N:=fW) (ps:=fW) (body:=(jr K cl T hT)) (O':=[]) Fu wn rfl (fun cdv A outer s H EX E hr=>
  (qh (zd (qV (v7 (huR hr)) YE (dv 1) (zH (kM (dv 0) Tx.cls_Book Tx.na_Book_ledger) Tx.cls_Ledger Tx.me_Ledger_table GLedger_table (mo hr) BLedger_table (qa (m:=true) dcs (qo (m:=true)))) rfl)
  (qh (jA Tx.cl_NoRun (Tx.oc_NoRun) rfl rfl))
  qC)))
 exact z
theorem Zf:FnScope fW fW (qm wQ):=⟨rfl,rfl,rfl,by decide +kernel,rfl,by decide +kernel,by decide +kernel⟩
theorem Zv(Tx:Txt K mg base cl)(Fu:Fun K "told" "Book.told" wQ jb qG)(GBook_need_run:FnOk P w K mg base (CX1 P w) 2 zF qL fW (spB K cl T 2 (qS K cl T hT)))(BBook_need_run:Binds K qL fW [])(GLedger_table:FnOk P w K mg base CX0 1 qI qk g8 (spB0 K T 2 (qj K cl T hT)))(BLedger_table:Binds K qk g8 []):FnOk P w K mg base (CX1 P w) 3 jb qG fW (spB K cl T 2 (qN K cl T hT)):=by
 have z:=k9 (P:=P) (w:=w) (K:=K) (mg:=mg) (base:=base) (k:=2) (n:=2) (N:=fW) (ps:=fW) (body:=(kH K cl T hT)) (O':=[]) Fu Zf rfl (fun cdv A outer s H EX E hr=>
  (qc (zG (q9 (dv 0) Tx.cls_Book Tx.me_Book_need_run GBook_need_run (mo hr) BBook_need_run (qa (m:=true) (dv 1) (qo (m:=true)))))
  (qh (qY (qe1 (huR hr) (zH (kM (dv 0) Tx.cls_Book Tx.na_Book_ledger) Tx.cls_Ledger Tx.me_Ledger_table GLedger_table (mo hr) BLedger_table (qa (m:=true) dcs (qo (m:=true)))) (dv 1) (fun _ _=>rfl))))))
 exact z
theorem sc_Book_free:FnScope ["self","run","seats"] fW (qm wT):=⟨rfl,rfl,rfl,by decide +kernel,rfl,by decide +kernel,by decide +kernel⟩
theorem Zy(Tx:Txt K mg base cl)(Fu:Fun K "free" "Book.free" wT jR zl)(GBook_told:FnOk P w K mg base (CX1 P w) 3 jb qG fW (spB K cl T 2 (qN K cl T hT)))(BBook_told:Binds K qG fW [])(GLedger_table:FnOk P w K mg base CX0 1 qI qk g8 (spB0 K T 2 (qj K cl T hT)))(BLedger_table:Binds K qk g8 []):FnOk P w K mg base (CX1 P w) 4 jR zl fW (spB K cl T 2 (zp K cl T hT)):=by
 have z:=k9 (P:=P) (w:=w) (K:=K) (mg:=mg) (base:=base) (k:=3) (n:=2) (N:=["self","run","seats"]) (ps:=fW) (body:=(kJ K cl T hT)) (O':=[]) Fu sc_Book_free rfl (fun cdv A outer s H EX E hr=>
  (qc (qT (i:=2) sc_Book_free.nd rfl (by trivial) (qD (huR hr) (q9 (dv 0) Tx.cls_Book Tx.me_Book_told GBook_told (mo hr) BBook_told (qa (m:=true) (dv 1) (qo (m:=true)))) dci))
  (qh (qY (q_ v6 Qu (dv 2) (jU rfl Tx.b_len (DO.de (Wk (fo:=(qw qe "table" 2 (okF (qj K cl T hT)) (eFld qv "ledger" (eVar 0)) (qb (eC (.str "journey")) aNil))) (xK (T:=["start","goal","legs"]) (caps:=["run"]) (ix:=[1]) (O1:=[]) (wd rfl (by rfl) (by decide +kernel) (by decide +kernel) rfl (by contradiction) (by rfl) (by contradiction)) rfl (by decide) (jH (qu qd (qu qd (qu qd z5)))) (DI.toC (uc (zH (kM (dv 0) Tx.cls_Book Tx.na_Book_ledger) Tx.cls_Ledger Tx.me_Ledger_table GLedger_table (mo hr) BLedger_table (qa (m:=true) dcs (qo (m:=true)))))) (fun _ _ _ _ _=>(wc rfl (qB qd (qz (qx (i:=0) (by show(["start","goal","legs","run"]:fT).Nodup;decide +kernel) rfl (by trivial))) (qB qd (qz (qx (i:=1) (by show(["start","goal","legs","run"]:fT).Nodup;decide +kernel) rfl (by trivial))) (qB qd (qz (qx (i:=2) (by show(["start","goal","legs","run"]:fT).Nodup;decide +kernel) rfl (by trivial))) kE))))) (by decide) (by decide) (fun _ _ _ _ _=>(Wd (qV (Xu (huR hr)) o_in (dv 3) (dv 2) rfl))) (fun _ _ _ _ _=>(de_c Qn rfl)))))))))))
 exact z
theorem sc_Book_ride_by:FnScope gG gF (qm vz):=⟨rfl,rfl,rfl,by decide +kernel,rfl,by decide +kernel,by decide +kernel⟩
theorem w4(Tx:Txt K mg base cl)(Fu:Fun K "ride_by" "Book.ride_by" vz z9 qR)(GBook_told:FnOk P w K mg base (CX1 P w) 3 jb qG fW (spB K cl T 2 (qN K cl T hT)))(BBook_told:Binds K qG fW []):FnOk P w K mg base (CX1 P w) 4 z9 qR gF (spB K cl T 3 (zn K cl T hT)):=by
 have z:=k9 (P:=P) (w:=w) (K:=K) (mg:=mg) (base:=base) (k:=3) (n:=3) (N:=gG) (ps:=gF) (body:=(kd K cl T hT)) (O':=[]) Fu sc_Book_ride_by rfl (fun cdv A outer s H EX E hr=>
  (qc (KM (jH (qu qd (qu qd (qu qd (qu qd (qu qd z5)))))) (q9 (dv 0) Tx.cls_Book Tx.me_Book_told GBook_told (mo hr) BBook_told (qa (m:=true) (dv 1) (qo (m:=true)))) (wc rfl (qB qd (qz (qx (i:=4) sc_Book_ride_by.nd rfl (by trivial))) (qB qd (qz (qx (i:=5) sc_Book_ride_by.nd rfl (by trivial))) (qB qd (qz (qx (i:=6) sc_Book_ride_by.nd rfl (by trivial))) (qB qd (qz (qx (i:=7) sc_Book_ride_by.nd rfl (by trivial))) (qB qd (qz (qx (i:=8) sc_Book_ride_by.nd rfl (by trivial))) kE)))))))
  (qc (qT (i:=3) sc_Book_ride_by.nd rfl (by trivial) (jf (qa (m:=true) (dv 1) (qa (m:=true) (dv 4) (qa (m:=true) (dv 5) (qa (m:=true) (dv 6) (qa (m:=true) (dv 7) (qo (m:=true)))))))))
  (qc (zd (wb (vH (dv 2)))
  (qh (qY (dv 3)))
  qC)
  (qc (O1:=[]) zu
  (qc (O1:=[]) zu
  (qh zu)))))))
 exact z
theorem sc_Book_reports:FnScope ["self","run","news"] fW (qm vA):=⟨rfl,rfl,rfl,by decide +kernel,rfl,by decide +kernel,by decide +kernel⟩
theorem w5(Tx:Txt K mg base cl)(Fu:Fun K "reports" "Book.reports" vA zy qE)(GBook_need_run:FnOk P w K mg base (CX1 P w) 2 zF qL fW (spB K cl T 2 (qS K cl T hT)))(BBook_need_run:Binds K qL fW [])(GLedger_table:FnOk P w K mg base CX0 1 qI qk g8 (spB0 K T 2 (qj K cl T hT)))(BLedger_table:Binds K qk g8 []):FnOk P w K mg base (CX1 P w) 3 zy qE fW (spB K cl T 2 (qJ K cl T hT)):=by
 have z:=k9 (P:=P) (w:=w) (K:=K) (mg:=mg) (base:=base) (k:=2) (n:=2) (N:=["self","run","news"]) (ps:=fW) (body:=(jC K cl T hT)) (O':=[]) Fu sc_Book_reports rfl (fun cdv A outer s H EX E hr=>
  (qc (zG (q9 (dv 0) Tx.cls_Book Tx.me_Book_need_run GBook_need_run (mo hr) BBook_need_run (qa (m:=true) (dv 1) (qo (m:=true)))))
  (qc (qT (i:=2) sc_Book_reports.nd rfl (by trivial) (zH (kM (dv 0) Tx.cls_Book Tx.na_Book_ledger) Tx.cls_Ledger Tx.me_Ledger_table GLedger_table (mo hr) BLedger_table (qa (m:=true) (jf (qa (m:=true) dcs (qa (m:=true) (dv 1) (qo (m:=true))))) (qo (m:=true)))))
  (qh (qY (DO.de (Y_ rfl Tx.b_sorted (DO.de (Wk (fo:=(eVar 2)) (xK (T:=gR) (caps:=[]) (ix:=[]) (O1:=[]) (wd rfl (by rfl) (by decide +kernel) (by decide +kernel) rfl (by contradiction) (by rfl) (by contradiction)) rfl (by decide) (jH (qu qd (qu (jH (qu qd (qu qd z5))) z5))) (DI.toC (Wn (dv 2))) (fun _ _ _ _ _=>(wc rfl (qB qd (qz (qx (i:=0) (by show(gR:fT).Nodup;decide +kernel) rfl (by trivial))) (qB (jH (qu qd (qu qd z5))) (wc rfl (qB qd (qz (qx (i:=1) (by show(gR:fT).Nodup;decide +kernel) rfl (by trivial))) (qB qd (qz (qx (i:=2) (by show(gR:fT).Nodup;decide +kernel) rfl (by trivial))) kE))) kE)))) (by decide) (by decide) (fun _ _ _ _ _=>yp) (fun _ _ _ _ _=>(jf (qa (m:=true) (dv 0) (qa (m:=true) (dv 1) (qa (m:=true) (dv 2) (qo (m:=true)))))))))))))))))
 exact z
theorem Zh:FnScope fW fW (qm wS):=⟨rfl,rfl,rfl,by decide +kernel,rfl,by decide +kernel,by decide +kernel⟩
theorem Zx(Tx:Txt K mg base cl)(Fu:Fun K "goes" "Book.goes" wS jQ zk)(GBook_ride_by:FnOk P w K mg base (CX1 P w) 4 z9 qR gF (spB K cl T 3 (zn K cl T hT)))(BBook_ride_by:Binds K qR gF [])(GBook_reports:FnOk P w K mg base (CX1 P w) 3 zy qE fW (spB K cl T 2 (qJ K cl T hT)))(BBook_reports:Binds K qE fW []):FnOk P w K mg base (CX1 P w) 5 jQ zk fW (spB K cl T 2 (zo K cl T hT)):=by
 have z:=k9 (P:=P) (w:=w) (K:=K) (mg:=mg) (base:=base) (k:=4) (n:=2) (N:=fW) (ps:=fW) (body:=(kI K cl T hT)) (O':=[]) Fu Zh rfl (fun cdv A outer s H EX E hr=>
  (qh (qY (q9 (dv 0) Tx.cls_Book Tx.me_Book_ride_by GBook_ride_by (mo hr) BBook_ride_by (qa (m:=true) (dv 1) (qa (m:=true) (q9 (dv 0) Tx.cls_Book Tx.me_Book_reports GBook_reports (mo hr) BBook_reports (qa (m:=true) (dv 1) (qo (m:=true)))) (qo (m:=true))))))))
 exact z
theorem vZ:FnScope ["self"] ["self"] (qm ke):=⟨rfl,rfl,rfl,by decide +kernel,rfl,by decide +kernel,by decide +kernel⟩
theorem v8(Tx:Txt K mg base cl)(Fu:Fun K "__init__" "Ledger.__init__" ke zO qZ):FnOk P w K mg base CX0 1 zO qZ ["self"] (spB0 K T 1 (qO K cl T hT)):=by
 have z:=ju (P:=P) (w:=w) (K:=K) (mg:=mg) (base:=base) (k:=0) (n:=1) (N:=["self"]) (ps:=["self"]) (body:=(jw K cl T hT)) (O':=[]) Fu vZ rfl (fun cdv A outer s H EX E hr=>
  (qc (ZV (dv 0) (kq (xJ kx)) Tx.cls_Ledger Tx.na_Ledger_tables)
  (qc (ZV (dv 0) (kq (z_ (qo (m:=true)))) Tx.cls_Ledger Tx.na_Ledger_done)
  (qh (ZV (dv 0) (kq (z_ (qo (m:=true)))) Tx.cls_Ledger Tx.na_Ledger_undone)))))
 exact z
theorem wo:FnScope ["self"] ["self"] (qm kS):=⟨rfl,rfl,rfl,by decide +kernel,rfl,by decide +kernel,by decide +kernel⟩
theorem wq(Tx:Txt K mg base cl)(Fu:Fun K "__init__" "Book.__init__" kS jp zi)(GLedger___init__:FnOk P w K mg base CX0 1 zO qZ ["self"] (spB0 K T 1 (qO K cl T hT)))(BLedger___init__:Binds K qZ ["self"] []):FnOk P w K mg base CX0 3 jp zi ["self"] (spB0 K T 1 (zg K cl T hT)):=by
 have z:=ju (P:=P) (w:=w) (K:=K) (mg:=mg) (base:=base) (k:=2) (n:=1) (N:=["self"]) (ps:=["self"]) (body:=(jX K cl T hT)) (O':=[]) Fu wo rfl (fun cdv A outer s H EX E hr=>
  (qh (ZV (dv 0) (ZZ Tx.mk_Ledger GLedger___init__ (mo hr) rfl Tx.mc_Ledger BLedger___init__) Tx.cls_Book Tx.na_Book_ledger)))
 exact z
theorem sc_Ledger_put:FnScope ["self","which","key","row","rows"] gK (qm xR):=⟨rfl,rfl,rfl,by decide +kernel,rfl,by decide +kernel,by decide +kernel⟩
theorem Qq(Tx:Txt K mg base cl)(Fu:Fun K "put" "Ledger.put" xR j4 zL):FnOk P w K mg base CX0 1 j4 zL gK (spB0 K T 4 (zm K cl T hT)):=by
 have z:=ju (P:=P) (w:=w) (K:=K) (mg:=mg) (base:=base) (k:=0) (n:=4) (N:=["self","which","key","row","rows"]) (ps:=gK) (body:=(j7 K cl T hT)) (O':=[]) Fu sc_Ledger_put rfl (fun cdv A outer s H EX E hr=>
  (qc (qT (i:=4) sc_Ledger_put.nd rfl (by trivial) (Wq (kM (dv 0) Tx.cls_Ledger Tx.na_Ledger_tables) (dv 1) ⟨rfl,rfl,rfl,rfl⟩))
  (qh (zd (jq Xs qa7 (dv 3) (de_c Kk rfl) (qH _))
  (qh (zG (qb1 (dv 4) (dv 2) (de_c Kk rfl) ⟨rfl,rfl,rfl,rfl⟩)))
  (qh (Wg (huR hr) (dv 4) (dv 2) (dv 3)))))))
 exact z
theorem sc_Ledger_enter:FnScope ["self","deed","changes","steps","which","key","row"] gE (qm vw):=⟨rfl,rfl,rfl,by decide +kernel,rfl,by decide +kernel,by decide +kernel⟩
theorem wZ(Tx:Txt K mg base cl)(Fu:Fun K "enter" "Ledger.enter" vw z8 qQ)(GLedger_table:FnOk P w K mg base CX0 1 qI qk g8 (spB0 K T 2 (qj K cl T hT)))(BLedger_table:Binds K qk g8 [])(GLedger_put:FnOk P w K mg base CX0 1 j4 zL gK (spB0 K T 4 (zm K cl T hT)))(BLedger_put:Binds K zL gK []):FnOk P w K mg base CX0 2 z8 qQ gE (spB0 K T 3 (qX K cl T hT)):=by
 have z:=ju (P:=P) (w:=w) (K:=K) (mg:=mg) (base:=base) (k:=1) (n:=3) (N:=["self","deed","changes","steps","which","key","row"]) (ps:=gE) (body:=(kc K cl T hT)) (O':=[]) Fu sc_Ledger_enter rfl (fun cdv A outer s H EX E hr=>
  (qc (DS.weak (O:=[]) (O1:=[]) (O2:=[]) (Y8 (i:=3) sc_Ledger_enter.nd rfl (by trivial) (T:=["which","key","row"]) (caps:=["self"]) (ix:=[0]) (O1:=[]) (wd rfl (by rfl) (by decide +kernel) (by decide +kernel) rfl (by contradiction) (by rfl) (by contradiction)) rfl (by decide) (jH (qu qd (qu qd (qu qd z5)))) (DI.toC (ZX (dv 2))) (fun _ _ _ _ _=>(wc rfl (qB qd (qz (qx (i:=0) (by show(["which","key","row","self"]:fT).Nodup;decide +kernel) rfl (by trivial))) (qB qd (qz (qx (i:=1) (by show(["which","key","row","self"]:fT).Nodup;decide +kernel) rfl (by trivial))) (qB qd (qz (qx (i:=2) (by show(["which","key","row","self"]:fT).Nodup;decide +kernel) rfl (by trivial))) kE))))) (by decide) (by decide) (fun _ _ _ _ _=>yp) (fun _ _ _ _ _=>(jf (qa (m:=true) (dv 0) (qa (m:=true) (dv 1) (qa (m:=true) (ug (huR hr) (zH (dv 3) Tx.cls_Ledger Tx.me_Ledger_table GLedger_table (mo hr) BLedger_table (qa (m:=true) (dv 0) (qo (m:=true)))) (dv 1) ⟨rfl,rfl,rfl,rfl⟩) (qa (m:=true) (dv 2) (qo (m:=true))))))))) (by decide) (by decide))
  (qc (xq bH rfl (jH (qu qd (qu qd (qu qd z5)))) (ZX (dv 2)) (wc rfl (qB qd (qz (qx (i:=4) sc_Ledger_enter.nd rfl (by trivial))) (qB qd (qz (qx (i:=5) sc_Ledger_enter.nd rfl (by trivial))) (qB qd (qz (qx (i:=6) sc_Ledger_enter.nd rfl (by trivial))) kE))))
  (qh (zG (zH (dv 0) Tx.cls_Ledger Tx.me_Ledger_put GLedger_put (mo hr) BLedger_put (qa (m:=true) (dv 4) (qa (m:=true) (dv 5) (qa (m:=true) (dv 6) (qo (m:=true)))))))))
  (qc (zG (JN (kM (dv 0) Tx.cls_Ledger Tx.na_Ledger_done) (jf (qa (m:=true) (dv 1) (qa (m:=true) (ue rfl Tx.b_tuple (dv 3)) (qo (m:=true)))))))
  (qh (ZV (dv 0) (kq (z_ (qo (m:=true)))) Tx.cls_Ledger Tx.na_Ledger_undone))))))
 exact z
theorem Ze:FnScope ["name"] ["name"] (qm wO):=⟨rfl,rfl,rfl,by decide +kernel,rfl,by decide +kernel,by decide +kernel⟩
theorem Zt(Tx:Txt K mg base cl)(Fu:Fun K "good_name" "good_name" wO jN jc):FnOk P w K mg base CX0 1 jN jc ["name"] (spP K T 1 false (jy T hT.b)):=by
 obtain⟨t_LONGEST_NAME,e_LONGEST_NAME⟩:=Tx.c_LONGEST_NAME;obtain⟨t_SIGNS,e_SIGNS⟩:=Tx.s_SIGNS;have z:=Y3 (P:=P) (w:=w) (K:=K) (mg:=mg) (base:=base) (k:=0) (n:=1) (N:=["name"]) (ps:=["name"]) (fr:=false) (body:=(vP T hT.b)) (O':=[]) Fu Ze rfl (fun cdv A outer s H EX E hr=>
  (qh (qY (Z0 (Wt Qp o_le Qp o_le dci (vI rfl Tx.b_len (dv 0)) (de_c (j9 (v:=.int 12) rfl e_LONGEST_NAME ⟨_,rfl⟩) rfl)) (KP (qe3 rfl rfl Tx.b_all (DO.de (xK (T:=["sign"]) (caps:=[]) (ix:=[]) (O1:=[]) (wd rfl (by rfl) (by decide +kernel) (by decide +kernel) rfl (by contradiction) (by rfl) (by contradiction)) rfl (by decide) qd (DI.toC (qex (dv 0))) (fun _ _ _ _ _=>(qz (qx (i:=0) (by show(["sign"]:fT).Nodup;decide +kernel) rfl (by trivial)))) (by decide) (by decide) (fun _ _ _ _ _=>yp) (fun _ _ _ _ _=>(yP (Xu (huR hr)) o_in (dv 0) (de_c (j9 (v:=.str "abcdefghijklmnopqrstuvwxyz0123456789") rfl e_SIGNS ⟨_,rfl⟩) rfl) rfl))))))))))
 exact z
theorem sc_Book_place:FnScope ["self","name","ahead","span","places"] gH (qm xT):=⟨rfl,rfl,rfl,by decide +kernel,rfl,by decide +kernel,by decide +kernel⟩
theorem Qs(Tx:Txt K mg base cl)(Fu:Fun K "place" "Book.place" xT j5 zM)(GLedger_table:FnOk P w K mg base CX0 1 qI qk g8 (spB0 K T 2 (qj K cl T hT)))(BLedger_table:Binds K qk g8 [])(GLedger_enter:FnOk P w K mg base CX0 2 z8 qQ gE (spB0 K T 3 (qX K cl T hT)))(BLedger_enter:Binds K qQ gE [])(Ggood_name:FnOk P w K mg base CX0 1 jN jc ["name"] (spP K T 1 false (jy T hT.b)))(Bgood_name:Binds K jc ["name"] []):FnOk P w K mg base (CX1 P w) 3 j5 zM gH (spB K cl T 4 (zJ K cl T hT)):=by
 obtain⟨t_LONGEST_SPAN,e_LONGEST_SPAN⟩:=Tx.c_LONGEST_SPAN;obtain⟨t_FARTHEST_AHEAD,e_FARTHEST_AHEAD⟩:=Tx.c_FARTHEST_AHEAD;obtain⟨t_MOST_PLACES,e_MOST_PLACES⟩:=Tx.c_MOST_PLACES;have z:=k9 (P:=P) (w:=w) (K:=K) (mg:=mg) (base:=base) (k:=2) (n:=4) (N:=["self","name","ahead","span","places"]) (ps:=gH) (body:=(vd K cl T hT)) (O':=[]) Fu sc_Book_place rfl (fun cdv A outer s H EX E hr=>
  (qc (qT (i:=4) sc_Book_place.nd rfl (by trivial) (zH (kM (dv 0) Tx.cls_Book Tx.na_Book_ledger) Tx.cls_Ledger Tx.me_Ledger_table GLedger_table (mo hr) BLedger_table (qa (m:=true) dcs (qo (m:=true)))))
  (qc (zd (wb (vH (wG (mo hr) rfl Tx.m_good_name Tx.k_good_name Bgood_name Ggood_name (qa (m:=true) (dv 1) (qo (m:=true))))))
  (qh (jA Tx.cl_BadName (Tx.oc_BadName) rfl rfl))
  qC)
  (qc (zd (qV (Xu (huR hr)) o_in (dv 1) (dv 4) rfl)
  (qh (jA Tx.cl_Taken (Tx.oc_Taken) rfl rfl))
  qC)
  (qc (zd (wb (DW.dt (uP (KK Qp o_le Qp o_le (uQ (de_c (j9 (v:=.int 900) rfl e_FARTHEST_AHEAD ⟨_,rfl⟩) rfl)) (dv 2) (de_c (j9 (v:=.int 900) rfl e_FARTHEST_AHEAD ⟨_,rfl⟩) rfl)) (Wb (KK Qp o_le Qp o_le dci (dv 3) (de_c (j9 (v:=.int 1000) rfl e_LONGEST_SPAN ⟨_,rfl⟩) rfl))))))
  (qh (jA Tx.cl_BadClock (Tx.oc_BadClock) rfl rfl))
  qC)
  (qc (zd (jq Yx o_ge (jU rfl Tx.b_len (dv 4)) (de_c (j9 (v:=.int 12) rfl e_MOST_PLACES ⟨_,rfl⟩) rfl) (qH _))
  (qh (jA Tx.cl_Full (Tx.oc_Full) rfl rfl))
  qC)
  (qh (zG (zH (kM (dv 0) Tx.cls_Book Tx.na_Book_ledger) Tx.cls_Ledger Tx.me_Ledger_enter GLedger_enter (mo hr) BLedger_enter (qa (m:=true) (jf (qa (m:=true) dcs (qa (m:=true) (dv 1) (qa (m:=true) (dv 2) (qa (m:=true) (dv 3) (qo (m:=true))))))) (qa (m:=true) (DO.de (z_ (qa (m:=true) (jf (qa (m:=true) dcs (qa (m:=true) (dv 1) (qa (m:=true) (jf (qa (m:=true) (dv 2) (qa (m:=true) (dv 3) (qo (m:=true))))) (qo (m:=true)))))) (qo (m:=true))))) (qo (m:=true)))))))))))))
 exact z
theorem sc_Ldraws:FnScope gL fX (qm Ka):=⟨rfl,rfl,rfl,by decide +kernel,rfl,by decide +kernel,by decide +kernel⟩
theorem Xw(Tx:Txt K mg base cl)(Fu:Fun K "_law_draws" "_law_draws" Ka vm jo):FnOk P w K mg base CX0 1 vm jo fX (spP K T 3 false (jJ T hT.b)):=by
 have z:=Y3 (P:=P) (w:=w) (K:=K) (mg:=mg) (base:=base) (k:=0) (n:=3) (N:=gL) (ps:=fX) (fr:=false) (body:=(Q2 T hT.b)) (O':=[]) Fu sc_Ldraws rfl (fun cdv A outer s H EX E hr=>
  (qc (qT (i:=3) sc_Ldraws.nd rfl (by trivial) (DO.de (zS (q_ kW w6 dci (dv 1)) dci)))
  (qc (zd (jq Js o_lt (dv 1) (vI rfl Tx.b_len (dv 0)) (qH _))
  (qh (qT (i:=3) sc_Ldraws.nd rfl (by trivial) (qD (huR hr) (dv 0) (dv 1))))
  (qh (zd (jq Yw o_gt (vI rfl Tx.b_len (dv 0)) dci (qH _))
  (qh (qT (i:=3) sc_Ldraws.nd rfl (by trivial) (DO.de (zS (DO.de (zS (q_ zE jK (qD (huR hr) (dv 0) (q_ zE jK (dv 1) (vI rfl Tx.b_len (dv 0)))) dci) (q_ kW w6 (q_ kW w6 (dv 1) (dv 1)) dci))) dci))))
  qC)))
  (qc (qT (i:=4) sc_Ldraws.nd rfl (by trivial) (DO.de (zS (DO.de (zS (q_ zE jK (dv 3) dci) (q_ kW w6 dci (dv 1)))) dci)))
  (qc (DS.weak (O:=[]) (O1:=[]) (O2:=[5]) (Wf (i:=5) sc_Ldraws.nd rfl (by trivial) (z_ (qo (m:=true)))) (by decide) (by decide))
  (qc (zd (jq Yx o_ge (dv 3) (q_ Zr XA dci dci) (qH _))
  (qh (KL bH (DW.dt (uP (jq Yw o_gt (dv 3) dci (qH _)) (Wb (jq Js o_lt (vI rfl Tx.b_len (JM (pv 5) (by decide))) (dv 2) (qH _)))))
  (qc (Wh (pv 5) (by decide) (q_ zE jK (dv 3) dci))
  (qh (DS.weak (O:=[5]) (O1:=[5]) (O2:=[5]) (qT (i:=3) sc_Ldraws.nd rfl (by trivial) (q_ Jt XB (dv 3) dci)) (by decide) (by decide))))))
  qC)
  (qc (KL bH (jq Js o_lt (vI rfl Tx.b_len (JM (pv 5) (by decide))) (dv 2) (qH _))
  (qc (DS.weak (O:=[5]) (O1:=[5]) (O2:=[5]) (qT (i:=6) sc_Ldraws.nd rfl (by trivial) (DO.de (zS (vI rfl Tx.b_len (JM (pv 5) (by decide))) dci))) (by decide) (by decide))
  (qc (DS.weak (O:=[5]) (O1:=[5]) (O2:=[5]) (qT (i:=4) sc_Ldraws.nd rfl (by trivial) (q_ zE jK (DO.de (zS (DO.de (zS (q_ kW w6 (dv 4) dci) (q_ kW w6 (q_ kW w6 (dv 6) (dv 6)) dci))) dci)) dci)) (by decide) (by decide))
  (qh (Wh (pv 5) (by decide) (q_ zE jK (q_ zE jK (q_ kW w6 (q_ zE jK (dv 4) dci) (DO.de (zS (q_ zE jK (q_ Jt XB (dv 4) dci) dci) dci))) dci) dci))))))
  (qh (DS.weak (O:=[5]) (O1:=[]) (O2:=[]) (O':=[]) (qY (dv 5)) (by decide) (by decide))))))))))
 exact z
theorem sc_Lnames:FnScope gJ gO (qm J_):=⟨rfl,rfl,rfl,by decide +kernel,rfl,by decide +kernel,by decide +kernel⟩
theorem Xv(Tx:Txt K mg base cl)(Fu:Fun K "_law_names" "_law_names" J_ xm kl):FnOk P w K mg base CX0 1 xm kl gO (spP K T 2 false (xx T hT.b)):=by
 have z:=Y3 (P:=P) (w:=w) (K:=K) (mg:=mg) (base:=base) (k:=0) (n:=2) (N:=gJ) (ps:=gO) (fr:=false) (body:=(Q0 T hT.b)) (O':=[]) Fu sc_Lnames rfl (fun cdv A outer s H EX E hr=>
  (qc (qT (i:=2) sc_Lnames.nd rfl (by trivial) dcs)
  (qc (DS.weak (O:=[]) (O1:=[]) (O2:=[3]) (Wf (i:=3) sc_Lnames.nd rfl (by trivial) (z_ (qo (m:=true)))) (by decide) (by decide))
  (qc (xq bH rfl qd (jD rfl Tx.b_range (qa (m:=true) (dv 1) (qo (m:=true)))) (qz (qx (i:=4) sc_Lnames.nd rfl (by trivial)))
  (qc (DS.weak (O:=[3]) (O1:=[3]) (O2:=[3]) (qT (i:=5) sc_Lnames.nd rfl (by trivial) (qD (huR hr) (dv 2) (q_ zE jK (DO.de (zS (q_ kW w6 (dv 4) (qD (huR hr) (DO.de (z_ (qa (m:=true) dci (qa (m:=true) dci (qa (m:=true) dci (qa (m:=true) dci (qa (m:=true) dci (qa (m:=true) dci (qo (m:=true)))))))))) (q_ zE jK (qD (huR hr) (dv 0) dci) dci))) (qD (huR hr) (dv 0) dci))) dci))) (by decide) (by decide))
  (qc (DS.weak (O:=[3]) (O1:=[3]) (O2:=[3]) (qT (i:=6) sc_Lnames.nd rfl (by trivial) (qb2 dcs (DO.de (xK (T:=["_law_j"]) (caps:=["_law_d","_law_letters"]) (ix:=[0,2]) (O1:=[]) (wd rfl (by rfl) (by decide +kernel) (by decide +kernel) rfl (by contradiction) (by rfl) (by contradiction)) rfl (by decide) qd (DI.toC (jD rfl Tx.b_range (qa (m:=true) (q_ zE jK (qD (huR hr) (dv 0) (DO.de (zS dci (dv 4)))) dci) (qo (m:=true))))) (fun _ _ _ _ _=>(qz (qx (i:=0) (by show(["_law_j","_law_d","_law_letters"]:fT).Nodup;decide +kernel) rfl (by trivial)))) (by decide) (by decide) (fun _ _ _ _ _=>yp) (fun _ _ _ _ _=>(qD (huR hr) (DO.de (zS (dv 2) dcs)) (q_ zE jK (DO.de (zS (qD (huR hr) (dv 1) dci) (q_ kW w6 (dv 0) (qD (huR hr) (dv 1) dci)))) dci))))))) (by decide) (by decide))
  (qh (Wh (pv 3) (by decide) (qD (huR hr) (DO.de (z_ (qa (m:=true) (DO.de (zS (dv 5) (dv 6))) (qa (m:=true) (DO.de (zS (dv 6) (dv 5))) (qo (m:=true)))))) (q_ zE jK (q_ Jt XB (qD (huR hr) (dv 0) dci) dci) dci)))))))
  (qh (DS.weak (O:=[3]) (O1:=[]) (O2:=[]) (O':=[]) (qY (dv 3)) (by decide) (by decide)))))))
 exact z
theorem V1:FnScope [] [] (qm Kb):=⟨rfl,rfl,rfl,by decide +kernel,rfl,by decide +kernel,by decide +kernel⟩
theorem Xx(Tx:Txt K mg base cl)(Fu:Fun K "_law_begin" "_law_begin" Kb xo km):FnOk P w K mg base CX0 1 xo km [] (spB0 K T 0 (xz K cl T hT)):=by
 have z:=ju (P:=P) (w:=w) (K:=K) (mg:=mg) (base:=base) (k:=0) (n:=0) (N:=[]) (ps:=[]) (body:=(Q3 K cl T hT)) (O':=[]) Fu V1 rfl (fun cdv A outer s H EX E hr=>
  (qh (qY (jf (qa (m:=true) (kq (xJ kx)) (qa (m:=true) (kq (z_ (qo (m:=true)))) (qa (m:=true) (kq (xJ kx)) (qa (m:=true) (kq (xJ kx)) (qa (m:=true) (kq (z_ (qo (m:=true)))) (qa (m:=true) (kq (xJ kx)) (qo (m:=true))))))))))))
 exact z
theorem sc_Lafter_one:FnScope fY f' (qm xS):=⟨rfl,rfl,rfl,by decide +kernel,rfl,by decide +kernel,by decide +kernel⟩
theorem Qr(Tx:Txt K mg base cl)(Fu:Fun K "_law_after_one" "_law_after_one" xS je zb):FnOk P w K mg base CX0 1 je zb f' (spB0 K T 2 (qU K cl T hT)):=by
 have z:=ju (P:=P) (w:=w) (K:=K) (mg:=mg) (base:=base) (k:=0) (n:=2) (N:=fY) (ps:=f') (body:=(j8 K cl T hT)) (O':=[]) Fu sc_Lafter_one rfl (fun cdv A outer s H EX E hr=>
  (qc (KM (YR (qu qd (qu qd (qu qd (qu qd (qu qd (qu qd z5))))))) (DO.de (xK (T:=["_law_part"]) (caps:=[]) (ix:=[]) (O1:=[]) (wd rfl (by rfl) (by decide +kernel) (by decide +kernel) rfl (by contradiction) (by rfl) (by contradiction)) rfl (by decide) qd (DI.toC (ZX (dv 0))) (fun _ _ _ _ _=>(qz (qx (i:=0) (by show(["_law_part"]:fT).Nodup;decide +kernel) rfl (by trivial)))) (by decide) (by decide) (fun _ _ _ _ _=>yp) (fun _ _ _ _ _=>(kq (ua (dv 0)))))) (qey rfl (qB qd (qz (qx (i:=2) sc_Lafter_one.nd rfl (by trivial))) (qB qd (qz (qx (i:=3) sc_Lafter_one.nd rfl (by trivial))) (qB qd (qz (qx (i:=4) sc_Lafter_one.nd rfl (by trivial))) (qB qd (qz (qx (i:=5) sc_Lafter_one.nd rfl (by trivial))) (qB qd (qz (qx (i:=6) sc_Lafter_one.nd rfl (by trivial))) (qB qd (qz (qx (i:=7) sc_Lafter_one.nd rfl (by trivial))) kE))))))))
  (qc (zd (qV (zB (huR hr)) o_eq (qD (huR hr) (dv 1) dci) dcs (qH _))
  (qh (Wg (huR hr) (dv 2) (qD (huR hr) (dv 1) dci) (DO.de (QN (dv 1) (QL dci) QM))))
  (qh (zd (qV (zB (huR hr)) o_eq (qD (huR hr) (dv 1) dci) dcs (qH _))
  (qh (zG (JN (dv 3) (DO.de (QN (dv 1) (QL dci) QM)))))
  (qh zu))))
  (qh (qY (jf (qa (m:=true) (dv 2) (qa (m:=true) (dv 3) (qa (m:=true) (dv 4) (qa (m:=true) (dv 5) (qa (m:=true) (dv 6) (qa (m:=true) (dv 7) (qo (m:=true))))))))))))))
 exact z
theorem sc_Lbase:FnScope gA fX (qm V4):=⟨rfl,rfl,rfl,by decide +kernel,rfl,by decide +kernel,by decide +kernel⟩
theorem YC(Tx:Txt K mg base cl)(Fu:Fun K "_law_base" "_law_base" V4 yk vj)(GBook___init__:FnOk P w K mg base CX0 3 jp zi ["self"] (spB0 K T 1 (zg K cl T hT)))(BBook___init__:Binds K zi ["self"] [])(GBook_place:FnOk P w K mg base (CX1 P w) 3 j5 zM gH (spB K cl T 4 (zJ K cl T hT)))(BBook_place:Binds K zM gH [])(GLdraws:FnOk P w K mg base CX0 1 vm jo fX (spP K T 3 false (jJ T hT.b)))(BLdraws:Binds K jo fX [])(GLnames:FnOk P w K mg base CX0 1 xm kl gO (spP K T 2 false (xx T hT.b)))(BLnames:Binds K kl gO [])(GLbegin:FnOk P w K mg base CX0 1 xo km [] (spB0 K T 0 (xz K cl T hT)))(BLbegin:Binds K km [] [])(GLafter_one:FnOk P w K mg base CX0 1 je zb f' (spB0 K T 2 (qU K cl T hT)))(BLafter_one:Binds K zb f' []):FnOk P w K mg base CX0 5 yk vj fX (spB0 K T 3 (xO K cl T hT)):=by
 have z:=ju (P:=P) (w:=w) (K:=K) (mg:=mg) (base:=base) (k:=4) (n:=3) (N:=gA) (ps:=fX) (body:=(JS K cl T hT)) (O':=[]) Fu sc_Lbase rfl (fun cdv A outer s H EX E hr=>
  (qc (qT (i:=3) sc_Lbase.nd rfl (by trivial) (yr (mo hr) rfl Tx.m_Ldraws Tx.k_Ldraws BLdraws (G:=GLdraws) (ha:=(qa (m:=true) (dv 0) (qa (m:=true) (dv 1) (qa (m:=true) dci (qo (m:=true))))))))
  (qc (qT (i:=4) sc_Lbase.nd rfl (by trivial) (yr (mo hr) rfl Tx.m_Lnames Tx.k_Lnames BLnames (G:=GLnames) (ha:=(qa (m:=true) (dv 3) (qa (m:=true) (DO.de (zS dci (q_ zE jK (qD (huR hr) (dv 3) dci) dci))) (qo (m:=true)))))))
  (qc (qT (i:=5) sc_Lbase.nd rfl (by trivial) (ZZ Tx.mk_Book GBook___init__ (mo hr) rfl Tx.mc_Book BBook___init__))
  (qc (qT (i:=6) sc_Lbase.nd rfl (by trivial) (VB GLbegin (mo hr) rfl Tx.m_Lbegin Tx.k_Lbegin BLbegin))
  (qc (xq bH rfl qd (jD rfl Tx.b_range (qa (m:=true) (jU rfl Tx.b_len (dv 4)) (qo (m:=true)))) (qz (qx (i:=7) sc_Lbase.nd rfl (by trivial)))
  (qc (qT (i:=8) sc_Lbase.nd rfl (by trivial) (jf (qa (m:=true) dcs (qa (m:=true) (qD (huR hr) (dv 4) (dv 7)) (qa (m:=true) (qD (huR hr) (DO.de (z_ (qa (m:=true) dci (qa (m:=true) dci (qa (m:=true) (q_ v6 Qu dci dci) (qa (m:=true) dci (qa (m:=true) dci (qo (m:=true))))))))) (q_ zE jK (qD (huR hr) (dv 3) (dv 7)) dci)) (qa (m:=true) (qD (huR hr) (DO.de (z_ (qa (m:=true) dci (qa (m:=true) dci (qa (m:=true) dci (qa (m:=true) dci (qa (m:=true) dci (qo (m:=true))))))))) (q_ zE jK (qD (huR hr) (dv 3) (DO.de (zS dci (dv 7)))) dci)) (qo (m:=true))))))))
  (qc (zG (q9 (dv 5) Tx.cls_Book Tx.me_Book_place GBook_place (mo hr) BBook_place (qa (m:=true) (qD (huR hr) (dv 8) dci) (qa (m:=true) (qD (huR hr) (dv 8) dci) (qa (m:=true) (qD (huR hr) (dv 8) dci) (qo (m:=true)))))))
  (qh (qT (i:=6) sc_Lbase.nd rfl (by trivial) (jW GLafter_one (mo hr) rfl Tx.m_Lafter_one Tx.k_Lafter_one BLafter_one (qa (m:=true) (dv 6) (qa (m:=true) (dv 8) (qo (m:=true))))))))))
  (qc (xq bH rfl qd (jD rfl Tx.b_range (qa (m:=true) (dv 2) (qo (m:=true)))) (qz (qx (i:=7) sc_Lbase.nd rfl (by trivial)))
  (qc (O1:=[]) zu
  (qc (O1:=[]) zu
  (qc (O1:=[]) zu
  (qc (O1:=[]) zu
  (qc (O1:=[]) zu
  (qc (O1:=[]) zu
  (qh (qT (i:=6) sc_Lbase.nd rfl (by trivial) (jW GLafter_one (mo hr) rfl Tx.m_Lafter_one Tx.k_Lafter_one BLafter_one (qa (m:=true) (dv 6) (qa (m:=true) (dv 8) (qo (m:=true))))))))))))))
  (qh (qY (jf (qa (m:=true) (dv 5) (qa (m:=true) (dv 6) (qa (m:=true) (dv 4) (qo (m:=true)))))))))))))))
 exact z
theorem sc_Lword_one:FnScope fY f' (qm wP):=⟨rfl,rfl,rfl,by decide +kernel,rfl,by decide +kernel,by decide +kernel⟩
theorem Zu(Tx:Txt K mg base cl)(Fu:Fun K "_law_word_one" "_law_word_one" wP jO jd):FnOk P w K mg base CX0 1 jO jd f' (spB0 K T 2 (jz K cl T hT)):=by
 have z:=ju (P:=P) (w:=w) (K:=K) (mg:=mg) (base:=base) (k:=0) (n:=2) (N:=fY) (ps:=f') (body:=(vQ K cl T hT)) (O':=[]) Fu sc_Lword_one rfl (fun cdv A outer s H EX E hr=>
  (qc (KM (jH (qu qd (qu qd (qu qd (qu qd (qu qd (qu qd z5))))))) (dv 0) (wc rfl (qB qd (qz (qx (i:=2) sc_Lword_one.nd rfl (by trivial))) (qB qd (qz (qx (i:=3) sc_Lword_one.nd rfl (by trivial))) (qB qd (qz (qx (i:=4) sc_Lword_one.nd rfl (by trivial))) (qB qd (qz (qx (i:=5) sc_Lword_one.nd rfl (by trivial))) (qB qd (qz (qx (i:=6) sc_Lword_one.nd rfl (by trivial))) (qB qd (qz (qx (i:=7) sc_Lword_one.nd rfl (by trivial))) kE))))))))
  (qc (zd (qV (zB (huR hr)) o_eq (qD (huR hr) (dv 1) dci) dcs (qH _))
  (qc (O1:=[]) zu
  (qc (O1:=[]) zu
  (qc (O1:=[]) zu
  (qh zu))))
  qC)
  (qc (zd (qV (zB (huR hr)) o_eq (qD (huR hr) (dv 1) dci) dcs (qH _))
  (qc (zd (DW.dt (VA (qV (v7 (huR hr)) YE (qD (huR hr) (dv 1) dci) (dv 2) rfl) (ZT (qV (v7 (huR hr)) YE (qD (huR hr) (dv 1) dci) (dv 2) rfl))))
  (qh (qY dcs))
  qC)
  (qc (zd (qV (zB (huR hr)) o_eq (qD (huR hr) (dv 1) dci) (qD (huR hr) (dv 1) dci) (qH _))
  (qh (qY dcs))
  qC)
  (qc (zd (DW.dt (VA (jq Yx o_ge (qD (huR hr) (dv 1) dci) (qD (huR hr) (dv 1) dci) (qH _)) (VA (jq Js o_lt (qD (huR hr) (dv 1) dci) (q_ v6 Qu dci dci) (qH _)) (ZT (jq Yw o_gt (qD (huR hr) (dv 1) dci) dci (qH _))))))
  (qh (qY dcs))
  qC)
  (qc (zd (jq Js o_lt (qD (huR hr) (dv 1) dci) dci (qH _))
  (qh (qY dcs))
  qC)
  (qh (qY (qD (huR hr) (DO.de (z_ (qa (m:=true) dcs (qa (m:=true) dcs (qo (m:=true)))))) (qe2 rfl Tx.b_int (yP Yw o_gt (jU rfl Tx.b_len (dv 3)) dci (qH _))))))))))
  qC)
  (qc (O1:=[]) zu
  (qc (O1:=[]) zu
  (qh zu)))))))
 exact z
theorem sc_Lsame:FnScope ["_law_found","_law_due","_law_k"] gB (qm Qe):=⟨rfl,rfl,rfl,by decide +kernel,rfl,by decide +kernel,by decide +kernel⟩
theorem Xy(Tx:Txt K mg base cl)(Fu:Fun K "_law_same" "_law_same" Qe ka zr){F:List D->Option D}{k0:Nat}(GLsame:FnOk P w K mg base CX0 k0 ka zr gB (spP K T 2 false F))(BLsame:Binds K zr gB []):FnOk P w K mg base CX0 (k0+1) ka zr gB (spP K T 2 false (QZ 3 (vR T hT.b F))):=by
 have z:=Y3 (P:=P) (w:=w) (K:=K) (mg:=mg) (base:=base) (k:=k0) (n:=2) (N:=["_law_found","_law_due","_law_k"]) (ps:=gB) (fr:=false) (body:=(vR T hT.b F)) (O':=[]) Fu sc_Lsame rfl (fun cdv A outer s H EX E hr=>
  (qc (zd (vH (uf rfl Tx.b_isinstance (js (v:=.ty "tuple") rfl Tx.b_tuple wI rfl) (js (v:=.ty "list") rfl Tx.b_list JP rfl) (dv 1)))
  (qc (zd (DW.dt (VA (jq (Km (huR hr)) o_ne (jV ZQ rfl Tx.b_isinstance (js (v:=.ty "tuple") rfl Tx.b_tuple wI rfl) (dv 1)) (jV ZQ rfl Tx.b_isinstance (js (v:=.ty "tuple") rfl Tx.b_tuple wI rfl) (dv 0)) (qH _)) (ZT (jq (Km (huR hr)) o_ne (jV Kv rfl Tx.b_isinstance (js (v:=.ty "list") rfl Tx.b_list JP rfl) (dv 1)) (jV Kv rfl Tx.b_isinstance (js (v:=.ty "list") rfl Tx.b_list JP rfl) (dv 0)) (qH _)))))
  (qh (qY (de_c Qn rfl)))
  qC)
  (qc (zd (jq (Km (huR hr)) o_ne (vI rfl Tx.b_len (dv 0)) (vI rfl Tx.b_len (dv 1)) (qH _))
  (qh (qY (de_c Qn rfl)))
  qC)
  (qc (xq bH rfl qd (jD rfl Tx.b_range (qa (m:=true) (vI rfl Tx.b_len (dv 1)) (qo (m:=true)))) (qz (qx (i:=2) sc_Lsame.nd rfl (by trivial)))
  (qh (zd (wb (vH (yr hr rfl Tx.m_Lsame Tx.k_Lsame BLsame (G:=GLsame) (ha:=(qa (m:=true) (qD (huR hr) (dv 0) (dv 2)) (qa (m:=true) (qD (huR hr) (dv 1) (dv 2)) (qo (m:=true))))))))
  (qh (qY (de_c Qn rfl)))
  qC)))
  (qh (qY (de_c Qn rfl))))))
  qC)
  (qc (zd (jq Xs qa7 (dv 1) (de_c Kk rfl) (qH _))
  (qh (qY (yP Xs qa7 (dv 0) (de_c Kk rfl) (qH _))))
  qC)
  (qc (zd (DW.dt (VA (vH (jV wD rfl Tx.b_isinstance (js (v:=.ty "bool") rfl Tx.b_bool QY rfl) (dv 1))) (ZT (vH (jV wD rfl Tx.b_isinstance (js (v:=.ty "bool") rfl Tx.b_bool QY rfl) (dv 0))))))
  (qh (qY (Z0 (jV wD rfl Tx.b_isinstance (js (v:=.ty "bool") rfl Tx.b_bool QY rfl) (dv 1)) (Z0 (jV wD rfl Tx.b_isinstance (js (v:=.ty "bool") rfl Tx.b_bool QY rfl) (dv 0)) (KP (yP (zB (huR hr)) o_eq (dv 0) (dv 1) (qH _)))))))
  qC)
  (qc (zd (vH (jV XT rfl Tx.b_isinstance (js (v:=.ty "int") rfl Tx.b_int WK rfl) (dv 1)))
  (qh (qY (Z0 (jV XT rfl Tx.b_isinstance (js (v:=.ty "int") rfl Tx.b_int WK rfl) (dv 0)) (KP (yP (zB (huR hr)) o_eq (dv 0) (dv 1) (qH _))))))
  qC)
  (qh (qY (Z0 (jV qbo rfl Tx.b_isinstance (js (v:=.ty "str") rfl Tx.b_str qfe rfl) (dv 0)) (KP (yP (zB (huR hr)) o_eq (dv 0) (dv 1) (qH _)))))))))))
 exact z
theorem Zs(Tx:Txt K mg base cl){zr:FuncData}(Fu:Fun K "_law_same" "_law_same" Qe ka zr)(BLsame:Binds K zr gB []):∀n,FnOk P w K mg base CX0 n ka zr gB (spP K T 2 false (zI T hT.b n))
 |0=>⟨fun vs H Q E⟨_,_,_,_,_,_,_,e,_⟩=>(nomatch e),fun A outer s H args us vs Q E hr he hb hv⟨_,_,_,_,_,_,_,e,_⟩=>(nomatch e)⟩
 |n+1=>Xy (hT:=hT) Tx Fu (Zs Tx Fu BLsame n) BLsame
theorem Yz(Tx:Txt K mg base cl)(Fu:Fun K "_law_same" "_law_same" Qe ka zr)(BLsame:Binds K zr gB []):FnOk P w K mg base CX0 4 ka zr gB (spP K T 2 false (zI T hT.b jm)):=Zs (hT:=hT) Tx Fu BLsame 4
theorem v5:FnScope gQ gQ (qm kf):=⟨rfl,rfl,rfl,by decide +kernel,rfl,by decide +kernel,by decide +kernel⟩
theorem v9(Tx:Txt K mg base cl)(Fu:Fun K "need_place" "Book.need_place" kf zP q8)(GLedger_table:FnOk P w K mg base CX0 1 qI qk g8 (spB0 K T 2 (qj K cl T hT)))(BLedger_table:Binds K qk g8 []):FnOk P w K mg base (CX1 P w) 2 zP q8 gQ (spB K cl T 2 (ze K cl T hT)):=by
 have z:=k9 (P:=P) (w:=w) (K:=K) (mg:=mg) (base:=base) (k:=1) (n:=2) (N:=gQ) (ps:=gQ) (body:=(jx K cl T hT)) (O':=[]) Fu v5 rfl (fun cdv A outer s H EX E hr=>
  (qh (zd (qV (v7 (huR hr)) YE (dv 1) (zH (kM (dv 0) Tx.cls_Book Tx.na_Book_ledger) Tx.cls_Ledger Tx.me_Ledger_table GLedger_table (mo hr) BLedger_table (qa (m:=true) dcs (qo (m:=true)))) rfl)
  (qh (jA Tx.cl_NoPlace (Tx.oc_NoPlace) rfl rfl))
  qC)))
 exact z
theorem sc_Book_run:FnScope gP gC (qm yH):=⟨rfl,rfl,rfl,by decide +kernel,rfl,by decide +kernel,by decide +kernel⟩
theorem Ju(Tx:Txt K mg base cl)(Fu:Fun K "run" "Book.run" yH vn jv)(GBook_need_place:FnOk P w K mg base (CX1 P w) 2 zP q8 gQ (spB K cl T 2 (ze K cl T hT)))(BBook_need_place:Binds K q8 gQ [])(GBook_many:FnOk P w K mg base CX0 2 jP zj ["self"] (spB0 K T 1 (zx K cl T hT)))(BBook_many:Binds K zj ["self"] [])(GLedger_enter:FnOk P w K mg base CX0 2 z8 qQ gE (spB0 K T 3 (qX K cl T hT)))(BLedger_enter:Binds K qQ gE []):FnOk P w K mg base (CX1 P w) 3 vn jv gC (spB K cl T 6 (jg K cl T hT)):=by
 obtain⟨t_FARTHEST_MOMENT,e_FARTHEST_MOMENT⟩:=Tx.c_FARTHEST_MOMENT;obtain⟨t_MOST_RUNS,e_MOST_RUNS⟩:=Tx.c_MOST_RUNS;have z:=k9 (P:=P) (w:=w) (K:=K) (mg:=mg) (base:=base) (k:=2) (n:=6) (N:=gP) (ps:=gC) (body:=(xN K cl T hT)) (O':=[]) Fu sc_Book_run rfl (fun cdv A outer s H EX E hr=>
  (qc (zG (q9 (dv 0) Tx.cls_Book Tx.me_Book_need_place GBook_need_place (mo hr) BBook_need_place (qa (m:=true) (dv 1) (qo (m:=true)))))
  (qc (zG (q9 (dv 0) Tx.cls_Book Tx.me_Book_need_place GBook_need_place (mo hr) BBook_need_place (qa (m:=true) (dv 2) (qo (m:=true)))))
  (qc (zd (qV (zB (huR hr)) o_eq (dv 1) (dv 2) (qH _))
  (qh (jA Tx.cl_Astray (Tx.oc_Astray) rfl rfl))
  qC)
  (qc (zd (wb (We Qp o_le Js o_lt Qp o_le (uQ (de_c (j9 (v:=.int 40000) rfl e_FARTHEST_MOMENT ⟨_,rfl⟩) rfl)) (dv 3) (dv 4) (de_c (j9 (v:=.int 40000) rfl e_FARTHEST_MOMENT ⟨_,rfl⟩) rfl)))
  (qh (jA Tx.cl_BadTimes (Tx.oc_BadTimes) rfl rfl))
  qC)
  (qc (zd (jq Js o_lt (dv 5) dci (qH _))
  (qh (jA Tx.cl_BadSeats (Tx.oc_BadSeats) rfl rfl))
  qC)
  (qc (qT (i:=6) sc_Book_run.nd rfl (by trivial) (yO (dv 0) Tx.cls_Book Tx.me_Book_many GBook_many (mo hr) BBook_many))
  (qc (zd (jq Yx o_ge (dv 6) (de_c (j9 (v:=.int 40) rfl e_MOST_RUNS ⟨_,rfl⟩) rfl) (qH _))
  (qh (jA Tx.cl_Full (Tx.oc_Full) rfl rfl))
  qC)
  (qc (qT (i:=7) sc_Book_run.nd rfl (by trivial) (jf (qa (m:=true) (dv 1) (qa (m:=true) (dv 2) (qa (m:=true) (dv 3) (qa (m:=true) (dv 4) (qa (m:=true) (dv 5) (qo (m:=true)))))))))
  (qc (zG (zH (kM (dv 0) Tx.cls_Book Tx.na_Book_ledger) Tx.cls_Ledger Tx.me_Ledger_enter GLedger_enter (mo hr) BLedger_enter (qa (m:=true) (jf (qa (m:=true) dcs (qa (m:=true) (dv 1) (qa (m:=true) (dv 2) (qa (m:=true) (dv 3) (qa (m:=true) (dv 4) (qa (m:=true) (dv 5) (qo (m:=true))))))))) (qa (m:=true) (DO.de (z_ (qa (m:=true) (jf (qa (m:=true) dcs (qa (m:=true) (dv 6) (qa (m:=true) (dv 7) (qo (m:=true)))))) (qo (m:=true))))) (qo (m:=true))))))
  (qh (qY (dv 6)))))))))))))
 exact z
theorem W5:FnScope g9 g9 (qm V3):=⟨rfl,rfl,rfl,by decide +kernel,rfl,by decide +kernel,by decide +kernel⟩
theorem YB(Tx:Txt K mg base cl)(Fu:Fun K "_law_call" "_law_call" V3 yj vi)(GBook_run:FnOk P w K mg base (CX1 P w) 3 vn jv gC (spB K cl T 6 (jg K cl T hT)))(BBook_run:Binds K jv gC []):FnOk P w K mg base (CX1 P w) 4 yj vi g9 (spB K cl T 2 (vV K cl T hT)):=by
 have z:=k9 (P:=P) (w:=w) (K:=K) (mg:=mg) (base:=base) (k:=3) (n:=2) (N:=g9) (ps:=g9) (body:=(JR K cl T hT)) (O':=[]) Fu W5 rfl (fun cdv A outer s H EX E hr=>
  (qc (zd (qV (zB (huR hr)) o_eq (qD (huR hr) (dv 1) dci) dcs (qH _))
  (qh zu)
  qC)
  (qc (zd (qV (zB (huR hr)) o_eq (qD (huR hr) (dv 1) dci) dcs (qH _))
  (qh (qY (q9 (dv 0) Tx.cls_Book Tx.me_Book_run GBook_run (mo hr) BBook_run (qa (m:=true) (qD (huR hr) (dv 1) dci) (qa (m:=true) (qD (huR hr) (dv 1) dci) (qa (m:=true) (qD (huR hr) (dv 1) dci) (qa (m:=true) (qD (huR hr) (dv 1) dci) (qa (m:=true) (qD (huR hr) (dv 1) dci) (qo (m:=true))))))))))
  qC)
  (qc (zd (qV (zB (huR hr)) o_eq (qD (huR hr) (dv 1) dci) dcs (qH _))
  (qh zu)
  qC)
  (qc (zd (qV (zB (huR hr)) o_eq (qD (huR hr) (dv 1) dci) dcs (qH _))
  (qh zu)
  qC)
  (qc (zd (qV (zB (huR hr)) o_eq (qD (huR hr) (dv 1) dci) dcs (qH _))
  (qh zu)
  qC)
  (qc (zd (qV (zB (huR hr)) o_eq (qD (huR hr) (dv 1) dci) dcs (qH _))
  (qh zu)
  qC)
  (qc (zd (qV (zB (huR hr)) o_eq (qD (huR hr) (dv 1) dci) dcs (qH _))
  (qh zu)
  qC)
  (qc (zd (qV (zB (huR hr)) o_eq (qD (huR hr) (dv 1) dci) dcs (qH _))
  (qh zu)
  qC)
  (qc (zd (qV (zB (huR hr)) o_eq (qD (huR hr) (dv 1) dci) dcs (qH _))
  (qh zu)
  qC)
  (qc (zd (qV (zB (huR hr)) o_eq (qD (huR hr) (dv 1) dci) dcs (qH _))
  (qh zu)
  qC)
  (qh zu))))))))))))
 exact z
theorem sc_Ldo:FnScope ["_law_book","_law_deed","_law_told","_law_e"] g9 (qm qc5):=⟨rfl,rfl,rfl,by decide +kernel,rfl,by decide +kernel,by decide +kernel⟩
theorem qd0(Tx:Txt K mg base cl)(Fu:Fun K "_law_do" "_law_do" qc5 X8 yM)(GLcall:FnOk P w K mg base (CX1 P w) 4 yj vi g9 (spB K cl T 2 (vV K cl T hT)))(BLcall:Binds K vi g9 [])(HT:TxtH K mg base cl cs kw Wc fLk)(GLkinds:FnOkH P w K mg base CX0 1 fLk fdLk ["_law_e"] (wM cs))(BLkinds:Binds K fdLk ["_law_e"] []):FnOk P w K mg base CX0 5 X8 yM g9 (spB0 K T 2 (Q7 K cl T hT kw)):=by
 have z:=ju (P:=P) (w:=w) (K:=K) (mg:=mg) (base:=base) (k:=4) (n:=2) (N:=["_law_book","_law_deed","_law_told","_law_e"]) (ps:=g9) (body:=(uu K cl T hT kw)) (O':=[]) Fu sc_Ldo rfl (fun cdv A outer s H EX E hr=>
  (qc (qT (i:=2) sc_Ldo.nd rfl (by trivial) dcs)
  (qc (qbz (i:=3) (j:=2) (cs:=cs) (kw:=kw) rfl rfl rfl sc_Ldo.nd rfl rfl rfl HT.mW HT.ww HT.sub (fun pn Ex=>(qh (qT (i:=2) sc_Ldo.nd rfl (by trivial) (uh GLcall (mo hr) rfl Tx.m_Lcall Tx.k_Lcall BLcall (qa (m:=true) (dv 0) (qa (m:=true) (dv 1) (qo (m:=true)))))))) rfl rfl GLkinds ⟨(hr.mono (j:=1) (by decide)).dp,(hr.mono (j:=1) (by decide)).un⟩ rfl HT.mK HT.kk BLkinds HT.kw)
  (qh (qY (dv 2))))))
 exact z
theorem Qc:FnScope gI gI (qm xU):=⟨rfl,rfl,rfl,by decide +kernel,rfl,by decide +kernel,by decide +kernel⟩
theorem Qt(Tx:Txt K mg base cl)(Fu:Fun K "known" "Book.known" xU j6 zN)(GBook_ride_by:FnOk P w K mg base (CX1 P w) 4 z9 qR gF (spB K cl T 3 (zn K cl T hT)))(BBook_ride_by:Binds K qR gF [])(GBook_reports:FnOk P w K mg base (CX1 P w) 3 zy qE fW (spB K cl T 2 (qJ K cl T hT)))(BBook_reports:Binds K qE fW []):FnOk P w K mg base (CX1 P w) 5 j6 zN gI (spB K cl T 3 (jE K cl T hT)):=by
 have z:=k9 (P:=P) (w:=w) (K:=K) (mg:=mg) (base:=base) (k:=4) (n:=3) (N:=gI) (ps:=gI) (body:=(ve K cl T hT)) (O':=[]) Fu Qc rfl (fun cdv A outer s H EX E hr=>
  (qh (qY (q9 (dv 0) Tx.cls_Book Tx.me_Book_ride_by GBook_ride_by (mo hr) BBook_ride_by (qa (m:=true) (dv 1) (qa (m:=true) (DO.de (xK (T:=["report"]) (caps:=["stamp"]) (ix:=[2]) (O1:=[]) (wd rfl (by rfl) (by decide +kernel) (by decide +kernel) rfl (by contradiction) (by rfl) (by contradiction)) rfl (by decide) qd (DI.toC (ZX (q9 (dv 0) Tx.cls_Book Tx.me_Book_reports GBook_reports (mo hr) BBook_reports (qa (m:=true) (dv 1) (qo (m:=true)))))) (fun _ _ _ _ _=>(qz (qx (i:=0) (by show(["report","stamp"]:fT).Nodup;decide +kernel) rfl (by trivial)))) (by decide) (by decide) (fun _ _ _ _ _=>(Wd (jq Qp o_le (qD (huR hr) (dv 0) dci) (dv 1) (qH _)))) (fun _ _ _ _ _=>(dv 0)))) (qo (m:=true))))))))
 exact z
theorem sc_Lnone:FnScope ["_law_book","_law_run","_law_told","_law_what","_law_e"] gM (qm V2):=⟨rfl,rfl,rfl,by decide +kernel,rfl,by decide +kernel,by decide +kernel⟩
theorem YA(Tx:Txt K mg base cl)(Fu:Fun K "_law_none" "_law_none" V2 yi vh)(GBook_told:FnOk P w K mg base (CX1 P w) 3 jb qG fW (spB K cl T 2 (qN K cl T hT)))(BBook_told:Binds K qG fW [])(GBook_goes:FnOk P w K mg base (CX1 P w) 5 jQ zk fW (spB K cl T 2 (zo K cl T hT)))(BBook_goes:Binds K zk fW [])(GBook_reports:FnOk P w K mg base (CX1 P w) 3 zy qE fW (spB K cl T 2 (qJ K cl T hT)))(BBook_reports:Binds K qE fW [])(GBook_known:FnOk P w K mg base (CX1 P w) 5 j6 zN gI (spB K cl T 3 (jE K cl T hT)))(BBook_known:Binds K zN gI [])(GBook_free:FnOk P w K mg base (CX1 P w) 4 jR zl fW (spB K cl T 2 (zp K cl T hT)))(BBook_free:Binds K zl fW [])(HT:TxtH K mg base cl cs kw Wc fLk)(GLkinds:FnOkH P w K mg base CX0 1 fLk fdLk ["_law_e"] (wM cs))(BLkinds:Binds K fdLk ["_law_e"] []):FnOk P w K mg base CX0 6 yi vh gM (spB0 K T 2 (yz K cl T hT kw)):=by
 have z:=ju (P:=P) (w:=w) (K:=K) (mg:=mg) (base:=base) (k:=5) (n:=2) (N:=["_law_book","_law_run","_law_told","_law_what","_law_e"]) (ps:=gM) (body:=(JQ K cl T hT kw)) (O':=[]) Fu sc_Lnone rfl (fun cdv A outer s H EX E hr=>
  (qc (qT (i:=2) sc_Lnone.nd rfl (by trivial) (kq (z_ (qo (m:=true)))))
  (qc (xq bH rfl qd (jD rfl Tx.b_range (qa (m:=true) dci (qo (m:=true)))) (qz (qx (i:=3) sc_Lnone.nd rfl (by trivial)))
  (qh (qb0 (i:=4) (j:=2) (cs:=cs) (kw:=kw) rfl rfl rfl sc_Lnone.nd rfl rfl rfl HT.mW HT.ww HT.sub (fun pn Ex=>(qc (zd (qV (zB (huR hr)) o_eq (dv 3) dci (qH _))
  (qh (zG (q9 (dv 0) Tx.cls_Book Tx.me_Book_told GBook_told (mo hr) BBook_told (qa (m:=true) (dv 1) (qo (m:=true))))))
  (qh (zd (qV (zB (huR hr)) o_eq (dv 3) dci (qH _))
  (qh (zG (q9 (dv 0) Tx.cls_Book Tx.me_Book_goes GBook_goes (mo hr) BBook_goes (qa (m:=true) (dv 1) (qo (m:=true))))))
  (qh (zd (qV (zB (huR hr)) o_eq (dv 3) dci (qH _))
  (qh (zG (q9 (dv 0) Tx.cls_Book Tx.me_Book_reports GBook_reports (mo hr) BBook_reports (qa (m:=true) (dv 1) (qo (m:=true))))))
  (qh (zd (qV (zB (huR hr)) o_eq (dv 3) dci (qH _))
  (qh (zG (q9 (dv 0) Tx.cls_Book Tx.me_Book_known GBook_known (mo hr) BBook_known (qa (m:=true) (dv 1) (qa (m:=true) dci (qo (m:=true)))))))
  (qh (zG (q9 (dv 0) Tx.cls_Book Tx.me_Book_free GBook_free (mo hr) BBook_free (qa (m:=true) (dv 1) (qo (m:=true)))))))))))))
  (qh (zG (JN (dv 2) dcs))))) rfl rfl (by decide) GLkinds ⟨(hr.mono (j:=1) (by decide)).dp,(hr.mono (j:=1) (by decide)).un⟩ rfl HT.mK HT.kk BLkinds HT.kw)))
  (qh (qY (dv 2))))))
 exact z
theorem sc_law:FnScope fZ ["_law_script"] (qm qc4):=⟨rfl,rfl,rfl,by decide +kernel,rfl,by decide +kernel,by decide +kernel⟩
theorem qdy(Tx:Txt K mg base cl){KG:FuncData}(Fu:Fun K "law" "law" qc4 Y5 KG)(GBook_many:FnOk P w K mg base CX0 2 jP zj ["self"] (spB0 K T 1 (zx K cl T hT)))(BBook_many:Binds K zj ["self"] [])(GBook_free:FnOk P w K mg base (CX1 P w) 4 jR zl fW (spB K cl T 2 (zp K cl T hT)))(BBook_free:Binds K zl fW [])(GBook_goes:FnOk P w K mg base (CX1 P w) 5 jQ zk fW (spB K cl T 2 (zo K cl T hT)))(BBook_goes:Binds K zk fW [])(GBook_told:FnOk P w K mg base (CX1 P w) 3 jb qG fW (spB K cl T 2 (qN K cl T hT)))(BBook_told:Binds K qG fW [])(GLbase:FnOk P w K mg base CX0 5 yk vj fX (spB0 K T 3 (xO K cl T hT)))(BLbase:Binds K vj fX [])(GLdraws:FnOk P w K mg base CX0 1 vm jo fX (spP K T 3 false (jJ T hT.b)))(BLdraws:Binds K jo fX [])(GLword_one:FnOk P w K mg base CX0 1 jO jd f' (spB0 K T 2 (jz K cl T hT)))(BLword_one:Binds K jd f' [])(GLafter_one:FnOk P w K mg base CX0 1 je zb f' (spB0 K T 2 (qU K cl T hT)))(BLafter_one:Binds K zb f' [])(GLsame:FnOk P w K mg base CX0 4 ka zr gB (spP K T 2 false (zI T hT.b jm)))(BLsame:Binds K zr gB [])(GLdo:FnOk P w K mg base CX0 5 X8 yM g9 (spB0 K T 2 (Q7 K cl T hT kw)))(BLdo:Binds K yM g9 [])(GLnone:FnOk P w K mg base CX0 6 yi vh gM (spB0 K T 2 (yz K cl T hT kw)))(BLnone:Binds K vh gM []):FnOk P w K mg base CX0 7 Y5 KG ["_law_script"] (spB0 K T 1 (qck K cl T hT kw)):=by
 have z:=ju (P:=P) (w:=w) (K:=K) (mg:=mg) (base:=base) (k:=6) (n:=1) (N:=fZ) (ps:=["_law_script"]) (body:=(qcc K cl T hT kw)) (O':=[]) Fu sc_law rfl (fun cdv A outer s H EX E hr=>
  (qc (KM (jH (qu qd (qu qd (qu qd z5)))) (jW GLbase (mo hr) rfl Tx.m_Lbase Tx.k_Lbase BLbase (qa (m:=true) (dv 0) (qa (m:=true) dci (qa (m:=true) dci (qo (m:=true)))))) (wc rfl (qB qd (qz (qx (i:=3) sc_law.nd rfl (by trivial))) (qB qd (qz (qx (i:=4) sc_law.nd rfl (by trivial))) (qB qd (qz (qx (i:=5) sc_law.nd rfl (by trivial))) kE)))))
  (qc (xq bH rfl qd (jD rfl Tx.b_range (qa (m:=true) (q_ zE jK (qD (huR hr) (yr (mo hr) rfl Tx.m_Ldraws Tx.k_Ldraws BLdraws (G:=GLdraws) (ha:=(qa (m:=true) (dv 0) (qa (m:=true) dci (qa (m:=true) dci (qo (m:=true))))))) dci) dci) (qo (m:=true)))) (qz (qx (i:=1) sc_law.nd rfl (by trivial)))
  (qc (qT (i:=6) sc_law.nd rfl (by trivial) (yr (mo hr) rfl Tx.m_Ldraws Tx.k_Ldraws BLdraws (G:=GLdraws) (ha:=(qa (m:=true) (dv 0) (qa (m:=true) (DO.de (zS dci (dv 1))) (qa (m:=true) dci (qo (m:=true))))))))
  (qc (qT (i:=7) sc_law.nd rfl (by trivial) (DO.de (zS (DO.de (zS (dv 5) (dv 5))) (DO.de (z_ (qa (m:=true) dcs (qa (m:=true) dcs (qo (m:=true)))))))))
  (qc (qT (i:=8) sc_law.nd rfl (by trivial) (qD (huR hr) (DO.de (z_ (qa (m:=true) dci (qa (m:=true) (q_ v6 Qu dci dci) (qa (m:=true) dci (qa (m:=true) dci (qa (m:=true) (q_ v6 Qu dci dci) (qa (m:=true) (q_ kW w6 (qD (huR hr) (dv 6) dci) dci) (qa (m:=true) (q_ Zr XA dci dci) (qa (m:=true) (q_ v6 Qu dci (qD (huR hr) (dv 6) dci)) (qo (m:=true)))))))))))) (q_ zE jK (qD (huR hr) (dv 6) dci) dci)))
  (qc (qT (i:=9) sc_law.nd rfl (by trivial) (DO.de (zS (dv 8) (qD (huR hr) (DO.de (z_ (qa (m:=true) dci (qa (m:=true) dci (qa (m:=true) (q_ v6 Qu dci dci) (qa (m:=true) (qD (huR hr) (dv 6) dci) (qa (m:=true) dci (qa (m:=true) dci (qa (m:=true) dci (qa (m:=true) (q_ Zr XA dci dci) (qo (m:=true)))))))))))) (q_ zE jK (qD (huR hr) (dv 6) dci) dci)))))
  (qc (qT (i:=10) sc_law.nd rfl (by trivial) (qD (huR hr) (DO.de (z_ (qa (m:=true) dci (qa (m:=true) dci (qa (m:=true) (q_ v6 Qu dci dci) (qa (m:=true) (qD (huR hr) (dv 6) dci) (qa (m:=true) (q_ Zr XA dci dci) (qa (m:=true) dci (qa (m:=true) dci (qa (m:=true) dci (qo (m:=true)))))))))))) (q_ zE jK (qD (huR hr) (dv 6) dci) dci)))
  (qc (qT (i:=11) sc_law.nd rfl (by trivial) (jf (qa (m:=true) dcs (qa (m:=true) (qD (huR hr) (dv 7) (q_ zE jK (qD (huR hr) (dv 6) dci) (jU rfl Tx.b_len (dv 7)))) (qa (m:=true) (qD (huR hr) (dv 7) (q_ zE jK (qD (huR hr) (dv 6) dci) (jU rfl Tx.b_len (dv 7)))) (qa (m:=true) (dv 8) (qa (m:=true) (dv 9) (qa (m:=true) (dv 10) (qo (m:=true))))))))))
  (qc (qT (i:=12) sc_law.nd rfl (by trivial) (jW GLword_one (mo hr) rfl Tx.m_Lword_one Tx.k_Lword_one BLword_one (qa (m:=true) (dv 4) (qa (m:=true) (dv 11) (qo (m:=true))))))
  (qc (qT (i:=13) sc_law.nd rfl (by trivial) (jf (qa (m:=true) dcs (qa (m:=true) (dv 12) (qo (m:=true))))))
  (qc (zd (qV (zB (huR hr)) o_eq (dv 12) dcs (qH _))
  (qc (qT (i:=13) sc_law.nd rfl (by trivial) (jU rfl Tx.b_len (qD (huR hr) (dv 4) dci)))
  (qh (qT (i:=4) sc_law.nd rfl (by trivial) (jW GLafter_one (mo hr) rfl Tx.m_Lafter_one Tx.k_Lafter_one BLafter_one (qa (m:=true) (dv 4) (qa (m:=true) (dv 11) (qo (m:=true))))))))
  qC)
  (qh (zd (DW.dt (VA (wb (vH (wG (mo hr) rfl Tx.m_Lsame Tx.k_Lsame BLsame GLsame (qa (m:=true) (jW GLdo (mo hr) rfl Tx.m_Ldo Tx.k_Ldo BLdo (qa (m:=true) (dv 3) (qa (m:=true) (dv 11) (qo (m:=true))))) (qa (m:=true) (dv 13) (qo (m:=true))))))) (ZT (wb (vH (wG (mo hr) rfl Tx.m_Lsame Tx.k_Lsame BLsame GLsame (qa (m:=true) (yO (dv 3) Tx.cls_Book Tx.me_Book_many GBook_many (mo hr) BBook_many) (qa (m:=true) (jU rfl Tx.b_len (qD (huR hr) (dv 4) dci)) (qo (m:=true))))))))))
  (qh (qY (de_c Qn rfl)))
  qC))))))))))))
  (qc (xq bH rfl qd (jD rfl Tx.b_range (qa (m:=true) (jU rfl Tx.b_len (qD (huR hr) (dv 4) dci)) (qo (m:=true)))) (qz (qx (i:=2) sc_law.nd rfl (by trivial)))
  (qc (qT (i:=14) sc_law.nd rfl (by trivial) (DO.de (zS (jf (qa (m:=true) (dv 2) (qo (m:=true)))) (DO.de (QN (Ws (huR hr) (qD (huR hr) (dv 4) dci) (dv 2)) QM (QL dci))))))
  (qh (zd (wb (vH (wG (mo hr) rfl Tx.m_Lsame Tx.k_Lsame BLsame GLsame (qa (m:=true) (jf (qa (m:=true) (q9 (dv 3) Tx.cls_Book Tx.me_Book_told GBook_told (mo hr) BBook_told (qa (m:=true) (dv 2) (qo (m:=true)))) (qa (m:=true) (q9 (dv 3) Tx.cls_Book Tx.me_Book_goes GBook_goes (mo hr) BBook_goes (qa (m:=true) (dv 2) (qo (m:=true)))) (qa (m:=true) (q9 (dv 3) Tx.cls_Book Tx.me_Book_free GBook_free (mo hr) BBook_free (qa (m:=true) (dv 2) (qo (m:=true)))) (qo (m:=true)))))) (qa (m:=true) (jf (qa (m:=true) (Ws (huR hr) (qD (huR hr) (dv 4) dci) (dv 2)) (qa (m:=true) (dv 14) (qa (m:=true) (qD (huR hr) (Ws (huR hr) (qD (huR hr) (dv 4) dci) (dv 2)) dci) (qo (m:=true)))))) (qo (m:=true)))))))
  (qh (qY (de_c Qn rfl)))
  qC))))
  (qc (xq bH rfl qd (ZX (DO.de (z_ (qa (m:=true) (q_ v6 Qu dci dci) (qa (m:=true) (jU rfl Tx.b_len (qD (huR hr) (dv 4) dci)) (qa (m:=true) (q_ Zr XA dci dci) (qo (m:=true)))))))) (qz (qx (i:=2) sc_law.nd rfl (by trivial)))
  (qh (zd (qV (Km (huR hr)) o_ne (jW GLnone (mo hr) rfl Tx.m_Lnone Tx.k_Lnone BLnone (qa (m:=true) (dv 3) (qa (m:=true) (dv 2) (qo (m:=true))))) (DO.de (qev (DO.de (z_ (qa (m:=true) dcs (qo (m:=true))))) dci)) (qH _))
  (qh (qY (de_c Qn rfl)))
  qC)))
  (qh (qY (de_c Qn rfl))))))))
 exact z
end
end M
set_option maxHeartbeats 0
namespace M
open PySem PySem.W PyProof.Rows L2 X2
def clL(x:Str):fR:=if x="NoRun" then some 142 else if x="BadName" then some 58 else if x="Taken" then some 118 else if x="BadClock" then some 70 else if x="Full" then some 238 else if x="NoPlace" then some 130 else if x="Astray" then some 226 else if x="BadTimes" then some 82 else if x="BadSeats" then some 94 else none
def kwL(x:Str):Option Str:=if x="NoRun" then some "run" else if x="BadName" then some "name" else if x="Taken" then some "taken" else if x="BadClock" then some "clock" else if x="Full" then some "full" else if x="NoPlace" then some "place" else if x="Astray" then some "astray" else if x="BadTimes" then some "times" else if x="BadSeats" then some "seats" else none
abbrev T0:Hp->Prop:=fun _=>True
theorem kwOk:Kw kwL:=⟨rfl,rfl,rfl,rfl,rfl,rfl⟩
theorem hT0:HTt T0:=fun _ _ _ _=>trivial
theorem all_mk{w:World}{K:Frag}{h:Heap}{mg:fO}{fa:Addr}(ob:hO K=hE)(X:K.In h)(G:h.Ns mainGlobals mg)(hfa:mg "law"=some (.ref fa)):∃fd:FuncData,(∀(s:Shared)(v:Value),BindsTo s fd ⟨[v],[]⟩ [("_law_script",v)])/\∀base:Heap,K.In base->base.Ns mainGlobals mg->Bm base mg->FnOk hP w K mg base CX0 7 fa fd ["_law_script"] (VW K T0):=by
 obtain⟨o1,o2,o3⟩:obsD hP hL [] hN (lk K)=valD hP hL [] hV/\hF K=List.replicate 41 true/\obsM hM (lk K)=valM hP hM:=by
  obtain⟨a,b⟩:=eQ ob;obtain⟨b,c⟩:=eQ b;exact⟨a,b,c⟩
 obtain⟨jc,a_good_name,U_good_name⟩:=kg o1 0 "good_name" rfl rfl;obtain⟨jo,a_Ldraws,U_Ldraws⟩:=kg o1 1 "_law_draws" rfl rfl;obtain⟨kl,a_Lnames,U_Lnames⟩:=kg o1 2 "_law_names" rfl rfl;obtain⟨km,a_Lbegin,U_Lbegin⟩:=kg o1 3 "_law_begin" rfl rfl;obtain⟨zb,a_Lafter_one,U_Lafter_one⟩:=kg o1 4 "_law_after_one" rfl rfl;obtain⟨vj,a_Lbase,U_Lbase⟩:=kg o1 5 "_law_base" rfl rfl;obtain⟨jd,a_Lword_one,U_Lword_one⟩:=kg o1 6 "_law_word_one" rfl rfl;obtain⟨zr,a_Lsame,U_Lsame⟩:=kg o1 7 "_law_same" rfl rfl;obtain⟨vi,a_Lcall,U_Lcall⟩:=kg o1 8 "_law_call" rfl rfl;obtain⟨yM,a_Ldo,U_Ldo⟩:=kg o1 9 "_law_do" rfl rfl;obtain⟨vh,a_Lnone,U_Lnone⟩:=kg o1 10 "_law_none" rfl rfl;obtain⟨KG,a_law,U_law⟩:=kg o1 11 "law" rfl rfl;obtain⟨yh,a_Lkinds,U_Lkinds⟩:=kg o1 12 "_law_kinds" rfl rfl;obtain⟨qk,U_Ledger_table⟩:=jF o3 0 "table" rfl rfl;obtain⟨zj,U_Book_many⟩:=jF o3 1 "many" rfl rfl;obtain⟨qL,U_Book_need_run⟩:=jF o3 2 "need_run" rfl rfl;obtain⟨qG,U_Book_told⟩:=jF o3 3 "told" rfl rfl;obtain⟨zl,U_Book_free⟩:=jF o3 4 "free" rfl rfl;obtain⟨qR,U_Book_ride_by⟩:=jF o3 5 "ride_by" rfl rfl;obtain⟨qE,U_Book_reports⟩:=jF o3 6 "reports" rfl rfl;obtain⟨zk,U_Book_goes⟩:=jF o3 7 "goes" rfl rfl;obtain⟨qZ,U_Ledger___init__⟩:=jF o3 8 "__init__" rfl rfl;obtain⟨zi,U_Book___init__⟩:=jF o3 9 "__init__" rfl rfl;obtain⟨zL,U_Ledger_put⟩:=jF o3 10 "put" rfl rfl;obtain⟨qQ,U_Ledger_enter⟩:=jF o3 11 "enter" rfl rfl;obtain⟨zM,U_Book_place⟩:=jF o3 12 "place" rfl rfl;obtain⟨q8,U_Book_need_place⟩:=jF o3 13 "need_place" rfl rfl;obtain⟨jv,U_Book_run⟩:=jF o3 14 "run" rfl rfl;obtain⟨zN,U_Book_known⟩:=jF o3 15 "known" rfl rfl;have e:=hfa.symm.trans (bq X G a_law);have e2:833=fa:=by cases e;rfl
 subst e2;have BLedger_table:=U_Ledger_table.binds (ps:=g8) fun _ _ _ _ _ _ us hl=>by obtain⟨_,_,rfl⟩:=ln2 hl;rfl
 have BBook_many:=U_Book_many.binds (ps:=["self"]) fun _ _ _ _ _ _ us hl=>by obtain⟨_,rfl⟩:=ln1 hl;rfl
 have BBook_need_run:=U_Book_need_run.binds (ps:=fW) fun _ _ _ _ _ _ us hl=>by obtain⟨_,_,rfl⟩:=ln2 hl;rfl
 have BBook_told:=U_Book_told.binds (ps:=fW) fun _ _ _ _ _ _ us hl=>by obtain⟨_,_,rfl⟩:=ln2 hl;rfl
 have BBook_free:=U_Book_free.binds (ps:=fW) fun _ _ _ _ _ _ us hl=>by obtain⟨_,_,rfl⟩:=ln2 hl;rfl
 have BBook_ride_by:=U_Book_ride_by.binds (ps:=gF) fun _ _ _ _ _ _ us hl=>by obtain⟨_,_,_,rfl⟩:=ln3 hl;rfl
 have BBook_reports:=U_Book_reports.binds (ps:=fW) fun _ _ _ _ _ _ us hl=>by obtain⟨_,_,rfl⟩:=ln2 hl;rfl
 have BBook_goes:=U_Book_goes.binds (ps:=fW) fun _ _ _ _ _ _ us hl=>by obtain⟨_,_,rfl⟩:=ln2 hl;rfl
 have BLedger___init__:=U_Ledger___init__.binds (ps:=["self"]) fun _ _ _ _ _ _ us hl=>by obtain⟨_,rfl⟩:=ln1 hl;rfl
 have BBook___init__:=U_Book___init__.binds (ps:=["self"]) fun _ _ _ _ _ _ us hl=>by obtain⟨_,rfl⟩:=ln1 hl;rfl
 have BLedger_put:=U_Ledger_put.binds (ps:=gK) fun _ _ _ _ _ _ us hl=>by obtain⟨_,_,_,_,rfl⟩:=ln4 hl;rfl
 have BLedger_enter:=U_Ledger_enter.binds (ps:=gE) fun _ _ _ _ _ _ us hl=>by obtain⟨_,_,_,rfl⟩:=ln3 hl;rfl
 have Bgood_name:=U_good_name.binds (ps:=["name"]) fun _ _ _ _ _ _ us hl=>by obtain⟨_,rfl⟩:=ln1 hl;rfl
 have BBook_place:=U_Book_place.binds (ps:=gH) fun _ _ _ _ _ _ us hl=>by obtain⟨_,_,_,_,rfl⟩:=ln4 hl;rfl
 have BLdraws:=U_Ldraws.binds (ps:=fX) fun _ _ _ _ _ _ us hl=>by obtain⟨_,_,_,rfl⟩:=ln3 hl;rfl
 have BLnames:=U_Lnames.binds (ps:=gO) fun _ _ _ _ _ _ us hl=>by obtain⟨_,_,rfl⟩:=ln2 hl;rfl
 have BLbegin:=U_Lbegin.binds (ps:=[]) fun _ _ _ _ _ _ us hl=>by cases us with|nil=>rfl|cons _ _=>cases hl
 have BLafter_one:=U_Lafter_one.binds (ps:=f') fun _ _ _ _ _ _ us hl=>by obtain⟨_,_,rfl⟩:=ln2 hl;rfl
 have BLbase:=U_Lbase.binds (ps:=fX) fun _ _ _ _ _ _ us hl=>by obtain⟨_,_,_,rfl⟩:=ln3 hl;rfl
 have BLword_one:=U_Lword_one.binds (ps:=f') fun _ _ _ _ _ _ us hl=>by obtain⟨_,_,rfl⟩:=ln2 hl;rfl
 have BLsame:=U_Lsame.binds (ps:=gB) fun _ _ _ _ _ _ us hl=>by obtain⟨_,_,rfl⟩:=ln2 hl;rfl
 have BBook_need_place:=U_Book_need_place.binds (ps:=gQ) fun _ _ _ _ _ _ us hl=>by obtain⟨_,_,rfl⟩:=ln2 hl;rfl
 have BBook_run:=U_Book_run.binds (ps:=gC) fun _ _ _ _ _ _ us hl=>by obtain⟨_,_,_,_,_,_,rfl⟩:=ln6 hl;rfl
 have BLcall:=U_Lcall.binds (ps:=g9) fun _ _ _ _ _ _ us hl=>by obtain⟨_,_,rfl⟩:=ln2 hl;rfl
 have BLdo:=U_Ldo.binds (ps:=g9) fun _ _ _ _ _ _ us hl=>by obtain⟨_,_,rfl⟩:=ln2 hl;rfl
 have BBook_known:=U_Book_known.binds (ps:=gI) fun _ _ _ _ _ _ us hl=>by obtain⟨_,_,_,rfl⟩:=ln3 hl;rfl
 have BLnone:=U_Lnone.binds (ps:=gM) fun _ _ _ _ _ _ us hl=>by obtain⟨_,_,rfl⟩:=ln2 hl;rfl
 have BLkinds:=U_Lkinds.binds (ps:=["_law_e"]) fun _ _ _ _ _ _ us hl=>by obtain⟨_,rfl⟩:=ln1 hl;rfl
 refine⟨KG,fun s v=>by obtain⟨_,_,_,_,_,_,_,_,_,rfl,_⟩:=U_law.ex;exact .of_eq rfl,fun base KB GB BM=>?_⟩;have gN:=fun(i:Nat){x:Str}{v:Value}(m:hN[i]?=some x)(e:hV[i]?=some (some (some v)))=>bq X G (uH o1 i m e)
 have gZ:=fun(i:Nat){x:Str}(m:hN[i]?=some x)(e:hV[i]?=some (some none))=>PySem.W.mg_none_of X G (uH o1 i m e)
 have Tx:Txt K mg base clL:=⟨uS (ofF o2 0 rfl),uS (ofF o2 1 rfl),YH (ofF o2 2 rfl),YH (ofF o2 3 rfl),xb (ofF o2 6 rfl),gZ 0 rfl rfl,rfl,zw KB (gN 27 rfl rfl) (ofF o2 30 rfl) (ofF o2 22 rfl),xb (ofF o2 7 rfl),xb (ofF o2 8 rfl),gZ 1 rfl rfl,xb (ofF o2 9 rfl),xb (ofF o2 10 rfl),YH (ofF o2 4 rfl),YH (ofF o2 5 rfl),qd5 (ofF o2 20 rfl),(gN 18 rfl rfl),xb (ofF o2 11 rfl),gZ 2 rfl rfl,gZ 3 rfl rfl,⟨_,(gN 11 rfl rfl)⟩,⟨_,(gN 17 rfl rfl)⟩,bq X G a_good_name,U_good_name.kp,xb (ofF o2 12 rfl),⟨_,(gN 12 rfl rfl)⟩,⟨_,(gN 13 rfl rfl)⟩,⟨_,(gN 14 rfl rfl)⟩,rfl,zw KB (gN 20 rfl rfl) (ofF o2 23 rfl) (ofF o2 22 rfl),rfl,zw KB (gN 25 rfl rfl) (ofF o2 28 rfl) (ofF o2 22 rfl),rfl,zw KB (gN 21 rfl rfl) (ofF o2 24 rfl) (ofF o2 22 rfl),rfl,zw KB (gN 35 rfl rfl) (ofF o2 38 rfl) (ofF o2 22 rfl),bq X G a_Ldraws,U_Ldraws.kp,gZ 4 rfl rfl,bq X G a_Lnames,U_Lnames.kp,bq X G a_Lbegin,U_Lbegin.kp,bq X G a_Lafter_one,U_Lafter_one.kp,xb (ofF o2 13 rfl),qd5 (ofF o2 21 rfl),(gN 19 rfl rfl),bq X G a_Lbase,U_Lbase.kp,gZ 5 rfl rfl,bq X G a_Lword_one,U_Lword_one.kp,gZ 6 rfl rfl,gZ 7 rfl rfl,gZ 8 rfl rfl,gZ 9 rfl rfl,bq X G a_Lsame,U_Lsame.kp,rfl,zw KB (gN 26 rfl rfl) (ofF o2 29 rfl) (ofF o2 22 rfl),xb (ofF o2 14 rfl),xb (ofF o2 15 rfl),⟨_,(gN 15 rfl rfl)⟩,⟨_,(gN 16 rfl rfl)⟩,rfl,zw KB (gN 34 rfl rfl) (ofF o2 37 rfl) (ofF o2 22 rfl),rfl,zw KB (gN 22 rfl rfl) (ofF o2 25 rfl) (ofF o2 22 rfl),rfl,zw KB (gN 23 rfl rfl) (ofF o2 26 rfl) (ofF o2 22 rfl),xb (ofF o2 16 rfl),bq X G a_Lcall,U_Lcall.kp,bq X G a_Ldo,U_Ldo.kp,xb (ofF o2 17 rfl),xb (ofF o2 18 rfl),xb (ofF o2 19 rfl),bq X G a_Lnone,U_Lnone.kp,bq X G a_law,U_law.kp⟩;have TK:My.TxtK K mg 58 70 82 94 106 118 130 142 154 166 178 190 202 214 226 238 257 269 288:=⟨gZ 6 rfl rfl,gZ 10 rfl rfl,(gN 20 rfl rfl),(gN 21 rfl rfl),(gN 22 rfl rfl),(gN 23 rfl rfl),(gN 24 rfl rfl),(gN 25 rfl rfl),(gN 26 rfl rfl),(gN 27 rfl rfl),(gN 28 rfl rfl),(gN 29 rfl rfl),(gN 30 rfl rfl),(gN 31 rfl rfl),(gN 32 rfl rfl),(gN 33 rfl rfl),(gN 34 rfl rfl),(gN 35 rfl rfl),(gN 36 rfl rfl),(gN 37 rfl rfl),(gN 38 rfl rfl),qee (ofF o2 40 rfl)⟩;have GLkinds:=My.ok_Lkinds (P:=hP) (w:=w) (base:=base) TK U_Lkinds;have HT:TxtH K mg base clL [58,70,82,94,106,118,130,142,154,166,178,190,202,214,226,238,257,269,288] kwL 45 762:=by
  refine⟨(gN 39 rfl rfl),W3 KB (ofF o2 22 rfl),fun y C hy=>?_,bq X G a_Lkinds,U_Lkinds.kp,fun y t hy=>?_⟩
  ·unfold clL at hy
   split at hy
   ·cases hy;exact zv KB (ofF o2 30 rfl)
   split at hy
   ·cases hy;exact zv KB (ofF o2 23 rfl)
   split at hy
   ·cases hy;exact zv KB (ofF o2 28 rfl)
   split at hy
   ·cases hy;exact zv KB (ofF o2 24 rfl)
   split at hy
   ·cases hy;exact zv KB (ofF o2 38 rfl)
   split at hy
   ·cases hy;exact zv KB (ofF o2 29 rfl)
   split at hy
   ·cases hy;exact zv KB (ofF o2 37 rfl)
   split at hy
   ·cases hy;exact zv KB (ofF o2 25 rfl)
   split at hy
   ·cases hy;exact zv KB (ofF o2 26 rfl)
   cases hy
  ·unfold kwL at hy
   split at hy
   ·rename_i e0;subst e0;cases hy;exact⟨7,fun C hC=>by have e1:clL "NoRun"=some 142:=rfl;rw[e1]at hC;cases hC;exact⟨rfl,rfl⟩⟩
   split at hy
   ·rename_i e0;subst e0;cases hy;exact⟨0,fun C hC=>by have e1:clL "BadName"=some 58:=rfl;rw[e1]at hC;cases hC;exact⟨rfl,rfl⟩⟩
   split at hy
   ·rename_i e0;subst e0;cases hy;exact⟨5,fun C hC=>by have e1:clL "Taken"=some 118:=rfl;rw[e1]at hC;cases hC;exact⟨rfl,rfl⟩⟩
   split at hy
   ·rename_i e0;subst e0;cases hy;exact⟨1,fun C hC=>by have e1:clL "BadClock"=some 70:=rfl;rw[e1]at hC;cases hC;exact⟨rfl,rfl⟩⟩
   split at hy
   ·rename_i e0;subst e0;cases hy;exact⟨15,fun C hC=>by have e1:clL "Full"=some 238:=rfl;rw[e1]at hC;cases hC;exact⟨rfl,rfl⟩⟩
   split at hy
   ·rename_i e0;subst e0;cases hy;exact⟨6,fun C hC=>by have e1:clL "NoPlace"=some 130:=rfl;rw[e1]at hC;cases hC;exact⟨rfl,rfl⟩⟩
   split at hy
   ·rename_i e0;subst e0;cases hy;exact⟨14,fun C hC=>by have e1:clL "Astray"=some 226:=rfl;rw[e1]at hC;cases hC;exact⟨rfl,rfl⟩⟩
   split at hy
   ·rename_i e0;subst e0;cases hy;exact⟨2,fun C hC=>by have e1:clL "BadTimes"=some 82:=rfl;rw[e1]at hC;cases hC;exact⟨rfl,rfl⟩⟩
   split at hy
   ·rename_i e0;subst e0;cases hy;exact⟨3,fun C hC=>by have e1:clL "BadSeats"=some 94:=rfl;rw[e1]at hC;cases hC;exact⟨rfl,rfl⟩⟩
   cases hy
 have GLedger_table:=wY (P:=hP) (w:=w) (base:=base) (T:=T0) (hT:=hT0) (cl:=clL) Tx U_Ledger_table;have GBook_many:=Zw (P:=hP) (w:=w) (base:=base) (T:=T0) (hT:=hT0) (cl:=clL) Tx U_Book_many GLedger_table BLedger_table;have GBook_need_run:=wp (P:=hP) (w:=w) (base:=base) (T:=T0) (hT:=hT0) (cl:=clL) Tx U_Book_need_run GLedger_table BLedger_table;have GBook_told:=Zv (P:=hP) (w:=w) (base:=base) (T:=T0) (hT:=hT0) (cl:=clL) Tx U_Book_told GBook_need_run BBook_need_run GLedger_table BLedger_table;have GBook_free:=Zy (P:=hP) (w:=w) (base:=base) (T:=T0) (hT:=hT0) (cl:=clL) Tx U_Book_free GBook_told BBook_told GLedger_table BLedger_table;have GBook_ride_by:=w4 (P:=hP) (w:=w) (base:=base) (T:=T0) (hT:=hT0) (cl:=clL) Tx U_Book_ride_by GBook_told BBook_told;have GBook_reports:=w5 (P:=hP) (w:=w) (base:=base) (T:=T0) (hT:=hT0) (cl:=clL) Tx U_Book_reports GBook_need_run BBook_need_run GLedger_table BLedger_table;have GBook_goes:=Zx (P:=hP) (w:=w) (base:=base) (T:=T0) (hT:=hT0) (cl:=clL) Tx U_Book_goes GBook_ride_by BBook_ride_by GBook_reports BBook_reports;have GLedger___init__:=v8 (P:=hP) (w:=w) (base:=base) (T:=T0) (hT:=hT0) (cl:=clL) Tx U_Ledger___init__;have GBook___init__:=wq (P:=hP) (w:=w) (base:=base) (T:=T0) (hT:=hT0) (cl:=clL) Tx U_Book___init__ GLedger___init__ BLedger___init__;have GLedger_put:=Qq (P:=hP) (w:=w) (base:=base) (T:=T0) (hT:=hT0) (cl:=clL) Tx U_Ledger_put;have GLedger_enter:=wZ (P:=hP) (w:=w) (base:=base) (T:=T0) (hT:=hT0) (cl:=clL) Tx U_Ledger_enter GLedger_table BLedger_table GLedger_put BLedger_put;have Ggood_name:=Zt (P:=hP) (w:=w) (base:=base) (T:=T0) (hT:=hT0) (cl:=clL) Tx U_good_name;have GBook_place:=Qs (P:=hP) (w:=w) (base:=base) (T:=T0) (hT:=hT0) (cl:=clL) Tx U_Book_place GLedger_table BLedger_table GLedger_enter BLedger_enter Ggood_name Bgood_name;have GLdraws:=Xw (P:=hP) (w:=w) (base:=base) (T:=T0) (hT:=hT0) (cl:=clL) Tx U_Ldraws;have GLnames:=Xv (P:=hP) (w:=w) (base:=base) (T:=T0) (hT:=hT0) (cl:=clL) Tx U_Lnames;have GLbegin:=Xx (P:=hP) (w:=w) (base:=base) (T:=T0) (hT:=hT0) (cl:=clL) Tx U_Lbegin;have GLafter_one:=Qr (P:=hP) (w:=w) (base:=base) (T:=T0) (hT:=hT0) (cl:=clL) Tx U_Lafter_one;have GLbase:=YC (P:=hP) (w:=w) (base:=base) (T:=T0) (hT:=hT0) (cl:=clL) Tx U_Lbase GBook___init__ BBook___init__ GBook_place BBook_place GLdraws BLdraws GLnames BLnames GLbegin BLbegin GLafter_one BLafter_one;have GLword_one:=Zu (P:=hP) (w:=w) (base:=base) (T:=T0) (hT:=hT0) (cl:=clL) Tx U_Lword_one;have GLsame:=Yz (P:=hP) (w:=w) (base:=base) (T:=T0) (hT:=hT0) (cl:=clL) Tx U_Lsame BLsame;have GBook_need_place:=v9 (P:=hP) (w:=w) (base:=base) (T:=T0) (hT:=hT0) (cl:=clL) Tx U_Book_need_place GLedger_table BLedger_table;have GBook_run:=Ju (P:=hP) (w:=w) (base:=base) (T:=T0) (hT:=hT0) (cl:=clL) Tx U_Book_run GBook_need_place BBook_need_place GBook_many BBook_many GLedger_enter BLedger_enter;have GLcall:=YB (P:=hP) (w:=w) (base:=base) (T:=T0) (hT:=hT0) (cl:=clL) Tx U_Lcall GBook_run BBook_run;have GLdo:=qd0 (P:=hP) (w:=w) (base:=base) (T:=T0) (hT:=hT0) (cl:=clL) (kw:=kwL) Tx U_Ldo GLcall BLcall HT GLkinds BLkinds;have GBook_known:=Qt (P:=hP) (w:=w) (base:=base) (T:=T0) (hT:=hT0) (cl:=clL) Tx U_Book_known GBook_ride_by BBook_ride_by GBook_reports BBook_reports;have GLnone:=YA (P:=hP) (w:=w) (base:=base) (T:=T0) (hT:=hT0) (cl:=clL) (kw:=kwL) Tx U_Lnone GBook_told BBook_told GBook_goes BBook_goes GBook_reports BBook_reports GBook_known BBook_known GBook_free BBook_free HT GLkinds BLkinds;have Glaw:=qdy (P:=hP) (w:=w) (base:=base) (T:=T0) (hT:=hT0) (cl:=clL) (kw:=kwL) Tx U_law GBook_many BBook_many GBook_free BBook_free GBook_goes BBook_goes GBook_told BBook_told GLbase BLbase GLdraws BLdraws GLword_one BLword_one GLafter_one BLafter_one GLsame BLsame GLdo BLdo GLnone BLnone;exact Glaw.imp fun vs H Q EX q=>qbg (fun ins=>qd8 kwOk ins []) q
end M
open PySem PySem.W PyProof.Rows X2 M
set_option maxHeartbeats 0 in
theorem PySem.Challenge.cw_wayhold_k14_runs_told_holds : PySem.Challenge.rw_wayhold_k14_runs_told.Holds := by
 w_on;o_law
 refine holds_open (q:=hQ) (loose:=hB) (Xt:=hX) (XP:=XL hQ []) (Yf:=Hook.obs hK) (Ya:=Hook.val hK) (YP:=Hook.says hK) (N:=20000) qgj (Hook.of hK) (Hook.keeps hK) (fun s e=>xl_of s (dZ.mp e).1) XL.keeps (by rfl) (by rfl) (by rfl) (fun s e=>recFacts_of (dZ.mp e).2) (by rfl) (by first|assumption|decide +kernel) (by decide +kernel) ⟨rfl,rfl,rfl,rfl,rfl,by decide +kernel⟩ ?hw ?hc
 case hw=>w_witness2
 case hc=>
  exact W2 (l:=PySem.Challenge.rw_wayhold_k14_runs_told) (n:=63) (k:=7) (x:="_law_script") (CX:=fun _=>L2.CX0) (sp:=fun _ K=>VW K T0) rfl (by decide) rfl ⟨rfl,by decide,by decide⟩ (fun w K ob P hP=>nomatch hP) (fun w K ob mg fa h KX G hmg=>all_mk ob KX G hmg) (fun w K H a ns hl ht hS=>⟨a,ns,rfl,hS,hl,trivial,fun _=>rfl⟩) fun _ _ _ _ _ z=>z
