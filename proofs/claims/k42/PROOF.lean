import PyProof.Rows.All
import Wide.All
import OpenK.AllK
import Wide.FinOn
import Lean
import PyProof.EqAt
import PyProof.EqKinds
import PyProof.TupleCall
import PyProof.CompFree
import PyProof.NeKinds
import PyProof.WalkInts
import KE.KRevSl
import KE.KEqDict
import PyProof.StrCalls2
import PyProof.LongRange
import PyProof.ListRange
import PyProof.StrLawsJoin
import PyProof.FitsReplace
import PyProof.WalksEnum
import PyProof.EnumMake
import PyProof.ZipIter
import PyProof.LayNew
import KE.KNestM
import KE.KLam
import PyProof.OldK
import KE.KSortKey
import PyProof.Rows.CallKwBuiltin
import PyProof.Rows.CallKw2
import KE.KSortTup
import KE.KItemsList
import PyProof.Rows.SortStr
import PyProof.Rows.MinMaxN
import PyProof.AutoSeq1
import PyProof.Rows.SetFrom
import PyProof.CallStr
import PyProof.DictCompW
import PyProof.AttrMissHeap
import KE.KDictOf
import PyProof.DictWalks
import PySem.Challenge.RW_wayhold_k42_whole_many_rides
set_option maxHeartbeats 4000000
set_option maxRecDepth 100000
set_option Elab.async false
set_option linter.all false
abbrev fH:=PySem.W.Frag
abbrev fI:=List (PySem.Addr×PySem.Obj)
abbrev fJ:=PySem.Value->PySem.Shared->Prop
abbrev fK:=PySem.Str->Option PySem.Value
abbrev fL:=List PySem.Addr
abbrev fM:=List PySem.Value
abbrev fN:=Option PySem.Addr
abbrev fO:=Array PySem.Value
abbrev fP:=List PySem.Str
abbrev fQ:=List PySem.Expr
abbrev fR:=List Int
def aa:=@List.getElem?_eq_getElem
def ab:=@List.length_map
def ae:=@PySem.Heap.get?_push_of_some
def af:=@PySem.wpAny_bind
def ag:=@List.getElem?_map
def ah:=@List.size_toArray
def ai:=@List.getElem?_eq_some_iff
def aj:=@List.mem_cons
def ak:=@Nat.le_refl
def ao:=@PySem.Heap.lt_size
def aq:=@Nat.ne_of_lt
def ar:=@List.mem_cons_self
def au:=@List.mem_singleton
def av:=@List.mem_cons_of_mem
def aw:=@PySem.wpAny_pure
def ax:=@List.not_mem_nil
def ay:=@List.mem_of_getElem?
def az:=@List.mem_append_right
def aA:=@List.map_cons
def aB:=@PySem.Heap.get?_push_size
def aC:=@List.mem_map
def aD:=@PySem.wpAny_loadPart'
def aE:=@Eq.trans
def aF:=@if_pos
def aG:=@if_neg
def aH:=@Bool.false_ne_true
def aI:=@Nat.lt_of_lt_of_le
def aJ:=@List.nodup_iff_pairwise_ne
def aK:=@List.length_append
def aL:=@PySem.W.mg_of
def aM:=@List.getElem?_set_ne
def aN:=@List.map_append
def aO:=@decide_eq_true
def aP:=@decide_eq_false
def aQ:=@List.mem_append
def aR:=@decide_eq_true_iff
def aS:=@List.lookup_cons
def aT:=@List.getElem?_append_right
def aU:=@List.mem_append_left
def aV:=@Nat.zero_le
def aW:=@List.getElem?_append_left
def aX:=@List.mem_iff_getElem?
def aY:=@List.mem_filter
def aZ:=@List.find?_cons
def bb:=@Nat.lt_trans
def bf:=@PySem.wpAny_mono
def bg:=@List.pairwise_map
def bh:=@Option.some.inj
def bj:=@Nat.le_trans
def bo:=@PySem.W.mg_none_of
def bq:=@List.getElem?_set_self
def bu:=@PySem.Around.under_plainId
def bw:=@List.cons_lt_cons_iff
def bx:=@Array.length_toList
def bz:=@List.length_cons
def b7:=@List.any_eq_true
def b8:=@PySem.PassesOwn.never
def b9:=@List.mem_range
def bA:=@List.lt_irrefl
def bB:=@List.pairwise_cons
def bC:=@congrArg
def bD:=@Nat.le_of_lt
def bE:=@List.nodup_cons
def bF:=@List.length_take
def bG:=@List.all_eq_true
def bH:=@Nat.lt_irrefl
def bI:=@Int.eq_ofNat_of_zero_le
def bJ:=@List.getD_eq_getElem?_getD
def bK:=@PySem.sizeLine_eq
def bL:=@List.not_lt
def bM:=@PySem.W.kia_one
def bN:=@List.drop_eq_getElem_cons
def bO:=@PySem.codeAny_builtin
def bP:=@List.cons.injEq
def bQ:=@PySem.wpAny_holding
def bR:=@beq_self_eq_true
def bS:=@PySem.mem_of_lookup
def bT:=@PySem.W.kia_tup
def bU:=@PySem.F.called_set
def bV:=@Nat.lt_succ_self
def bW:=@Ne.symm
def bX:=@PySem.wpAny_newObj_type
def bY:=@List.nodup_append
def bZ:=@PySem.Heap.size_push
def cf:=@PySem.plainId_quiet
def cg:=@Nat.not_lt_zero
def cj:=@List.getElem_mem
def cn:=@List.take_length
def cq:=@List.pairwise_mergeSort
def cu:=@List.map_map
def cv:=@PySem.wpAny_truthy_bool
def cw:=@Option.map_eq_some_iff
def cx:=@Bool.and_eq_true
def cy:=@PySem.wpAny_Call_Name_kw
def cz:=@List.length_replicate
def c4:=@Nat.lt_of_le_of_lt
def c7:=@PySem.wpAny_newFunctionEnv
def c8:=@PySem.wpAny_passesOwn
def c9:=@List.append_nil
def cA:=@Option.isSome_iff_exists
def cB:=@Int.toNat_natCast
def cC:=@PyProof.Rows.slot_tuple_getitem
def cD:=@List.length_set
def cF:=@of_decide_eq_true
def cG:=@PySem.F.slot_list_getattribute
def cH:=@PySem.Paired.length
def cJ:=@decide_eq_false_iff_not
def cK:=@or_false
def cM:=@List.map_congr_left
def cN:=@List.mergeSort_perm
def cO:=@List.length_drop
def cP:=@PySem.F.plain_min_loop
def cQ:=@PyProof.Rows.subscriptTail_builtinR
def cR:=@PySem.Heap.get?_update_other
def cS:=@PySem.richCompare_meets_room
def cT:=@List.mem_filterMap
def cU:=@PySem.tupleKind_room_in1
def cV:=@Int.emod_lt_of_pos
def cW:=@Bool.eq_iff_iff
def cX:=@List.length_filter_lt_length_iff_exists
def cY:=@List.any_cons
def cZ:=@Nat.lt_succ_of_lt
def dg:=@PySem.Calls.Name_function_global
def dh:=@PySem.wpAny_loadName_local
def di:=@Array.toArray_toList
def dj:=@List.pairwise_append
def dq:=@List.pairwise_iff_getElem
def dr:=@beq_eq_false_iff_ne
def du:=@List.filterMap_cons
def dw:=@PySem.wpAny_comprehension_free
def dz:=@Option.map_some
def d0:=@PySem.wpAny_standAt
def d3:=@List.getElem?_replicate
def d4:=@if_true
def d6:=@List.zip_cons_cons
def d7:=@Int.emod_nonneg
def d8:=@List.le_trans
def d9:=@PyProof.Rows.F.plain_set_update_loop
def dA:=@PySem.Calls.callWith_builtin
def dB:=@Option.some.injEq
def dC:=@PySem.wpAny_pyIter_list
def dD:=@PySem.W.kitx_list
def dE:=@PySem.W.kitx_dict
def dF:=@Option.isSome_map
def dG:=@List.reverse_cons
def dH:=@List.length_range
def dI:=@PySem.wpAny_tryCatch
def dJ:=@List.map_nil
def dM:=@PySem.F.slot_dict_get
def dN:=@List.length_singleton
def dO:=@Bool.not_eq_eq_eq_not
def dP:=@PyProof.Rows.take_snoc
def dQ:=@List.eq_nil_of_length_eq_zero
def dR:=@List.le_antisymm
def dS:=@Option.bind_some
def dU:=@PyProof.Rows.callWith_builtin_kwB
def dW:=@Bool.and_eq_true_iff
def dX:=@PySem.wpAny_execs_nil
def dY:=@PyProof.Rows.callWith_type1
def dZ:=@List.length_nil
def eA:=@List.length_zip
def eB:=@PySem.Heap.SameBut.update
def eE:=@List.toList_toArray
def eG:=@Prod.mk.inj
def eI:=@Array.getElem?_eq_none_iff
def eJ:=@Array.getElem?_eq_some_iff
def eK:=@PySem.Calls.spliced_cons
def eL:=@PySem.codeAny_mono
def eM:=@List.getElem?_take
def eN:=@Bool.false_eq_true
def eO:=@PySem.F.slot_dict_getitem
def eP:=@PySem.wpAny_assign_Name
def eQ:=@PyProof.Rows.Subscript_
def eR:=@PySem.F.args_tuple_add_2
def eS:=@PySem.slot_list_getitem
def eT:=@List.getElem?_inj
def eU:=@List.map_inj_left
def eV:=@Sum.inr.inj
def eW:=@PyProof.Rows.vals1
def eX:=@List.all_cons
def eY:=@List.lt_trans
def eZ:=@PySem.wpAny_newList
def ff:=@PySem.wpAny_call_entry
def fg:=@List.drop_length
def fh:=@List.cons_append
def fj:=@Nat.ne_of_gt
def fm:=@List.of_mem_zip
def fo:=@List.any_map
def ft:=@List.nil_append
def fw:=@PySem.wpAny_Name
def fz:=@if_false
def f6:=@List.drop_zero
def f7:=@List.nodup_nil
def f9:=@List.take_zero
def fA:=@Sum.inl.inj
def fB:=@Int.le_refl
def fC:=@Nat.le_succ
def fD:=@Bool.not_true
def fE:=@Prod.mk.injEq
def fF:=@and_true
def fG:=@dif_pos
abbrev fS:List PySem.Str:=["_law_rides","_law_spans","_law_start","_law_goal","_law_since","_law_kept","_law_shared","_law_best","_law_found","_law_row","_law_ride","_law_some","_law_lost","_law_fresh","_law_many","_law_numbers"]
abbrev fT:List PySem.Str:=["_law_rides","_law_spans","_law_start","_law_goal","_law_since","_law_kept","_law_shared"]
abbrev fU:List PySem.Str:=["_law_rides","_law_spans","_law_start","_law_since","_law_found","_law_ride","_law_ready"]
abbrev fV:List PySem.Str:=["_law_rides","_law_spans","_law_start","_law_goal","_law_since","_law_paper"]
abbrev fW:List PySem.Str:=["ride","after","spans"]
abbrev fX:List PySem.Str:=["rides","spans","start","goal","since","kept","shared"]
abbrev fY:List PySem.Str:=["_law_script","_law_d","_law_e","_law_kept","_law_shared","_law_due","_law_paper","_law_names_here","_law_spans","_law_rides","_law_start","_law_goal","_law_since"]
abbrev fZ:List PySem.Str:=["rides","spans","goal","kept","shared","found","ride","behind"]
abbrev f':List PySem.Str:=["_law_rides","_law_spans","_law_start","_law_since"]
abbrev g4:List PySem.Str:=["_law_ride","_law_after","_law_spans"]
abbrev g7:List PySem.Str:=["_law_script","_law_at","_law_many"]
abbrev g8:List PySem.Str:=["_law_script","_law_d","_law_names_here","_law_base","_law_spans","_law_rides","_law_many","_law_k","_law_j","_law_gone","_law_e","_law_leaves"]
abbrev g9:List PySem.Str:=["rides","spans","start","goal","since","paper"]
abbrev gA:List PySem.Str:=["rides","spans","start","goal","since","kept","shared","worths"]
abbrev gB:List PySem.Str:=["rides","spans","goal","kept","shared"]
abbrev gC:List PySem.Str:=["rides","spans","start","since"]
abbrev gE:List PySem.Str:=["_law_found","_law_due"]
abbrev gF:List PySem.Str:=["moments","place","moment"]
abbrev gG:List PySem.Str:=["number","worth","kept","shared"]
abbrev gH:List PySem.Str:=["rides","spans","start","goal","since"]
abbrev gI:List PySem.Str:=["_law_d","_law_many","_law_letters","_law_names_here","_law_k","_law_own","_law_rest"]
abbrev gJ:List PySem.Str:=["_law_script","_law_at","_law_many","_law_cell","_law_seed","_law_row","_law_mark"]
abbrev gK:List PySem.Str:=["number","worth","kept","shared","less_shared","unkept","comes","many","numbers"]
abbrev gL:List PySem.Str:=["_law_d","_law_many"]
abbrev gM:List PySem.Str:=["place","moment"]
local macro_rules|`(tactic|trivial)=>`(tactic|first|exact Or.inl rfl|exact Or.inr rfl)
local macro_rules|`(tactic|contradiction)=>`(tactic|(intro x hx;(repeat (first|(rcases aj.mp hx with h|hx;· (subst h;first|exact⟨rfl,rfl,rfl⟩|rfl))|exact absurd hx (ax)));done))
noncomputable section
namespace L2
open PySem PySem.Spec PyProof.Rows
variable{H H':Hp}{u:Value}{P:Program}{w:World}{base h h':Heap}{g:TG}{C L dx it:Addr}{g':Array GenState}{j t':Nat}{d':Drawn}{ch fp:fL}{N ps:fP}{M:Model}{A:Around}{E Q:fJ}{v:V}{X:Cx}{c e l tg:Expr}{s:Shared}{pos pos':Pos}{pins:fI}{op:CmpOp}{K:fH}{tc:TT}{es:fQ}{te tl:TE}{body:List Stmt}{tb:TS}{vs:List V}{f:Value->Value->Sem Value}{us:fM}{mA mg:fK}{CX:CXT}{fd:FuncData}{sp:Sp}{qual:Str}{scope:Scope}{kvs:List (List Key×V)}{trs:List (TE×TE)}
abbrev Key:=Sum Int Str
def QF:Key->Value->Bool
 |.inl k,v=>Value.isInt k v
 |.inr x,v=>Value.isStrOf x v
def keyH(w:World):Key->Int
 |.inl k=>hashInt k
 |.inr x=>hashStr w x
theorem zq:∀{k:Key}{v:Value},QF k v=true->(∃i t,k=Sum.inl i/\v=Value.int i t)\/(∃x t,k=Sum.inr x/\v=Value.str x t)
 |.inl i,v,h=>by
  obtain⟨t,e⟩:=Value.isInt_shape (k:=i) (v:=v) h;exact .inl ⟨i,t,rfl,e⟩
 |.inr x,v,h=>by
  obtain⟨t,e⟩:=Value.isStrOf_shape (x:=x) (v:=v) h;exact .inr ⟨x,t,rfl,e⟩
theorem Vw(i:Int)(t:Tok):QF (.inl i) (.int i t)=true:=by simp[QF,Value.isInt]
theorem Vv(x:Str)(t:Tok):QF (.inr x) (.str x t)=true:=by simp[QF,Value.isStrOf]
theorem qbg(a b:Int):decide ((Sum.inl a:Key)=Sum.inl b)=(a == b):=by
 by_cases e:a=b
 ·subst e;simp
 ·have h:¬ (Sum.inl a:Key)=Sum.inl b:=fun q=>e (fA q)
  rw[aP h];exact(dr.mpr e).symm
theorem W4(a b:Str):decide ((Sum.inr a:Key)=Sum.inr b)=decide (a=b):=by
 by_cases e:a=b
 ·subst e;simp
 ·have h:¬ (Sum.inr a:Key)=Sum.inr b:=fun q=>e (eV q)
  rw[aP h,aP e]
theorem qbf(a:Int)(b:Str):decide ((Sum.inl a:Key)=Sum.inr b)=false:=aP (fun q=>nomatch q)
theorem qbe(a:Str)(b:Int):decide ((Sum.inr a:Key)=Sum.inl b)=false:=aP (fun q=>nomatch q)
def zf(prog:Program)(w:World):PySem.KeyKind prog w Key where
 is:=QF
 hash:=keyH w
 inj:=fun v a b ha hb=>by
  rcases zq ha with⟨i,t,rfl,rfl⟩|⟨x,t,rfl,rfl⟩
  ·rcases zq hb with⟨j,u,rfl,e⟩|⟨y,u,rfl,e⟩
   ·injection e with e1 _;rw[e1]
   ·exact nomatch e
  ·rcases zq hb with⟨j,u,rfl,e⟩|⟨y,u,rfl,e⟩
   ·exact nomatch e
   ·injection e with e1 _;rw[e1]
 byValue:=fun k v h=>by
  rcases zq h with⟨i,t,rfl,rfl⟩|⟨x,t,rfl,rfl⟩ <;> rfl
 pyHash:=fun hv h=>by
  rcases zq hv with⟨i,t,rfl,rfl⟩|⟨x,t,rfl,rfl⟩
  ·exact wpAny_pyHash_int h
  ·exact wpAny_pyHash_str h
 eqBool:=fun hu hv h=>by
  rcases zq hu with⟨i,t,rfl,rfl⟩|⟨x,t,rfl,rfl⟩
  ·rcases zq hv with⟨j,u,rfl,rfl⟩|⟨y,u,rfl,rfl⟩
   ·rw[qbg]at h;exact wpAny_eqBool_int h
   ·rw[qbf]at h;exact SeqAt.EqAt.int_str i t y u _ _ _ _ h
  ·rcases zq hv with⟨j,u,rfl,rfl⟩|⟨y,u,rfl,rfl⟩
   ·rw[qbe]at h;exact SeqAt.EqAt.str_int x t j u _ _ _ _ h
   ·rw[W4]at h;exact wpAny_eqBool_str h
 «strs»:=fun k x t v h=>by
  rcases zq h with⟨i,u,rfl,e⟩|⟨y,u,rfl,e⟩
  ·exact nomatch e
  ·injection e with e1 _
   subst e1;cases v <;> rfl
theorem Zw(prog:Program)(w:World)(i:Int)(t:Tok):(zf prog w).is (.inl i) (.int i t)=true:=Vw i t
theorem Zv(prog:Program)(w:World)(x:Str)(t:Tok):(zf prog w).is (.inr x) (.str x t)=true:=Vv x t
inductive V where
 |non|bl (b:Bool)|int (i:Int)|str (x:Str)|byt (b:Array UInt8)|flt (b:UInt64)|ref (a:Addr)|ty (n:String)
 deriving DecidableEq
def RelV:V->Value->Prop
 |.non,u=>u=Value.none
 |.bl b,u=>u=Value.bool b
 |.int i,u=>∃t,u=Value.int i t
 |.str x,u=>∃t,u=Value.str x t
 |.byt b,u=>∃t,u=Value.bytes b t
 |.flt b,u=>∃t,u=Value.float b t
 |.ref a,u=>u=Value.ref a
 |.ty n,u=>u=Value.type n
abbrev Vals:List V->fM->Prop:=Paired RelV
theorem Vals.length{xs:List V}{us:fM}(r:Vals xs us):xs.length=us.length:=cH r
theorem Vals.get:∀{xs:List V}{us:fM}{i:Nat}{x:V},Vals xs us->xs[i]?=some x->∃u,us[i]?=some u/\RelV x u
 |_,_,_,_,.nil,e=>by simp at e
 |_,_,0,_,.cons r _,e=>by simp at e;subst e;exact⟨_,rfl,r⟩
 |_,_,i+1,x,.cons _ t,e=>by
  obtain⟨u,h1,h2⟩:=Vals.get (i:=i) (x:=x) t (by simpa using e);exact⟨u,by simpa using h1,h2⟩
theorem Vals.append:∀{xs ys:List V}{us ws:fM},Vals xs us->Vals ys ws->Vals (xs++ys) (us++ws)
 |_,_,_,_,.nil,s=>s
 |_,_,_,_,.cons r t,s=>.cons r (Vals.append t s)
theorem Vals.take:∀{xs:List V}{us:fM}(n:Nat),Vals xs us->Vals (xs.take n) (us.take n)
 |_,_,0,_=>.nil
 |_,_,_+1,.nil=>.nil
 |_,_,n+1,.cons r t=>.cons r (Vals.take n t)
theorem Vals.drop:∀{xs:List V}{us:fM}(n:Nat),Vals xs us->Vals (xs.drop n) (us.drop n)
 |_,_,0,r=>r
 |_,_,_+1,.nil=>.nil
 |_,_,n+1,.cons _ t=>Vals.drop n t
def RelO:Option V->Option Value->Prop
 |some v,some u=>RelV v u
 |none,none=>True
 |_,_=>False
def KV{κ:Type}:List (κ×V)->List (κ×Value)->Prop:=Paired fun(p:κ×V)(q:κ×Value)=>p.1=q.1/\RelV p.2 q.2
def kV:Key->V
 |.inl i=>.int i
 |.inr x=>.str x
inductive HO where
 |lst (xs:List V)
 |tup (xs:List V)
 |dK (kvs:List (Key×V))|dT (kvs:List (List Key×V))
 |set (S:Int->Bool) (n:Nat)
 |ins (C dx:Addr) (fs:List (Str×V))
 |own (x:Addr)
 |xd (fs:List (Str×V))
 |met (f x:Addr)
 |rng (lo hi:Int)
 |frz (o:Obj) (u:HO)
 |tbl (ps:fO)
 |ext (φ:Heap->Prop)
abbrev Hp:=Addr->Option HO
def upd(H:Hp)(a:Addr)(o:HO):Hp:=fun b=>if b=a then some o else H b
theorem ql{a:Addr}{o:HO}:upd H a o a=some o:=by unfold upd;rw[aF rfl]
theorem qk{a b:Addr}{o:HO}(h:b≠a):upd H a o b=H b:=by unfold upd;rw[aG h]
theorem Ym{a:Addr}{o u:HO}:upd (upd H a o) a u=upd H a u:=by
 funext b;unfold upd;split <;> rfl
theorem Vf{a b:Addr}{o u:HO}(h:H a=some o)(h':H b=some u)(d:o≠u):a≠b:=by
 intro e;subst e;rw[h]at h';exact d (bh h')
theorem qQ{a b:Addr}{o:HO}(h:H a=some o)(h':H b=none):a≠b:=by
 intro e;subst e;rw[h]at h';cases h'
section
variable(P:Program)(w:World)
def ObjOk(H:Hp)(h:Heap)(a:Addr):HO->Prop
 |.lst xs=>xs.length<=sizeLine/\∃(its:fM)(n:Nat),Vals xs its/\h.get? a=some { cls:=.type "list",data:=.seq its.toArray n }
 |.tup xs=>xs.length<=sizeLine/\∃its:fM,Vals xs its/\IsTup h a its.toArray
 |.dK kvs=>kvs.length<=sizeLine/\(a == sysModules)=false/\∃vs,KV kvs vs/\h.DictOf (zf P w) a vs
 |.dT kvs=>kvs.length<=sizeLine/\(a == sysModules)=false/\∃xs:List (List Key×Addr×Value),
   Paired (fun(p:List Key×V)(q:List Key×Addr×Value)=>p.1=q.1/\H q.2.1=some (.tup (p.1.map kV))/\RelV p.2 q.2.2) kvs xs/\
   ∃o es ep,h.get? a=some o/\o.ExactDict/\o.data=.dict es ep/\es.toList=xs.map (entryOfKey (tupleKind (zf P w)))/\(xs.map (·.1)).Nodup
 |.set S n=>h.SetOf (intKind P w) a S n
 |.ins C dx fs=>H dx=some (.own a)/\fs.length<=1000/\dx≠a/\h.get? a=some (PySem.W.instObj C dx)/\
   ∃mA,h.Ns1 dx mA/\(∀f,RelO (fs.lookup f) (mA f))/\PySem.Within mA (fs.map (·.1))
 |.own _=>∃o,h.get? a=some o
 |.xd fs=>∃mA,h.Ns1 a mA/\∀f,RelO (fs.lookup f) (mA f)
 |.rng lo hi=>∃t u v,h.get? a=some { cls:=.type "range",data:=.fields #[.int lo t,.int hi u,.int 1 v] }
 |.frz o u=>h.get? a=some o/\ObjOk H h a u
 |.tbl ps=>h.get? a=some { cls:=.none,data:=.fields ps }
 |.met f x=>h.get? a=some (PySem.W.methodObj (.ref f) (.ref x))
 |.ext φ=>φ h/\(∃o,h.get? a=some o)/\∀h1 h2:Heap,φ h1->(∀o,h1.get? a=some o->h2.get? a=some o)->φ h2
def HOk(H:Hp)(h:Heap):Prop:=∀a o,H a=some o->ObjOk P w H h a o
end
section
variable{P:Program}{w:World}{H H':Hp}{h h':Heap}{a:Addr}{o:HO}
theorem ObjOk.lt(x:ObjOk P w H h a o):a<h.objs.size:=by
 cases o with
 |lst xs=>obtain⟨_,_,_,_,e⟩:=x;exact ao e
 |tup xs=>obtain⟨_,_,_,p⟩:=x;exact p.lt
 |dK kvs=>obtain⟨_,_,_,_,o,_,_,e,_⟩:=x;exact ao e
 |dT kvs=>obtain⟨_,_,_,_,o,_,_,e,_⟩:=x;exact ao e
 |set S n=>obtain⟨o,_,_,_,e,_⟩:=x;exact ao e
 |ins C dx fs=>obtain⟨_,_,_,e,_⟩:=x;exact ao e
 |own y=>obtain⟨_,e⟩:=x;exact ao e
 |xd fs=>obtain⟨_,⟨_,_,_,e,_⟩,_⟩:=x;exact ao e
 |rng lo hi=>obtain⟨_,_,_,e⟩:=x;exact ao e
 |frz ob u=>obtain⟨e,_⟩:=x;exact ao e
 |tbl ps=>exact ao (show h.get? a=some _ from x)
 |met f y=>exact ao (show h.get? a=some _ from x)
 |ext φ=>obtain⟨_,⟨_,e⟩,_⟩:=x;exact ao e
theorem Paired.mapP{α β:Type}{F G:α->β->Prop}:∀{l₁:List α}{l₂:List β},Paired F l₁ l₂->(∀a b,F a b->G a b)->Paired G l₁ l₂
 |_,_,.nil,_=>.nil
 |_,_,.cons r t,f=>.cons (f _ _ r) (Paired.mapP t f)
theorem ObjOk.stay(x:ObjOk P w H h a o)(k:∀b u,(b=a\/H b=some (.own a))->h.get? b=some u->h'.get? b=some u)
  (ho:∀b,H b=some (.own a)->H' b=some (.own a))(ht:∀b xs,H b=some (.tup xs)->H' b=some (.tup xs)):ObjOk P w H' h' a o:=by
 induction o with
 |lst xs=>obtain⟨z,its,n,r,e⟩:=x;exact⟨z,its,n,r,k _ _ (.inl rfl) e⟩
 |tup xs=>obtain⟨z,its,r,ob,e,c⟩:=x;exact⟨z,its,r,ob,k _ _ (.inl rfl) e,c⟩
 |dK kvs=>obtain⟨z,y,vs,r,ob,es,ep,e,c⟩:=x;exact⟨z,y,vs,r,ob,es,ep,k _ _ (.inl rfl) e,c⟩
 |dT kvs=>
  obtain⟨z,y,xs,r,ob,es,ep,e,c⟩:=x;exact⟨z,y,xs,Paired.mapP r fun p q z=>⟨z.1,ht _ _ z.2.1,z.2.2⟩,ob,es,ep,k _ _ (.inl rfl) e,c⟩
 |set S n=>obtain⟨ob,es,ep,t,e,c⟩:=x;exact⟨ob,es,ep,t,k _ _ (.inl rfl) e,c⟩
 |ins C dx fs=>
  obtain⟨d,z,ne,e,mA,⟨od,es,ep,e2,c⟩,r⟩:=x;exact⟨ho _ d,z,ne,k _ _ (.inl rfl) e,mA,⟨od,es,ep,k _ _ (.inr d) e2,c⟩,r⟩
 |own y=>obtain⟨ob,e⟩:=x;exact⟨ob,k _ _ (.inl rfl) e⟩
 |xd fs=>obtain⟨mA,⟨od,es,ep,e,c⟩,r⟩:=x;exact⟨mA,⟨od,es,ep,k _ _ (.inl rfl) e,c⟩,r⟩
 |rng lo hi=>obtain⟨t,u,v,e⟩:=x;exact⟨t,u,v,k _ _ (.inl rfl) e⟩
 |frz ob u ih=>obtain⟨e,q⟩:=x;exact⟨k _ _ (.inl rfl) e,ih q⟩
 |tbl ps=>
  have e:h.get? a=some { cls:=.none,data:=.fields ps }:=x;show h'.get? a=some { cls:=.none,data:=.fields ps };exact k a _ (.inl rfl) e
 |met f y=>
  have e:h.get? a=some (PySem.W.methodObj (.ref f) (.ref y)):=x;show h'.get? a=some (PySem.W.methodObj (.ref f) (.ref y));exact k a _ (.inl rfl) e
 |ext φ=>obtain⟨p,⟨o,e⟩,st⟩:=x;exact⟨st _ _ p fun o q=>k _ _ (.inl rfl) q,⟨o,k _ _ (.inl rfl) e⟩,st⟩
theorem HOk.lt(x:HOk P w H h)(e:H a=some o):a<h.objs.size:=(x a o e).lt
theorem HOk.fresh(x:HOk P w H h)(e:h.objs.size<=a):H a=none:=by
 cases q:H a with
 |none=>rfl
 |some u=>exact absurd (aI (x.lt q) e) (bH _)
theorem HOk.kept(x:HOk P w H h)(k:∀b u,h.get? b=some u->h'.get? b=some u):HOk P w H h':=fun a o e=>
 (x a o e).stay (fun b u _ q=>k b u q) (fun _ q=>q) fun _ _ q=>q
theorem HOk.laid(x:HOk P w H h)(k:∀b u,h.get? b=some u->h'.get? b=some u)(hp:h.objs.size<=a)(new:ObjOk P w (upd H a o) h' a o):HOk P w (upd H a o) h':=fun b u e=>by
 have hn:=x.fresh hp
 by_cases hb:b=a
 ·subst hb;rw[ql]at e;cases e;exact new
 ·rw[qk hb]at e
  exact(x b u e).stay (fun c v _ q=>k c v q) (fun c q=>by rw[qk (qQ q hn)];exact q) fun c xs q=>by rw[qk (qQ q hn)];exact q
end
def Rd(H:Hp)(a:Addr)(u:HO):Prop:=H a=some u\/∃o,H a=some (.frz o u)
theorem Rd.ok{a:Addr}{u:HO}(r:Rd H a u)(x:HOk P w H h):ObjOk P w H h a u:=by
 rcases r with r|⟨o,r⟩
 ·exact x a u r
 ·obtain⟨_,q⟩:=x a _ r
  exact q
def Mut:Option HO->Prop
 |some (.lst _)=>True
 |some (.dK _)=>True
 |some (.dT _)=>True
 |some (.set _ _)=>True
 |some (.ins _ _ _)=>True
 |some (.ext _)=>True
 |_=>False
section
variable{P:Program}{w:World}{H:Hp}{h h':Heap}{x e:Addr}{o':HO}
theorem HOk.write(ok:HOk P w H h)(mu:Mut (H x))(he:e=x\/H e=some (.own x))(k:∀b u,b≠e->h.get? b=some u->h'.get? b=some u)(heo:∃u,h'.get? e=some u)
  (new:ObjOk P w (upd H x o') h' x o'):HOk P w (upd H x o') h':=fun b u q=>by
 have nown:∀c y,H c=some (.own y)->c≠x:=fun c y r z=>by subst z;rw[r]at mu;exact mu
 have ntup:∀c xs,H c=some (.tup xs)->c≠x:=fun c xs r z=>by subst z;rw[r]at mu;exact mu
 by_cases hb:b=x
 ·subst hb;rw[ql]at q;cases q;exact new
 ·rw[qk hb]at q
  by_cases hbe:b=e
  ·have q':H b=some (.own x):=by
    rcases he with z|z
    ·exact absurd (hbe.trans z) hb
    ·rw[hbe];exact z
   rw[q]at q';cases q';obtain⟨v,hv⟩:=heo;exact⟨v,by rw[hbe];exact hv⟩
  ·refine(ok b u q).stay (fun c v hc r=>k c v ?_ r) (fun c r=>by rw[qk (nown c b r)];exact r) fun c xs r=>by rw[qk (ntup c xs r)];exact r
   rcases hc with rfl|hc
   ·exact hbe
   ·rintro rfl
    rcases he with z|z
    ·exact nown c b hc z
    ·rw[hc]at z;cases z;exact hb rfl
end
structure Un(fs ex:fL)(H H':Hp)(h h':Heap):Prop where
 keep:∀b o,h.get? b=some o->H b=none->b∉fs->b∉ex->h'.get? b=some o
 slot:∀b o,h.get? b=some o->H b=none->b∈fs->b∉ex->∃sl,h'.get? b=some { o with slots:=sl }
 free:∀b o,h.get? b=some o->H b=none->b∉ex->H' b=none
 there:∀b o,h.get? b=some o->b∉ex->∃o',h'.get? b=some o'
 tups:∀b xs,H b=some (.tup xs)->H' b=some (.tup xs)
 frzs:∀b o u,H b=some (.frz o u)->H' b=some (.frz o u)
 tbls:∀b ps,H b=some (.tbl ps)->∃more,H' b=some (.tbl (ps++more))
section
variable{fs fs' ex ex':fL}{H H1 H2:Hp}{h h1 h2 h':Heap}{a x e:Addr}{o:HO}
theorem Un.any(u:Un fs ex H H1 h h1){b:Addr}{ob:Obj}(q:h.get? b=some ob)(n:H b=none)(hx:b∉ex):∃sl,h1.get? b=some { ob with slots:=sl }:=by
 by_cases hb:b∈fs
 ·exact u.slot b ob q n hb hx
 ·exact⟨ob.slots,u.keep b ob q n hb hx⟩
theorem Un.kept(k:∀b u,h.get? b=some u->h'.get? b=some u):Un fs ex H H h h':=
 ⟨fun b ob q _ _ _=>k b ob q,fun b ob q _ _ _=>⟨ob.slots,k b ob q⟩,fun _ _ _ n _=>n,fun b ob q _=>⟨ob,k b ob q⟩,fun _ _ q=>q,fun _ _ _ q=>q,fun _ ps q=>⟨#[],by rw[q];simp⟩⟩
theorem Un.refl:Un fs ex H H h h:=Un.kept fun _ _ q=>q
theorem Un.laid(k:∀b u,h.get? b=some u->h'.get? b=some u)(hp:h.objs.size<=a)(hn:H a=none):Un fs ex H (upd H a o) h h' where
 keep:=fun b u q _ _ _=>k b u q
 slot:=fun b u q _ _ _=>⟨u.slots,k b u q⟩
 free:=fun b u q n _=>by rw[qk (aq (aI (ao q) hp))];exact n
 there:=fun b u q _=>⟨u,k b u q⟩
 tups:=fun b xs q=>by rw[qk (qQ q hn)];exact q
 frzs:=fun b u xs q=>by rw[qk (qQ q hn)];exact q
 tbls:=fun b ps q=>⟨#[],by rw[qk (qQ q hn),q];simp⟩
theorem Un.write(mu:Mut (H x))(he:e=x\/H e=some (.own x))(k:∀b u,b≠e->h.get? b=some u->h'.get? b=some u)(heo:∃u,h'.get? e=some u):Un fs ex H (upd H x o) h h':=by
 have hx:∀b,H b=none->b≠x:=fun b n z=>by subst z;rw[n]at mu;exact mu
 have hb:∀b,H b=none->b≠e:=fun b n z=>by
  subst z;rcases he with r|r
  ·exact hx b n r
  ·rw[n]at r;cases r
 have hm:∀b u,H b=some u->¬ Mut (some u)->b≠x:=fun b u q nm z=>by subst z;rw[q]at mu;exact nm mu
 refine⟨fun b u q n _ _=>k b u (hb b n) q,fun b u q n _ _=>⟨u.slots,k b u (hb b n) q⟩,fun b u q n _=>by rw[qk (hx b n)];exact n,fun b u q _=>?_,
  fun b xs q=>by rw[qk (hm b _ q fun z=>z)];exact q,fun b u xs q=>by rw[qk (hm b _ q fun z=>z)];exact q,fun b ps q=>⟨#[],by rw[qk (hm b _ q fun z=>z),q];simp⟩⟩
 by_cases hbe:b=e
 ·subst hbe;exact heo
 ·exact⟨u,k b u hbe q⟩
end
def trk(h:Heap)(H:Hp):fL:=(List.range h.objs.size).filter fun a=>(H a).isSome
def hidT(h:Heap)(H:Hp):Heap:=PySem.W.hideAll h (trk h H)
theorem VG(h:Heap)(H:Hp):(hidT h H).objs.size=h.objs.size:=PySem.W.hideAll_size _ _
theorem Wm{b:Addr}{o:Obj}(e:h.get? b=some o)(n:H b=none):(hidT h H).get? b=some o:=
 PySem.W.hideAll_get _ e fun hm=>by
  have q:(H b).isSome=true:=(aY.mp hm).2;rw[n]at q;simp at q
theorem Y4{b:Addr}{o:Obj}(e:(hidT h H).get? b=some o):h.get? b=some o/\H b=none:=by
 have e':h.get? b=some o:=PySem.W.of_hideAll (trk h H) e;refine⟨e',?_⟩;cases q:H b with
 |none=>rfl
 |some x=>
  have hm:b∈trk h H:=aY.mpr ⟨b9.mpr (ao e'),by simp[q]⟩;have z:(hidT h H).get? b=none:=PySem.W.hideAll_none (trk h H) hm;rw[z]at e;cases e
def v7(g h:Heap)(L:Addr):fI:=(List.range h.objs.size).filterMap fun a=>if a=L\/(g.get? a).isSome=true then none else(h.get? a).map fun o=>(a,o)
theorem jp{g:Heap}{a:Addr}{o:Obj}(h1:a≠L)(h2:g.get? a=none)(h3:h.get? a=some o):(a,o)∈v7 g h L:=
 cT.mpr ⟨a,b9.mpr (ao h3),by simp[h1,h2,h3]⟩
theorem ww{g:Heap}{p:Addr×Obj}(hp:p∈v7 g h L):p.1≠L/\g.get? p.1=none/\h.get? p.1=some p.2:=by
 obtain⟨b,_,e⟩:=cT.mp hp
 split at e
 ·cases e
 ·rename_i hn
  cases q:h.get? b with
  |none=>rw[q]at e;simp at e
  |some u=>
   rw[q]at e;simp only[dz,dB]at e;subst e;refine⟨fun z=>hn (.inl z),?_,q⟩;show g.get? b=none;cases r:g.get? b with
   |none=>rfl
   |some v=>exact(hn (.inr (by simp[r]))).elim
def rest(g h:Heap)(L d:Addr):fI:=(v7 g h L).filter fun p=>decide (p.1≠d)
theorem Jj{g:Heap}:News g L h (v7 g h L):=fun p hp=>let⟨a,b,c⟩:=ww hp;⟨c,a,b⟩
structure Mod(K:fH)(mg:fK)(base:Heap):Prop where
 kin:K.In base
 glob:base.Ns mainGlobals mg
 blt:∃mb,base.Ns builtinsNs mb/\∀x:Str,x≠"__name__"->mb x=bootBuiltins x
 nolimit:base.NoLimit
structure Cx where
 prog:Program
 w:World
 K:fH
 mg:fK
 base:Heap
 A:Around
 N:fP
 s₀:Shared
 H₀:Hp
 env:Env
 outer:List Env
 stack:List Env
 ex:fL
 fn:Str->Bool
 calm:Bool
 pn:fI
 xe:fJ
def frs(l:List Env):fL:=l.filterMap (·.frame)
abbrev Cx.fs(X:Cx):fL:=frs X.outer
def Vis(sc:Scope)(x:Str):Prop:=sc.names.lookup x=some .local\/sc.names.lookup x=some .cell\/sc.names.lookup x=some .free
def Loc(sc:Scope)(x:Str):Prop:=sc.names.lookup x=some .local\/sc.names.lookup x=some .cell
def Look(env:Env)(h:Heap)(m:fK)(x:Str)(u:Value):Prop:=
 (env.kindOf x=some .local/\m x=some u)\/((env.kindOf x=some .cell\/env.kindOf x=some .free)/\∃c,env.cells.lookup x=some c/\h.IsCell c (some u))
structure Cx.Ok(X:Cx):Prop where
 mod:Mod X.K X.mg X.base
 kind:X.env.scope.kind=.function
 glob:X.env.globals=mainGlobals
 blt:X.env.builtins=builtinsNs
 above:X.s₀.heap.objs.size<=X.env.locals
 inj:∀x y c,X.env.cells.lookup x=some c->X.env.cells.lookup y=some c->x=y
 has:∀x,(X.env.kindOf x=some .cell\/X.env.kindOf x=some .free)->∃c,X.env.cells.lookup x=some c
 cab:∀x c,X.fn x=true->X.env.cells.lookup x=some c->X.s₀.heap.objs.size<=c
 hd:X.calm=true->X.A.handled=none
 frames:X.A.frames=some X.stack
 stk:X.stack=X.outer\/(X.stack=X.env::X.outer/\X.env.frame=some X.env.locals)
 exf:∀b∈X.ex,b≠X.env.locals/\∀x c,X.env.cells.lookup x=some c->c≠b
 bs:∀b o,X.base.get? b=some o->X.s₀.heap.get? b=some o/\X.H₀ b=none
 bsz:X.base.objs.size<=X.s₀.heap.objs.size
 noex:∀b o,X.base.get? b=some o->b∉X.ex
 exfs:∀b∈X.ex,b∉X.fs
 funs:X.s₀.heap.FunFrames X.base X.outer
 frf:∀b∈X.fs,X.H₀ b=none
structure Inv(X:Cx)(pins:fI)(σ:List (Option V))(H:Hp)(s:Shared):Prop where
 ok:X.Ok
 os:s.os=X.s₀.os
 bare:AllBare s.gens
 base:Un X.fs X.ex X.H₀ H X.s₀.heap s.heap
 loc:∃m,s.heap.Ns X.env.locals m/\∀(i:Nat)(x:Str)(v:V),X.N[i]?=some x->σ[i]?=some (some v)->Vis X.env.scope x->∃u,RelV v u/\Look X.env s.heap m x u
 cell:∀x c,X.env.cells.lookup x=some c->∃v,s.heap.IsCell c v
 free:H X.env.locals=none
 freeC:∀x c,X.env.cells.lookup x=some c->H c=none
 pin:∀p∈X.pn++pins,s.heap.get? p.1=some p.2/\H p.1=none/\p.1≠X.env.locals/\p.1∉X.fs/\∀v,p.2.data≠.cell v
 hok:HOk X.prog X.w H s.heap
 len:σ.length=X.N.length
section
variable{X:Cx}{pins:fI}{σ:List (Option V)}{H H':Hp}{s:Shared}{h':Heap}
theorem Cx.Ok.nofr(ok:X.Ok){b:Addr}{o:Obj}(e:X.base.get? b=some o):b∉X.fs:=fun hb=>by
 have:=(ok.funs.mem hb).1;rw[e]at this;cases this
theorem Inv.bs(I:Inv X pins σ H s):∀b o,X.base.get? b=some o->s.heap.get? b=some o/\H b=none:=fun b o e=>
 ⟨I.base.keep b o (I.ok.bs b o e).1 (I.ok.bs b o e).2 (I.ok.nofr e) (I.ok.noex b o e),I.base.free b o (I.ok.bs b o e).1 (I.ok.bs b o e).2 (I.ok.noex b o e)⟩
theorem Inv.bk(I:Inv X pins σ H s):∀b o,X.base.get? b=some o->s.heap.get? b=some o:=fun b o e=>(I.bs b o e).1
theorem Inv.mod(I:Inv X pins σ H s):Mod X.K X.mg X.base:=I.ok.mod
theorem Inv.kIn(I:Inv X pins σ H s):X.K.In s.heap:=I.ok.mod.kin.keeps I.bk
theorem Inv.lt(I:Inv X pins σ H s):X.env.locals<s.heap.objs.size:=let⟨_,hn,_⟩:=I.loc;hn.lt
theorem Inv.sz(I:Inv X pins σ H s):X.s₀.heap.objs.size<=s.heap.objs.size:=bj I.ok.above (bD I.lt)
theorem Inv.nofs(I:Inv X pins σ H s){a:Addr}(h:s.heap.objs.size<=a):a∉X.fs:=fun hb=>by
 obtain⟨_,o,ho,_⟩:=I.ok.funs.mem hb;exact absurd (aI (ao ho) (bj I.sz h)) (bH _)
theorem Inv.cne(I:Inv X pins σ H s):∀x c,X.env.cells.lookup x=some c->c≠X.env.locals:=fun x c e z=>by
 obtain⟨v,o,ho,hd⟩:=I.cell x c e;obtain⟨m,⟨o',es,ep,ho',hd',_⟩,_⟩:=I.loc;rw[z,ho']at ho;cases ho;rw[hd']at hd;cases hd
theorem Inv.funs(I:Inv X pins σ H s):s.heap.FunFrames X.base X.outer:=by
 have all:∀(l:List Env),(∀b∈frs l,b∈X.fs)->X.s₀.heap.FunFrames X.base l->s.heap.FunFrames X.base l:=by
  intro l
  induction l with
  |nil=>intro _ _;trivial
  |cons env r ih=>
   intro hs hl;obtain⟨hk,⟨L,o,hf,hn,ho,hd⟩,hr⟩:=hl;have hL:L∈X.fs:=hs L (by unfold frs;rw[du,hf];exact ar);obtain⟨sl,e⟩:=I.base.slot L o ho (I.ok.frf L hL) hL fun z=>I.ok.exfs L z hL
   exact⟨hk,⟨L,_,hf,hn,e,hd⟩,ih (fun b hb=>hs b (by unfold frs;rw[du,hf];exact av _ hb)) hr⟩
 exact all X.outer (fun _ hb=>hb) I.ok.funs
theorem Inv.stack(I:Inv X pins σ H s):s.heap.FunFrames X.base X.stack:=by
 rcases I.ok.stk with e|⟨e,hf⟩
 ·rw[e];exact I.funs
 ·rw[e]
  obtain⟨m,hn,_⟩:=I.loc;refine .cons (by rw[I.ok.kind];decide) hf hn ?_ I.funs;exact Heap.get?_none_of_le (bj I.ok.bsz I.ok.above)
theorem Inv.stkSub(I:Inv X pins σ H s):∀b∈frs X.stack,b∈X.env.locals::X.fs:=fun b hb=>by
 rcases I.ok.stk with e|⟨e,hf⟩
 ·rw[e]at hb;exact av _ hb
 ·rw[e]at hb
  unfold frs at hb;rw[du,hf]at hb;exact hb
theorem Inv.stkFree(I:Inv X pins σ H s):∀b∈frs X.stack,H b=none:=fun b hb=>by
 rcases aj.mp (I.stkSub b hb)with e|hb
 ·rw[e];exact I.free
 ·obtain⟨_,o,ho,_⟩:=I.ok.funs.mem hb
  exact I.base.free b o ho (I.ok.frf b hb) fun z=>I.ok.exfs b z hb
theorem Inv.step(I:Inv X pins σ H s)
  (hch:∀b∈ch,(b∈X.ex\/X.s₀.heap.objs.size<=b)/\b≠X.env.locals/\(∀x c,X.env.cells.lookup x=some c->c≠b)/\∀p∈X.pn++pins,p.1≠b)
  (keep:∀b o,b≠X.env.locals->b∉X.fs->b∉ch->s.heap.get? b=some o->H b=none->h'.get? b=some o)
  (slot:∀b o,b≠X.env.locals->b∈X.fs->b∉ch->s.heap.get? b=some o->H b=none->∃sl,h'.get? b=some { o with slots:=sl })(free:∀b o,b∉ch->s.heap.get? b=some o->H b=none->H' b=none)
  (there:∀b o,b∉ch->s.heap.get? b=some o->∃o',h'.get? b=some o')
  (tups:∀b xs,H b=some (.tup xs)->H' b=some (.tup xs))(frzs:∀b o u,H b=some (.frz o u)->H' b=some (.frz o u))(tbls:∀b ps,H b=some (.tbl ps)->∃more,H' b=some (.tbl (ps++more)))
  (ns:∀m,s.heap.Ns X.env.locals m->h'.Ns X.env.locals m)(hok:HOk X.prog X.w H' h')(hg:AllBare g') :
  Inv X pins σ H' { s with heap:=h',gens:=g',drawn:=d',toks:=t' }:=by
 have neL:∀b o,X.s₀.heap.get? b=some o->b≠X.env.locals:=fun b o e=>aq (aI (ao e) I.ok.above)
 have neC:∀b o,X.s₀.heap.get? b=some o->b∉X.ex->b∉ch:=fun b o e hx hb=>by
  rcases(hch b hb).1 with z|z
  ·exact hx z
  ·exact absurd (aI (ao e) z) (bH _)
 have cellK:∀x c,X.env.cells.lookup x=some c->∀v,s.heap.IsCell c v->h'.IsCell c v:=fun x c e v⟨o,ho,hd⟩=>by
  have nch:c∉ch:=fun z=>(hch c z).2.2.1 x c e rfl
  by_cases hc:c∈X.fs
  ·obtain⟨sl,q⟩:=slot c o (I.cne x c e) hc nch ho (I.freeC x c e)
   exact⟨_,q,hd⟩
  ·exact⟨o,keep c o (I.cne x c e) hc nch ho (I.freeC x c e),hd⟩
 refine⟨I.ok,I.os,hg,⟨fun b o e n hb hx=>?_,fun b o e n hb hx=>?_,fun b o e n hx=>?_,fun b o e hx=>?_,fun b xs e=>tups b xs (I.base.tups b xs e),fun b o xs e=>frzs b o xs (I.base.frzs b o xs e),fun b ps e=>?_⟩,?_,fun x c e=>?_,?_,fun x c e=>?_,fun p hp=>?_,hok,I.len⟩
 ·exact keep b o (neL b o e) hb (neC b o e hx) (I.base.keep b o e n hb hx) (I.base.free b o e n hx)
 ·obtain⟨sl,e1⟩:=I.base.slot b o e n hb hx
  obtain⟨sl',e2⟩:=slot b _ (neL b o e) hb (neC b o e hx) e1 (I.base.free b o e n hx);exact⟨sl',e2⟩
 ·obtain⟨o',e1⟩:=I.base.there b o e hx
  exact free b o' (neC b o e hx) e1 (I.base.free b o e n hx)
 ·obtain⟨o',e1⟩:=I.base.there b o e hx
  exact there b o' (neC b o e hx) e1
 ·obtain⟨m1,e1⟩:=I.base.tbls b ps e
  obtain⟨m2,e2⟩:=tbls b _ e1;exact⟨m1++m2,by rw[e2,Array.append_assoc]⟩
 ·obtain⟨m,hn,hl⟩:=I.loc
  refine⟨m,ns m hn,fun i x v e1 e2 e3=>?_⟩;obtain⟨u,r,l⟩:=hl i x v e1 e2 e3;refine⟨u,r,?_⟩;rcases l with l|⟨k,c,e,z⟩
  ·exact .inl l
  ·exact .inr ⟨k,c,e,cellK x c e _ z⟩
 ·obtain⟨v,z⟩:=I.cell x c e
  exact⟨v,cellK x c e v z⟩
 ·obtain⟨m,⟨o,_,_,ho,_⟩,_⟩:=I.loc
  exact free _ o (fun z=>(hch _ z).2.1 rfl) ho I.free
 ·obtain⟨v,o,ho,hd⟩:=I.cell x c e
  exact free c o (fun z=>(hch c z).2.2.1 x c e rfl) ho (I.freeC x c e)
 ·obtain⟨e,n,ne,nf,d⟩:=I.pin p hp
  have nch:p.1∉ch:=fun z=>(hch p.1 z).2.2.2 p hp rfl
  exact⟨keep p.1 p.2 ne nf nch e n,free p.1 p.2 nch e n,ne,nf,d⟩
theorem Inv.un(I:Inv X pins σ H s)(u:Un X.fs [] H H' s.heap h')(hok:HOk X.prog X.w H' h'):Inv X pins σ H' { s with heap:=h',toks:=t' }:=by
 obtain⟨m,⟨o,es,ep,ho,r⟩,_⟩:=id I.loc;obtain⟨sl,hL⟩:=u.any ho I.free (by simp);exact I.step (g':=s.gens) (d':=s.drawn) (ch:=[]) (fun _ z=>nomatch z) (fun b o _ hb _ e n=>u.keep b o e n hb (by simp)) (fun b o _ hb _ e n=>u.slot b o e n hb (by simp)) (fun b o _ e n=>u.free b o e n (by simp)) (fun b o _ e=>u.there b o e (by simp)) u.tups u.frzs u.tbls (fun m' hm=>by
  obtain⟨o',es',ep',ho',r'⟩:=hm;rw[ho]at ho';cases ho';exact⟨_,es',ep',hL,r'⟩) hok I.bare
theorem Inv.call(I:Inv X pins σ H s)(u:Un (frs X.stack) ch H H' s.heap h')(hok:HOk X.prog X.w H' h')(hg:AllBare g')
  (hch:∀b∈ch,(b∈X.ex\/X.s₀.heap.objs.size<=b)/\b≠X.env.locals/\(∀x c,X.env.cells.lookup x=some c->c≠b)/\∀p∈X.pn++pins,p.1≠b) :
  Inv X pins σ H' { s with heap:=h',gens:=g',drawn:=d',toks:=t' }:=by
 obtain⟨m,⟨o,es,ep,ho,r⟩,_⟩:=id I.loc;obtain⟨sl,hL⟩:=u.any ho I.free fun z=>(hch _ z).2.1 rfl
 exact I.step (ch:=ch) hch (fun b o hL hb hc e n=>u.keep b o e n (fun z=>(aj.mp (I.stkSub b z)).elim hL hb) hc) (fun b o _ _ hc e n=>u.any e n hc) (fun b o hc e n=>u.free b o e n hc) (fun b o hc e=>u.there b o e hc) u.tups u.frzs u.tbls (fun m' hm=>by
  obtain⟨o',es',ep',ho',r'⟩:=hm;rw[ho]at ho';cases ho';exact⟨_,es',ep',hL,r'⟩) hok hg
theorem Inv.turned(I:Inv X pins σ H s)(k:∀b o,b≠it->s.heap.get? b=some o->h'.get? b=some o)(hn:H it=none)(hL:it≠X.env.locals)
  (h1:it∈X.ex\/X.s₀.heap.objs.size<=it)(h2:∀x c,X.env.cells.lookup x=some c->c≠it)(h3:∀p∈X.pn++pins,p.1≠it):Inv X pins σ H { s with heap:=h',toks:=t' }:=by
 have nit:∀b u,H b=some u->b≠it:=fun b u e z=>by rw[z,hn]at e;cases e
 refine I.step (g':=s.gens) (d':=s.drawn) (ch:=[it]) (fun b hb=>?_) (fun b o _ _ hc e _=>k b o (fun z=>hc (by simp[z])) e) (fun b o _ _ hc e _=>⟨o.slots,k b o (fun z=>hc (by simp[z])) e⟩) (fun _ _ _ _ n=>n)
  (fun b o hc e=>⟨o,k b o (fun z=>hc (by simp[z])) e⟩) (fun _ _ e=>e) (fun _ _ _ e=>e) (fun b ps e=>⟨#[],by rw[e];simp⟩) (fun m hm=>?_) (fun b u e=>?_) I.bare
 ·have e:b=it:=by simpa using hb
  subst e;exact⟨h1,hL,h2,h3⟩
 ·obtain⟨o,es,ep,ho,r⟩:=hm
  exact⟨o,es,ep,k _ o (bW hL) ho,r⟩
 ·refine(I.hok b u e).stay (fun c v hc q=>k c v ?_ q) (fun _ q=>q) fun _ _ q=>q
  rcases hc with z|z
  ·rw[z];exact nit b u e
  ·exact nit c _ z
theorem Inv.tok(I:Inv X pins σ H s)(t:Nat):Inv X pins σ H { s with toks:=t }:=I.un (h':=s.heap) (t':=t) Un.refl I.hok
theorem Inv.kept{t':Nat}(I:Inv X pins σ H s)(k:∀b u,s.heap.get? b=some u->h'.get? b=some u):Inv X pins σ H { s with heap:=h',toks:=t' }:=I.un (Un.kept k) (I.hok.kept k)
theorem Inv.laid{a:Addr}{o:HO}{t':Nat}(I:Inv X pins σ H s)(k:∀b u,s.heap.get? b=some u->h'.get? b=some u)(hp:s.heap.objs.size<=a)(new:ObjOk X.prog X.w (upd H a o) h' a o) :
  Inv X pins σ (upd H a o) { s with heap:=h',toks:=t' }:=I.un (Un.laid k hp (I.hok.fresh hp)) (I.hok.laid k hp new)
theorem Inv.write{x e:Addr}{o:HO}{t':Nat}(I:Inv X pins σ H s)(mu:Mut (H x))(he:e=x\/H e=some (.own x))(k:∀b u,b≠e->s.heap.get? b=some u->h'.get? b=some u)(heo:∃u,h'.get? e=some u)
  (new:ObjOk X.prog X.w (upd H x o) h' x o):Inv X pins σ (upd H x o) { s with heap:=h',toks:=t' }:=I.un (Un.write mu he k heo) (I.hok.write mu he k heo new)
theorem Inv.pins_of{pins':fI}(I:Inv X pins σ H s)(h:∀p∈pins',s.heap.get? p.1=some p.2/\H p.1=none/\p.1≠X.env.locals/\p.1∉X.fs/\∀v,p.2.data≠.cell v):Inv X pins' σ H s:=
 ⟨I.ok,I.os,I.bare,I.base,I.loc,I.cell,I.free,I.freeC,fun p hp=>(aQ.mp hp).elim (fun z=>I.pin p (aU _ z)) (h p),I.hok,I.len⟩
theorem Jg(hN:N.Nodup){i:Nat}{x:Str}(a:N[i]?=some x)(b:N[j]?=some x):i=j:=by
 obtain⟨h1,e1⟩:=ai.mp a;obtain⟨h2,e2⟩:=ai.mp b;exact(List.getElem_inj hN).mp (e1.trans e2.symm)
theorem xD{i:Nat}{x:Str}{Q:Unit->Shared->Prop}(I:Inv X pins σ H s)(hN:X.N.Nodup)(hi:X.N[i]?=some x)(hx:Loc X.env.scope x)(r:RelV v u)
  (h:∀s',Inv X pins (σ.set i (some v)) H s'->(∃a,Heap.SameBut a s.heap s'.heap/\(a=X.env.locals\/X.env.cells.lookup x=some a))->Q () s')(hf:X.fn x=true\/X.env.scope.names.lookup x=some .local:=by first|exact .inl rfl|exact .inr rfl|assumption):wpAny M A (storeName X.env x u) Q E s:=by
 obtain⟨m,hn,hl⟩:=id I.loc;have hcls:(X.env.scope.kind == .class || (X.env.scope.kind == .module && X.env.locals != X.env.globals))=false:=by rw[I.ok.kind];rfl
 have hiσ:i<σ.length:=by rw[I.len];exact(ai.mp hi).1
 have cne:=I.cne;have tracked:∀{a:Addr}{h':Heap},(∃o,s.heap.get? a=some o/\H a=none)->Heap.SameBut a s.heap h'->HOk X.prog X.w H h':=fun{a h'} ha hs b ob e=>by
  obtain⟨_,_,hfree⟩:=ha;refine(I.hok b ob e).stay (fun c w' hc q=>(hs.2 c ?_).trans q) (fun _ q=>q) fun _ _ q=>q
  rintro rfl;rcases hc with rfl|hc
  ·rw[hfree]at e;cases e
  ·rw[hfree]at hc;cases hc
 rcases hx with hk|hk
 ·refine wpAny_storeName_local hk hn (fun h' hn' hs=>?_) hcls
  obtain⟨oL,_,_,hoL,_⟩:=id hn;refine h _ ⟨I.ok,I.os,I.bare,⟨fun b o e n hb hx=>?_,fun b o e n hb hx=>?_,I.base.free,fun b o e hx=>?_,I.base.tups,I.base.frzs,I.base.tbls⟩,⟨_,hn',fun j y v' e1 e2 e3=>?_⟩,fun y c e=>?_,I.free,I.freeC,fun p hp=>?_,tracked ⟨oL,hoL,I.free⟩ hs,by simpa using I.len⟩ ⟨_,hs,.inl rfl⟩
  ·exact(hs.2 b (aq (aI (ao e) I.ok.above))).trans (I.base.keep b o e n hb hx)
  ·obtain⟨sl,e1⟩:=I.base.slot b o e n hb hx
   exact⟨sl,(hs.2 b (aq (aI (ao e) I.ok.above))).trans e1⟩
  ·obtain⟨o',e1⟩:=I.base.there b o e hx
   exact⟨o',(hs.2 b (aq (aI (ao e) I.ok.above))).trans e1⟩
  ·by_cases hj:j=i
   ·subst hj
    rw[hi]at e1;cases e1;rw[bq hiσ]at e2;cases e2;exact⟨u,r,.inl ⟨hk,by simp⟩⟩
   ·rw[aM (bW hj)]at e2
    obtain⟨u',r',q⟩:=hl j y v' e1 e2 e3;refine⟨u',r',?_⟩;rcases q with⟨k,e⟩|⟨k,c,e,z⟩
    ·refine .inl ⟨k,?_⟩
     have:y≠x:=fun e=>hj (Jg hN e1 (e▸hi))
     simp[this,e]
    ·exact .inr ⟨k,c,e,z.sameBut hs (cne y c e)⟩
  ·obtain⟨w',z⟩:=I.cell y c e
   exact⟨w',z.sameBut hs (cne y c e)⟩
  ·obtain⟨e,n,ne,nf,d⟩:=I.pin p hp
   exact⟨(hs.2 p.1 ne).trans e,n,ne,nf,d⟩
 ·have hfn:X.fn x=true:=by
   rcases hf with z|z
   ·exact z
   ·rw[z]at hk;cases hk
  obtain⟨c,hc⟩:=I.ok.has x (.inl hk);obtain⟨w',z⟩:=I.cell x c hc;refine wpAny_storeName_cell I.ok.kind hk hc z (fun h' hc' hs=>?_);obtain⟨oc,hoc,hocd⟩:=id z;refine h { s with heap:=h' } ⟨I.ok,I.os,I.bare,⟨fun b o e n hb hx=>?_,fun b o e n hb hx=>?_,I.base.free,fun b o e hx=>?_,I.base.tups,I.base.frzs,I.base.tbls⟩,⟨m,hn.sameBut hs (bW (cne x c hc)),fun j y v' e1 e2 e3=>?_⟩,fun y c' e=>?_,I.free,I.freeC,fun p hp=>?_,tracked ⟨oc,hoc,I.freeC x c hc⟩ hs,by simpa using I.len⟩ ⟨c,hs,.inr hc⟩
  ·exact(hs.2 b (aq (aI (ao e) (I.ok.cab x c hfn hc)))).trans (I.base.keep b o e n hb hx)
  ·obtain⟨sl,e1⟩:=I.base.slot b o e n hb hx
   exact⟨sl,(hs.2 b (aq (aI (ao e) (I.ok.cab x c hfn hc)))).trans e1⟩
  ·obtain⟨o',e1⟩:=I.base.there b o e hx
   exact⟨o',(hs.2 b (aq (aI (ao e) (I.ok.cab x c hfn hc)))).trans e1⟩
  ·by_cases hj:j=i
   ·subst hj
    rw[hi]at e1;cases e1;rw[bq hiσ]at e2;cases e2;exact⟨u,r,.inr ⟨.inl hk,c,hc,hc'⟩⟩
   ·rw[aM (bW hj)]at e2
    obtain⟨u',r',q⟩:=hl j y v' e1 e2 e3;refine⟨u',r',?_⟩;rcases q with q|⟨k,c',e,z'⟩
    ·exact .inl q
    ·refine .inr ⟨k,c',e,z'.sameBut hs ?_⟩
     rintro rfl;exact hj (Jg hN e1 (I.ok.inj _ _ _ e hc▸hi))
  ·by_cases hcc:c'=c
   ·subst hcc;exact⟨_,hc'⟩
   ·obtain⟨w2,z2⟩:=I.cell y c' e
    exact⟨w2,z2.sameBut hs hcc⟩
  ·obtain⟨e,n,ne,nf,d⟩:=I.pin p hp
   refine⟨(hs.2 p.1 ?_).trans e,n,ne,nf,d⟩;intro q;rw[q,hoc]at e;have q':oc=p.2:=bh e;exact d w' (by rw[<- q'];exact hocd)
theorem wU{i:Nat}{x:Str}{Q:Unit->Shared->Prop}(I:Inv X pins σ H s)(hN:X.N.Nodup)(hi:X.N[i]?=some x)(hx:Loc X.env.scope x)(r:RelV v u)
  (h:∀s',Inv X pins (σ.set i (some v)) H s'->Q () s')(hf:X.fn x=true\/X.env.scope.names.lookup x=some .local:=by first|exact .inl rfl|exact .inr rfl|assumption):wpAny M A (storeName X.env x u) Q E s:=
 xD I hN hi hx r (fun s' I' _=>h s' I') hf
theorem Inv.call'{s':Shared}(I:Inv X pins σ H s)(ho:s'.os=s.os)(u:Un (frs X.stack) ch H H' s.heap s'.heap)(hok:HOk X.prog X.w H' s'.heap)(hg:AllBare s'.gens)
  (hch:∀b∈ch,(b∈X.ex\/X.s₀.heap.objs.size<=b)/\b≠X.env.locals/\(∀x c,X.env.cells.lookup x=some c->c≠b)/\∀p∈X.pn++pins,p.1≠b):Inv X pins σ H' s':=by
 obtain⟨h',g',d',t',o'⟩:=s';have e:o'=s.os:=ho;subst e;exact I.call (g':=g') (t':=t') (d':=d') u hok hg hch
end
abbrev XK:=Value->fN->Hp->Prop
abbrev St:=List (Option V)
abbrev VK:=V->Hp->Prop
abbrev TE:=St->Hp->VK->Prop
abbrev TT:=St->Hp->(Bool->Hp->Prop)->Prop
abbrev TA:=St->Hp->(List V->Hp->Prop)->Prop
structure Ends where
 nx:St->Hp->Prop
 rt:VK
 bk:St->Hp->Prop:=fun _ _=>False
 ct:St->Hp->Prop:=fun _ _=>False
abbrev TS:=Ends->St->Hp->Prop
def EP(X:Cx)(pins:fI)(σ:St)(Q:VK)(u:Value)(s':Shared):Prop:=∃v H',Inv X pins σ H' s'/\RelV v u/\Q v H'
def TP(X:Cx)(pins:fI)(σ:St)(Q:Bool->Hp->Prop)(b:Bool)(s':Shared):Prop:=∃H',Inv X pins σ H' s'/\Q b H'
def AP(X:Cx)(pins:fI)(σ:St)(Q:List V->Hp->Prop)(us:fM)(s':Shared):Prop:=∃vs H',Inv X pins σ H' s'/\Vals vs us/\Q vs H'
def SP(X:Cx)(pins:fI)(D:Ends)(f:Flow)(s':Shared):Prop:=
 match f with
 |.next=>∃σ' H',Inv X pins σ' H' s'/\D.nx σ' H'
 |.brk=>∃σ' H',Inv X pins σ' H' s'/\D.bk σ' H'
 |.cont=>∃σ' H',Inv X pins σ' H' s'/\D.ct σ' H'
 |.ret u=>∃v σ' H',Inv X pins σ' H' s'/\RelV v u/\D.rt v H'
def PE(X:Cx)(e:Expr)(t:TE):Prop:=
 ∀(pins:fI)(s:Shared)(σ:St)(H:Hp)(Q:VK),Inv X pins σ H s->t σ H Q->wpAny (model X.prog X.w) X.A (eval e X.env) (EP X pins σ Q) X.xe s
def PT(X:Cx)(e:Expr)(t:TT):Prop:=
 ∀(pins:fI)(s:Shared)(σ:St)(H:Hp)(Q:Bool->Hp->Prop),Inv X pins σ H s->t σ H Q->wpAny (model X.prog X.w) X.A (isTrue e X.env (eval e X.env)) (TP X pins σ Q) X.xe s
def PW(X:Cx)(e:Expr)(t:TT):Prop:=
 ∀(whole:Sem Value)(pins:fI)(s:Shared)(σ:St)(H:Hp)(Q:Bool->Hp->Prop),Inv X pins σ H s->t σ H Q->wpAny (model X.prog X.w) X.A (isTrue e X.env whole) (TP X pins σ Q) X.xe s
theorem PW.pt{t:TT}(h:PW X e t):PT X e t:=h _
def PA(X:Cx)(es:fQ)(t:TA):Prop:=
 ∀(pos:Pos)(pins:fI)(s:Shared)(σ:St)(H:Hp)(Q:List V->Hp->Prop),Inv X pins σ H s->t σ H Q->wpAny (model X.prog X.w) X.A (spliced (backTo pos (starEach es X.env))) (AP X pins σ Q) X.xe s
def PS(X:Cx)(st:Stmt)(t:TS):Prop:=
 ∀(pins:fI)(s:Shared)(σ:St)(H:Hp)(D:Ends),Inv X pins σ H s->t D σ H->wpAny (model X.prog X.w) X.A (exec st X.env) (SP X pins D) X.xe s
def PSs(X:Cx)(st:List Stmt)(t:TS):Prop:=
 ∀(pins:fI)(s:Shared)(σ:St)(H:Hp)(D:Ends),Inv X pins σ H s->t D σ H->wpAny (model X.prog X.w) X.A (execs st X.env) (SP X pins D) X.xe s
theorem thn{α:Type}{t:Sem α}{Q Q':α->Shared->Prop}(h:wpAny M A t Q E s)(hQ:∀a s,Q a s->Q' a s):wpAny M A t Q' E s:=bf h hQ fun _ _ x=>x
section
variable{X:Cx}
def tVar(i:Nat):TE:=fun σ H Q=>∃v,σ[i]?=some (some v)/\Q v H
def tC(v:V):TE:=fun _ H Q=>Q v H
theorem qal{i:Nat}{x:Str}(hN:X.N[i]?=some x)(hv:Vis X.env.scope x)(hd:(x == ("__debug__":Str))=false:=by decide)(hcd:(x == ("__classdict__":Str))=false:=by decide):PE X (.Name x pos) (tVar i):=by
 intro pins s σ H Q I h;obtain⟨v,e,h⟩:=h;obtain⟨m,hn,hl⟩:=I.loc;obtain⟨u,r,l⟩:=hl i x v hN e hv;have fin:EP X pins σ Q u s:=⟨v,H,I,r,h⟩;rcases l with⟨hk,hm⟩|⟨hk,c,hc,hcell⟩
 ·exact fw (dh I.ok.kind hk hn hm fin) hd
 ·rcases hk with hk|hk
  ·exact fw (wpAny_loadName_cell I.ok.kind hk hc hcell fin) hd
  ·exact fw (wpAny_loadName_free I.ok.kind hk hc hcell fin hcd) hd
theorem qe{i j pos}:PE X (.Constant (.int i) j pos) (tC (.int i)):=fun _ _ _ H _ I h=>wpAny_Constant_int ⟨.int i,H,I.tok _,⟨_,rfl⟩,h⟩
theorem kJ{b j pos}:PE X (.Constant (.bool b) j pos) (tC (.bl b)):=fun _ _ _ H _ I h=>Constant_bool ⟨.bl b,H,I,rfl,h⟩
theorem xb{j pos}:PE X (.Constant .none j pos) (tC .non):=fun _ _ _ H _ I h=>Constant_none ⟨.non,H,I,rfl,h⟩
theorem KO{x j pos}:PE X (.Constant (.str x) j pos) (tC (.str x)):=fun _ _ _ H _ I h=>Calls.Constant_str ⟨.str x,H,I.tok _,⟨_,rfl⟩,h⟩
def Gl(X:Cx)(x:Str):Prop:=X.env.kindOf x=some .globalImplicit
theorem Vn{σ:St}{x:Str}(I:Inv X pins σ H s)(hg:Gl X x)(hm:X.mg x=some u)(h:Q u s)
  (hd:(x == ("__debug__":Str))=false:=by decide):wpAny (model X.prog X.w) X.A (eval (.Name x pos) X.env) Q E s:=
 dg I.ok.kind hg (Calls.loadGlobal_global (by rw[I.ok.glob];exact I.mod.glob.keeps I.bk) hm h) hd
theorem xX{σ:St}{x:Str}(I:Inv X pins σ H s)(hg:Gl X x)(hm:X.mg x=none)(hv:bootBuiltins x=some u)(h:Q u s)
  (hn:x≠"__name__":=by decide)(hd:(x == ("__debug__":Str))=false:=by decide):wpAny (model X.prog X.w) X.A (eval (.Name x pos) X.env) Q E s:=by
 obtain⟨mb,h1,h2⟩:=I.mod.blt;exact dg I.ok.kind hg (Calls.loadGlobal_builtin (by rw[I.ok.glob];exact I.mod.glob.keeps I.bk) hm (by rw[I.ok.blt];exact h1.keeps I.bk) ((h2 x hn).trans hv) h) hd
theorem jG{x:Str}(hg:Gl X x)(hm:X.mg x=some u)(r:RelV v u)(hd:(x == ("__debug__":Str))=false:=by decide):PE X (.Name x pos) (tC v):=
 fun _ _ _ H _ I h=>Vn I hg hm ⟨v,H,I,r,h⟩ hd
theorem jn{x:Str}(hg:Gl X x)(hm:X.mg x=none)(hv:bootBuiltins x=some u)(r:RelV v u)(hn:x≠"__name__":=by decide)(hd:(x == ("__debug__":Str))=false:=by decide):PE X (.Name x pos) (tC v):=
 fun _ _ _ H _ I h=>xX I hg hm hv ⟨v,H,I,r,h⟩ hn hd
variable{a b:Expr}{ta tb:TE}{pos:Pos}
def PC(X:Cx)(op:CmpOp)(a b:Expr)(t:TE):Prop:=
 ∀(pins:fI)(s:Shared)(σ:St)(H:Hp)(Q:VK),Inv X pins σ H s->t σ H Q->
  wpAny (model X.prog X.w) X.A (eval a X.env) (fun v s₁=>wpAny (model X.prog X.w) X.A (eval b X.env) (fun u s₂=>wpAny (model X.prog X.w) X.A (compareOp op v u) (EP X pins σ Q) X.xe s₂) X.xe s₁) X.xe s
theorem Jh(b:Expr)(h:op≠.In)(h2:op≠.NotIn):behindInMarks op b=false:=by
 have e1:(op == CmpOp.In)=false:=by cases op <;> first|rfl|exact absurd rfl h
 have e2:(op == CmpOp.NotIn)=false:=by cases op <;> first|rfl|exact absurd rfl h2
 cases b <;> simp[behindInMarks,e1,e2]
def tB(t:TE):TT:=fun σ H Q=>t σ H fun x H1=>∃c,x=.bl c/\Q c H1
theorem qap{t:TE}(h:PC X op a b t)(h1:behindInMarks op b=false:=by first|exact Jh _ (by decide) (by decide)|rfl):PE X (.Compare a [op] [b] pos) t:=fun pins s σ H Q I hw=>wpAny_Compare1 (h pins s σ H Q I hw) h1
theorem qae{t:TE}(h:PC X op a b t)(h1:behindInMarks op b=false:=by first|exact Jh _ (by decide) (by decide)|rfl):PT X (.Compare a [op] [b] pos) (tB t):=by
 intro pins s σ H Q I hw;refine wpAny_isTrue_Compare1 (thn (h pins s σ H _ I hw) fun v s1 h1=>thn h1 fun u s2 h2=>thn h2 fun c s3⟨x,H1,I1,r1,q1⟩=>?_) h1;obtain⟨d,rfl,q⟩:=q1;cases r1;exact cv ⟨H1,I1,q⟩
theorem Qg{t:TE}(h:PE X e t)(he:∀whole,isTrue e X.env whole=(do let v <- whole;standAt e.pos;holding [v] (truthy v)):=by intro _;rfl):PT X e (tB t):=by
 intro pins s σ H Q I hw;refine isTrue_plain (thn (h pins s σ H _ I hw) fun v s1⟨x,H1,I1,r1,q1⟩=>?_) (he _);obtain⟨d,rfl,q⟩:=q1;cases r1;exact cv ⟨H1,I1,q⟩
variable{tA tB':TT}{rest:fQ}
def tAnd(t u:TT):TT:=fun σ H Q=>t σ H fun c H1=>if c=true then u σ H1 Q else Q false H1
def tOr(t u:TT):TT:=fun σ H Q=>t σ H fun c H1=>if c=true then Q true H1 else u σ H1 Q
def tNot(t:TT):TT:=fun σ H Q=>t σ H fun c H1=>Q (!c) H1
theorem ye(ha:PT X a tA):PW X (.BoolOp .And [a] pos) tA:=by
 intro wh pins s σ H Q I h;refine isTrue_and (thn (ha pins s σ H Q I h) fun c s1 e=>?_);cases c with
 |true=>exact isTrue_and_nil e
 |false=>exact e
theorem Z5(ha:PT X a tA):PW X (.BoolOp .Or [a] pos) tA:=by
 intro wh pins s σ H Q I h;refine isTrue_or (thn (ha pins s σ H Q I h) fun c s1 e=>?_);cases c with
 |false=>exact isTrue_or_nil e
 |true=>exact e
theorem Z6(ha:PT X a tA)(hb:PW X (.BoolOp .And (b::rest) pos) tB'):PW X (.BoolOp .And (a::b::rest) pos) (tAnd tA tB'):=by
 intro wh pins s σ H Q I h;refine isTrue_and (thn (ha pins s σ H _ I h) fun c s1⟨H1,I1,q1⟩=>?_);cases c with
 |true=>exact hb wh pins s1 σ H1 Q I1 q1
 |false=>exact⟨H1,I1,q1⟩
theorem Kw(ha:PT X a tA)(hb:PW X (.BoolOp .Or (b::rest) pos) tB'):PW X (.BoolOp .Or (a::b::rest) pos) (tOr tA tB'):=by
 intro wh pins s σ H Q I h;refine isTrue_or (thn (ha pins s σ H _ I h) fun c s1⟨H1,I1,q1⟩=>?_);cases c with
 |true=>exact⟨H1,I1,q1⟩
 |false=>exact hb wh pins s1 σ H1 Q I1 q1
theorem Qh(ha:PT X a tA):PT X (.UnaryOp .Not a pos) (tNot tA):=by
 intro pins s σ H Q I h;exact isTrue_not (ha pins s σ H (fun c H1=>Q (!c) H1) I h)
def qcj(ta tb:TE):TE:=fun σ H Q=>ta σ H fun x H1=>∃c,x=.bl c/\if c=true then tb σ H1 Q else Q (.bl false) H1
def qce(ta:TE):TE:=fun σ H Q=>ta σ H fun x H1=>∃c,x=.bl c/\Q (.bl (!c)) H1
theorem WX{op}{t:TE}(h:PE X a t):PE X (.BoolOp op [a] pos) t:=fun pins s σ H Q I hw=>BoolOp_one (h pins s σ H Q I hw)
theorem WY(ha:PE X a ta)(hb:PE X (.BoolOp .And (b::rest) pos) tb):PE X (.BoolOp .And (a::b::rest) pos) (qcj ta tb):=by
 intro pins s σ H Q I h;refine BoolOp_and (thn (ha pins s σ H _ I h) fun v s1⟨x,H1,I1,r1,q1⟩=>?_);obtain⟨c,rfl,q1⟩:=q1;cases r1;refine cv ?_;cases c with
 |true=>exact hb pins s1 σ H1 Q I1 q1
 |false=>exact⟨.bl false,H1,I1,rfl,q1⟩
theorem qan(ha:PE X a ta):PE X (.UnaryOp .Not a pos) (qce ta):=by
 intro pins s σ H Q I h;refine UnaryOp_ (thn (ha pins s σ H _ I h) fun v s1⟨x,H1,I1,r1,q1⟩=>?_);obtain⟨c,rfl,q1⟩:=q1;cases r1;exact not_of (cv ⟨.bl (!c),H1,I1,rfl,q1⟩)
end
def SqL(K:fH)(H:Hp)(a:Addr)(xs:List V):Prop:=
 Rd H a (.lst xs)\/
  ∃(o:Obj)(its:fO)(n:Nat),K.lookup a=some o/\o.cls=.type "list"/\o.dict=none/\o.data=.seq its n/\its.size<=sizeLine/\Vals xs its.toList
def SqT(K:fH)(H:Hp)(a:Addr)(xs:List V):Prop:=
 Rd H a (.tup xs)\/
  ∃(o:Obj)(its:fO)(n:Nat),K.lookup a=some o/\o.cls=.type "tuple"/\o.data=.seq its n/\its.size<=sizeLine/\Vals xs its.toList
def absV:Value->Option V
 |.none=>some .non
 |.bool b=>some (.bl b)
 |.int i _=>some (.int i)
 |.str x _=>some (.str x)
 |.bytes b _=>some (.byt b)
 |.float b _=>some (.flt b)
 |.ref a=>some (.ref a)
 |.type n=>some (.ty n)
 |_=>none
theorem RelV.abs{x:V}(r:RelV x u):absV u=some x:=by
 cases x with
 |non=>cases r;rfl
 |bl _=>cases r;rfl
 |int _=>obtain⟨t,rfl⟩:=r;rfl
 |str _=>obtain⟨t,rfl⟩:=r;rfl
 |byt _=>obtain⟨t,rfl⟩:=r;rfl
 |flt _=>obtain⟨t,rfl⟩:=r;rfl
 |ref _=>cases r;rfl
 |ty _=>cases r;rfl
theorem RelV.inj{x y:V}{u:Value}(r:RelV x u)(q:RelV y u):x=y:=bh (r.abs.symm.trans q.abs)
theorem Vals.inj:∀{xs ys:List V}{us:fM},Vals xs us->Vals ys us->xs=ys
 |_,_,_,.nil,.nil=>rfl
 |_,_,_,.cons r t,.cons r' t'=>by rw[r.inj r',Vals.inj t t']
section
variable{X:Cx}{pins:fI}{σ:St}{H:Hp}{s:Shared}{a:Addr}{xs ys:List V}
theorem SqL.of(h:H a=some (.lst xs)):SqL K H a xs:=.inl (.inl h)
theorem SqT.of(h:H a=some (.tup xs)):SqT K H a xs:=.inl (.inl h)
theorem Inv.list(I:Inv X pins σ H s)(h:SqL X.K H a xs):∃its:fM,Vals xs its/\PlainL s.heap a its.toArray/\xs.length<=sizeLine:=by
 rcases h with h|⟨o,its,n,hk,hc,hd,hs,hz,r⟩
 ·obtain⟨z,its,n,r,e⟩:=h.ok I.hok
  exact⟨its,r,⟨_,n,e,rfl,rfl,rfl⟩,z⟩
 ·refine⟨its.toList,r,⟨o,n,I.kIn a o hk,hc,hd,by simpa using hs⟩,?_⟩
  have e:=r.length;simp only[bx]at e;omega
theorem Inv.tuple(I:Inv X pins σ H s)(h:SqT X.K H a xs):∃its:fM,Vals xs its/\IsTup s.heap a its.toArray/\xs.length<=sizeLine:=by
 rcases h with h|⟨o,its,n,hk,hc,hs,hz,r⟩
 ·obtain⟨z,its,r,p⟩:=h.ok I.hok
  exact⟨its,r,p,z⟩
 ·refine⟨its.toList,r,⟨o,I.kIn a o hk,hc,n,by simpa using hs⟩,?_⟩
  have e:=r.length;simp only[bx]at e;omega
theorem Inv.list_inj(I:Inv X pins σ H s)(h:SqL X.K H a xs)(h':SqL X.K H a ys):xs=ys:=by
 obtain⟨its,r,⟨o,n,e,_,_,d⟩,_⟩:=I.list h;obtain⟨its',r',⟨o',n',e',_,_,d'⟩,_⟩:=I.list h';rw[e]at e';cases e';rw[d]at d'
 injection d' with d1 _
 have:its=its':=by simpa using bC Array.toList d1
 subst this;exact r.inj r'
theorem Inv.tuple_inj(I:Inv X pins σ H s)(h:SqT X.K H a xs)(h':SqT X.K H a ys):xs=ys:=by
 obtain⟨its,r,⟨o,e,_,n,d⟩,_⟩:=I.tuple h;obtain⟨its',r',⟨o',e',_,n',d'⟩,_⟩:=I.tuple h';rw[e]at e';cases e';rw[d]at d'
 injection d' with d1 _
 have:its=its':=by simpa using bC Array.toList d1
 subst this;exact r.inj r'
end
abbrev Cx.wish(X:Cx)(E:fJ):Cx:={ X with xe:=E }
abbrev Cx.nox(X:Cx):Cx:=X.wish fun _ _=>False
theorem Cx.Ok.wish{X:Cx}(ok:X.Ok)(E:fJ):(X.wish E).Ok:=
 ⟨ok.mod,ok.kind,ok.glob,ok.blt,ok.above,ok.inj,ok.has,ok.cab,ok.hd,ok.frames,ok.stk,ok.exf,ok.bs,ok.bsz,ok.noex,ok.exfs,ok.funs,ok.frf⟩
theorem Cx.Ok.unwish(ok:(X.wish E).Ok):X.Ok:=
 ⟨ok.mod,ok.kind,ok.glob,ok.blt,ok.above,ok.inj,ok.has,ok.cab,ok.hd,ok.frames,ok.stk,ok.exf,ok.bs,ok.bsz,ok.noex,ok.exfs,ok.funs,ok.frf⟩
section
variable{X:Cx}{pins:fI}{σ:St}{H:Hp}{s:Shared}{E:fJ}
theorem Inv.wish(I:Inv X pins σ H s)(E:fJ):Inv (X.wish E) pins σ H s:=⟨I.ok.wish E,I.os,I.bare,I.base,I.loc,I.cell,I.free,I.freeC,I.pin,I.hok,I.len⟩
theorem Inv.unwish(I:Inv (X.wish E) pins σ H s):Inv X pins σ H s:=⟨I.ok.unwish,I.os,I.bare,I.base,I.loc,I.cell,I.free,I.freeC,I.pin,I.hok,I.len⟩
theorem SP.unwish{D:Ends}{f:Flow}{s':Shared}(h:SP (X.wish E) pins D f s'):SP X pins D f s':=by
 cases f with
 |next=>obtain⟨σ',H',I,q⟩:=h;exact⟨σ',H',I.unwish,q⟩
 |brk=>obtain⟨σ',H',I,q⟩:=h;exact⟨σ',H',I.unwish,q⟩
 |cont=>obtain⟨σ',H',I,q⟩:=h;exact⟨σ',H',I.unwish,q⟩
 |ret u=>obtain⟨v,σ',H',I,r,q⟩:=h;exact⟨v,σ',H',I.unwish,r,q⟩
theorem PSs.nox{st:List Stmt}{t:TS}(h:PSs X.nox st t):PSs X st t:=fun pins s σ H D I hw=>
 bf (h pins s σ H D (I.wish _) hw) (fun _ _ q=>q.unwish) fun _ _ z=>False.elim z
end
section
variable{X:Cx}{st:Stmt}{rest:List Stmt}{t u:TS}{e:Expr}{te:TE}{pos:Pos}
def qcf:TS:=fun D σ H=>D.nx σ H
def tSeq(t u:TS):TS:=fun D σ H=>t { D with nx:=u D } σ H
theorem jF:PSs X [] qcf:=fun _ _ σ H _ I h=>dX ⟨σ,H,I,h⟩
theorem qY(h1:PS X st t)(h2:PSs X rest u):PSs X (st::rest) (tSeq t u):=by
 intro pins s σ H D I h;refine wpAny_execs_cons (thn (h1 pins s σ H { D with nx:=u D } I h) fun f s1 q=>?_);cases f with
 |next=>
  obtain⟨σ',H',I',q⟩:=q;exact h2 pins s1 σ' H' D I' q
 |ret v=>exact q
 |brk=>exact q
 |cont=>exact q
theorem zC(h1:PS X st t):PSs X [st] t:=by
 intro pins s σ H D I h;refine wpAny_execs_cons (thn (h1 pins s σ H D I h) fun f s1 q=>?_);cases f with
 |next=>exact dX q
 |ret v=>exact q
 |brk=>exact q
 |cont=>exact q
theorem Inv.quiet{σ:St}(I:Inv X pins σ H s):interactive X.env=false:=by simp[interactive,I.ok.kind]
def qcg(te:TE):TS:=fun D σ H=>te σ H fun _ H1=>D.nx σ H1
theorem YK(he:PE X e te)(hs:swapsWith e none pos.line X.env=pure false:=by rfl):PS X (.Expr e pos) (qcg te):=by
 intro pins s σ H D I h;exact wpAny_Expr_any (thn (he pins s σ H _ I h) fun v s1⟨x,H1,I1,r1,q1⟩=>⟨σ,H1,I1,q1⟩) I.quiet hs
def tRet(te:TE):TS:=fun D σ H=>te σ H D.rt
theorem jS(he:PE X e te):PS X (.Return (some e) pos) (tRet te):=by
 intro pins s σ H D I h;exact wpAny_Return_some (thn (he pins s σ H _ I h) fun v s1⟨x,H1,I1,r1,q1⟩=>⟨x,σ,H1,I1,r1,q1⟩)
def tIfS(c:TT)(t u:TS):TS:=fun D σ H=>c σ H fun b H1=>if b=true then t D σ H1 else u D σ H1
theorem xK{a b:List Stmt}(hc:PT X c tc)(ha:PSs X a t)(hb:PSs X b u):PS X (.If c a b pos) (tIfS tc t u):=by
 intro pins s σ H D I h;refine wpAny_If (thn (hc pins s σ H _ I h) fun d s1⟨H1,I1,q1⟩=>?_);cases d with
 |true=>exact ha pins s1 σ H1 D I1 q1
 |false=>exact hb pins s1 σ H1 D I1 q1
end
abbrev TG:=V->St->Hp->(St->Hp->Prop)->Prop
abbrev TGs:=List V->St->Hp->(St->Hp->Prop)->Prop
def PG(X:Cx)(target:Expr)(t:TG):Prop:=
 ∀(pins:fI)(s:Shared)(σ:St)(H:Hp)(v:V)(u:Value)(Q:St->Hp->Prop),Inv X pins σ H s->RelV v u->t v σ H Q->
  wpAny (model X.prog X.w) X.A (assign target X.env u) (fun _ s'=>∃σ' H',Inv X pins σ' H' s'/\Q σ' H') X.xe s
def PGs(X:Cx)(ts:fQ)(t:TGs):Prop:=
 ∀(pins:fI)(s:Shared)(σ:St)(H:Hp)(vs:List V)(us:fM)(Q:St->Hp->Prop),Inv X pins σ H s->Vals vs us->t vs σ H Q->
  wpAny (model X.prog X.w) X.A (assignInOrder ((assignEach ts X.env).map (·.2)) us) (fun _ s'=>∃σ' H',Inv X pins σ' H' s'/\Q σ' H') X.xe s
abbrev TIp:=V->V->Hp->VK->Prop
def PIp(X:Cx)(op:Operator)(t:TIp):Prop:=
 ∀(pins:fI)(s:Shared)(σ:St)(H:Hp)(x y:V)(v u:Value)(Q:VK),Inv X pins σ H s->RelV x v->RelV y u->t x y H Q->
  wpAny (model X.prog X.w) X.A (inplaceOp op v u) (EP X pins σ Q) X.xe s
section
variable{X:Cx}{pos:Pos}
def QL(i:Nat):TG:=fun v σ H Q=>Q (σ.set i (some v)) H
theorem qx{i:Nat}{x:Str}(hN:X.N.Nodup)(hi:X.N[i]?=some x)(hx:Loc X.env.scope x)(hf:X.fn x=true\/X.env.scope.names.lookup x=some .local:=by first|exact .inl rfl|exact .inr rfl|assumption):PG X (.Name x pos) (QL i):=by
 intro pins s σ H v u Q I r h;exact eP (wU I hN hi hx r (fun s' I'=>⟨_,H,I',h⟩) hf)
def gNil:TGs:=fun vs σ H Q=>vs=[]/\Q σ H
def qdb(t:TG)(u:TGs):TGs:=fun vs σ H Q=>∃v r,vs=v::r/\t v σ H fun σ' H'=>u r σ' H' Q
theorem kF:PGs X [] gNil:=by
 intro pins s σ H vs us Q I r h;obtain⟨e,h⟩:=h;subst e;cases r;exact assignInOrder_nil ⟨σ,H,I,h⟩
theorem zj{t:TG}{u:TGs}(h1:PG X e t)(h2:PGs X es u)
  (hs:(assignEach (e::es) X.env).map (·.2)=assign e X.env::(assignEach es X.env).map (·.2):=by rfl):PGs X (e::es) (qdb t u):=by
 intro pins s σ H vs us Q I r h;obtain⟨v,vr,e1,h⟩:=h;subst e1;cases r with
 |cons r rr=>
  rw[hs];refine assignInOrder_cons (thn (h1 pins s σ H _ _ _ I r h) fun _ s1⟨σ1,H1,I1,q1⟩=>?_);exact h2 pins s1 σ1 H1 _ _ Q I1 rr q1
def gTup(K:fH)(n:Nat)(t:TGs):TG:=fun v σ H Q=>∃a xs,v=.ref a/\SqT K H a xs/\xs.length=n/\t xs σ H Q
theorem Qi{k:Nat}{t:TGs}{n:Nat}(hc:X.calm=true)(h:PGs X es t)
  (hn:(assignEach es X.env).length=n:=by rfl)(hst:(assignEach es X.env).findIdx? (·.1)=none:=by rfl):PG X (.Tuple es k pos) (gTup X.K n t):=by
 intro pins s σ H v u Q I r hw;obtain⟨a,xs,e1,hq,hl,hw⟩:=hw;subst e1;cases r;obtain⟨its,rv,ht,hz⟩:=I.tuple hq;refine assign_Tuple_tuple (I.ok.hd hc) ht (by simp[hn,<- hl,rv.length]) hst fun h' hx=>?_
 have I1:Inv X pins σ H { s with heap:=h' }:=I.kept (t':=s.toks) fun b o e=>hx b o (aq (ao e)) e
 exact h pins _ σ H xs _ Q I1 (by simpa using rv) hw
def tAsg(te:TE)(g:TG):TS:=fun D σ H=>te σ H fun x H1=>g x σ H1 D.nx
theorem qag(he:PE X e te)(hg:PG X tg g)(hs:swapsWithSole [tg] e pos.line X.env=pure false:=by rfl)(hw:swappedStores [tg] e X.env=pure none:=by rfl)
  (h1:(assignEach [tg] X.env).map (·.2)=[assign tg X.env]:=by rfl):PS X (.Assign [tg] e pos) (tAsg te g):=by
 intro pins s σ H D I h;refine wpAny_Assign_stores (thn (he pins s σ H _ I h) fun v s1⟨x,H1,I1,r1,q1⟩=>?_) hs hw;rw[h1];exact thn (hg pins s1 σ H1 x v _ I1 r1 q1) fun _ s2 q=>q
theorem wE{i:Nat}{x:Str}(hN:X.N.Nodup)(hi:X.N[i]?=some x)(hx:Loc X.env.scope x)(he:PE X e te)(hs:swapsWith e (some (.Name x pos')) pos.line X.env=pure false:=by rfl)(hf:X.fn x=true\/X.env.scope.names.lookup x=some .local:=by first|exact .inl rfl|exact .inr rfl|assumption) :
  PS X (.Assign [.Name x pos'] e pos) (tAsg te (QL i)):=by
 intro pins s σ H D I h;refine wpAny_Assign_Name (thn (he pins s σ H _ I h) fun v s1⟨y,H1,I1,r1,q1⟩=>?_) hs;exact wU I1 hN hi hx r1 (fun s2 I2=>⟨_,H1,I2,q1⟩) hf
def tAug(i:Nat)(te:TE)(ti:TIp):TS:=fun D σ H=>∃x,σ[i]?=some (some x)/\te σ H fun y H1=>ti x y H1 fun z H2=>D.nx (σ.set i (some z)) H2
theorem qaf{i:Nat}{x:Str}{op:Operator}{ti:TIp}(hN:X.N.Nodup)(hi:X.N[i]?=some x)(hx:Loc X.env.scope x)(he:PE X e te)(ho:PIp X op ti)(hf:X.fn x=true\/X.env.scope.names.lookup x=some .local:=by first|exact .inl rfl|exact .inr rfl|assumption) :
  PS X (.AugAssign (.Name x pos') op e pos) (tAug i te ti):=by
 intro pins s σ H D I h;obtain⟨v,e1,h⟩:=h;obtain⟨m,hn,hl⟩:=I.loc;have vis:Vis X.env.scope x:=by rcases hx with k|k;exact .inl k;exact .inr (.inl k)
 obtain⟨u,r,l⟩:=hl i x v hi e1 vis;refine wpAny_AugAssign_Name ?_;have go:wpAny (model X.prog X.w) X.A (eval e X.env) (fun w s₂=>wpAny (model X.prog X.w) X.A (inplaceOp op u w) (fun r s₃=>wpAny (model X.prog X.w) X.A (storeName X.env x r) (fun _=>SP X pins D .next) X.xe s₃) X.xe s₂) X.xe s:=by
  refine thn (he pins s σ H _ I h) fun w s1⟨y,H1,I1,r1,q1⟩=>?_
  refine thn (ho pins s1 σ H1 v y u w _ I1 r r1 q1) fun z s2⟨zv,H2,I2,r2,q2⟩=>?_
  exact wU I2 hN hi hx r2 (fun s3 I3=>⟨_,H2,I3,q2⟩) hf
 rcases l with⟨hk,hm⟩|⟨hk,c,hc,hcell⟩
 ·exact dh I.ok.kind hk hn hm go
 ·rcases hk with hk|hk
  ·exact wpAny_loadName_cell I.ok.kind hk hc hcell go
  ·rcases hx with k|k
   ·have:X.env.scope.names.lookup x=some .free:=hk
    rw[k]at this;cases this
   ·have:X.env.scope.names.lookup x=some .free:=hk
    rw[k]at this;cases this
def ipI(f:Int->Int->Int):TIp:=fun x y H Q=>∃i j,x=.int i/\y=.int j/\Q (.int (f i j)) H
theorem qbo:PIp X .Add (ipI fun i j=>i+j):=by
 intro pins s σ H x y v u Q I r1 r2 h;obtain⟨i,j,e1,e2,q⟩:=h;subst e1;subst e2;obtain⟨t,rfl⟩:=r1;obtain⟨t',rfl⟩:=r2;exact iadd_int ⟨.int _,H,I.tok _,⟨_,rfl⟩,q⟩
theorem qbn:PIp X .Sub (ipI fun i j=>i - j):=by
 intro pins s σ H x y v u Q I r1 r2 h;obtain⟨i,j,e1,e2,q⟩:=h;subst e1;subst e2;obtain⟨t,rfl⟩:=r1;obtain⟨t',rfl⟩:=r2;exact isub_int ⟨.int _,H,I.tok _,⟨_,rfl⟩,q⟩
def uO(c:TT)(tb:TS):TS:=fun D σ H=>∃W:Nat->St->Hp->Prop,(∃m,W m σ H)/\∀m σ H,W m σ H->
 c σ H fun b H1=>if b=true then ∃N:St->Hp->Prop,(∀σ' H',N σ' H'->∃m',m'<m/\W m' σ' H')/\tb { D with nx:=N,ct:=N,bk:=D.nx } σ H1 else D.nx σ H1
theorem XH(hp:PassesOwn (model X.prog X.w) X.A X.env X.xe)(hc:PT X c tc)(hb:PSs X body tb):PS X (.While c body [] pos) (uO tc tb):=by
 intro pins s σ H D I h;obtain⟨W,⟨m0,w0⟩,turn⟩:=h;refine wpAny_While (codeAny_whileLoop (fun n s'=>∃σ' H',Inv X pins σ' H' s'/\W n σ' H') ?_ m0 ⟨σ,H,I,w0⟩);rintro n s1 ⟨σ1,H1,I1,w1⟩;refine c8 hp (thn (hc pins s1 σ1 H1 _ I1 (turn n σ1 H1 w1)) fun b s2⟨H2,I2,q2⟩=>?_);cases b with
 |true=>
  obtain⟨N,hN,q2⟩:=q2;rw[aF rfl];refine c8 hp (thn (hb pins s2 σ1 H2 _ I2 q2) fun f s3 q3=>?_);cases f with
  |next=>
   obtain⟨σ3,H3,I3,n3⟩:=q3;obtain⟨m',hm,w3⟩:=hN σ3 H3 n3;exact⟨m',hm,σ3,H3,I3,w3⟩
  |cont=>
   obtain⟨σ3,H3,I3,n3⟩:=q3;obtain⟨m',hm,w3⟩:=hN σ3 H3 n3;exact⟨m',hm,σ3,H3,I3,w3⟩
  |brk=>exact q3
  |ret v=>exact q3
 |false=>
  rw[aG aH];exact dX ⟨σ1,H2,I2,q2⟩
end
structure It where
 go:Nat->Hp->Prop
 yld:Nat->Hp->V->Hp->Prop
 stop:Nat->Hp->Prop
def FpOk(X:Cx)(pins:fI)(H:Hp)(b:Addr):Prop:=
 H b=none/\b≠X.env.locals/\b∉X.fs/\(b∈X.ex\/X.s₀.heap.objs.size<=b)/\(∀x c,X.env.cells.lookup x=some c->c≠b)/\∀p∈X.pn++pins,p.1≠b
theorem Inv.fpOk{σ:St}{b:Addr}(I:Inv X pins σ H s)(hb:s.heap.objs.size<=b)(hn:H' b=none):FpOk X pins H' b:=by
 refine⟨hn,fj (aI I.lt hb),I.nofs hb,.inr (bj I.sz hb),fun x c e z=>?_,fun p hp z=>?_⟩
 ·obtain⟨v,q⟩:=I.cell x c e
  exact absurd (aI q.lt (by rw[z];exact hb)) (bH _)
 ·exact absurd (aI (ao (I.pin p hp).1) (by rw[z];exact hb)) (bH _)
structure Turn(P:Program)(w:World)(K:fH)(tg:Expr)(J:It)(fp:fL)(it:Addr)(tn:Nat->Heap->Prop):Prop where
 mem:it∈fp
 obj:∀i h,tn i h->∀b∈fp,∃o,h.get? b=some o/\∀v,o.data≠.cell v
 keep:∀i h h',tn i h->(∀b∈fp,∀o,h.get? b=some o->h'.get? b=some o)->tn i h'
 item:∀(X:Cx),X.prog=P->X.w=w->X.K=K->X.calm=true->∀(i:Nat)(pins:fI)(s:Shared)(σ:St)(H:Hp)(E:fJ),Inv X pins σ H s->(∀b∈fp,FpOk X pins H b)->tn i s.heap->J.go i H->
  wpAny (model P w) X.A (pyNext (.ref it)) (fun r s1=>∃u,r=some u/\
   wpAny (model P w) X.A (letOwnedTupleGo tg (.ref it) u) (fun _ s2=>∃x H',Inv X pins σ H' s2/\RelV x u/\J.yld i H x H'/\tn (i+1) s2.heap/\∀b∈fp,H' b=none) E s1) E s
 done:∀(X:Cx),X.prog=P->X.w=w->X.K=K->X.calm=true->∀(i:Nat)(pins:fI)(s:Shared)(σ:St)(H:Hp)(E:fJ),Inv X pins σ H s->(∀b∈fp,FpOk X pins H b)->tn i s.heap->J.stop i H->
  wpAny (model P w) X.A (pyNext (.ref it)) (fun r s1=>r=none/\Inv X pins σ H s1) E s
 self:∀(A:Around)(i:Nat)(s:Shared)(Q:fJ)(E:fJ),tn i s.heap->Q (.ref it) s->wpAny (model P w) A (pyIter (.ref it)) Q E s
abbrev TI:=St->Hp->(It->Hp->Prop)->Prop
def PIE(X:Cx)(pins:fI)(σ:St)(tg:Expr)(R:It->Hp->Prop)(itv:Value)(s2:Shared):Prop:=
 ∃(it:Addr)(fp:fL)(tn:Nat->Heap->Prop)(J:It)(H':Hp),itv=.ref it/\Inv X pins σ H' s2/\Turn X.prog X.w X.K tg J fp it tn/\tn 0 s2.heap/\(∀b∈fp,FpOk X pins H' b)/\R J H'
def PI(X:Cx)(tg iter:Expr)(wi:TI):Prop:=
 ∀(pins:fI)(s:Shared)(σ:St)(H:Hp)(R:It->Hp->Prop),Inv X pins σ H s->wi σ H R->
  wpAny (model X.prog X.w) X.A (eval iter X.env) (fun v s1=>wpAny (model X.prog X.w) X.A (pyIter v) (PIE X pins σ tg R) X.xe s1) X.xe s
theorem Wp{o:Obj}{n:String}{vs:fO}{Q:Unit->Shared->Prop}(ho:s.heap.get? it=some o)(hc:o.cls=.type n)(hd:o.data=.fields vs)
  (hn:["enumerate","zip","dict_itemiterator","dict_reverseitemiterator","odict_iterator","itertools.zip_longest","itertools.pairwise"].contains n=false)(hQ:Q () s):wpAny M A (letOwnedTupleGo tg (.ref it) u) Q E s:=by
 unfold letOwnedTupleGo;cases tg <;> first
  |exact aw hQ
  | (cases u <;> first
    |exact aw hQ
    | (refine af (wpAny_load ho ?_)
       rw[hc,hd];show wpAny M A (if(["enumerate","zip","dict_itemiterator","dict_reverseitemiterator","odict_iterator","itertools.zip_longest","itertools.pairwise"].contains n && vs[0]? == some (rawInt _))=true then _ else _) Q E s;rw[aG (by intro h;rw[hn,Bool.false_and]at h;cases h)];exact aw hQ))
def Itl(K:fH)(a:Addr):It:=
 ⟨fun i H=>∃xs x,SqL K H a xs/\xs[i]?=some x,fun i H x H'=>H'=H/\∀xs,SqL K H a xs->xs[i]?=some x,fun i H=>∃xs,SqL K H a xs/\xs.length<=i⟩
def Itt(K:fH)(a:Addr):It:=
 ⟨fun i H=>∃xs x,SqT K H a xs/\xs[i]?=some x,fun i H x H'=>H'=H/\∀xs,SqT K H a xs->xs[i]?=some x,fun i H=>∃xs,SqT K H a xs/\xs.length<=i⟩
def Itr(lo:Int)(n:Nat):It:=⟨fun i _=>i<n,fun i H x H'=>H'=H/\x=.int (lo+i),fun i _=>n<=i⟩
theorem Ka(a it:Addr):Turn P w K tg (Itl K a) [it] it (fun i h=>h.IsListIter it a i) where
 mem:=by simp
 obj:=fun i h st b hb=>by
  have e:b=it:=by simpa using hb
  subst e;obtain⟨o,e,c,d⟩:=st;exact⟨o,e,fun v z=>by rw[d]at z;cases z⟩
 keep:=fun i h h' st k=>st.at fun o e=>k it (by simp) o e
 item:=by
  intro X hP hw hK hc i pins s σ H E I hf st hg;subst hP hw hK;obtain⟨xs,x,hq,hx⟩:=hg;obtain⟨its,rv,p,hz⟩:=I.list hq;obtain⟨u,hu,ru⟩:=rv.get hx;obtain⟨f0,f1,f2,f3,f4,f5⟩:=hf it (by simp);refine wpAny_pyNext_list_item st p.isList (x:=u) (by simpa using hu) fun h' st' sb=>?_
  have I1:Inv X pins σ H { s with heap:=h' }:=I.turned (t':=s.toks) (fun b o hb e=>(sb.2 b hb).trans e) f0 f1 f3 f4 f5;obtain⟨o,e,c,d⟩:=id st';exact⟨u,rfl,Wp (s:={ s with heap:=h' }) e c d (by decide) ⟨x,H,I1,ru,⟨rfl,fun ys hy=>by rw[I.list_inj hy hq];exact hx⟩,st',fun b hb=>(hf b hb).1⟩⟩
 done:=by
  intro X hP hw hK hc i pins s σ H E I hf st hg;subst hP hw hK;obtain⟨xs,hq,hx⟩:=hg;obtain⟨its,rv,p,hz⟩:=I.list hq;obtain⟨f0,f1,f2,f3,f4,f5⟩:=hf it (by simp);have hl:=rv.length;exact wpAny_pyNext_list_end (I.ok.hd hc) st p.isList (by simp;omega) fun h' eb=>⟨rfl,I.turned (t':=s.toks) (fun b o hb e=>eb b o hb e) f0 f1 f3 f4 f5⟩
 self:=fun _ _ _ _ _ st h=>wpAny_pyIter_listiter st h
theorem JF(a it:Addr):Turn P w K tg (Itt K a) [it] it (fun i h=>h.IsTupleIter it a i) where
 mem:=by simp
 obj:=fun i h st b hb=>by
  have e:b=it:=by simpa using hb
  subst e;obtain⟨o,e,c,d⟩:=st;exact⟨o,e,fun v z=>by rw[d]at z;cases z⟩
 keep:=fun i h h' st k=>st.at fun o e=>k it (by simp) o e
 item:=by
  intro X hP hw hK hc i pins s σ H E I hf st hg;subst hP hw hK;obtain⟨xs,x,hq,hx⟩:=hg;obtain⟨its,rv,p,hz⟩:=I.tuple hq;obtain⟨u,hu,ru⟩:=rv.get hx;obtain⟨f0,f1,f2,f3,f4,f5⟩:=hf it (by simp);refine wpAny_pyNext_tuple_item st (show s.heap.IsTuple a its.toArray from p) (x:=u) (by simpa using hu) fun h' st' sb=>?_
  have I1:Inv X pins σ H { s with heap:=h' }:=I.turned (t':=s.toks) (fun b o hb e=>(sb.2 b hb).trans e) f0 f1 f3 f4 f5;obtain⟨o,e,c,d⟩:=id st';exact⟨u,rfl,Wp (s:={ s with heap:=h' }) e c d (by decide) ⟨x,H,I1,ru,⟨rfl,fun ys hy=>by rw[I.tuple_inj hy hq];exact hx⟩,st',fun b hb=>(hf b hb).1⟩⟩
 done:=by
  intro X hP hw hK hc i pins s σ H E I hf st hg;subst hP hw hK;obtain⟨xs,hq,hx⟩:=hg;obtain⟨its,rv,p,hz⟩:=I.tuple hq;obtain⟨f0,f1,f2,f3,f4,f5⟩:=hf it (by simp);have hl:=rv.length;exact wpAny_pyNext_tuple_end (I.ok.hd hc) st (show s.heap.IsTuple a its.toArray from p) (by simp;omega) fun h' eb=>⟨rfl,I.turned (t':=s.toks) (fun b o hb e=>eb b o hb e) f0 f1 f3 f4 f5⟩
 self:=fun _ _ _ _ _ st h=>wpAny_pyIter_tupleiter st h
theorem JG(it:Addr)(lo:Int)(n:Nat):Turn P w K tg (Itr lo n) [it] it (fun i h=>IsRangeIter h it (lo+(i:Nat) * 1) ((n:Int) - (i:Nat)) 1) where
 mem:=by simp
 obj:=fun i h st b hb=>by
  have e:b=it:=by simpa using hb
  subst e;exact⟨_,st,fun v z=>by
   have z':Data.fields _=Data.cell v:=z;cases z'⟩
 keep:=fun i h h' st k=>k it (by simp) _ st
 item:=by
  intro X hP hw hK hc i pins s σ H E I hf st hg;subst hP hw hK;obtain⟨f0,f1,f2,f3,f4,f5⟩:=hf it (by simp);have W:=Walks.range (prog:=X.prog) (w:=X.w) (I.ok.hd hc) it lo 1 n;refine W.item i s _ _ hg st fun v h' tk hv st' kk=>?_
  obtain⟨t,rfl⟩:=hv;have I1:Inv X pins σ H { s with heap:=h',toks:=tk }:=I.turned (fun b o hb e=>kk b o (by simpa using hb) e) f0 f1 f3 f4 f5;refine⟨_,rfl,Wp (s:={ s with heap:=h',toks:=tk }) (n:="range_iterator") st' rfl rfl (by decide) ⟨.int (lo+i),H,I1,⟨t,?_⟩,⟨rfl,rfl⟩,st',fun b hb=>(hf b hb).1⟩⟩;rw[Int.mul_one]
 done:=by
  intro X hP hw hK hc i pins s σ H E I hf st hg;subst hP hw hK;obtain⟨f0,f1,f2,f3,f4,f5⟩:=hf it (by simp);exact wpAny_pyNext_range_end (I.ok.hd hc) st (by have:n<=i:=hg;omega) fun h' eb=>⟨rfl,I.turned (t':=s.toks) (fun b o hb e=>eb b o hb e) f0 f1 f3 f4 f5⟩
 self:=fun _ _ _ _ _ st h=>wpAny_pyIter_rangeiter st h
section
variable{X:Cx}{tg:Expr}
def qc4(K:fH)(tl:TE):TI:=fun σ H R=>tl σ H fun x H1=>∃a,x=.ref a/\(∃xs,SqL K H1 a xs)/\R (Itl K a) H1
def iTup(K:fH)(tl:TE):TI:=fun σ H R=>tl σ H fun x H1=>∃a,x=.ref a/\(∃xs,SqT K H1 a xs)/\R (Itt K a) H1
theorem jm(hl:PE X l tl):PI X tg l (qc4 X.K tl):=by
 intro pins s σ H R I h;refine thn (hl pins s σ H _ I h) fun v s1⟨x,H1,I1,r1,q1⟩=>?_
 obtain⟨a,e,⟨xs,hq⟩,q⟩:=q1;subst e;cases r1;obtain⟨its,rv,p,hz⟩:=I1.list hq;refine dC p.isList ?_;refine⟨s1.heap.objs.size,[s1.heap.objs.size],_,_,H1,rfl,I1.kept (t':=s1.toks) fun b o e=>ae _ e,Ka a _,⟨_,aB _ rfl,rfl,rfl⟩,fun b hb=>?_,q⟩;have e:b=s1.heap.objs.size:=by simpa using hb
 subst e;exact I1.fpOk (ak _) (I1.hok.fresh (ak _))
theorem qaj(hl:PE X l tl):PI X tg l (iTup X.K tl):=by
 intro pins s σ H R I h;refine thn (hl pins s σ H _ I h) fun v s1⟨x,H1,I1,r1,q1⟩=>?_
 obtain⟨a,e,⟨xs,hq⟩,q⟩:=q1;subst e;cases r1;obtain⟨its,rv,p,hz⟩:=I1.tuple hq;refine wpAny_pyIter_tuple (show s1.heap.IsTuple a its.toArray from p) ?_;refine⟨s1.heap.objs.size,[s1.heap.objs.size],_,_,H1,rfl,I1.kept (t':=s1.toks) fun b o e=>ae _ e,JF a _,⟨_,aB _ rfl,rfl,rfl⟩,fun b hb=>?_,q⟩;have e:b=s1.heap.objs.size:=by simpa using hb
 subst e;exact I1.fpOk (ak _) (I1.hok.fresh (ak _))
theorem XG{σ:St}{R:It->Hp->Prop}{lo hi:Int}{t u v:Tok}{tk:Nat}(I:Inv X pins σ H s)(h1:-(2 ^ 62)<=lo)(h2:lo<2 ^ 62)(h3:-(2 ^ 62)<=hi)(h4:hi<2 ^ 62)
  (q:R (Itr lo (hi - lo).toNat) H):wpAny (model X.prog X.w) X.A (pyIter (.ref s.heap.objs.size)) (PIE X pins σ tg R) E { s with heap:=s.heap.push { cls:=.type "range",data:=.fields #[.int lo t,.int hi u,.int 1 v] },toks:=tk }:=by
 refine wpAny_pyIter_range (IsRange.new ..) (small_one h1 h2 h3 h4) ?_;have I1:Inv X pins σ H { s with heap:=s.heap.push { cls:=.type "range",data:=.fields #[.int lo t,.int hi u,.int 1 v] },toks:=tk }:=I.kept fun b o e=>ae _ e
 refine⟨(s.heap.push { cls:=.type "range",data:=.fields #[.int lo t,.int hi u,.int 1 v] }).objs.size,[(s.heap.push { cls:=.type "range",data:=.fields #[.int lo t,.int hi u,.int 1 v] }).objs.size],_,_,H,rfl,
  I1.kept (t':=tk) fun b o e=>ae _ e,JG _ lo (hi - lo).toNat,?_,fun b hb=>?_,q⟩
 ·have e1:lo+((0:Nat):Int) * 1=lo:=by simp
  have e2:(((hi - lo).toNat:Nat):Int) - ((0:Nat):Int)=Builtin.Range.rangeSize lo hi 1:=by rw[rangeSize_one];split <;> omega
  show IsRangeIter _ _ (lo+((0:Nat):Int) * 1) ((((hi - lo).toNat:Nat):Int) - ((0:Nat):Int)) 1;rw[e1,e2];exact aB _ rfl
 ·have e:b=(s.heap.push { cls:=.type "range",data:=.fields #[.int lo t,.int hi u,.int 1 v] }).objs.size:=by simpa using hb
  subst e;exact I1.fpOk (ak _) (I1.hok.fresh (ak _))
def qc3(ta:TA):TI:=fun σ H R=>ta σ H fun vs H1=>∃j:Int,vs=[.int j]/\-(2 ^ 62)<=j/\j<2 ^ 62/\R (Itr 0 j.toNat) H1
theorem KK{a:Expr}{ta:TA}{p:Pos}(hg:Gl X "range")(hm:X.mg "range"=none)(ha:PA X [a] ta)(hs:starEach [a] X.env=[(false,eval a X.env)]:=by rfl):PI X tg (.Call (.Name "range" p) [a] [] pos) (qc3 ta):=by
 intro pins s σ H R I h;refine Call_ (xX I hg hm boot_range (dY (thn (ha pos pins s σ H _ I h) fun us s1⟨vs,H1,I1,r1,q1⟩=>?_) hs rfl));obtain⟨j,e,q1,q2,q⟩:=q1;subst e;cases r1 with
 |cons r rr=>
  cases rr;obtain⟨t,rfl⟩:=r;exact call_range_1 (XG I1 (by omega) (by omega) q1 q2 (by simpa using q))
def tFor(wi:TI)(g:TG)(tb:TS):TS:=fun D σ H=>wi σ H fun J H1=>∃W:Nat->Nat->St->Hp->Prop,(∃m,W 0 m σ H1)/\∀i m σ H,W i m σ H->
 (J.stop i H/\D.nx σ H)\/(J.go i H/\∃N:St->Hp->Prop,(∀σ' H',N σ' H'->∃m',m'<m/\W (i+1) m' σ' H')/\∀x H',J.yld i H x H'->g x σ H' fun σ2 H2=>tb { D with nx:=N,ct:=N,bk:=D.nx } σ2 H2)
def xL(fp:fL)(h:Heap):fI:=fp.filterMap fun b=>(h.get? b).map fun o=>(b,o)
theorem zX{b:Addr}{o:Obj}(hb:b∈fp)(e:h.get? b=some o):(b,o)∈xL fp h:=cT.mpr ⟨b,hb,by rw[e];rfl⟩
theorem K_{p:Addr×Obj}(hp:p∈xL fp h):p.1∈fp/\h.get? p.1=some p.2:=by
 obtain⟨b,hb,e⟩:=cT.mp hp;cases q:h.get? b with
 |none=>rw[q]at e;cases e
 |some o=>
  rw[q]at e;have e':(b,o)=p:=bh e;subst e';exact⟨hb,q⟩
theorem Inv.pinned{σ:St}(I:Inv X pins σ H s)(hf:∀b∈fp,FpOk X pins H b)(ho:∀b∈fp,∃o,s.heap.get? b=some o/\∀v,o.data≠.cell v):Inv X (pins++xL fp s.heap) σ H s:=
 I.pins_of fun p hp=>(aQ.mp hp).elim (fun z=>I.pin p (az _ z)) fun z=>by
  obtain⟨hb,e⟩:=K_ z;obtain⟨f0,f1,f2,_⟩:=hf p.1 hb;obtain⟨o,e',d⟩:=ho p.1 hb;rw[e]at e';cases e';exact⟨e,f0,f1,f2,d⟩
theorem Inv.unpinned{pl:fI}{σ:St}(I:Inv X (pins++pl) σ H s):Inv X pins σ H s:=I.pins_of fun p hp=>I.pin p (az _ (aU _ hp))
theorem wF{iter:Expr}{wi:TI}(hp:PassesOwn (model X.prog X.w) X.A X.env X.xe)(hc:X.calm=true)(hi:PI X tg iter wi)(hg:PG X tg g)(hb:PSs X body tb)
  (hs:∀x,foldedSetIterable iter X.env x=pure x:=by intro _;rfl):PS X (.For tg iter body [] pos) (tFor wi g tb):=by
 intro pins s σ H D I h;refine wpAny_For (thn (hi pins s σ H _ I h) fun v s1 h1=>thn h1 fun itv s2 h2=>?_) hs;obtain⟨it,fp,tn,J,H2,e,I2,T,st2,f2,W,⟨m0,w0⟩,turn⟩:=h2;subst e;have stat:∀{H':Hp},(∀b∈fp,H' b=none)->∀b∈fp,FpOk X pins H' b:=fun hn b hb=>⟨hn b hb,(f2 b hb).2⟩
 refine codeAny_forLoop_any (fun n s'=>∃i σ' H',Inv X pins σ' H' s'/\tn i s'.heap/\(∀b∈fp,H' b=none)/\W i n σ' H') ?_ m0 ⟨0,σ,H2,I2,st2,fun b hb=>(f2 b hb).1,w0⟩;rintro n s3 ⟨i,σ3,H3,I3,st3,fr3,w3⟩;rcases turn i n σ3 H3 w3 with⟨stop,qn⟩|⟨go,N,hN,step⟩
 ·refine c8 hp (thn (T.done X rfl rfl rfl hc i pins s3 σ3 H3 X.xe I3 (stat fr3) st3 stop) fun r s4⟨hr,I4⟩=>?_)
  subst hr;exact dX ⟨σ3,H3,I4,qn⟩
 ·refine c8 hp (thn (T.item X rfl rfl rfl hc i pins s3 σ3 H3 X.xe I3 (stat fr3) st3 go) fun r s4⟨u,hr,h4⟩=>?_)
  subst hr;refine c8 hp (thn h4 fun _ s5⟨x,H5,I5,r5,y5,st5,fr5⟩=>?_);have I5':=I5.pinned (stat fr5) (T.obj _ _ st5);refine c8 hp (thn (hg _ s5 σ3 H5 x u _ I5' r5 (step x H5 y5)) fun _ s6⟨σ6,H6,I6,q6⟩=>?_);refine c8 hp (thn (hb _ s6 σ6 H6 _ I6 q6) fun f s7 q7=>?_);have again:∀{σ7:St}{H7:Hp},Inv X (pins++xL fp s5.heap) σ7 H7 s7->N σ7 H7->∃m,m<n/\∃i σ' H',Inv X pins σ' H' s7/\tn i s7.heap/\(∀b∈fp,H' b=none)/\W i m σ' H':=fun{σ7 H7} I7 n7=>by
   obtain⟨m',hm,w7⟩:=hN σ7 H7 n7;refine⟨m',hm,i+1,σ7,H7,I7.unpinned,T.keep _ _ _ st5 fun b hb o e=>(I7.pin (b,o) (az _ (az _ (zX hb e)))).1,fun b hb=>?_,w7⟩;obtain⟨o,e,d⟩:=T.obj _ _ st5 b hb;exact(I7.pin (b,o) (az _ (az _ (zX hb e)))).2.1
  cases f with
  |next=>obtain⟨σ7,H7,I7,n7⟩:=q7;exact again I7 n7
  |cont=>obtain⟨σ7,H7,I7,n7⟩:=q7;exact again I7 n7
  |brk=>obtain⟨σ7,H7,I7,q7⟩:=q7;exact⟨σ7,H7,I7.unpinned,q7⟩
  |ret v=>obtain⟨x7,σ7,H7,I7,r7,q7⟩:=q7;exact⟨x7,σ7,H7,I7.unpinned,r7,q7⟩
end
theorem xy{a:Addr}{xs:List V}{D:Ends}{σ:St}(Pv:Nat->St->Hp->Prop)(h0:Pv 0 σ H)(hl:∀i σ H,i<=xs.length->Pv i σ H->SqL K H a xs)
  (hs:∀i x σ H,xs[i]?=some x->Pv i σ H->g x σ H fun σ2 H2=>tb { D with nx:=Pv (i+1),ct:=Pv (i+1),bk:=D.nx } σ2 H2)(hd:∀σ H,Pv xs.length σ H->D.nx σ H) :
  ∃W:Nat->Nat->St->Hp->Prop,(∃m,W 0 m σ H)/\∀i m σ H,W i m σ H->
   ((Itl K a).stop i H/\D.nx σ H)\/((Itl K a).go i H/\∃N:St->Hp->Prop,(∀σ' H',N σ' H'->∃m',m'<m/\W (i+1) m' σ' H')/\∀x H',(Itl K a).yld i H x H'->g x σ H' fun σ2 H2=>tb { D with nx:=N,ct:=N,bk:=D.nx } σ2 H2):=by
 refine⟨fun i m σ H=>m=xs.length - i/\i<=xs.length/\Pv i σ H,⟨xs.length,by simp,aV _,h0⟩,?_⟩;rintro i m σ H ⟨rfl,hi,p⟩;have q:=hl i σ H hi p
 by_cases hlt:i<xs.length
 ·refine .inr ⟨⟨xs,xs[i],q,by simp[hlt]⟩,Pv (i+1),fun σ' H' p'=>⟨xs.length - (i+1),by omega,rfl,hlt,p'⟩,fun x H' y=>?_⟩
  obtain⟨e,y⟩:=y;subst e;exact hs i x σ _ (y xs q) p
 ·have e:i=xs.length:=by omega
  subst e;exact .inl ⟨⟨xs,q,ak _⟩,hd σ H p⟩
abbrev R2:=V->V->Hp->VK->Prop
def OpR(X:Cx)(f:Value->Value->Sem Value)(r:R2):Prop:=
 ∀(pins:fI)(s:Shared)(σ:St)(H:Hp)(x y:V)(v u:Value)(Q:VK),Inv X pins σ H s->RelV x v->RelV y u->r x y H Q->
  wpAny (model X.prog X.w) X.A (f v u) (EP X pins σ Q) X.xe s
def UnR(X:Cx)(f:Value->Sem Value)(r:V->Hp->VK->Prop):Prop:=
 ∀(pins:fI)(s:Shared)(σ:St)(H:Hp)(x:V)(v:Value)(Q:VK),Inv X pins σ H s->RelV x v->r x H Q->
  wpAny (model X.prog X.w) X.A (f v) (EP X pins σ Q) X.xe s
def CallR(X:Cx)(f:Value)(r:List V->Hp->VK->Prop):Prop:=
 ∀(pins:fI)(s:Shared)(σ:St)(H:Hp)(xs:List V)(us:fM)(Q:VK),Inv X pins σ H s->Vals xs us->r xs H Q->
  wpAny (model X.prog X.w) X.A (call f us) (EP X pins σ Q) X.xe s
def TruR(X:Cx)(r:V->Hp->(Bool->Hp->Prop)->Prop):Prop:=
 ∀(pins:fI)(s:Shared)(σ:St)(H:Hp)(x:V)(v:Value)(Q:Bool->Hp->Prop),Inv X pins σ H s->RelV x v->r x H Q->
  wpAny (model X.prog X.w) X.A (truthy v) (TP X pins σ Q) X.xe s
def tOp(r:R2)(ta tb:TE):TE:=fun σ H Q=>ta σ H fun x H1=>tb σ H1 fun y H2=>r x y H2 Q
def tUn(r:V->Hp->VK->Prop)(ta:TE):TE:=fun σ H Q=>ta σ H fun x H1=>r x H1 Q
def rI(C:Int->Int->Prop)(g:Int->Int->V):R2:=fun x y H Q=>∃i j,x=.int i/\y=.int j/\C i j/\Q (g i j) H
def rI0(g:Int->Int->V):R2:=fun x y H Q=>∃i j,x=.int i/\y=.int j/\Q (g i j) H
def rU(g:Int->V):V->Hp->VK->Prop:=fun x H Q=>∃i,x=.int i/\Q (g i) H
section
variable{X:Cx}{a b c:Expr}{ta tb tc:TE}{pos:Pos}
theorem binT(ha:PE X a ta)(hb:PE X b tb){σ:St}{R:V->V->Hp->Prop}(I:Inv X pins σ H s)
  (h:ta σ H fun x H1=>tb σ H1 fun y H2=>R x y H2)
  (hf:∀v u s2 x y H2,Inv X pins σ H2 s2->RelV x v->RelV y u->R x y H2->wpAny (model X.prog X.w) X.A (f v u) Q X.xe s2) :
  wpAny (model X.prog X.w) X.A (eval a X.env) (fun v s₁=>wpAny (model X.prog X.w) X.A (eval b X.env) (fun u s₂=>wpAny (model X.prog X.w) X.A (f v u) Q X.xe s₂) X.xe s₁) X.xe s:=by
 refine thn (ha pins s σ H _ I h) fun v s1⟨x,H1,I1,r1,q1⟩=>?_
 refine thn (hb pins s1 σ H1 _ I1 q1) fun u s2⟨y,H2,I2,r2,q2⟩=>?_
 exact hf v u s2 x y H2 I2 r1 r2 q2
theorem KR{op:Operator}{r:R2}(ho:OpR X (binaryOp op) r)(ha:PE X a ta)(hb:PE X b tb):PE X (.BinOp a op b pos) (tOp r ta tb):=by
 intro pins s σ H Q I h;exact wpAny_BinOp (binT ha hb I h fun v u s2 x y H2 I2 rx ry q=>ho pins s2 σ H2 x y v u Q I2 rx ry q)
theorem qcr{op:UnaryOp}{r:V->Hp->VK->Prop}(ho:UnR X (unaryOp op) r)(ha:PE X a ta):PE X (.UnaryOp op a pos) (tUn r ta):=by
 intro pins s σ H Q I h;exact UnaryOp_ (thn (ha pins s σ H _ I h) fun v s1⟨x,H1,I1,r1,q1⟩=>ho pins s1 σ H1 x v Q I1 r1 q1)
theorem opI{C:Int->Int->Prop}{g:Int->Int->Int}
  (rule:∀(i j:Int)(t u:Tok)(s:Shared)(Q:fJ)(E:fJ),C i j->Q (.int (g i j) s.toks) { s with toks:=s.toks+1 }->wpAny (model X.prog X.w) X.A (f (.int i t) (.int j u)) Q E s) :
  OpR X f (rI C fun i j=>.int (g i j)):=by
 intro pins s σ H x y v u Q I rx ry h;obtain⟨i,j,rfl,rfl,hc,q⟩:=h;obtain⟨t,rfl⟩:=rx;obtain⟨t',rfl⟩:=ry;exact rule i j t t' s _ _ hc ⟨.int (g i j),H,I.tok _,⟨_,rfl⟩,q⟩
theorem opI0{g:Int->Int->Int}
  (rule:∀(i j:Int)(t u:Tok)(s:Shared)(Q:fJ)(E:fJ),Q (.int (g i j) s.toks) { s with toks:=s.toks+1 }->wpAny (model X.prog X.w) X.A (f (.int i t) (.int j u)) Q E s) :
  OpR X f (rI0 fun i j=>.int (g i j)):=by
 intro pins s σ H x y v u Q I rx ry h;obtain⟨i,j,rfl,rfl,q⟩:=h;obtain⟨t,rfl⟩:=rx;obtain⟨t',rfl⟩:=ry;exact rule i j t t' s _ _ ⟨.int (g i j),H,I.tok _,⟨_,rfl⟩,q⟩
theorem opB0{g:Int->Int->Bool}
  (rule:∀(i j:Int)(t u:Tok)(s:Shared)(Q:fJ)(E:fJ),Q (.bool (g i j)) s->wpAny (model X.prog X.w) X.A (f (.int i t) (.int j u)) Q E s) :
  OpR X f (rI0 fun i j=>.bl (g i j)):=by
 intro pins s σ H x y v u Q I rx ry h;obtain⟨i,j,rfl,rfl,q⟩:=h;obtain⟨t,rfl⟩:=rx;obtain⟨t',rfl⟩:=ry;exact rule i j t t' s _ _ ⟨.bl (g i j),H,I,rfl,q⟩
def CDiv(i j:Int):Prop:=0<j/\j<1073741824
def CPow(i j:Int):Prop:=0<=j/\j<=1000000/\i.natAbs<2 ^ 64
def CMul(i j:Int):Prop:=(-(2 ^ 64)<i/\i<2 ^ 64)\/(-(2 ^ 64)<j/\j<2 ^ 64)
theorem CMul.ok{i j:Int}(h:CMul i j):IntMulOk i j:=by
 rcases h with⟨h1,h2⟩|⟨h1,h2⟩
 ·exact .of_left (intBits_le_64 h1 h2)
 ·exact .of_right (intBits_le_64 h1 h2)
theorem Jf:OpR X (binaryOp .Add) (rI0 fun i j=>.int (i+j)):=opI0 fun _ _ _ _ _ _ _ q=>add_int q
theorem Ql:OpR X (binaryOp .Sub) (rI0 fun i j=>.int (i - j)):=opI0 fun _ _ _ _ _ _ _ q=>sub_int q
theorem jv:OpR X (binaryOp .Mult) (rI CMul fun i j=>.int (i * j)):=opI fun _ _ _ _ _ _ _ hc q=>mul_int q hc.ok
theorem Zs:OpR X (binaryOp .FloorDiv) (rI CDiv fun i j=>.int (i / j)):=opI fun i j _ _ _ _ _ hc q=>by
 have h1:(0:Int)<j:=hc.1;have h2:j<1073741824:=hc.2;exact floordiv_int (by omega) (by rw[Int.fdiv_eq_ediv_of_nonneg i (by omega)];exact q) (.inl (PyProof.noPylong_small (by omega)))
theorem zB:OpR X (binaryOp .Mod) (rI (fun _ j=>0<j) fun i j=>.int (i % j)):=opI fun i j _ _ _ _ _ hc q=>by
 have h1:(0:Int)<j:=hc;exact mod_int' (by omega) (by rw[Int.fmod_eq_emod_of_nonneg i (by omega)];exact q)
theorem K0:OpR X (binaryOp .Pow) (rI CPow fun i j=>.int (i ^ j.toNat)):=opI fun _ _ _ _ _ _ _ hc q=>pow_int_small hc.1 hc.2.1 hc.2.2 q
theorem unI{f:Value->Sem Value}{g:Int->Int}
  (rule:∀(i:Int)(t:Tok)(s:Shared)(Q:fJ)(E:fJ),Q (.int (g i) s.toks) { s with toks:=s.toks+1 }->wpAny (model X.prog X.w) X.A (f (.int i t)) Q E s) :
  UnR X f (rU fun i=>.int (g i)):=by
 intro pins s σ H x v Q I rx h;obtain⟨i,rfl,q⟩:=h;obtain⟨t,rfl⟩:=rx;exact rule i t s _ _ ⟨.int (g i),H,I.tok _,⟨_,rfl⟩,q⟩
theorem uL:UnR X (unaryOp .USub) (rU fun i=>.int (-i)):=unI fun _ _ _ _ _ q=>neg_int q
end
def scal:V->V->Bool
 |.non,.non=>true|.non,.int _=>true|.int _,.non=>true|.non,.bl _=>true|.bl _,.non=>true|.non,.str _=>true|.str _,.non=>true
 |.int _,.int _=>true|.bl _,.bl _=>true|.str _,.str _=>true|.byt _,.byt _=>true
 |.int _,.str _=>true|.str _,.int _=>true|.bl _,.str _=>true|.str _,.bl _=>true
 |_,_=>false
def rEq:R2:=fun x y H Q=>scal x y=true/\Q (.bl (decide (x=y))) H
def rNe:R2:=fun x y H Q=>scal x y=true/\Q (.bl (!decide (x=y))) H
theorem V0{i j:Int}:decide (V.int i=V.int j)=(i == j):=by
 rw[cW];simp
theorem Ye{i j:Bool}:decide (V.bl i=V.bl j)=(i == j):=by
 rw[cW];simp
theorem VZ{i j:Str}:decide (V.str i=V.str j)=(i == j):=by
 rw[cW];simp
theorem V1{i j:Array UInt8}:decide (V.byt i=V.byt j)=(i.toList == j.toList):=by
 rw[cW];cases i;cases j;simp
section
variable{X:Cx}{a b c:Expr}{ta tb tc:TE}{pos:Pos}
theorem zp{σ:St}{Q:VK}{k k':Bool}(I:Inv X pins σ H s)(q:Q (.bl k) H)(e:k=k'):EP X pins σ Q (.bool k') s:=by
 subst e;exact⟨.bl k,H,I,rfl,q⟩
theorem Y0:OpR X (compareOp .Eq) rEq:=by
 intro pins s σ H x y v u Q I rx ry h;obtain⟨hs,q⟩:=h;cases x with
 |non=>
  cases rx;cases y with
  |non=>cases ry;exact PySem.EqNone.eq_none_none (zp I q (by simp))
  |bl j=>cases ry;exact PySem.EqNone.eq_none_bool (zp I q (by simp))
  |int j=>obtain⟨t',rfl⟩:=ry;exact PySem.EqNone.eq_none_int (zp I q (by simp))
  |str j=>obtain⟨t',rfl⟩:=ry;exact PySem.EqNone.eq_none_str (zp I q (by simp))
  |_=>exact absurd (show false=true from hs) aH
 |bl i=>
  cases rx;cases y with
  |non=>cases ry;exact PySem.EqNone.eq_bool_none (zp I q (by simp))
  |bl j=>cases ry;exact eq_bool (zp I q Ye)
  |str j=>obtain⟨t',rfl⟩:=ry;exact PySem.EqMixed.eq_bool_str (zp I q (by simp))
  |_=>exact absurd (show false=true from hs) aH
 |int i=>
  obtain⟨t,rfl⟩:=rx;cases y with
  |non=>cases ry;exact PySem.EqNone.eq_int_none (zp I q (by simp))
  |int j=>obtain⟨t',rfl⟩:=ry;exact eq_int (zp I q V0)
  |str j=>obtain⟨t',rfl⟩:=ry;exact PySem.EqMixed.eq_int_str (zp I q (by simp))
  |_=>exact absurd (show false=true from hs) aH
 |str i=>
  obtain⟨t,rfl⟩:=rx;cases y with
  |non=>cases ry;exact PySem.EqNone.eq_str_none (zp I q (by simp))
  |bl j=>cases ry;exact PySem.EqMixed.eq_str_bool (zp I q (by simp))
  |int j=>obtain⟨t',rfl⟩:=ry;exact PySem.EqMixed.eq_str_int (zp I q (by simp))
  |str j=>obtain⟨t',rfl⟩:=ry;exact eq_str (zp I q VZ)
  |_=>exact absurd (show false=true from hs) aH
 |byt i=>
  obtain⟨t,rfl⟩:=rx;cases y with
  |byt j=>obtain⟨t',rfl⟩:=ry;exact PySem.W.eq_bytes (zp I q V1)
  |_=>exact absurd (show false=true from hs) aH
 |_=>cases y <;> exact absurd (show false=true from hs) aH
theorem qcs:OpR X (compareOp .NotEq) rNe:=by
 intro pins s σ H x y v u Q I rx ry h;obtain⟨hs,q⟩:=h;cases x with
 |non=>
  cases rx;cases y with
  |non=>cases ry;exact PySem.EqNone.ne_none_none (zp I q (by simp))
  |bl j=>cases ry;exact PySem.EqNone.ne_none_bool (zp I q (by simp))
  |int j=>obtain⟨t',rfl⟩:=ry;exact PySem.EqNone.ne_none_int (zp I q (by simp))
  |str j=>obtain⟨t',rfl⟩:=ry;exact PySem.EqNone.ne_none_str (zp I q (by simp))
  |_=>exact absurd (show false=true from hs) aH
 |bl i=>
  cases rx;cases y with
  |non=>cases ry;exact PySem.EqNone.ne_bool_none (zp I q (by simp))
  |bl j=>cases ry;exact ne_bool (zp I q (bC not Ye))
  |str j=>obtain⟨t',rfl⟩:=ry;exact PySem.EqMixed.ne_bool_str (zp I q (by simp))
  |_=>exact absurd (show false=true from hs) aH
 |int i=>
  obtain⟨t,rfl⟩:=rx;cases y with
  |non=>cases ry;exact PySem.EqNone.ne_int_none (zp I q (by simp))
  |int j=>obtain⟨t',rfl⟩:=ry;exact ne_int (zp I q (bC not V0))
  |str j=>obtain⟨t',rfl⟩:=ry;exact PySem.EqMixed.ne_int_str (zp I q (by simp))
  |_=>exact absurd (show false=true from hs) aH
 |str i=>
  obtain⟨t,rfl⟩:=rx;cases y with
  |non=>cases ry;exact PySem.EqNone.ne_str_none (zp I q (by simp))
  |bl j=>cases ry;exact PySem.EqMixed.ne_str_bool (zp I q (by simp))
  |int j=>obtain⟨t',rfl⟩:=ry;exact PySem.EqMixed.ne_str_int (zp I q (by simp))
  |str j=>obtain⟨t',rfl⟩:=ry;exact ne_str (zp I q (bC not VZ))
  |_=>exact absurd (show false=true from hs) aH
 |byt i=>
  obtain⟨t,rfl⟩:=rx;cases y with
  |byt j=>obtain⟨t',rfl⟩:=ry;exact PySem.W.ne_bytes (zp I q (bC not V1))
  |_=>exact absurd (show false=true from hs) aH
 |_=>cases y <;> exact absurd (show false=true from hs) aH
theorem XZ:OpR X (compareOp .Lt) (rI0 fun i j=>.bl (decide (i<j))):=opB0 fun _ _ _ _ _ _ _ q=>lt_int q
theorem YZ:OpR X (compareOp .LtE) (rI0 fun i j=>.bl (decide (i<=j))):=opB0 fun _ _ _ _ _ _ _ q=>le_int q
theorem X0:OpR X (compareOp .Gt) (rI0 fun i j=>.bl (decide (j<i))):=opB0 fun _ _ _ _ _ _ _ q=>gt_int q
theorem K4:OpR X (compareOp .GtE) (rI0 fun i j=>.bl (decide (j<=i))):=opB0 fun _ _ _ _ _ _ _ q=>ge_int q
theorem Je:OpR X (compareOp .Is) (fun x y H Q=>y=.non/\Q (.bl (decide (x=.non))) H):=by
 intro pins s σ H x y v u Q I rx ry h;obtain⟨rfl,q⟩:=h;cases ry;refine is_none_gen (zp I q ?_);cases x <;> first
  |(cases rx;rfl)
  |(obtain⟨t,rfl⟩:=rx;rfl)
theorem YY:OpR X (compareOp .IsNot) (fun x y H Q=>y=.non/\Q (.bl (!decide (x=.non))) H):=by
 intro pins s σ H x y v u Q I rx ry h;obtain⟨rfl,q⟩:=h;cases ry;refine isnot_none_gen (zp I q ?_);cases x <;> first
  |(cases rx;rfl)
  |(obtain⟨t,rfl⟩:=rx;rfl)
theorem OpR.or{r r':R2}(h:OpR X f r)(h':OpR X f r'):OpR X f (fun x y H Q=>r x y H Q\/r' x y H Q):=by
 intro pins s σ H x y v u Q I rx ry q;rcases q with q|q
 ·exact h pins s σ H x y v u Q I rx ry q
 ·exact h' pins s σ H x y v u Q I rx ry q
theorem qR(b:Expr)(h:op≠.In:=by decide)(h2:op≠.NotIn:=by decide):behindInMarks op b=false:=by
 have e1:(op == CmpOp.In)=false:=by cases op <;> first|rfl|exact absurd rfl h
 have e2:(op == CmpOp.NotIn)=false:=by cases op <;> first|rfl|exact absurd rfl h2
 cases b <;> simp[behindInMarks,e1,e2]
theorem KW{r:R2}(ho:OpR X (compareOp op) r)(ha:PE X a ta)(hb:PE X b tb)(hm:behindInMarks op b=false):PE X (.Compare a [op] [b] pos) (tOp r ta tb):=by
 intro pins s σ H Q I h;exact wpAny_Compare1 (binT ha hb I h fun v u s2 x y H2 I2 rx ry q=>ho pins s2 σ H2 x y v u Q I2 rx ry q) hm
def qcc(t:TE):TT:=fun σ H Q=>t σ H fun x H'=>∃k,x=.bl k/\Q k H'
theorem jl{r:R2}(ho:OpR X (compareOp op) r)(ha:PE X a ta)(hb:PE X b tb)(hm:behindInMarks op b=false):PT X (.Compare a [op] [b] pos) (qcc (tOp r ta tb)):=by
 intro pins s σ H Q I h;refine wpAny_isTrue_Compare1 (thn (ha pins s σ H _ I h) fun v s1⟨x,H1,I1,r1,q1⟩=>thn (hb pins s1 σ H1 _ I1 q1) fun u s2⟨y,H2,I2,r2,q2⟩=>
  thn (ho pins s2 σ H2 x y v u _ I2 r1 r2 q2) fun c s3⟨z,H3,I3,r3,k,e,q3⟩=>?_) hm
 subst e;cases r3;exact cv ⟨H3,I3,q3⟩
def TruV(K:fH)(x:V)(H:Hp)(k:Bool):Prop:=
 match x with
 |.non=>k=false
 |.bl b=>k=b
 |.int i=>k=(i != 0)
 |.str y=>y.length<=sizeLine/\k=((y.length:Int) != 0)
 |.byt y=>y.size<=sizeLine/\k=((y.size:Int) != 0)
 |.ref p=>(∃xs,SqL K H p xs/\k=!xs.isEmpty)\/(∃xs,SqT K H p xs/\k=!xs.isEmpty)\/∃kvs,H p=some (.dK kvs)/\k=!kvs.isEmpty
 |_=>False
theorem JX{κ:Type}{kvs:List (κ×V)}{vs:List (κ×Value)}(r:KV kvs vs):(!vs.isEmpty)=!kvs.isEmpty:=by
 cases r <;> rfl
theorem wL{xs:List V}{its:fM}(r:Vals xs its):(!its.toArray.isEmpty)=!xs.isEmpty:=by
 cases r <;> simp
theorem xf:(sizeLine:Nat)<2 ^ 63:=by rw[bK];decide
theorem zJ:TruR X (fun x H Q=>∃k,TruV X.K x H k/\Q k H):=by
 intro pins s σ H x v Q I rx h;obtain⟨k,e,q⟩:=h;have hl:=xf;have hs:sizeLine=16777216:=bK;cases x with
 |non=>
  cases rx;have e':k=false:=e;subst e';exact truthy_none ⟨H,I,q⟩
 |bl b=>
  cases rx;have e':k=b:=e;subst e';exact cv ⟨H,I,q⟩
 |int i=>
  obtain⟨t,rfl⟩:=rx;have e':k=(i != 0):=e;subst e';exact PySem.P.truthy_int ⟨H,I,q⟩
 |str y=>
  obtain⟨t,rfl⟩:=rx;obtain⟨hy,e'⟩:y.length<=sizeLine/\k=((y.length:Int) != 0):=e;subst e';exact PySem.P.truthy_str (by omega) ⟨H,I.tok _,q⟩
 |byt y=>
  obtain⟨t,rfl⟩:=rx;obtain⟨hy,e'⟩:y.size<=sizeLine/\k=((y.size:Int) != 0):=e;subst e';exact PySem.W.truthy_bytes (by omega) ⟨H,I.tok _,q⟩
 |ref p=>
  cases rx;have e':(∃xs,SqL X.K H p xs/\k=!xs.isEmpty)\/(∃xs,SqT X.K H p xs/\k=!xs.isEmpty)\/∃kvs,H p=some (.dK kvs)/\k=!kvs.isEmpty:=e;rcases e' with⟨xs,hx,e'⟩|⟨xs,hx,e'⟩|⟨kvs,hx,e'⟩
  ·subst e'
   obtain⟨its,r,pl,hz⟩:=I.list hx;have hlen:=r.length;exact wpAny_truthy_list pl.isList (by simp only[ah];omega) ⟨H,I.tok _,by rw[wL r];exact q⟩
  ·subst e'
   obtain⟨its,r,pl,hz⟩:=I.tuple hx;have hlen:=r.length;exact truthy_tuple pl (by simp only[ah];omega) ⟨H,I.tok _,by rw[wL r];exact q⟩
  ·subst e'
   obtain⟨hz,hS,vs,r,m⟩:kvs.length<=sizeLine/\(p == sysModules)=false/\∃vs,KV kvs vs/\s.heap.DictOf (zf X.prog X.w) p vs:=I.hok p _ hx;have hlen:kvs.length=vs.length:=cH r;exact wpAny_truthy_dict hS m (by omega) ⟨H,I.tok _,by rw[JX r];exact q⟩
 |_=>exact(show False from e).elim
theorem Z8(ha:PE X a ta)(he:∀whole,isTrue a X.env whole=(do let v <- whole;standAt a.pos;holding [v] (truthy v))) :
  PT X a (fun σ H Q=>ta σ H fun x H'=>∃k,TruV X.K x H' k/\Q k H'):=by
 intro pins s σ H Q I h;exact isTrue_plain (thn (ha pins s σ H _ I h) fun v s1⟨x,H1,I1,r1,q1⟩=>zJ pins s1 σ H1 x v Q I1 r1 q1) (he _)
theorem JO:OpR X (binaryOp .Add) (fun x y H Q=>∃i j,x=.str i/\y=.str j/\i.length+j.length<=sizeLine/\Q (.str (i++j)) H):=by
 intro pins s σ H x y v u Q I rx ry h;obtain⟨i,j,rfl,rfl,hz,q⟩:=h;obtain⟨t,rfl⟩:=rx;obtain⟨t',rfl⟩:=ry;exact add_str (fun t' tk=>⟨.str (i++j),H,I.tok _,⟨_,rfl⟩,q⟩) hz
theorem eW{x:V}(r:Vals [x] us):∃u,us=[u]/\RelV x u:=by
 cases r with
 |cons r1 r2=>cases r2;exact⟨_,rfl,r1⟩
theorem vals2{x y:V}(r:Vals [x,y] us):∃u w',us=[u,w']/\RelV x u/\RelV y w':=by
 cases r with
 |cons r1 r2=>
  cases r2 with
  |cons r3 r4=>cases r4;exact⟨_,_,rfl,r1,r3⟩
theorem Xc(hc:X.calm=true):CallR X (.builtin "min") (fun xs H Q=>∃i j,xs=[.int i,.int j]/\Q (.int (if j<i then j else i)) H):=by
 intro pins s σ H xs us Q I r h;obtain⟨i,j,rfl,q⟩:=h;obtain⟨u,w',rfl,⟨t,rfl⟩,⟨t',rfl⟩⟩:=vals2 r;refine min_two_ints (I.ok.hd hc) fun h' tk k=>⟨_,H,I.kept k,?_,q⟩
 by_cases hj:j<i
 ·rw[aF hj,aF hj];exact⟨_,rfl⟩
 ·rw[aG hj,aG hj];exact⟨_,rfl⟩
theorem Xf:CallR X (.type "int") (fun xs H Q=>(∃i,xs=[.int i]/\Q (.int i) H)\/∃k,xs=[.bl k]/\Q (.int (if k then 1 else 0)) H):=by
 intro pins s σ H xs us Q I r h;rcases h with⟨i,rfl,q⟩|⟨k,rfl,q⟩
 ·obtain⟨u,rfl,t,rfl⟩:=eW r
  exact call_int_int ⟨.int i,H,I,⟨_,rfl⟩,q⟩
 ·obtain⟨u,rfl,r1⟩:=eW r
  cases r1;exact call_int_bool ⟨.int (if k then 1 else 0),H,I.tok _,⟨_,rfl⟩,q⟩
def LenV(K:fH)(x:V)(H:Hp)(n:Nat):Prop:=
 match x with
 |.str y=>y.length<=sizeLine/\n=y.length
 |.byt y=>y.size<=sizeLine/\n=y.size
 |.ref p=>(∃xs,SqL K H p xs/\n=xs.length)\/∃xs,SqT K H p xs/\n=xs.length
 |_=>False
theorem WE:CallR X (.builtin "len") (fun xs H Q=>∃x n,xs=[x]/\LenV X.K x H n/\Q (.int n) H):=by
 intro pins s σ H xs us Q I r h;obtain⟨x,n,rfl,e,q⟩:=h;obtain⟨u,rfl,rx⟩:=eW r;have hl:=xf;have hs:sizeLine=16777216:=bK;cases x with
 |str y=>
  obtain⟨t,rfl⟩:=rx;obtain⟨hy,e'⟩:y.length<=sizeLine/\n=y.length:=e;subst e';exact len_str (by omega) ⟨.int _,H,I.tok _,⟨_,rfl⟩,q⟩
 |byt y=>
  obtain⟨t,rfl⟩:=rx;obtain⟨hy,e'⟩:y.size<=sizeLine/\n=y.size:=e;subst e';exact PySem.W.len_bytes (by omega) ⟨.int _,H,I.tok _,⟨_,rfl⟩,q⟩
 |ref p=>
  cases rx;have e':(∃xs,SqL X.K H p xs/\n=xs.length)\/∃xs,SqT X.K H p xs/\n=xs.length:=e;rcases e' with⟨xs,hx,e'⟩|⟨xs,hx,e'⟩
  ·subst e'
   obtain⟨its,r',pl,hz⟩:=I.list hx;have hlen:=r'.length;exact Calls.call_len_list pl.isList (by simp only[ah];omega) ⟨.int xs.length,H,I.tok _,⟨_,by simp only[ah];rw[hlen]⟩,q⟩
  ·subst e'
   obtain⟨its,r',pl,hz⟩:=I.tuple hx;have hlen:=r'.length;exact len_tuple pl (by simp only[ah];omega) ⟨.int xs.length,H,I.tok _,⟨_,by simp only[ah];rw[hlen]⟩,q⟩
 |_=>exact(show False from e).elim
end
structure ObjM(h:Heap)(x dx C:Addr)(mA:fK):Prop where
 obj:h.get? x=some (PySem.W.instObj C dx)
 ns:h.Ns1 dx mA
 ne:dx≠x
theorem Vl(n:h.Ns1 dx mA):∃od,h.get? dx=some od/\∀name,PySem.W.lookIn name od=some (mA name):=by
 obtain⟨o,es,ep,ho,hd,hk,_,hm⟩:=n;refine⟨o,ho,fun name=>?_⟩;have e:=hm name;unfold nsFind findBy at e;rw[<- Array.find?_toList]at e;unfold PySem.W.lookIn;rw[hd];dsimp only
 split
 ·rename_i y q
  rw[q]at e;exact bC some e
 ·rename_i q
  rw[q]at e;have a:es.toList.any (·.refKey)=false:=by
   rw[List.any_eq_false];intro y hy;obtain⟨z,t,hkey⟩:=hk y (Array.mem_toList_iff.mp hy);simp[DictEntry.refKey,hkey]
  have a':¬ es.toList.any (·.refKey)=true:=by rw[a];exact aH
  rw[aG a'];exact bC some e
theorem ObjM.look{x:Addr}(I:ObjM h x dx C mA):∃od,PySem.W.InstAt h x (PySem.W.instObj C dx) C (some od)/\∀name,PySem.W.lookIn name od=some (mA name):=
 let⟨od,ho,hl⟩:=Vl I.ns
 ⟨od,⟨I.obj,rfl,rfl,ho⟩,hl⟩
section
variable{prog:Program}{w:World}{A:Around}{E:fJ}{s:Shared}{K:fH}{x dx C f:Addr}{mA:fK}{name:Str}{v:Value}
end
theorem RelO.some_of{o:Option Value}(r:RelO (some v) o):∃u,o=some u/\RelV v u:=by
 cases o with
 |none=>exact(show False from r).elim
 |some u=>exact⟨u,rfl,r⟩
section
variable{P:Program}{w:World}{H H':Hp}{h h':Heap}{a C dx:Addr}{fs fs':List (Str×V)}
theorem ul(hok:HOk P w H h)(e:H a=some (.ins C dx fs)):∃mA,ObjM h a dx C mA/\(∀f,RelO (fs.lookup f) (mA f))/\PySem.Within mA (fs.map (·.1))/\fs.length<=1000/\H dx=some (.own a):=by
 obtain⟨d,z,ne,ob,mA,n,r,q⟩:=(show ObjOk P w H h a (.ins C dx fs)from hok a _ e);exact⟨mA,⟨ob,n,ne⟩,r,q,z,d⟩
end
structure Cls(K:fH)(C:Addr):Prop where
 pg:PySem.W.plainGet K C Str.empty=true
 hd:PySem.W.hasDictIn K C=true
 po:PySem.W.plainOver K C=true
 sa:PySem.W.findIn K (.ref C) "__setattr__"=some (some (.builtin "object.__setattr__"))
theorem Cls.get(c:Cls K C)(f:Str):PySem.W.plainGet K C f=true:=c.pg
section
variable{X:Cx}{pins:fI}{σ:St}{H:Hp}{s:Shared}{a C dx:Addr}{fs:List (Str×V)}{f:Str}{v:V}{A:Around}{E:fJ}
end
section
variable{X:Cx}{o e value:Expr}{f:Str}{pos pos' tpos:Pos}{ta tv:TE}
end
section
variable{X:Cx}{pins:fI}{σ:St}{H:Hp}{s:Shared}{A:Around}{E:fJ}{Q:fJ}{c:Value}{b:Bool}
inductive TyOf(K:fH)(H:Hp):V->Value->Prop where
 |non:TyOf K H .non (.type "NoneType")
 |bl (x:Bool):TyOf K H (.bl x) (.type "bool")
 |int (i:Int):TyOf K H (.int i) (.type "int")
 |str (x:Str):TyOf K H (.str x) (.type "str")
 |flt (x:UInt64):TyOf K H (.flt x) (.type "float")
 |lst {a:Addr} {xs:List V} (e:H a=some (.lst xs)):TyOf K H (.ref a) (.type "list")
 |frz {a:Addr} {o:Obj} {xs:List V} (e:H a=some (.frz o (.lst xs))):TyOf K H (.ref a) (.type "list")
 |tup {a:Addr} {xs:List V} (e:H a=some (.tup xs)):TyOf K H (.ref a) (.type "tuple")
 |dK {a:Addr} {kvs:List (Key×V)} (e:H a=some (.dK kvs)):TyOf K H (.ref a) (.type "dict")
 |dT {a:Addr} {kvs:List (List Key×V)} (e:H a=some (.dT kvs)):TyOf K H (.ref a) (.type "dict")
 |ins {a C dx:Addr} {fs:List (Str×V)} (e:H a=some (.ins C dx fs)) (cl:Cls K C) (ha:PySem.W.findIn K (.ref C) "__class__"=some (some (.builtin "object.__class__")))
   (hn:PySem.W.specialIn K (.builtin "object.__class__") "__get__"=some (some (.builtin "getset_descriptor.__get__"))) (htk:PySem.W.takesIn K (.builtin "object.__class__")=some true)
   (hm:PySem.W.mroIn K C (.type "object")=some true):TyOf K H (.ref a) (.ref C)
theorem Vz{x:V}{t:Value}(I:Inv X pins σ H s)(rx:RelV x u)(ty:TyOf X.K H x t)(e:PySem.W.kitOne X.K t c=some b)(h:∀tk,Q (.bool b) { s with toks:=tk }) :
  wpAny (model X.prog X.w) A (call (.builtin "isinstance") [u,c]) Q E s:=by
 cases ty with
 |non=>cases (show u=Value.none from rx);exact bM PySem.W.kitx_none I.kIn True.intro e (fun z=>nomatch z) h
 |bl y=>cases (show u=Value.bool y from rx);exact bM PySem.W.kitx_bool I.kIn True.intro e (fun z=>nomatch z) h
 |int i=>obtain⟨t,q⟩:=(show ∃t,u=Value.int i t from rx);cases q;exact bM PySem.W.kitx_int I.kIn True.intro e (fun z=>nomatch z) h
 |str y=>obtain⟨t,q⟩:=(show ∃t,u=Value.str y t from rx);cases q;exact bM PySem.W.kitx_str I.kIn True.intro e (fun z=>nomatch z) h
 |flt y=>obtain⟨t,q⟩:=(show ∃t,u=Value.float y t from rx);cases q;exact bM PySem.W.kitx_float I.kIn True.intro e (fun z=>nomatch z) h
 |@lst a xs ea=>
  cases (show u=Value.ref a from rx);obtain⟨_,_,n,_,h1⟩:=(show ObjOk X.prog X.w H s.heap a (.lst xs)from I.hok a _ ea);exact bM dD I.kIn ⟨_,h1,rfl⟩ e (fun z=>nomatch z) h
 |@frz a ob xs ea=>
  cases (show u=Value.ref a from rx);obtain⟨_,_,_,n,_,h1⟩:=(show ObjOk X.prog X.w H s.heap a (.frz ob (.lst xs))from I.hok a _ ea);exact bM dD I.kIn ⟨_,h1,rfl⟩ e (fun z=>nomatch z) h
 |@tup a xs ea=>
  cases (show u=Value.ref a from rx);obtain⟨_,_,_,p⟩:=(show ObjOk X.prog X.w H s.heap a (.tup xs)from I.hok a _ ea);obtain⟨o,h1,h2,_⟩:=p;exact bM PySem.W.kitx_tuple I.kIn ⟨o,h1,h2⟩ e (fun z=>nomatch z) h
 |@dK a kvs ea=>
  cases (show u=Value.ref a from rx);obtain⟨_,_,vs,_,p⟩:=(show ObjOk X.prog X.w H s.heap a (.dK kvs)from I.hok a _ ea);obtain⟨o,es,ep,h1,h2,_⟩:=p;exact bM dE I.kIn ⟨o,h1,h2.1⟩ e (fun z=>nomatch z) h
 |@dT a kvs ea=>
  cases (show u=Value.ref a from rx);obtain⟨_,_,xs,_,o,es,ep,h1,h2,_⟩:=(show ObjOk X.prog X.w H s.heap a (.dT kvs)from I.hok a _ ea);exact bM dE I.kIn ⟨o,h1,h2.1⟩ e (fun z=>nomatch z) h
 |@ins a C dx fs ea cl ha hn htk hm=>
  cases (show u=Value.ref a from rx);obtain⟨mA,O,_⟩:=ul I.hok ea;obtain⟨od,J,_⟩:=O.look;exact bM (PySem.W.kitx_own (cl.get _) cl.hd ha hn htk hm) I.kIn J e (fun z=>nomatch z) h
end
structure Room(k:Nat)(A:Around):Prop where
 hd:A.handled=none
 dp:A.depth+3 * k+5<recursionLimit
 un:A.units+16 * k+200<cLine
theorem Room.mono{k:Nat}(r:Room k A)(h:j<=k):Room j A:=⟨r.hd,by have:=r.dp;omega,by have:=r.un;omega⟩
theorem Room.deeper{k:Nat}{A:Around}(r:Room (k+1) A)(env:Env):Room k (A.deeper env):=
 ⟨r.hd,by have:=r.dp;show A.depth+1+3 * k+5<_;omega,by have:=r.un;show A.units+3+16 * k+200<_;omega⟩
theorem Room.depth{k:Nat}{A:Around}(r:Room k A):A.depth<recursionLimit:=by have:=r.dp;omega
theorem Room.units{k:Nat}{A:Around}(r:Room k A):A.units+64<cLine:=by have:=r.un;omega
def tNil:TA:=fun _ H Q=>Q [] H
def Xy(ta:TE)(tr:TA):TA:=fun σ H Q=>ta σ H fun x H1=>tr σ H1 fun xs H2=>Q (x::xs) H2
section
variable{X:Cx}{e:Expr}{es:fQ}{te:TE}{t:TA}{pos:Pos}
theorem zx:PA X [] tNil:=fun _ _ _ _ H Q I h=>Calls.spliced_nil ⟨[],H,I,.nil,h⟩
theorem qA(ha:PE X e te)(hr:PA X es t)(hs:starEach (e::es) X.env=(false,eval e X.env)::starEach es X.env:=by rfl):PA X (e::es) (Xy te t):=by
 intro pos pins s σ H Q I h;rw[hs];show wpAny _ _ (spliced ((false,eval e X.env)::backTo pos (starEach es X.env))) _ _ s;refine eK (thn (ha pins s σ H _ I h) fun u s1⟨x,H1,I1,r1,q1⟩=>?_);exact thn (hr pos pins s1 σ H1 _ I1 q1) fun us s2⟨xs,H2,I2,r2,q2⟩=>⟨x::xs,H2,I2,.cons r1 r2,q2⟩
def tTup(t:TA):TE:=fun σ H Q=>t σ H fun xs H1=>xs.length<=sizeLine/\∀p,H1 p=none->Q (.ref p) (upd H1 p (.tup xs))
def tLst(t:TA):TE:=fun σ H Q=>t σ H fun xs H1=>xs.length<=sizeLine/\∀p,H1 p=none->Q (.ref p) (upd H1 p (.lst xs))
theorem KN{x1}(h:PA X es t):PE X (.Tuple es x1 pos) (tTup t):=by
 intro pins s σ H Q I hq;refine wpAny_Tuple_spliced (thn (h pos pins s σ H _ I hq) fun us s1⟨xs,H1,I1,r,z,q⟩=>⟨by rw[<- r.length];exact z,?_⟩);have hf:H1 s1.heap.objs.size=none:=I1.hok.fresh (ak _);refine⟨.ref s1.heap.objs.size,upd H1 s1.heap.objs.size (.tup xs),I1.laid (t':=s1.toks) (fun b u e=>ae _ e) (ak _) ?_,rfl,q _ hf⟩;exact⟨z,us,r,⟨_,aB _ rfl,rfl,_,rfl⟩⟩
theorem qao(h:PA X es t):PE X (.List es pos) (tLst t):=by
 intro pins s σ H Q I hq;refine wpAny_List_spliced (thn (h pos pins s σ H _ I hq) fun us s1⟨xs,H1,I1,r,z,q⟩=>⟨by rw[<- r.length];exact z,?_⟩);have hf:H1 s1.heap.objs.size=none:=I1.hok.fresh (ak _);refine⟨.ref s1.heap.objs.size,upd H1 s1.heap.objs.size (.lst xs),I1.laid (t':=s1.toks) (fun b u e=>ae _ e) (ak _) ?_,rfl,q _ hf⟩;exact⟨z,us,0,r,aB _ rfl⟩
end
abbrev Sp:=List V->Hp->VK->XK->Prop
abbrev CXT:=List Env->Hp->Shared->XK->fJ
structure Env0(P:Program)(w:World)(K:fH)(mg:fK)(base:Heap)(A:Around)(outer:List Env)(s:Shared)(H:Hp):Prop where
 frames:A.frames=some outer
 mod:Mod K mg base
 bs:∀b o,base.get? b=some o->s.heap.get? b=some o/\H b=none
 bsz:base.objs.size<=s.heap.objs.size
 funs:s.heap.FunFrames base outer
 frf:∀b∈frs outer,H b=none
 hok:HOk P w H s.heap
 bare:AllBare s.gens
def CE(outer:List Env)(P:Program)(w:World)(H:Hp)(s:Shared)(Q:VK)(u:Value)(s':Shared):Prop:=
 ∃v H',s'.os=s.os/\AllBare s'.gens/\Un (frs outer) [] H H' s.heap s'.heap/\HOk P w H' s'.heap/\RelV v u/\Q v H'
def CR(CX:CXT)(outer:List Env)(P:Program)(w:World)(H:Hp)(s:Shared)(Q:VK)(E:XK)(r:Result)(s':Shared):Prop:=
 match r with
 |.ok (.ret u)=>CE outer P w H s Q u s'
 |.ok _=>False
 |.error e=>CX outer H s E e s'
structure FnOk(P:Program)(w:World)(K:fH)(mg:fK)(base:Heap)(CX:CXT)(k:Nat)(f:Addr)(fd:FuncData)(ps:fP)(sp:Sp):Prop where
 len:∀vs H Q E,sp vs H Q E->vs.length=ps.length
 run:∀(A:Around)(outer:List Env)(s:Shared)(H:Hp)(args:Args)(us:fM)(vs:List V)(Q:VK)(E:XK),Room k A->Env0 P w K mg base A outer s H->BindsTo s fd args (ps.zip us)->Vals vs us->sp vs H Q E->
  codeAny (model P w) A (.call (.ref f) args) (CR CX outer P w H s Q E) s
theorem FnOk.imp{k:Nat}{f:Addr}{sp':Sp}(F:FnOk P w K mg base CX k f fd ps sp)
  (h:∀vs H Q E,sp' vs H Q E->sp vs H Q E):FnOk P w K mg base CX k f fd ps sp':=
 ⟨fun vs H Q E q=>F.len vs H Q E (h _ _ _ _ q),fun A outer s H args us vs Q E hr he hb hv hs=>F.run A outer s H args us vs Q E hr he hb hv (h _ _ _ _ hs)⟩
section
variable{X:Cx}{pins:fI}{σ:St}{H:Hp}{s s':Shared}
theorem Inv.env0(I:Inv X pins σ H s):Env0 X.prog X.w X.K X.mg X.base X.A X.stack s H:=
 ⟨I.ok.frames,I.ok.mod,I.bs,bj I.ok.bsz I.sz,I.stack,I.stkFree,I.hok,I.bare⟩
theorem Inv.after{Q:VK}(I:Inv X pins σ H s)(h:CE X.stack X.prog X.w H s Q u s'):EP X pins σ Q u s':=by
 obtain⟨v,H',os,bare,un,hok,r,q⟩:=h;obtain⟨hh,g,d,t,os'⟩:=s';obtain rfl:os'=s.os:=os;exact⟨v,H',I.call (h':=hh) (g':=g) (d':=d) (t':=t) (ch:=[]) un hok bare (fun b z=>absurd z (by simp)),r,q⟩
end
def qci(sp:Sp)(dvs:List V)(E:XK)(t:TA):TE:=fun σ H Q=>t σ H fun vs H1=>sp (vs++dvs) H1 Q E
def Binds(K:fH)(fd:FuncData)(ps:fP)(ds:fM):Prop:=
 ∀(s:Shared)(us:fM),K.In s.heap->(us++ds).length=ps.length->BindsTo s fd ⟨us,[]⟩ (ps.zip (us++ds))
theorem Binds.all(h:∀us:fM,us.length=ps.length->bindArgs fd ⟨us,[]⟩=pure (ps.zip us)):Binds K fd ps []:=fun s us _ hl=>by
 rw[c9]at hl ⊢;exact .of_eq (h us hl)
def Xs(CX:CXT)(X:Cx)(E:XK):Prop:=∀(pins:fI)(σ:St)(H:Hp)(s:Shared)(e:Value)(s':Shared),Inv X pins σ H s->CX X.stack H s E e s'->X.xe e s'
section
variable{X:Cx}{CX:CXT}{k:Nat}{f C:Addr}{fd:FuncData}{ps:fP}{sp:Sp}{dvs:List V}{ds:fM}{E:XK}{x m:Str}{p pos apos:Pos}{e o:Expr}{es:fQ}{ta:TE}{t:TA}
theorem uY{σ:St}{Q:VK}(F:FnOk X.prog X.w X.K X.mg X.base CX k f fd ps sp)(hr:Room k X.A)(hb:Binds X.K fd ps ds)(hd:Vals dvs ds)(hx:Xs CX X E)
  (I:Inv X pins σ H s)(r:Vals vs us)(h:sp (vs++dvs) H Q E):wpAny (model X.prog X.w) X.A (call (.ref f) us) (EP X pins σ Q) X.xe s:=by
 have r2:Vals (vs++dvs) (us++ds):=r.append hd;have hl:(us++ds).length=ps.length:=by rw[<- r2.length];exact F.len _ _ _ _ h
 refine wpAny_call (eL (F.run X.A X.stack s H ⟨us,[]⟩ (us++ds) (vs++dvs) Q E hr I.env0 (hb s us I.kIn hl) r2 h) fun r s' hq=>?_);cases r with
 |error e=>exact hx pins σ H s e s' I hq
 |ok fl=>
  cases fl with
  |ret u=>exact I.after hq
  |next=>exact False.elim hq
  |brk=>exact False.elim hq
  |cont=>exact False.elim hq
theorem jH(F:FnOk X.prog X.w X.K X.mg X.base CX k f fd ps sp)(hr:Room k X.A)(hg:Gl X x)(hm:X.mg x=some (.ref f))(hk:PySem.W.keepIn X.K (.ref f)=true)(hb:Binds X.K fd ps ds)(hd:Vals dvs ds)(hx:Xs CX X E)
  (ha:PA X (e::es) t)(hdb:(x == ("__debug__":Str))=false:=by decide)(he:starEach (e::es) X.env=(false,eval e X.env)::starEach es X.env:=by rfl)(hpl:(backTo pos (starEach es X.env)).any (·.1)=false:=by rfl) :
  PE X (.Call (.Name x p) (e::es) [] pos) (qci sp dvs E t):=by
 intro pins s σ H Q I h;refine cy (Vn I hg hm ?_ hdb);refine PySem.W.callWith_K (h₀:=X.base) I.ok.mod.kin hk (thn (ha pos pins s σ H _ I h) fun us s1⟨vs,H1,I1,r,q⟩=>⟨I1.kIn,?_⟩) he hpl;exact uY F hr hb hd hx I1 r q
structure Mk(K:fH)(C f:Addr):Prop where
 makes:PySem.W.makesIn K C=true
 init:PySem.W.findIn K (.ref C) "__init__"=some (some (.ref f))
 fn:PySem.W.isFn K (.ref f)=true
 kp:PySem.W.keepIn K (.ref C)=true
end
def PK(X:Cx)(kws:List Keyword)(t:TA):Prop:=
 ∀(pos:Pos)(pins:fI)(s:Shared)(σ:St)(H:Hp)(Q:List V->Hp->Prop),Inv X pins σ H s->t σ H Q->wpAny (model X.prog X.w) X.A (evalAll ((backToKw pos (keywordEach kws X.env)).map (·.2))) (AP X pins σ Q) X.xe s
section
variable{X:Cx}{CX:CXT}{k:Nat}{f C:Addr}{fd:FuncData}{ps ks:fP}{sp:Sp}{E:XK}{x m:Str}{p pos apos kpos:Pos}{e o:Expr}{es:fQ}{kws:List Keyword}{te ta:TE}{t tk:TA}{nm:Option Str}
theorem KJ:PK X [] tNil:=fun _ _ _ _ H Q I h=>wpAny_evalAll_nil ⟨[],H,I,.nil,h⟩
theorem yi(ha:PE X e te)(hr:PK X kws t):PK X (⟨nm,e,kpos⟩::kws) (Xy te t):=by
 intro pos pins s σ H Q I h;show wpAny _ _ (evalAll ((do let v <- eval e X.env;standAt pos;pure v)::(backToKw pos (keywordEach kws X.env)).map (·.2))) _ _ s;refine wpAny_evalAll_cons (af (thn (ha pins s σ H _ I h) fun u s1⟨x,H1,I1,r1,q1⟩=>af (d0 (aw ?_))));exact thn (hr pos pins s1 σ H1 _ I1 q1) fun us s2⟨xs,H2,I2,r2,q2⟩=>⟨x::xs,H2,I2,.cons r1 r2,q2⟩
variable{g:fM->fM->fM}{gV:List V->List V->List V}
end
structure FnScope(N P:fP)(sc:Scope):Prop where
 kind:sc.kind=.function
 co:sc.isCoroutine=false
 gen:sc.isGenerator=false
 nd:N.Nodup
 pre:N.take P.length=P
 par:∀x∈P,sc.names.lookup x=some .local\/sc.names.lookup x=some .cell
 nofree:∀y∈sc.names,y.2≠.free
theorem Q0{kindOf:Str->Option NameKind}{x:Str}:∀{binds:List (Str×Value)}{m:fK},(∀v,(x,v)∉binds)->bindL kindOf binds m x=m x
 |[],_,_=>rfl
 |(n,v)::r,m,h=>by
  unfold bindL;rw[Q0 fun w hw=>h w (av _ hw)]
  split
  ·have:x≠n:=by rintro rfl;exact h v ar
   simp[this]
  ·rfl
theorem Q3{kindOf:Str->Option NameKind}{x:Str}:∀{binds:List (Str×Value)}{m:fK},(∀v,(x,v)∉binds)->bindC kindOf binds m x=m x
 |[],_,_=>rfl
 |(n,v)::r,m,h=>by
  unfold bindC;rw[Q3 fun w hw=>h w (av _ hw)]
  split
  ·rfl
  ·have:x≠n:=by rintro rfl;exact h v ar
   simp[this]
theorem Q2{kindOf:Str->Option NameKind}{x:Str}{v:Value}:∀{P:fP}{vs:fM}{i:Nat}{m:fK},P.Nodup->P[i]?=some x->vs[i]?=some v->kindOf x=some .local->
  bindL kindOf (P.zip vs) m x=some v
 |[],_,_,_,_,h,_,_=>by simp at h
 |_::_,[],_,_,_,_,h,_=>by simp at h
 |p::P,w::vs,0,m,nd,h1,h2,hk=>by
  simp at h1 h2;subst h1;subst h2;show bindL kindOf ((p,w)::P.zip vs) m p=_;unfold bindL;rw[Q0 fun v hv=>(bE.mp nd).1 (fm hv).1,aF hk];simp
 |p::P,w::vs,i+1,m,nd,h1,h2,hk=>by
  show bindL kindOf ((p,w)::P.zip vs) m x=_;unfold bindL;exact Q2 (i:=i) (bE.mp nd).2 (by simpa using h1) (by simpa using h2) hk
theorem Q5{kindOf:Str->Option NameKind}{x:Str}{v:Value}:∀{P:fP}{vs:fM}{i:Nat}{m:fK},P.Nodup->P[i]?=some x->vs[i]?=some v->kindOf x≠some .local->
  bindC kindOf (P.zip vs) m x=some v
 |[],_,_,_,_,h,_,_=>by simp at h
 |_::_,[],_,_,_,_,h,_=>by simp at h
 |p::P,w::vs,0,m,nd,h1,h2,hk=>by
  simp at h1 h2;subst h1;subst h2;show bindC kindOf ((p,w)::P.zip vs) m p=_;unfold bindC;rw[Q3 fun v hv=>(bE.mp nd).1 (fm hv).1,aG hk];simp
 |p::P,w::vs,i+1,m,nd,h1,h2,hk=>by
  show bindC kindOf ((p,w)::P.zip vs) m x=_;unfold bindC;exact Q5 (i:=i) (bE.mp nd).2 (by simpa using h1) (by simpa using h2) hk
def start(N:fP)(vs:List V):St:=vs.map some++List.replicate (N.length - vs.length) none
def cxOf(CX:CXT)(P:Program)(w:World)(K:fH)(mg:fK)(base:Heap)(N:fP)(qual:Str)(scope:Scope)(f:Addr)(cd:Value)(A:Around)(outer:List Env)(s:Shared)(H:Hp)(E:XK):Cx where
 prog:=P
 w:=w
 K:=K
 mg:=mg
 base:=base
 A:=A.deeper (envOfC qual scope s.heap.objs.size f cd)
 N:=N
 s₀:=s
 H₀:=H
 env:=envOfC qual scope s.heap.objs.size f cd
 outer:=outer
 stack:=envOfC qual scope s.heap.objs.size f cd::outer
 ex:=[]
 calm:=true
 fn:=fun _=>true
 pn:=[]
 xe:=fun e s'=>wpAny (model P w) (A.deeper (envOfC qual scope s.heap.objs.size f cd)) (leaving (envOfC qual scope s.heap.objs.size f cd) e) (fun _ s''=>CX outer H s E e s'') (fun e' s''=>CX outer H s E e' s'') s'
theorem Jz{sc:Scope}{n:Nat}{x:Str}(h:sc.names.lookup x=some .cell):∃c,(cellsFrom n sc.names []).lookup x=some c:=by
 have q:=PySem.W.cellsFrom_some sc.names n [] (.inl h);exact cA.mp q
theorem VD{f:Addr}{cd:Value}{outer:List Env}{s1:Shared}{E:XK}
  (S:FnScope N ps scope)(hd:A.handled=none)(e0:Env0 P w K mg base A outer s H)(hl:vs.length=ps.length)(r:Vals vs us)
  (x:InCallC s s.heap.objs.size (bindL (envOfC qual scope s.heap.objs.size f cd).kindOf (ps.zip us) fun _=>none) (cellsFrom (s.heap.objs.size+1) scope.names []) (bindC (envOfC qual scope s.heap.objs.size f cd).kindOf (ps.zip us) fun _=>none) s1) :
  Inv (cxOf CX P w K mg base N qual scope f cd A outer s H E) [] (start N vs) H s1:=by
 have hpl:ps.length<=N.length:=by have:=bC List.length S.pre;rw[bF]at this;omega
 obtain⟨h1,tk,rfl,hk⟩:=x.done;have noA:∀b:Addr,b∉(cxOf CX P w K mg base N qual scope f cd A outer s H E).ex:=fun b z=>absurd (show b∈([]:fL)from z) (by simp)
 refine⟨⟨e0.mod,S.kind,rfl,rfl,ak _,fun y z c h1 h2=>?_,fun y hy=>?_,fun y c _ h=>?_,fun _=>hd,Around.frames_deeper e0.frames,.inr ⟨rfl,rfl⟩,fun b z=>absurd z (noA b),e0.bs,e0.bsz,fun b _ _=>noA b,fun b z=>absurd z (noA b),e0.funs,e0.frf⟩,
  rfl,e0.bare,Un.kept hk,⟨_,x.toInCall.ns,fun i y v h1 h2 h3=>?_⟩,fun y c h=>⟨_,x.cell y c h⟩,e0.hok.fresh (ak _),fun y c h=>?_,fun p hp=>absurd (show p∈([]:fI)from hp) (by simp),e0.hok.kept hk,?_⟩
 ·exact name_of_addr x.apart (bS h1) (bS h2)
 ·have hy:scope.names.lookup y=some .cell\/scope.names.lookup y=some .free:=hy
  rcases hy with hy|hy
  ·exact Jz hy
  ·exact absurd rfl (S.nofree _ (bS hy))
 ·exact bD (x.above y c (bS h))
 ·have hi:i<vs.length:=by
   unfold start at h2
   by_cases hi:i<vs.length
   ·exact hi
   ·rw[aT (by simpa using hi)]at h2
    rw[d3]at h2
    split at h2 <;> cases h2
  have ha:vs[i]?=some v:=by
   unfold start at h2;rw[aW (by simpa using hi),ag]at h2;cases e:vs[i]? with
   |none=>rw[e]at h2;cases h2
   |some a=>rw[e]at h2;cases h2;rfl
  obtain⟨u,hu,rv⟩:=r.get ha;have hp:ps[i]?=some y:=by
   rw[<- S.pre,List.getElem?_take_of_lt (by omega)];exact h1
  have ndP:ps.Nodup:=by rw[<- S.pre];exact S.nd.sublist (List.take_sublist _ _)
  refine⟨u,rv,?_⟩;rcases S.par y (ay hp)with k|k
  ·exact .inl ⟨k,Q2 ndP hp hu k⟩
  ·obtain⟨c,e⟩:=Jz (n:=s.heap.objs.size+1) k
   refine .inr ⟨.inl k,c,e,?_⟩;have q:=x.cell y c e;rw[Q5 ndP hp hu (by show scope.names.lookup y≠_;rw[k];decide)]at q;exact q
 ·exact e0.hok.fresh (bD (x.above y c (bS h)))
 ·unfold start
  show _=N.length;rw[aK,ab,cz];omega
theorem qbv{k:Nat}{f:Addr}{name:Str}{params:Arguments}{dV kV doc pm cdv ct oc:Value}{an od:fN}
  {osl:Array (Option Value)}(lk:K.lookup f=some ⟨oc,od,.func (PySem.W.fnOf name qual params body scope dV kV doc pm an cdv ct),osl⟩)(hcd:PySem.W.codeIn K cdv qual=true)(S:FnScope N ps scope)
  (len:∀vs H Q E,sp vs H Q E->vs.length=ps.length)
  (hbody:∀(A:Around)(outer:List Env)(s:Shared)(H:Hp)(vs:List V)(Q:VK)(E:XK),Room k (A.deeper (envOfC qual scope s.heap.objs.size f cdv))->sp vs H Q E->
   ∃t,PSs (cxOf CX P w K mg base N qual scope f cdv A outer s H E) body t/\t { nx:=fun _ H'=>Q .non H',rt:=Q } (start N vs) H) :
  FnOk P w K mg base CX (k+1) f (PySem.W.fnOf name qual params body scope dV kV doc pm an cdv ct) ps sp:=by
 refine⟨len,fun A outer s H args us vs Q E hr e0 hb r hsp=>?_⟩;have hl:=len _ _ _ _ hsp;have KX:K.In s.heap:=e0.mod.kin.keeps fun b o e=>(e0.bs b o e).1
 have lim:s.heap.NoLimit:=e0.mod.nolimit.keeps fun b o e=>(e0.bs b o e).1
 have hkind:∀y∈ps.zip us,scope.names.lookup y.1=some .local\/(scope.names.lookup y.1=some .cell/\((cellsFrom (s.heap.objs.size+1) scope.names []).lookup y.1).isSome=true):=fun⟨n,v⟩ hy=>by
  rcases S.par n (fm hy).1 with q|q
  ·exact .inl q
  ·exact .inr ⟨q,PySem.W.cellsFrom_some _ _ _ (.inl q)⟩
 refine codeAny_call_function hr.depth (KX _ _ lk) rfl S.co S.gen rfl (PySem.W.codeRec_of KX hcd) (hb _ _ _ _ ?_);refine wpAny_newFunctionEnv_cells S.kind hkind fun env he s1 x=>?_
 subst he;refine⟨lim.keeps x.toInCall.keep,codeAny_func ?_⟩;obtain⟨t,ht,hq⟩:=hbody A outer s H vs Q E (hr.deeper _) hsp;have I:Inv (cxOf CX P w K mg base N qual scope f cdv A outer s H E) [] (start N vs) H s1:=VD S hr.hd e0 hl r x;refine bf (ht [] s1 (start N vs) H _ I hq) (fun fl s' hs=>?_) fun e s' hs=>hs
 have fin:∀{σ':St}{H':Hp}{v:V}{u:Value},Inv (cxOf CX P w K mg base N qual scope f cdv A outer s H E) [] σ' H' s'->RelV v u->Q v H'->CE outer P w H s Q u s':=
  fun{σ' H' v u} J rv q=>⟨v,H',J.os,J.bare,J.base,J.hok,rv,q⟩
 cases fl with
 |ret u=>
  obtain⟨v,σ',H',J,rv,q⟩:=hs;exact fin J rv q
 |next=>
  obtain⟨σ',H',J,q⟩:=hs;exact fin (v:=V.non) (u:=Value.none) J rfl q
 |brk=>
  obtain⟨_,_,_,q⟩:=hs;exact False.elim q
 |cont=>
  obtain⟨_,_,_,q⟩:=hs;exact False.elim q
section
variable{X:Cx}{x:Str}{p pos:Pos}{e:Expr}{es:fQ}{t:TA}{id T:String}{r:List V->Hp->VK->Prop}
def tCB(r:List V->Hp->VK->Prop)(t:TA):TE:=fun σ H Q=>t σ H fun vs H1=>r vs H1 Q
theorem z7(hc:CallR X (.builtin id) r)(hg:Gl X x)(hm:X.mg x=none)(hv:bootBuiltins x=some (.builtin id))(ha:PA X (e::es) t)(hn:x≠"__name__":=by decide)(hdb:(x == ("__debug__":Str))=false:=by decide)
  (he:starEach (e::es) X.env=(false,eval e X.env)::starEach es X.env:=by rfl)(hpl:(backTo pos (starEach es X.env)).any (·.1)=false:=by rfl):PE X (.Call (.Name x p) (e::es) [] pos) (tCB r t):=by
 intro pins s σ H Q I h;refine cy (xX I hg hm hv ?_ hn hdb);exact PyProof.Rows.callWith_builtin1 (thn (ha pos pins s σ H _ I h) fun us s1⟨vs,H1,I1,r1,q1⟩=>hc pins s1 σ H1 vs us Q I1 r1 q1) he hpl
theorem kI(hc:CallR X (.type T) r)(hg:Gl X x)(hm:X.mg x=none)(hv:bootBuiltins x=some (.type T))(ha:PA X (e::es) t)(hn:x≠"__name__":=by decide)(hdb:(x == ("__debug__":Str))=false:=by decide)
  (he:starEach (e::es) X.env=(false,eval e X.env)::starEach es X.env:=by rfl)(hpl:(backTo pos (starEach es X.env)).any (·.1)=false:=by rfl):PE X (.Call (.Name x p) (e::es) [] pos) (tCB r t):=by
 intro pins s σ H Q I h;refine cy (xX I hg hm hv ?_ hn hdb);exact dY (thn (ha pos pins s σ H _ I h) fun us s1⟨vs,H1,I1,r1,q1⟩=>hc pins s1 σ H1 vs us Q I1 r1 q1) he hpl
end
section
variable{κ:Type}[DecidableEq κ]
def valV(kvs:List (κ×V))(k:κ):Option V:=(kvs.find? fun kv=>decide (kv.1=k)).map (·.2)
def putK(kvs:List (κ×V))(k:κ)(v:V):List (κ×V):=
 if(kvs.any fun kv=>decide (kv.1=k))=true then kvs.map (fun kv=>if kv.1=k then(kv.1,v)else kv)else kvs++[(k,v)]
theorem wQ{p:κ×V}{r:List (κ×V)}{k:κ}(e:p.1=k):valV (p::r) k=some p.2:=by simp[valV,aZ,e]
theorem wR{p:κ×V}{r:List (κ×V)}{k:κ}(e:¬ p.1=k):valV (p::r) k=valV r k:=by simp[valV,aZ,e]
theorem ZV(k:κ):∀kvs:List (κ×V),(kvs.any fun kv=>decide (kv.1=k))=(valV kvs k).isSome
 |[]=>rfl
 |p::r=>by
  rw[cY]
  by_cases e:p.1=k
  ·simp only[wQ e,aO e,Bool.true_or,Option.isSome_some]
  ·rw[wR e,aP e,Bool.false_or];exact ZV k r
theorem kg(kvs:List (κ×V))(k:κ)(v:V):(putK kvs k v).length<=kvs.length+1:=by
 unfold putK
 split
 ·rw[ab];omega
 ·rw[aK,bz,dZ];omega
theorem RelO.isSome_eq{o:Option V}{u:Option Value}(r:RelO o u):o.isSome=u.isSome:=by
 cases o with
 |none=>cases u with
  |none=>rfl
  |some _=>exact(show False from r).elim
 |some _=>cases u with
  |none=>exact(show False from r).elim
  |some _=>rfl
theorem RelO.getD{o:Option V}{u:Option Value}{d:V}{d':Value}(r:RelO o u)(rd:RelV d d'):RelV (o.getD d) (u.getD d'):=by
 cases o with
 |none=>cases u with
  |none=>exact rd
  |some _=>exact(show False from r).elim
 |some _=>cases u with
  |none=>exact(show False from r).elim
  |some _=>exact r
theorem KV.val{kvs:List (κ×V)}{vs:List (κ×Value)}(r:KV kvs vs)(k:κ):RelO (valV kvs k) (valueAt vs k):=by
 unfold KV at r
 induction r with
 |nil=>exact True.intro
 |@cons p q ps qs h t ih=>
  obtain⟨h1,h2⟩:=h
  by_cases e:p.1=k
  ·have e':q.1=k:=h1.symm.trans e
   have b:valueAt (q::qs) k=some q.2:=by simp[valueAt,aZ,e']
   rw[wQ e,b];exact h2
  ·have e':¬ q.1=k:=fun z=>e (h1.trans z)
   have b:valueAt (q::qs) k=valueAt qs k:=by simp[valueAt,aZ,e']
   rw[wR e,b];exact ih
theorem KV.any{kvs:List (κ×V)}{vs:List (κ×Value)}(r:KV kvs vs)(k:κ):(kvs.any fun kv=>decide (kv.1=k))=vs.any fun kv=>decide (kv.1=k):=by
 unfold KV at r
 induction r with
 |nil=>rfl
 |cons h t ih=>rw[cY,cY,ih,h.1]
theorem KV.repl{kvs:List (κ×V)}{vs:List (κ×Value)}(r:KV kvs vs)(k:κ){y:V}(ry:RelV y u) :
  KV (kvs.map fun kv=>if kv.1=k then(kv.1,y)else kv) (vs.map fun kv=>if kv.1=k then(kv.1,u)else kv):=by
 unfold KV at r ⊢
 induction r with
 |nil=>exact .nil
 |@cons p q ps qs h t ih=>
  rw[aA,aA];refine .cons ?_ ih;obtain⟨h1,h2⟩:=h
  by_cases e:p.1=k
  ·rw[aF e,aF (h1.symm.trans e)];exact⟨h1,ry⟩
  ·rw[aG e,aG (fun z=>e (h1.trans z))];exact⟨h1,h2⟩
theorem KV.put{kvs:List (κ×V)}{vs:List (κ×Value)}(r:KV kvs vs)(k:κ){y:V}(ry:RelV y u):KV (putK kvs k y) (stored vs k u):=by
 unfold putK stored;rw[r.any k]
 by_cases e:(vs.any fun kv=>decide (kv.1=k))=true
 ·rw[aF e,aF e];exact r.repl k ry
 ·rw[aG e,aG e];exact Paired.snoc r ⟨rfl,ry⟩
theorem KV.length{kvs:List (κ×V)}{vs:List (κ×Value)}(r:KV kvs vs):kvs.length=vs.length:=cH r
end
theorem yx{k:Key}(r:RelV (kV k) u):(zf P w).is k u=true:=by
 cases k with
 |inl i=>obtain⟨t,e⟩:=(show ∃t,u=Value.int i t from r);subst e;exact Zw P w i t
 |inr x=>obtain⟨t,e⟩:=(show ∃t,u=Value.str x t from r);subst e;exact Zv P w x t
theorem QI{P:Program}{w:World}:∀{ks:List Key}{us:fM},Vals (ks.map kV) us->ItemsAre (zf P w) ks us
 |[],_,r=>by rw[dJ]at r;cases r;exact .nil
 |k::ks,_,r=>by
  rw[aA]at r;cases r with
  |cons h t=>exact .cons (yx h) (QI t)
abbrev KT(H:Hp):List (List Key×V)->List (List Key×Addr×Value)->Prop:=Paired fun p q=>p.1=q.1/\H q.2.1=some (.tup (p.1.map kV))/\RelV p.2 q.2.2
theorem KT.val{xs:List (List Key×Addr×Value)}(r:KT H kvs xs)(k:List Key):RelO (valV kvs k) ((atKey xs k).map (·.2)):=by
 induction r with
 |nil=>exact True.intro
 |@cons p q ps qs h t ih=>
  obtain⟨h1,_,h2⟩:=h
  by_cases e:p.1=k
  ·have e':q.1=k:=h1.symm.trans e
   have b:atKey (q::qs) k=some q.2:=by simp[atKey,aZ,e']
   rw[wQ e,b];exact h2
  ·have e':¬ q.1=k:=fun z=>e (h1.trans z)
   have b:atKey (q::qs) k=atKey qs k:=by simp[atKey,aZ,e']
   rw[wR e,b];exact ih
theorem KT.repl{xs:List (List Key×Addr×Value)}(r:KT H kvs xs)(k:List Key){y:V}(ry:RelV y u) :
  KT H (kvs.map fun kv=>if kv.1=k then(kv.1,y)else kv) (xs.map (putAt k u)):=by
 induction r with
 |nil=>exact .nil
 |@cons p q ps qs h t ih=>
  rw[aA,aA];refine .cons ?_ ih;obtain⟨h1,h2,h3⟩:=h;unfold putAt
  by_cases e:p.1=k
  ·rw[aF e,aF (h1.symm.trans e)];exact⟨h1,h2,ry⟩
  ·rw[aG e,aG (fun z=>e (h1.trans z))];exact⟨h1,h2,h3⟩
theorem KT.put{xs:List (List Key×Addr×Value)}(r:KT H kvs xs)(k:List Key){b:Addr}{y:V}(hb:H b=some (.tup (k.map kV)))(ry:RelV y u) :
  KT H (putK kvs k y) (storedH xs k b u):=by
 have e:(kvs.any fun kv=>decide (kv.1=k))=(atKey xs k).isSome:=by
  rw[ZV,(r.val k).isSome_eq,dF]
 unfold putK storedH;rw[e]
 by_cases q:(atKey xs k).isSome=true
 ·rw[aF q,aF q];exact r.repl k ry
 ·rw[aG q,aG q];exact Paired.snoc r ⟨rfl,hb,ry⟩
theorem KT.keeps{xs:List (List Key×Addr×Value)}(r:KT H kvs xs)(ht:∀b ys,H b=some (.tup ys)->H' b=some (.tup ys)):KT H' kvs xs:=
 Paired.mapP r fun _ _ z=>⟨z.1,ht _ _ z.2.1,z.2.2⟩
section
variable{P:Program}{w:World}{H:Hp}{h:Heap}{a:Addr}
theorem qab{u:HO}(ok:HOk P w H h)(e:Rd H a u):ObjOk P w H h a u:=e.ok ok
theorem yJ{kvs:List (Key×V)}(ok:HOk P w H h)(e:Rd H a (.dK kvs)):kvs.length<=sizeLine/\(a == sysModules)=false/\∃vs,KV kvs vs/\h.DictOf (zf P w) a vs:=
 show ObjOk P w H h a (.dK kvs)from qab ok e
theorem JZ{kvs:List (Key×V)}(ok:HOk P w H h)(e:H a=some (.dK kvs)):kvs.length<=sizeLine/\(a == sysModules)=false/\∃vs,KV kvs vs/\h.DictOf (zf P w) a vs:=yJ ok (.inl e)
theorem wJ{ks:List Key}(ok:HOk P w H h)(e:H a=some (.tup (ks.map kV))):(tupleKind (zf P w)).is h ks a:=by
 obtain⟨_,its,r,o,h1,h2,n,h3⟩:=(show ObjOk P w H h a (.tup (ks.map kV))from ok a _ e);exact⟨o,its.toArray,n,h1,h2,h3,by simpa using QI r⟩
theorem ZK(ok:HOk P w H h)(e:Rd H a (.dT kvs)):kvs.length<=sizeLine/\(a == sysModules)=false/\
  ∃xs,KT H kvs xs/\h.DictOfH (tupleKind (zf P w)) a xs:=by
 obtain⟨z,y,xs,r,o,es,ep,h1,h2,h3,h4,h5⟩:=(show ObjOk P w H h a (.dT kvs)from qab ok e);refine⟨z,y,xs,r,o,es,ep,h1,h2,h3,h4,fun x hx=>?_,h5⟩;have all:∀{l:List (List Key×V)}{m:List (List Key×Addr×Value)},KT H l m->∀x∈m,(tupleKind (zf P w)).is h x.1 x.2.1:=by
  intro l m q
  induction q with
  |nil=>intro x hx;exact nomatch hx
  |@cons p q ps qs hq t ih=>
   intro x hx;rcases aj.mp hx with e|hx
   ·subst e
    exact wJ ok (by rw[<- hq.1];exact hq.2.1)
   ·exact ih x hx
 exact all r x hx
theorem qde(ok:HOk P w H h)(e:H a=some (.dT kvs)):kvs.length<=sizeLine/\(a == sysModules)=false/\
  ∃xs,KT H kvs xs/\h.DictOfH (tupleKind (zf P w)) a xs:=ZK ok (.inl e)
end
def DGet(H:Hp)(a:Addr)(y:V)(r:Option V):Prop:=
 (∃kvs k,Rd H a (.dK kvs)/\y=kV k/\r=valV kvs k)\/∃kvs k b,Rd H a (.dT kvs)/\y=.ref b/\H b=some (.tup (k.map kV))/\r=valV kvs k
def DPut(H:Hp)(a:Addr)(y v:V)(H':Hp):Prop:=
 (∃kvs k,H a=some (.dK kvs)/\y=kV k/\kvs.length<sizeLine/\H'=upd H a (.dK (putK kvs k v)))\/
 ∃kvs k b,H a=some (.dT kvs)/\y=.ref b/\H b=some (.tup (k.map kV))/\kvs.length<sizeLine/\H'=upd H a (.dT (putK kvs k v))
theorem DGet.k{H:Hp}{a:Addr}{kvs:List (Key×V)}{k:Key}(e:H a=some (.dK kvs)):DGet H a (kV k) (valV kvs k):=.inl ⟨kvs,k,.inl e,rfl,rfl⟩
theorem DGet.t{a b:Addr}{k:List Key}(e:H a=some (.dT kvs))(eb:H b=some (.tup (k.map kV))):DGet H a (.ref b) (valV kvs k):=.inr ⟨kvs,k,b,.inl e,rfl,eb,rfl⟩
theorem DPut.k{H:Hp}{a:Addr}{kvs:List (Key×V)}{k:Key}{v:V}(e:H a=some (.dK kvs))(hl:kvs.length<sizeLine):DPut H a (kV k) v (upd H a (.dK (putK kvs k v))):=.inl ⟨kvs,k,e,rfl,hl,rfl⟩
theorem DPut.t{a b:Addr}{k:List Key}(e:H a=some (.dT kvs))(eb:H b=some (.tup (k.map kV)))(hl:kvs.length<sizeLine) :
  DPut H a (.ref b) v (upd H a (.dT (putK kvs k v))):=.inr ⟨kvs,k,b,e,rfl,eb,hl,rfl⟩
section
variable{X:Cx}{pins:fI}{σ:St}{H:Hp}{s:Shared}{a:Addr}{y v:V}{u r:Value}{o:Option V}{A:Around}{E:fJ}
theorem Inv.big(I:Inv X pins σ H s):sysModules<s.heap.objs.size:=by
 have h:mainGlobals<s.heap.objs.size:=(I.mod.glob.keeps I.bk).lt;exact bb (by decide) h
theorem QT(hu:A.units+1<cLine)(I:Inv X pins σ H s)(g:DGet H a y (some v))(ry:RelV y u)(h:∀w' s',Inv X pins σ H s'->RelV v w'->Q w' s') :
  wpAny (model X.prog X.w) A (getItem (.ref a) u) Q E s:=by
 rcases g with⟨kvs,k,e,ey,l⟩|⟨kvs,k,b,e,ey,eb,l⟩
 ·subst ey
  obtain⟨z,hd,vs,rel,dd⟩:=yJ I.hok e;obtain⟨w',hw,rw'⟩:=RelO.some_of (v:=v) (o:=valueAt vs k) (by rw[l];exact rel.val k);exact wpAny_getItem_of (yx ry) dd.mapOf hw (h w' _ (I.tok _) rw')
 ·subst ey
  cases (show u=Value.ref b from ry);obtain⟨z,hd,xs,rel,dd⟩:=ZK I.hok e;obtain⟨w',hw,rw'⟩:=RelO.some_of (v:=v) (o:=(atKey xs k).map (·.2)) (by rw[l];exact rel.val k);obtain⟨p,hp,hp2⟩:=cw.mp hw;refine wpAny_getItem_heap (cU hu) (wJ I.hok eb) dd hp ?_;rw[hp2];exact h w' _ (I.tok _) rw'
theorem d_in(hu:A.units+1<cLine)(I:Inv X pins σ H s)(g:DGet H a y o)(ry:RelV y u)(h:∀s',Inv X pins σ H s'->Q (.bool o.isSome) s') :
  wpAny (model X.prog X.w) A (compareOp .In u (.ref a)) Q E s:=by
 rcases g with⟨kvs,k,e,ey,l⟩|⟨kvs,k,b,e,ey,eb,l⟩
 ·subst ey
  obtain⟨z,hd,vs,rel,dd⟩:=yJ I.hok e;refine wpAny_in_of (yx ry) hd dd.mapOf ?_;rw[<- (rel.val k).isSome_eq,<- l];exact h _ (I.tok _)
 ·subst ey
  cases (show u=Value.ref b from ry);obtain⟨z,hd,xs,rel,dd⟩:=ZK I.hok e;refine wpAny_in_heap (cU hu) (wJ I.hok eb) hd dd ?_;have q:=(rel.val k).isSome_eq;rw[dF]at q;rw[<- q,<- l];exact h _ (I.tok _)
theorem yN(hu:A.units+1<cLine)(I:Inv X pins σ H s)(g:DGet H a y o)(ry:RelV y u)(h:∀s',Inv X pins σ H s'->Q (.bool (!o.isSome)) s') :
  wpAny (model X.prog X.w) A (compareOp .NotIn u (.ref a)) Q E s:=by
 rcases g with⟨kvs,k,e,ey,l⟩|⟨kvs,k,b,e,ey,eb,l⟩
 ·subst ey
  obtain⟨z,hd,vs,rel,dd⟩:=yJ I.hok e;refine wpAny_notIn_of (yx ry) hd dd.mapOf ?_;rw[<- (rel.val k).isSome_eq,<- l];exact h _ (I.tok _)
 ·subst ey
  cases (show u=Value.ref b from ry);obtain⟨z,hd,xs,rel,dd⟩:=ZK I.hok e;refine wpAny_notIn_heap (cU hu) (wJ I.hok eb) hd dd ?_;have q:=(rel.val k).isSome_eq;rw[dF]at q;rw[<- q,<- l];exact h _ (I.tok _)
theorem yM{ob:HO}(I:Inv X pins σ H s)(mu:Mut (H a))(hs:Heap.SameBut a s.heap h')(he:∃q,h'.get? a=some q)(new:ObjOk X.prog X.w (upd H a ob) h' a ob) :
  Inv X pins σ (upd H a ob) { s with heap:=h',toks:=t' }:=
 I.write (x:=a) (e:=a) mu (.inl rfl) (fun b q hb z=>(hs.2 b hb).trans z) he new
theorem QP{kvs:List (Key×V)}{vs:List (Key×Value)}(z:kvs.length<=sizeLine)(hd:(a == sysModules)=false)(rel:KV kvs vs)(dd:h'.DictOf (zf P w) a vs) :
  ObjOk P w H' h' a (.dK kvs):=⟨z,hd,vs,rel,dd⟩
theorem V4{Q:Unit->Shared->Prop}(hu:A.units+1<cLine)(I:Inv X pins σ H s)(g:DPut H a y v H')(ry:RelV y u)(rv:RelV v r)(h:∀s',Inv X pins σ H' s'->Q () s') :
  wpAny (model X.prog X.w) A (setItem (.ref a) u r) Q E s:=by
 rcases g with⟨kvs,k,e,ey,l,eH⟩|⟨kvs,k,b,e,ey,eb,l,eH⟩
 ·subst ey eH
  obtain⟨z,hd,vs,rel,dd⟩:=JZ I.hok e;have hz:vs.length<=sizeLine:=by rw[<- rel.length];exact z
  have hl:(putK kvs k v).length<=sizeLine:=by have:=kg kvs k v;omega
  refine wpAny_setItem_pairs (hsz:=hz) (yx ry) dd fun h' dd' hs=>h _ ?_
  have he:∃q,h'.get? a=some q:=let⟨q,_,_,hq,_⟩:=dd';⟨q,hq⟩;exact yM I (by rw[e];exact True.intro) hs he (QP hl hd (rel.put k rv) dd')
 ·subst ey eH
  cases (show u=Value.ref b from ry);obtain⟨z,hd,xs,rel,dd⟩:=qde I.hok e;have hz:xs.length<=sizeLine:=by rw[<- cH rel];exact z
  have hl:(putK kvs k v).length<=sizeLine:=by have:=kg kvs k v;omega
  refine wpAny_setItem_heap (hsz:=hz) (cU hu) (wJ I.hok eb) dd fun h' dd' hs=>h _ ?_
  obtain⟨q,es,ep,hq,h2,h3,h4,_,h5⟩:=dd';refine yM I (by rw[e];exact True.intro) hs ⟨q,hq⟩ ⟨hl,hd,_,(rel.put k eb rv).keeps fun c ys ec=>?_,q,es,ep,hq,h2,h3,h4,h5⟩;rw[qk (Vf ec e (fun z=>nomatch z))];exact ec
end
section
variable{X:Cx}{pins:fI}{σ:St}{H:Hp}{s:Shared}{a:Addr}{kvs:List (Key×V)}{k:Key}{u:Value}{A:Around}{E:fJ}
theorem qdf(I:Inv X pins σ H s)(e:Rd H a (.dK kvs))(h:∀t s',Inv X pins σ H s'->Q (.int kvs.length t) s'):wpAny (model X.prog X.w) A (call (.builtin "len") [.ref a]) Q E s:=by
 obtain⟨z,hd,vs,rel,dd⟩:=yJ I.hok e;refine call_len_dict hd dd (by rw[<- rel.length];rw[bK]at z;omega) ?_;rw[<- rel.length];exact h _ _ (I.tok _)
end
def NoSl(i:Expr):Prop:=∀ov iv,subscripted i false ov iv=operate [ov,iv] (getItem ov iv)
theorem Yv{prog:Program}{env:Env}{value slice:Expr}{T id:String}
  (hl:typeLookup (.type T) "__getitem__"=pure (some (.builtin id)))(hs:NoSl slice)
  (h:wpAny (model prog w) A (eval value env) (fun o s₁=>wpAny (model prog w) A (eval slice env) (fun i s₂=>s₂.TypeIs o T/\wpAny (model prog w) A (getItem o i) Q E s₂) E s₁) E s) :
  wpAny (model prog w) A (eval (.Subscript value slice pos) env) Q E s:=by
 refine eQ (bf h (fun o s₁ h₁=>bf h₁ (fun i s₂ h₂=>?_) fun _ _ x=>x) fun _ _ x=>x);obtain⟨hT,h₂⟩:=h₂;unfold subscriptTail;refine af ?_;rw[getitemInPython_of_ne hT.not_modules];refine af (wpAny_specialOf hT hl ?_);have fin:wpAny (model prog w) A (subscripted slice false o i) (fun r s₃=>wpAny (model prog w) A (letTemporaryGo value o r >>= fun _=>pure r) Q E s₃) E s₂:=by
  rw[hs o i];exact wpAny_operating (bf h₂ (fun r s₃ h₃=>af (wpAny_letTemporaryGo (aw h₃))) fun _ _ x=>x)
 first
  |exact aw (af fin)
  |exact af (aw (af fin))
  |exact af fin
theorem we{σ:St}{a:Addr}{y:V}{o:Option V}(I:Inv X pins σ H s)(g:DGet H a y o):s.TypeIs (.ref a) "dict":=by
 rcases g with⟨kvs,k,e,_,_⟩|⟨kvs,k,b,e,_,_,_⟩
 ·obtain⟨_,_,vs,_,dd⟩:=yJ I.hok e
  exact dd.typeIs
 ·obtain⟨_,_,xs,_,dd⟩:=ZK I.hok e
  exact dd.typeIs
def uR(td ty:TE):TE:=fun σ H Q=>td σ H fun x H1=>ty σ H1 fun y H2=>∃a v,x=.ref a/\DGet H2 a y (some v)/\Q v H2
def tDIn(ty td:TE):TE:=fun σ H Q=>ty σ H fun y H1=>td σ H1 fun x H2=>∃a o,x=.ref a/\DGet H2 a y o/\Q (.bl o.isSome) H2
def qcl(td ty tv:TE):TS:=fun D σ H=>tv σ H fun v H1=>td σ H1 fun x H2=>ty σ H2 fun y H3=>∃a H4,x=.ref a/\DPut H3 a y v H4/\D.nx σ H4
section
variable{X:Cx}{o i e value:Expr}{pos pos' tpos:Pos}{td ty tv:TE}
theorem xM(hu:X.A.units+1<cLine)(ho:PE X o td)(hi:PE X i ty)(hs:NoSl i):PE X (.Subscript o i pos) (uR td ty):=by
 intro pins s σ H Q I h;refine Yv eO.lookup hs (thn (ho pins s σ H _ I h) fun u s1⟨x,H1,I1,rx,q1⟩=>thn (hi pins s1 σ H1 _ I1 q1) fun iv s2⟨y,H2,I2,ry,a,v,ex,g,q2⟩=>?_);subst ex;obtain rfl:u=Value.ref a:=rx;exact⟨we I2 g,QT hu I2 g ry fun w' s3 I3 rw'=>⟨v,H2,I3,rw',q2⟩⟩
theorem WZ(hu:X.A.units+1<cLine)(hi:PE X i ty)(ho:PE X o td):PC X .In i o (tDIn ty td):=by
 intro pins s σ H Q I h;refine thn (hi pins s σ H _ I h) fun iv s1⟨y,H1,I1,ry,q1⟩=>thn (ho pins s1 σ H1 _ I1 q1) fun u s2⟨x,H2,I2,rx,a,ov,ex,g,q2⟩=>?_
 subst ex;obtain rfl:u=Value.ref a:=rx;exact d_in hu I2 g ry fun s3 I3=>⟨.bl ov.isSome,H2,I3,rfl,q2⟩
theorem KB(hu:X.A.units+1<cLine)(ho:PE X o td)(hi:PE X i ty)(hv:PE X value tv)(hs:swapsWith value (some (.Subscript o i pos')) pos.line X.env=pure false) :
  PS X (.Assign [.Subscript o i pos'] value pos) (qcl td ty tv):=by
 intro pins s σ H D I h;refine wpAny_Assign_Subscript (thn (hv pins s σ H _ I h) fun r s1⟨v,H1,I1,rv,q1⟩=>thn (ho pins s1 σ H1 _ I1 q1) fun u s2⟨x,H2,I2,rx,q2⟩=>thn (hi pins s2 σ H2 _ I2 q2) fun iv s3⟨y,H3,I3,ry,a,H4,ex,g,q3⟩=>?_) hs;subst ex;obtain rfl:u=Value.ref a:=rx;exact V4 hu I3 g ry rv fun s4 I4=>⟨σ,H4,I4,q3⟩
end
theorem yK(h:Heap)(hb:sysModules<h.objs.size):ObjOk P w H (h.push { cls:=.type "dict",data:=.dict #[] }) h.objs.size (.dK []):=
 ⟨aV _,dr.mpr (bW (aq hb)),[],.nil,Heap.DictOf.new h⟩
def WO:TE:=fun _ H Q=>∀p,H p=none->Q (.ref p) (upd H p (.dK []))
section
variable{X:Cx}{pos:Pos}
theorem XU:PE X (.Dict [] [] pos) WO:=fun pins s σ H Q I h=>
 wpAny_Dict_empty ⟨.ref s.heap.objs.size,_,I.laid (a:=s.heap.objs.size) (o:=.dK []) (t':=s.toks) (fun _ _ q=>ae _ q) (ak _) (yK s.heap I.big),rfl,h _ (I.hok.fresh (ak _))⟩
end
def Ke:List (TE×TE)->St->Hp->(List (V×V)->Hp->Prop)->Prop
 |[],_,H,Q=>Q [] H
 |(tk,tv)::r,σ,H,Q=>tk σ H fun x H1=>tv σ H1 fun y H2=>Ke r σ H2 fun ps H3=>Q ((x,y)::ps) H3
abbrev VV:List (V×V)->List (Value×Value)->Prop:=Paired fun p q=>RelV p.1 q.1/\RelV p.2 q.2
def PPs(X:Cx)(pos:Pos)(keys:List (Option Expr))(values:fQ)(trs:List (TE×TE)):Prop:=
 ∀(pins:fI)(s:Shared)(σ:St)(H:Hp)(Q:List (V×V)->Hp->Prop),Inv X pins σ H s->Ke trs σ H Q->
  wpAny (model X.prog X.w) X.A (evalPairs (pairTrees keys values X.env pos)) (fun vs s'=>∃ps H',Inv X pins σ H' s'/\VV ps vs/\Q ps H') X.xe s
theorem KD:PPs X pos [] [] []:=fun pins s σ H Q I h=>pairTrees_nil_walk ⟨[],H,I,.nil,h⟩
theorem Ja{k v:Expr}{ks:List (Option Expr)}{vs:fQ}{tk tv:TE}(hk:PE X k tk)(hv:PE X v tv)(hr:PPs X pos ks vs trs) :
  PPs X pos (some k::ks) (v::vs) ((tk,tv)::trs):=fun pins s σ H Q I h=>
 pairTrees_cons_walk (thn (hk pins s σ H _ I h) fun u s1⟨x,H1,I1,rx,q1⟩=>thn (hv pins s1 σ H1 _ I1 q1) fun w2 s2⟨y,H2,I2,ry,q2⟩=>
  thn (hr pins s2 σ H2 _ I2 q2) fun ws s3⟨ps,H3,I3,rel,q3⟩=>⟨(x,y)::ps,H3,I3,.cons ⟨rx,ry⟩ rel,q3⟩)
def wI(kvs more:List (Key×V)):List (Key×V):=more.foldl (fun acc kv=>putK acc kv.1 kv.2) kvs
theorem KV.merge:∀{more:List (Key×V)}{rs:List (Key×Value)}{kvs:List (Key×V)}{vs:List (Key×Value)},KV more rs->KV kvs vs->KV (wI kvs more) (merged vs rs):=by
 intro more rs kvs vs r;unfold KV at r
 induction r generalizing kvs vs with
 |nil=>intro q;exact q
 |@cons p q ps qs h t ih=>
  intro r0;have e:KV (putK kvs p.1 p.2) (stored vs q.1 q.2):=by
   have:=r0.put p.1 h.2;rw[<- h.1];exact this
  exact ih e
theorem vC:∀(more kvs:List (Key×V)),(wI kvs more).length<=kvs.length+more.length
 |[],kvs=>by show kvs.length<=kvs.length+0;omega
 |p::r,kvs=>by
  have h1:=vC r (putK kvs p.1 p.2);have h2:=kg kvs p.1 p.2;show(wI (putK kvs p.1 p.2) r).length<=_;rw[bz];omega
theorem wP{P:Program}{w:World}:∀{kvs:List (Key×V)}{ws:List (Value×Value)},VV (kvs.map fun kv=>(kV kv.1,kv.2)) ws->∃rs,Carries (zf P w) ws rs/\KV kvs rs
 |[],_,r=>by rw[dJ]at r;cases r;exact⟨[],True.intro,.nil⟩
 |p::kvs,_,r=>by
  rw[aA]at r;cases r with
  |@cons a b as bs h t=>
   obtain⟨rs,c,q⟩:=wP (P:=P) (w:=w) t;obtain⟨b1,b2⟩:=b;exact⟨(p.1,b2)::rs,⟨yx h.1,rfl,c⟩,.cons ⟨rfl,h.2⟩ q⟩
def qch(trs:List (TE×TE)):TE:=fun σ H Q=>∀p,H p=none->Ke trs σ (upd H p (.dK [])) fun ps H2=>H2 p=some (.dK [])/\∃kvs:List (Key×V),ps=kvs.map (fun kv=>(kV kv.1,kv.2))/\kvs.length<=15/\Q (.ref p) (upd H2 p (.dK (wI [] kvs)))
theorem KU{keys:List (Option Expr)}{values:fQ}(h:PPs X pos keys values trs)(hall:keys.all (·.isSome)=true)(hl:keys.length=values.length)(h0:keys≠[])
  (h15:keys.length<=15):PE X (.Dict keys values pos) (qch trs):=by
 intro pins s σ H Q I q;have hn:=I.hok.fresh (ak s.heap.objs.size);have I1:=I.laid (a:=s.heap.objs.size) (o:=.dK []) (h':=s.heap.push { cls:=.type "dict",data:=.dict #[] }) (t':=s.toks) (fun _ _ q=>ae _ q) (ak _) (yK s.heap I.big);refine wpAny_Dict_walk (knd:=zf X.prog X.w) hall hl h0 h15 (thn (h pins _ σ _ _ I1 (q _ hn)) fun ws s2⟨ps,H2,I2,rel,e,kvs,ep,lk,q2⟩=>?_);subst ep;obtain⟨rs,c,rk⟩:=wP (P:=X.prog) (w:=X.w) rel;obtain⟨z,hd,vs0,r0,dd⟩:=JZ I2.hok e;cases r0;refine⟨rs,c,dd,fun h' dd' hs=>⟨.ref s.heap.objs.size,_,?_,rfl,q2⟩⟩;have hz:(wI [] kvs).length<=sizeLine:=by
  have h1:=vC kvs [];rw[dZ]at h1;rw[bK];omega
 have he:∃q,h'.get? s.heap.objs.size=some q:=let⟨q,_,_,hq,_⟩:=dd';⟨q,hq⟩;exact yM I2 (by rw[e];exact True.intro) hs he (QP hz hd (rk.merge .nil) dd')
structure M2(X:Cx)(o:Expr)(m:Str)(apos:Pos)(e f:Expr)(cpos:Pos):Prop where
 base:attributeBase o m X.env (eval o X.env)=eval o X.env
 few:((backTo cpos (starEach [e,f] X.env)).all (fun x=>!x.1) && (backToKw cpos (keywordEach [] X.env)).all (fun x=>x.1.isSome)
  && decide (([e,f]:fQ).length+([]:List Keyword).length+(if([]:List Keyword).isEmpty then 0 else 1)<30))=true
 line:(apos.endLine == cpos.line)=true
 trees:backTo cpos (starEach [e,f] X.env)=[(false,eval e X.env),(false,eval f X.env)]
def IsD(H:Hp)(a:Addr):Prop:=(∃kvs,Rd H a (.dK kvs))\/∃kvs,Rd H a (.dT kvs)
theorem qbm{σ:St}{a:Addr}(I:Inv X pins σ H s)(d:IsD H a) :
  s.TypeIs (.ref a) "dict"/\(∀b,Value.ref a=.ref b->∃ob,s.heap.get? b=some ob/\ob.dict=none)/\(a == sysModules)=false:=by
 rcases d with⟨kvs,e⟩|⟨kvs,e⟩
 ·obtain⟨_,hd,vs,_,dd⟩:=yJ I.hok e
  refine⟨dd.typeIs,fun b q=>?_,hd⟩;cases q;obtain⟨ob,_,_,h1,h2,_⟩:=dd;exact⟨ob,h1,h2.2.1⟩
 ·obtain⟨_,hd,xs,_,dd⟩:=ZK I.hok e
  refine⟨dd.typeIs,fun b q=>?_,hd⟩;cases q;obtain⟨ob,_,_,h1,h2,_⟩:=dd;exact⟨ob,h1,h2.2.1⟩
section
variable{X:Cx}{pins:fI}{σ:St}{H:Hp}{s:Shared}{a:Addr}{y d:V}{u r:Value}{o:Option V}{A:Around}{E:fJ}
theorem qb2(hu:A.units+1<cLine)(I:Inv X pins σ H s)(g:DGet H a y o)(ry:RelV y u)(rd:RelV d r)(h:∀w' s',Inv X pins σ H s'->RelV (o.getD d) w'->Q w' s') :
  wpAny (model X.prog X.w) A (call (.builtin "dict.get") [.ref a,u,r]) Q E s:=by
 rcases g with⟨kvs,k,e,ey,l⟩|⟨kvs,k,b,e,ey,eb,l⟩
 ·subst ey
  obtain⟨z,hd,vs,rel,dd⟩:=yJ I.hok e;refine call_meetsIn dM dd.typeIs PySem.F.entry_dict_get (PySem.F.args_dict_get_3 _ _ _) (meets_dict_get_default (zf X.prog X.w) a (yx ry) hd r) ⟨_,dd.mapOf,h _ _ (I.tok _) ?_⟩;rw[l];exact(rel.val k).getD rd
 ·subst ey
  cases (show u=Value.ref b from ry);obtain⟨z,hd,xs,rel,dd⟩:=ZK I.hok e;refine call_meetsIn dM dd.typeIs PySem.F.entry_dict_get (PySem.F.args_dict_get_3 _ _ _) (meetsH_dict_get_default (tupleKind (zf X.prog X.w)) a b hd r) ⟨cU hu,k,xs,wJ I.hok eb,dd,h _ _ (I.tok _) ?_⟩;rw[l];exact(rel.val k).getD rd
end
def uQ(td ty tx:TE):TE:=fun σ H Q=>td σ H fun x H1=>∃a,x=.ref a/\IsD H1 a/\ty σ H1 fun y H2=>tx σ H2 fun z H3=>∃o,DGet H3 a y o/\Q (o.getD z) H3
section
variable{X:Cx}{o e f:Expr}{apos cpos:Pos}{td ty tx:TE}
theorem XW(hu:X.A.units+1<cLine)(ho:PE X o td)(he:PE X e ty)(hf:PE X f tx)(m:M2 X o "get" apos e f cpos):PE X (.Call (.Attribute o "get" apos) [e,f] [] cpos) (uQ td ty tx):=by
 intro pins s σ H Q I h;refine wpAny_Call_method m.base m.few m.line PySem.F.plainAttrs_dict dM PySem.F.type_dict_get (thn (ho pins s σ H _ I h) fun u s1⟨x,H1,I1,rx,a,ex,d,q1⟩=>?_);subst ex;obtain rfl:u=Value.ref a:=rx;obtain⟨t1,t2,_⟩:=qbm I1 d;refine⟨t1,t2,?_⟩;rw[m.trees];refine dA rfl (Calls.evalArgs_plain (eK (thn (he pins s1 σ H1 _ I1 q1) fun iv s2⟨y,H2,I2,ry,q2⟩=>
  eK (thn (hf pins s2 σ H2 _ I2 q2) fun fv s3⟨z,H3,I3,rz,ov,g,q3⟩=>Calls.spliced_nil ?_))))
 exact qb2 hu I3 g ry rz fun w' s4 I4 rw'=>⟨_,H3,I4,rw',q3⟩
end
section
variable{X:Cx}{pins:fI}{σ:St}{H:Hp}{s:Shared}{a:Addr}{kvs:List (Key×V)}{A:Around}{E:fJ}
theorem WC(I:Inv X pins σ H s)(e:Rd H a (.dK kvs))(h:∀p s',H p=none->Inv X pins σ (upd H p (.dK kvs)) s'->Q (.ref p) s'):wpAny (model X.prog X.w) A (call (.type "dict") [.ref a]) Q E s:=by
 obtain⟨z,hd,vs,rel,dd⟩:=yJ I.hok e;refine kt_call_dict hd dd (by rw[<- rel.length];exact z) fun h' dd' hs=>?_
 refine h _ _ (I.hok.fresh (ak _)) (I.laid (a:=s.heap.objs.size) (o:=.dK kvs) (t':=s.toks) (fun b q hq=>?_) (ak _) (QP z (dr.mpr (bW (aq I.big))) rel dd'));exact(hs.2 b (aq (ao hq))).trans (ae _ hq)
end
section
variable{X:Cx}{pins:fI}{σ:St}{H:Hp}{s:Shared}{a:Addr}{y:V}{u:Value}{A:Around}{E:fJ}
end
end L2
namespace HT
open PySem PyProof.Rows
variable{Q:fJ}{sl:Addr}{vl vu:Value}{hi lo:Option Int}
section
open PySem.SeqAt
open PySem.AutoSeq1 (wpAny_loadPart')
open PySem.MeetsSeq PySem.MeetsSeq2 PySem.MeetsSeq3
end
section
variable{prog:Program}{w:World}{A:Around}{E:fJ}{s:Shared}
theorem cat_tup{t b:Addr}{vs ws:fM}(ht:IsTup s.heap t vs.toArray)(hb:IsTup s.heap b ws.toArray)(hv:vs≠[])
  (h1:ws=[]->Q (.ref t) s)(h2:ws≠[]->Q (.ref s.heap.objs.size) { s with heap:=s.heap.push { cls:=.type "tuple",data:=.seq (vs++ws).toArray } })
  (hsz:vs.length+ws.length<=sizeLine):wpAny (model prog w) A (binaryOp .Add (.ref t) (.ref b)) Q E s:=by
 obtain⟨⟨cls,dd,data,sl⟩,ho,hc,n,hd⟩:=id ht;obtain⟨⟨cls2,dd2,data2,sl2⟩,ho2,hc2,n2,hd2⟩:=id hb;simp only at hc hd hc2 hd2;subst hc hd hc2 hd2;have e:vs.toArray++ws.toArray=(vs++ws).toArray:=by simp
 by_cases hw:ws=[]
 ·exact concat_meets ⟨_,ho,rfl⟩ ⟨_,ho2,rfl⟩ noFill_tuple_add seq_tuple_add PySem.F.slot_tuple_add PySem.F.entry_tuple_add (eR _ _)
   (tuple_addW1 t b vs.toArray ws.toArray n n2 dd dd2 sl sl2 (by simpa using hv) (by simp[hw])) ⟨ho,ho2,h1 hw⟩
 ·refine concat_meets ⟨_,ho,rfl⟩ ⟨_,ho2,rfl⟩ noFill_tuple_add seq_tuple_add PySem.F.slot_tuple_add PySem.F.entry_tuple_add (eR _ _)
   (tuple_addW2 t b vs.toArray ws.toArray n n2 dd dd2 sl sl2 (by simpa using hv) (by simpa using hw) (by rw[ah,ah];exact hsz)) ⟨ho,ho2,?_⟩
  rw[e];exact h2 hw
def sIx(n d:Nat):Option Int->Nat
 |none=>d
 |some v=>if v<0 then(v+(n:Int)).toNat else min v.toNat n
theorem sIx_none(n d:Nat):sIx n d none=d:=rfl
theorem sIx_nat(n d k:Nat):sIx n d (some (k:Int))=min k n:=by
 show(if(k:Int)<0 then((k:Int)+(n:Int)).toNat else min (k:Int).toNat n)=min k n;rw[aG (by omega),cB]
theorem uX(n d:Nat)(hd:d<=n)(o:Option Int):sIx n d o<=n:=by
 cases o with
 |none=>exact hd
 |some v=>
  show(if v<0 then(v+(n:Int)).toNat else min v.toNat n)<=n
  by_cases hv:v<0
  ·rw[aF hv];omega
  ·rw[aG hv];exact Nat.min_le_right _ _
theorem Xa(v:Int)(n d:Nat):(if v<0 then max (v+(n:Int)) 0 else min v (n:Int))=((sIx n d (some v):Nat):Int):=by
 show(if v<0 then max (v+(n:Int)) 0 else min v (n:Int))=(((if v<0 then(v+(n:Int)).toNat else min v.toNat n):Nat):Int)
 by_cases hv:v<0
 ·simp only[aF hv];omega
 ·simp only[aG hv];omega
theorem J6(lo hi:Option Int)(n:Nat):Builtin.Slice.sliceAdjust lo hi 1 (n:Int)=(((sIx n 0 lo:Nat):Int),((sIx n n hi:Nat):Int)):=by
 have h1:¬ ((1:Int)<0):=by omega
 unfold Builtin.Slice.sliceAdjust;simp only[h1,fz];refine Prod.ext ?_ ?_
 ·cases lo with
  |none=>rfl
  |some v=>exact Xa v n 0
 ·cases hi with
  |none=>rfl
  |some v=>exact Xa v n n
theorem JN(i j:Nat):Builtin.Slice.slicePlaces (i:Int) (j:Int) 1=j - i:=by
 unfold Builtin.Slice.slicePlaces;have h1:(1:Int) > 0:=by omega
 simp only[h1,d4,Int.ediv_one]
 split <;> omega
theorem wz{v:Value}{o:Option Int}{Q:Option Int->Shared->Prop}(p:IsPart v o)(h:Q o s):wpAny (model prog w) A (Builtin.Slice.slicePartIndex v) Q E s:=by
 cases p with
 |none=>exact slicePart_none h
 |int i t=>exact slicePart_int h
theorem xk{n:Nat}{Q:Int×Int×Nat->Shared->Prop}(hs:s.heap.IsSliceOf sl vl vu .none)(pl:IsPart vl lo)(pu:IsPart vu hi)
  (h:Q (((sIx n 0 lo:Nat):Int),1,sIx n n hi - sIx n 0 lo) s):wpAny (model prog w) A (Builtin.Slice.sliceApplied (.ref sl) (pure (n:Int))) Q E s:=by
 obtain⟨os,hos,hcs,hds⟩:=id hs;unfold Builtin.Slice.sliceApplied Builtin.Slice.sliceFields;refine af (af (wpAny_field hos hds (x:=vl) rfl (af (wpAny_field hos hds (x:=vu) rfl (af (wpAny_field hos hds (x:=.none) rfl (aw ?_)))))));refine af (slicePart_none ?_);show wpAny _ _ (if((1:Int) == 0)=true then _ else _) _ _ s;rw[aG (by decide)];refine af (wz pl (af (wz pu (af (aw ?_)))));show wpAny _ _ (match Builtin.Slice.sliceAdjust lo hi 1 (n:Int)with|(lo,hi)=>pure (lo,(1:Int),Builtin.Slice.slicePlaces lo hi 1)) _ _ s;rw[J6 lo hi n];show wpAny _ _ (pure (((sIx n 0 lo:Nat):Int),(1:Int),Builtin.Slice.slicePlaces ((sIx n 0 lo:Nat):Int) ((sIx n n hi:Nat):Int) 1)) _ _ s;rw[JN];exact aw h
theorem XN(xs:fO)(i k:Nat):((List.range k).filterMap fun(m:Nat)=>xs[((i:Int)+(m:Int) * 1).toNat]?).toArray=((xs.toList.drop i).take k).toArray:=by
 have e:(fun(m:Nat)=>xs[((i:Int)+(m:Int) * 1).toNat]?)=fun m=>xs[i+m]?:=by
  funext m
  have:((i:Int)+(m:Int) * 1).toNat=i+m:=by omega
  rw[this]
 rw[e];have:=pick_run xs i k;rw[List.filterMap_map]at this;have e2:((fun x=>xs[x]?) ∘ fun x=>i+x)=fun m=>xs[i+m]?:=rfl
 rw[e2]at this;rw[this]
theorem getItem_tuple_cut{t:Addr}{items:fO}(ht:IsTup s.heap t items)(hs:s.heap.IsSliceOf sl vl vu .none)(pl:IsPart vl lo)(pu:IsPart vu hi)
  (hw:¬ (sIx items.size 0 lo=0/\sIx items.size items.size hi=items.size))
  (h:Q (.ref s.heap.objs.size) { s with heap:=s.heap.push { cls:=.type "tuple",data:=.seq ((items.toList.drop (sIx items.size 0 lo)).take (sIx items.size items.size hi - sIx items.size 0 lo)).toArray } })
  (hsz:items.size<=sizeLine):wpAny (model prog w) A (getItem (.ref t) (.ref sl)) Q E s:=by
 have htake:sizeOk (.seq ((items.toList.drop (sIx items.size 0 lo)).take (sIx items.size items.size hi - sIx items.size 0 lo)).toArray):=by
  show((items.toList.drop (sIx items.size 0 lo)).take (sIx items.size items.size hi - sIx items.size 0 lo)).toArray.size<=sizeLine;rw[ah,bF,cO,bx];omega
 have hj:sIx items.size items.size hi<=items.size:=uX _ _ (ak _) hi;obtain⟨os,hos,hcs,hds⟩:=id hs;have hTs:s.TypeIs (.ref sl) "slice":=⟨os,hos,hcs⟩;unfold getItem
 try with_reducible refine bQ ?_
 first|refine af (aw ?_)|skip
 refine af (wpAny_sequenceKey ht.typeIs (by decide) ?_);refine af (wpAny_callSpecial?_slot (name:=Str.ofString "__getitem__") ht.typeIs cC
  (ff cC ht.typeIs entry_tuple_getitem ?_ (args_tuple_getitem _ _)))
 show wpAny _ _ (Builtin.Tuple.tupleItemsOf (.ref t) >>= _) _ _ s;refine af (tupleItemsOf_ ht ?_);refine af (wpAny_typeOf hTs ?_);rw[aF (by decide)];refine af (xk hs pl pu ?_);have hno:¬ ((((sIx items.size 0 lo:Nat):Int) == 0 && (1:Int) == 1 && (sIx items.size items.size hi - sIx items.size 0 lo) == items.size)=true):=by
  intro q;rw[cx,cx]at q;have q1:((sIx items.size 0 lo:Nat):Int)=0:=eq_of_beq q.1.1;have q2:sIx items.size items.size hi - sIx items.size 0 lo=items.size:=eq_of_beq q.2;exact hw ⟨by omega,by omega⟩
 show wpAny _ _ (if(((sIx items.size 0 lo:Nat):Int) == 0 && (1:Int) == 1 && (sIx items.size items.size hi - sIx items.size 0 lo) == items.size)=true then _ else _) _ _ s;rw[aG hno,XN]
 first
  |exact af (m:=Builtin.Tuple.tupleExact _) (bX (aw ⟨_,rfl,aw h⟩) htake)
  |exact af (m:=Builtin.Tuple.tupleExact _) (bX (af (aw (aw ⟨_,rfl,aw h⟩))) htake)
  |exact af (af (m:=Builtin.Tuple.tupleExact _) (bX (aw (aw ⟨_,rfl,aw h⟩)) htake))
  |exact af (af (m:=Builtin.Tuple.tupleExact _) (bX (aw ⟨_,rfl,aw h⟩) htake))
end
end HT
namespace L2
open PySem PySem.Spec PyProof.Rows
variable{j t':Nat}{α:Type}{s:Shared}{u v:Value}{its:fM}
abbrev TO:=St->Hp->(Option Int->Hp->Prop)->Prop
def PO(X:Cx)(e:Option Expr)(t:TO):Prop:=
 ∀(pins:fI)(s:Shared)(σ:St)(H:Hp)(Q:Option Int->Hp->Prop),Inv X pins σ H s->t σ H Q->
  wpAny (model X.prog X.w) X.A (evalPart e X.env) (fun u s'=>∃o H',Inv X pins σ H' s'/\IsPart u o/\Q o H') X.xe s
def Ys:TO:=fun _ H Q=>Q none H
def qcd(t:TE):TO:=fun σ H Q=>t σ H fun x H1=>∃i,x=.int i/\Q (some i) H1
section
variable{X:Cx}{e:Expr}{te:TE}{lo hi:Option Expr}{tl th:TO}{pos p2:Pos}
theorem YQ:PO X none Ys:=by
 intro pins s σ H Q I h;rw[evalPart_none];exact aw ⟨none,H,I,.none,h⟩
theorem YO(h:PE X e te):PO X (some e) (qcd te):=by
 intro pins s σ H Q I hw;rw[evalPart_some];refine thn (h pins s σ H _ I hw) fun u s1⟨x,H1,I1,r1,q1⟩=>?_
 obtain⟨i,rfl,q⟩:=q1;obtain⟨t,rfl⟩:=r1;exact⟨some i,H1,I1,.int i t,q⟩
def SlR(X:Cx)(r:V->Option Int->Option Int->Hp->VK->Prop):Prop:=
 ∀(pins:fI)(s:Shared)(σ:St)(H:Hp)(x:V)(v vl vu:Value)(lo hi:Option Int)(sl:Addr)(Q:VK),Inv X pins σ H s->RelV x v->s.heap.IsSliceOf sl vl vu .none->IsPart vl lo->IsPart vu hi->r x lo hi H Q->
  ∃T id,typeLookup (.type T) "__getitem__"=pure (some (.builtin id))/\s.TypeIs v T/\wpAny (model X.prog X.w) X.A (getItem v (.ref sl)) (EP X pins σ Q) X.xe s
theorem SlR.or{r r':V->Option Int->Option Int->Hp->VK->Prop}(h:SlR X r)(h':SlR X r'):SlR X (fun x lo hi H Q=>r x lo hi H Q\/r' x lo hi H Q):=by
 intro pins s σ H x v vl vu lo hi sl Q I rx hs pl pu q;rcases q with q|q
 ·exact h pins s σ H x v vl vu lo hi sl Q I rx hs pl pu q
 ·exact h' pins s σ H x v vl vu lo hi sl Q I rx hs pl pu q
def tSl(r:V->Option Int->Option Int->Hp->VK->Prop)(te:TE)(tl th:TO):TE:=fun σ H Q=>te σ H fun x H1=>tl σ H1 fun l H2=>th σ H2 fun u H3=>r x l u H3 Q
theorem XT{r:V->Option Int->Option Int->Hp->VK->Prop}(hr:SlR X r)(he:PE X e te)(hl:PO X lo tl)(hu:PO X hi th):PE X (.Subscript e (.Slice lo hi none p2) pos) (tSl r te tl th):=by
 intro pins s σ H Q I h;refine eQ (thn (he pins s σ H _ I h) fun v s1⟨x,H1,I1,r1,q1⟩=>?_);refine wpAny_Slice (thn (hl pins s1 σ H1 _ I1 q1) fun vl s2⟨l,H2,I2,pl,q2⟩=>thn (hu pins s2 σ H2 _ I2 q2) fun vu s3⟨u,H3,I3,pu,q3⟩=>?_);rw[evalPart_none];refine aw ?_;have I4:Inv X pins σ H3 { s3 with heap:=s3.heap.push { cls:=.type "slice",data:=.fields #[vl,vu,.none] } }:=I3.kept (t':=s3.toks) fun b ob q=>ae _ q
 obtain⟨T,id,hT,ht,hg⟩:=hr pins { s3 with heap:=s3.heap.push { cls:=.type "slice",data:=.fields #[vl,vu,.none] } } σ H3 x v vl vu l u s3.heap.objs.size Q I4 r1 (Heap.IsSliceOf.new ..) pl pu q3;show wpAny (model X.prog X.w) X.A (subscriptTail e (.Slice lo hi none p2) v (.ref s3.heap.objs.size)) (EP X pins σ Q) X.xe { s3 with heap:=s3.heap.push { cls:=.type "slice",data:=.fields #[vl,vu,.none] } };exact tail_any (ops:=[.ref s3.heap.objs.size,v]) ht hT hg (by with_unfolding_all rfl)
def cutV(xs:List V)(lo hi:Option Int):List V:=(xs.drop (HT.sIx xs.length 0 lo)).take (HT.sIx xs.length xs.length hi - HT.sIx xs.length 0 lo)
theorem wj(xs:List V)(lo hi:Option Int):(cutV xs lo hi).length<=xs.length:=by
 unfold cutV;rw[bF,cO];omega
def rSlT(K:fH):V->Option Int->Option Int->Hp->VK->Prop:=fun x lo hi H Q=>∃a xs,x=.ref a/\SqT K H a xs/\
 ¬ (HT.sIx xs.length 0 lo=0/\HT.sIx xs.length xs.length hi=xs.length)/\∀p,H p=none->Q (.ref p) (upd H p (.tup (cutV xs lo hi)))
theorem uW:SlR X (rSlT X.K):=by
 intro pins s σ H x v vl vu lo hi sl Q I rx hs pl pu h;obtain⟨a,xs,rfl,hx,hw,q⟩:=h;cases rx;obtain⟨its,r,ht,hz⟩:=I.tuple hx;have hlen:its.toArray.size=xs.length:=by rw[ah];exact r.length.symm
 refine⟨"tuple",_,cC.lookup,ht.typeIs,?_⟩;refine HT.getItem_tuple_cut ht hs pl pu (by rw[hlen];exact hw) ?_ (by rw[hlen];exact hz);rw[hlen];refine⟨.ref s.heap.objs.size,_,I.laid (t':=s.toks) (o:=.tup (cutV xs lo hi)) (fun b ob q=>ae _ q) (ak _) ?_,rfl,q _ (I.hok.fresh (ak _))⟩;exact⟨bj (wj xs lo hi) hz,_,(r.drop (HT.sIx xs.length 0 lo)).take (HT.sIx xs.length xs.length hi - HT.sIx xs.length 0 lo),IsTup.new _ _⟩
def qac(K:fH):R2:=fun x y H Q=>∃a b xs ys,x=.ref a/\y=.ref b/\SqT K H a xs/\SqT K H b ys/\xs≠[]/\xs.length+ys.length<=sizeLine/\
 (ys=[]->Q (.ref a) H)/\(ys≠[]->∀p,H p=none->Q (.ref p) (upd H p (.tup (xs++ys))))
theorem Vals.nil_iff{xs:List V}{us:fM}(r:Vals xs us):us=[]↔xs=[]:=by
 cases r with
 |nil=>simp
 |cons _ _=>simp
theorem Y1:OpR X (binaryOp .Add) (qac X.K):=by
 intro pins s σ H x y v u Q I rx ry h;obtain⟨a,b,xs,ys,rfl,rfl,ha,hb,hx,hz,q1,q2⟩:=h;cases rx;cases ry;obtain⟨its,r1,p1,_⟩:=I.tuple ha;obtain⟨its2,r2,p2,_⟩:=I.tuple hb;refine HT.cat_tup p1 p2 (fun z=>hx (r1.nil_iff.mp z)) (fun z=>⟨.ref a,H,I,rfl,q1 (r2.nil_iff.mp z)⟩) (fun z=>?_) (by rw[<- r1.length,<- r2.length];exact hz);refine⟨.ref s.heap.objs.size,_,I.laid (t':=s.toks) (o:=.tup (xs++ys)) (fun b ob q=>ae _ q) (ak _) ?_,rfl,q2 (fun w=>z (r2.nil_iff.mpr w)) _ (I.hok.fresh (ak _))⟩;exact⟨by rw[aK];exact hz,_,r1.append r2,IsTup.new _ _⟩
end
def ixN(n:Nat)(i:Int):Option Nat:=if 0<=i then(if i<n then some i.toNat else none)else if -(n:Int)<=i then some (i+n).toNat else none
def atI{α:Type}(xs:List α)(i:Int):Option α:=(ixN xs.length i).bind fun j=>xs[j]?
theorem ui{n:Nat}{i:Int}(h:ixN n i=some j):seqIndex? i n=some j/\j<n/\-(n:Int)<=i/\i<n:=by
 unfold ixN at h
 by_cases h0:0<=i
 ·rw[aF h0]at h
  by_cases h1:i<n
  ·rw[aF h1]at h
   have e:i.toNat=j:=bh h;exact⟨by rw[seqIndex_of h0 h1,e],by omega,by omega,h1⟩
  ·rw[aG h1]at h;cases h
 ·rw[aG h0]at h
  by_cases h1:-(n:Int)<=i
  ·rw[aF h1]at h
   have e:(i+n).toNat=j:=bh h;exact⟨by rw[seqIndex_neg (by omega) h1,e],by omega,h1,by omega⟩
  ·rw[aG h1]at h;cases h
theorem ZP{xs:List α}{i:Int}{v:α}(h:atI xs i=some v):∃j,seqIndex? i xs.length=some j/\xs[j]?=some v/\j<xs.length/\-(xs.length:Int)<=i/\i<xs.length:=by
 unfold atI at h;cases e:ixN xs.length i with
 |none=>rw[e]at h;cases h
 |some j=>
  rw[e]at h;obtain⟨h1,h2,h3,h4⟩:=ui e;exact⟨j,h1,h,h2,h3,h4⟩
theorem y3{xs:List α}{v:α}(h:xs[j]?=some v):atI xs (j:Int)=some v:=by
 have hj:j<xs.length:=(ai.mp h).1;have e:ixN xs.length (j:Int)=some j:=by
  unfold ixN;rw[aF (by omega),aF (by omega)];simp
 unfold atI;rw[e];exact h
def ZQ(b:Expr):Prop:=∀o i,subscripted b false o i=operate [o,i] (getItem o i)
def IxR(X:Cx)(r:R2):Prop:=
 ∀(value slice:Expr)(pins:fI)(s:Shared)(σ:St)(H:Hp)(x y:V)(v u:Value)(Q:VK),Inv X pins σ H s->RelV x v->RelV y u->r x y H Q->
  subscripted slice false v u=operate [v,u] (getItem v u)->wpAny (model X.prog X.w) X.A (subscriptTail value slice v u) (EP X pins σ Q) X.xe s
def MtR(X:Cx)(id:String)(r:V->List V->Hp->VK->Prop):Prop:=
 ∀(pins:fI)(s:Shared)(σ:St)(H:Hp)(x:V)(xs:List V)(v:Value)(us:fM)(Q:VK),Inv X pins σ H s->RelV x v->Vals xs us->r x xs H Q->
  wpAny (model X.prog X.w) X.A (call (.builtin id) (v::us)) (EP X pins σ Q) X.xe s
section
variable{X:Cx}{a b:Expr}{ta tb:TE}{pos:Pos}
theorem IxR.or{r r':R2}(h:IxR X r)(h':IxR X r'):IxR X (fun x y H Q=>r x y H Q\/r' x y H Q):=by
 intro value slice pins s σ H x y v u Q I rx ry q hs;rcases q with q|q
 ·exact h value slice pins s σ H x y v u Q I rx ry q hs
 ·exact h' value slice pins s σ H x y v u Q I rx ry q hs
theorem Qj{r:R2}(hr:IxR X r)(ha:PE X a ta)(hb:PE X b tb)(hs:ZQ b):PE X (.Subscript a b pos) (tOp r ta tb):=by
 intro pins s σ H Q I h;exact eQ (binT ha hb I h fun v u s2 x y H2 I2 rx ry q=>hr a b pins s2 σ H2 x y v u Q I2 rx ry q (hs _ _))
def rIxL(K:fH):R2:=fun x y H Q=>∃p xs i v,x=.ref p/\y=.int i/\SqL K H p xs/\atI xs i=some v/\Q v H
def rIxT(K:fH):R2:=fun x y H Q=>∃p xs i v,x=.ref p/\y=.int i/\SqT K H p xs/\atI xs i=some v/\Q v H
def rIxS:R2:=fun x y H Q=>∃z i c,x=.str z/\y=.int i/\z.length<=sizeLine/\atI z.cps.toList i=some c/\Q (.str ⟨#[c]⟩) H
theorem ix_list:IxR X (rIxL X.K):=by
 intro value slice pins s σ H x y v u Q I rx ry h hs;obtain⟨p,xs,i,z,rfl,rfl,hq,he,q⟩:=h;cases rx;obtain⟨t,rfl⟩:=ry;obtain⟨its,r,pl,hz⟩:=I.list hq;obtain⟨j,h1,h2,h3,h4,h5⟩:=ZP he;obtain⟨w,ew,rw'⟩:=r.get h2;have hl:=r.length;have hn:=xf;have fin:EP X pins σ Q w s:=⟨z,H,I,rw',q⟩
 by_cases h0:0<=i
 ·have hj:i.toNat=j:=by
   rw[seqIndex_of h0 h5]at h1;exact bh h1
  exact item_listR pl.isList h0 (by omega) (by rw[hj];simpa using ew) fin hs
 ·have hj:(i+(its.toArray.size:Int)).toNat=j:=by
   rw[seqIndex_neg (by omega) h4]at h1;rw[ah,<- hl];exact bh h1
  exact cQ (x:=w) pl.isList.typeIs eS.lookup
   (wpAny_getItem_list_neg (Q:=fun r s'=>r=w/\EP X pins σ Q r s') pl.isList (by omega) (by rw[ah] <;> omega) (by omega) (by rw[hj];simpa using ew) ⟨rfl,fin⟩) hs
theorem ix_tup:IxR X (rIxT X.K):=by
 intro value slice pins s σ H x y v u Q I rx ry h hs;obtain⟨p,xs,i,z,rfl,rfl,hq,he,q⟩:=h;cases rx;obtain⟨t,rfl⟩:=ry;obtain⟨its,r,pl,hz⟩:=I.tuple hq;obtain⟨j,h1,h2,h3,h4,h5⟩:=ZP he;obtain⟨w,ew,rw'⟩:=r.get h2;have hl:=r.length;have hn:=xf;have fin:EP X pins σ Q w s:=⟨z,H,I,rw',q⟩;exact cQ (x:=w) pl.typeIs slot_tuple_getitem.lookup
  (getItem_tuple (j:=j) (Q:=fun r s'=>r=w/\EP X pins σ Q r s') pl (by omega) (by omega) (by rw[ah,<- hl];exact h1) (by simpa using ew) ⟨rfl,fin⟩) hs
theorem qbk:IxR X rIxS:=by
 intro value slice pins s σ H x y v u Q I rx ry h hs;obtain⟨z,i,c,rfl,rfl,hz,he,q⟩:=h;obtain⟨t,rfl⟩:=rx;obtain⟨t',rfl⟩:=ry;obtain⟨j,h1,h2,h3,h4,h5⟩:=ZP he;have hl:z.cps.toList.length=z.length:=by simp[Str.length]
 rw[hl]at h1 h4 h5;have hn:=xf;exact tail_any (typeIs_str s z t) slot_str_getitem.lookup (getItem_str (c:=c) (by
  have e1:decide (i < -(2 ^ 63:Int))=false:=aP (by omega);have e2:decide (i >= 2 ^ 63)=false:=aP (by omega);rw[e1,e2,Bool.or_false]) (by rw[h1];simpa using h2) ⟨.str ⟨#[c]⟩,H,I.tok _,⟨_,rfl⟩,q⟩) hs
def rIx(K:fH):R2:=fun x y H Q=>rIxL K x y H Q\/rIxT K x y H Q\/rIxS x y H Q
theorem ix_seq:IxR X (rIx X.K):=ix_list.or (ix_tup.or qbk)
theorem Qc(lo hi:Option Int)(n:Nat):(sliceBounds lo hi none n).1=((HT.sIx n 0 lo:Nat):Int)/\(sliceBounds lo hi none n).2.1=((HT.sIx n n hi:Nat):Int)/\(sliceBounds lo hi none n).2.2=1:=by
 refine⟨?_,?_,rfl⟩
 ·cases lo with
  |none=>simp[sliceBounds,HT.sIx]
  |some i=>
   simp only[sliceBounds,HT.sIx,Option.getD_none,show(1:Int) > 0 by decide,d4]
   by_cases h:i<0
   ·simp only[h,d4] <;> omega
   ·simp only[h,fz] <;> omega
 ·cases hi with
  |none=>simp[sliceBounds,HT.sIx]
  |some i=>
   simp only[sliceBounds,HT.sIx,Option.getD_none,show(1:Int) > 0 by decide,d4]
   by_cases h:i<0
   ·simp only[h,d4] <;> omega
   ·simp only[h,fz] <;> omega
theorem wW(its:fM)(lo hi:Option Int):slicePick its.toArray lo hi none=((its.drop (HT.sIx its.length 0 lo)).take (HT.sIx its.length its.length hi - HT.sIx its.length 0 lo)).toArray:=by
 obtain⟨h1,h2,h3⟩:=Qc lo hi its.toArray.size;unfold slicePick;rw[h1,h2,h3];simp only[sliceRange_one,pick_run,ah] <;> rfl
def rSlL(K:fH):V->Option Int->Option Int->Hp->VK->Prop:=fun x lo hi H Q=>∃a xs,x=.ref a/\SqL K H a xs/\∀p,H p=none->Q (.ref p) (upd H p (.lst (cutV xs lo hi)))
theorem Yx:SlR X (rSlL X.K):=by
 intro pins s σ H x v vl vu lo hi sl Q I rx hs pl pu h;obtain⟨a,xs,rfl,hx,q⟩:=h;cases rx;obtain⟨its,r,ht,hz⟩:=I.list hx;have hlen:=r.length;refine⟨"list",_,eS.lookup,ht.isList.typeIs,?_⟩;refine wpAny_getItem_list_slice ht.isList hs pl pu .none (by simp) ?_ (by rw[ah] <;> omega);rw[wW,<- hlen];refine⟨.ref s.heap.objs.size,_,I.laid (t':=s.toks) (o:=.lst (cutV xs lo hi)) (fun b ob q=>ae _ q) (ak _) ?_,rfl,q _ (I.hok.fresh (ak _))⟩;exact⟨bj (wj xs lo hi) hz,_,0,(r.drop (HT.sIx xs.length 0 lo)).take (HT.sIx xs.length xs.length hi - HT.sIx xs.length 0 lo),aB _ rfl⟩
def yF:V->Bool
 |.non=>true
 |.bl _=>true
 |.int _=>true
 |.str _=>true
 |_=>false
def eqV:V->V->Bool
 |.non,.non=>true
 |.bl a,.bl b=>a == b
 |.bl a,.int b=>(if a then 1 else 0) == b
 |.int a,.bl b=>a == (if b then 1 else 0)
 |.int a,.int b=>a == b
 |.str a,.str b=>a == b
 |_,_=>false
theorem qbw{A:Around}{y x:V}(ry:RelV y u)(rx:RelV x v)(fy:yF y=true)(fx:yF x=true):SeqAt.EqAt A s u v (eqV y x):=by
 cases y with
 |non=>
  cases ry;cases x with
  |non=>cases rx;exact SeqAt.EqAt.same _
  |bl b=>cases rx;exact SeqAt.EqAt.none_bool b
  |int b=>obtain⟨t,rfl⟩:=rx;exact SeqAt.EqAt.none_int b t
  |str b=>obtain⟨t,rfl⟩:=rx;exact SeqAt.EqAt.none_str b t
  |_=>exact absurd (show false=true from fx) aH
 |bl a=>
  cases ry;cases x with
  |non=>cases rx;exact SeqAt.EqAt.bool_none a
  |bl b=>cases rx;exact SeqAt.EqAt.bool_bool a b
  |int b=>obtain⟨t,rfl⟩:=rx;exact SeqAt.EqAt.bool_int a b t
  |str b=>obtain⟨t,rfl⟩:=rx;exact SeqAt.EqAt.bool_str a b t
  |_=>exact absurd (show false=true from fx) aH
 |int a=>
  obtain⟨t',rfl⟩:=ry;cases x with
  |non=>cases rx;exact SeqAt.EqAt.int_none a t'
  |bl b=>cases rx;exact SeqAt.EqAt.int_bool a t' b
  |int b=>obtain⟨t,rfl⟩:=rx;exact SeqAt.EqAt.int_int a t' b t
  |str b=>obtain⟨t,rfl⟩:=rx;exact SeqAt.EqAt.int_str a t' b t
  |_=>exact absurd (show false=true from fx) aH
 |str a=>
  obtain⟨t',rfl⟩:=ry;cases x with
  |non=>cases rx;exact SeqAt.EqAt.str_none a t'
  |bl b=>cases rx;exact SeqAt.EqAt.str_bool a t' b
  |int b=>obtain⟨t,rfl⟩:=rx;exact SeqAt.EqAt.str_int a t' b t
  |str b=>obtain⟨t,rfl⟩:=rx;exact SeqAt.EqAt.str_str a t' b t
  |_=>exact absurd (show false=true from fx) aH
 |_=>exact absurd (show false=true from fy) aH
def eqU(x:V)(u:Value):Bool:=match u with
 |.none=>eqV .non x
 |.bool b=>eqV (.bl b) x
 |.int i _=>eqV (.int i) x
 |.str z _=>eqV (.str z) x
 |_=>false
theorem Yb{x y:V}(r:RelV y u)(f:yF y=true):eqU x u=eqV y x:=by
 cases y with
 |non=>cases r;rfl
 |bl b=>cases r;rfl
 |int i=>obtain⟨t,rfl⟩:=r;rfl
 |str z=>obtain⟨t,rfl⟩:=r;rfl
 |_=>exact absurd (show false=true from f) aH
theorem wp{x:V}:∀{xs:List V}{us:fM},Vals xs us->xs.all yF=true->us.any (eqU x)=xs.any fun y=>eqV y x
 |_,_,.nil,_=>rfl
 |y::xs,u::us,.cons r t,f=>by
  rw[eX,cx]at f;rw[cY,cY,Yb r f.1,wp t f.2]
theorem vz{A:Around}{s:Shared}{x:V}{v:Value}(rx:RelV x v)(fx:yF x=true):∀{xs:List V}{us:fM},Vals xs us->xs.all yF=true->∀u∈us,SeqAt.EqAt A s u v (eqU x u)
 |_,_,.nil,_=>fun u hu=>by cases hu
 |y::xs,u::us,.cons r t,f=>fun u' hu=>by
  rw[eX,cx]at f;rcases aj.mp hu with rfl|hu
  ·rw[Yb r f.1];exact qbw r rx f.1 fx
  ·exact vz rx fx t f.2 u' hu
def inV(x:V)(xs:List V):Bool:=xs.any fun y=>eqV y x
def rIn(K:fH)(neg:Bool):R2:=fun x y H Q=>∃p xs,y=.ref p/\(SqL K H p xs\/SqT K H p xs)/\yF x=true/\xs.all yF=true/\Q (.bl (if neg then !inV x xs else inV x xs)) H
theorem Qo:OpR X (compareOp .In) (rIn X.K false):=by
 intro pins s σ H x y v u Q I rx ry h;obtain⟨p,xs,rfl,hq,fx,fs,q⟩:=h;cases ry;rcases hq with hq|hq
 ·obtain⟨its,r,pl,hz⟩:=I.list hq
  refine SeqAt.in_listAt (eqU x) pl.isList (fun w hw=>vz rx fx r fs w (by simpa using hw)) ⟨.bl _,H,I,rfl,?_⟩;rw[show its.toArray.any (eqU x)=its.any (eqU x) by simp,wp r fs];exact q
 ·obtain⟨its,r,pl,hz⟩:=I.tuple hq
  refine SeqAt.in_tupleAt (eqU x) pl (fun w hw=>vz rx fx r fs w (by simpa using hw)) ⟨.bl _,H,I,rfl,?_⟩;rw[show its.toArray.any (eqU x)=its.any (eqU x) by simp,wp r fs];exact q
theorem Qm:OpR X (compareOp .NotIn) (rIn X.K true):=by
 intro pins s σ H x y v u Q I rx ry h;obtain⟨p,xs,rfl,hq,fx,fs,q⟩:=h;cases ry;rcases hq with hq|hq
 ·obtain⟨its,r,pl,hz⟩:=I.list hq
  refine SeqAt.notIn_listAt (eqU x) pl.isList (fun w hw=>vz rx fx r fs w (by simpa using hw)) ⟨.bl _,H,I,rfl,?_⟩;rw[show its.toArray.any (eqU x)=its.any (eqU x) by simp,wp r fs];exact q
 ·obtain⟨its,r,pl,hz⟩:=I.tuple hq
  refine SeqAt.notIn_tupleAt (eqU x) pl (fun w hw=>vz rx fx r fs w (by simpa using hw)) ⟨.bl _,H,I,rfl,?_⟩;rw[show its.toArray.any (eqU x)=its.any (eqU x) by simp,wp r fs];exact q
theorem xj:CallR X (.builtin "len") (fun xs H Q=>∃p ys,xs=[.ref p]/\(SqL X.K H p ys\/SqT X.K H p ys)/\Q (.int ys.length) H):=by
 intro pins s σ H xs us Q I r h;obtain⟨p,ys,rfl,hq,q⟩:=h;obtain⟨u,rfl,rx⟩:=eW r;cases rx;have hn:=xf;rcases hq with hq|hq
 ·obtain⟨its,r',pl,hz⟩:=I.list hq
  have hlen:=r'.length;exact Calls.call_len_list pl.isList (by simp only[ah] <;> omega) ⟨.int ys.length,H,I.tok _,⟨s.toks+1,by rw[ah,hlen]⟩,q⟩
 ·obtain⟨its,r',pl,hz⟩:=I.tuple hq
  have hlen:=r'.length;exact len_tuple pl (by simp only[ah] <;> omega) ⟨.int ys.length,H,I.tok _,⟨s.toks+1,by rw[ah,hlen]⟩,q⟩
theorem CallR.or{f:Value}{r r':List V->Hp->VK->Prop}(h:CallR X f r)(h':CallR X f r'):CallR X f (fun xs H Q=>r xs H Q\/r' xs H Q):=by
 intro pins s σ H xs us Q I rs q;rcases q with q|q
 ·exact h pins s σ H xs us Q I rs q
 ·exact h' pins s σ H xs us Q I rs q
theorem QX:CallR X (.type "list") (fun xs H Q=>∃p ys,xs=[.ref p]/\(SqL X.K H p ys\/SqT X.K H p ys)/\∀l,H l=none->Q (.ref l) (upd H l (.lst ys))):=by
 intro pins s σ H xs us Q I r h;obtain⟨p,ys,rfl,hq,q⟩:=h;obtain⟨u,rfl,rx⟩:=eW r;cases rx;have fin:∀(its:fM),Vals ys its->ys.length<=sizeLine->∀(h':Heap)(c':Nat),(∀b o',s.heap.get? b=some o'->h'.get? b=some o')->
   h'.get? s.heap.objs.size=some { cls:=.type "list",dict:=none,data:=.seq its.toArray c',slots:=#[] }->EP X pins σ Q (.ref s.heap.objs.size) { s with heap:=h' }:=fun its r' hz h' c' kp e=>
  ⟨.ref s.heap.objs.size,_,I.laid (t':=s.toks) kp (ak _) (show ObjOk X.prog X.w _ h' _ (.lst ys)from⟨hz,its,c',r',e⟩),rfl,q _ (I.hok.fresh (ak _))⟩
 rcases hq with hq|hq
 ·obtain⟨its,r',pl,hz⟩:=I.list hq
  have hlen:=r'.length;obtain⟨o,ho,hc,n,hd⟩:=pl.isList;exact call_list_seq p (.inl rfl) ho hc hd (fun h' c' kp e=>fin its r' hz h' c' kp e) (by simp only[ah] <;> omega)
 ·obtain⟨its,r',pl,hz⟩:=I.tuple hq
  have hlen:=r'.length;obtain⟨o,ho,hc,n,hd⟩:=pl;exact call_list_seq p (.inr rfl) ho hc hd (fun h' c' kp e=>fin its r' hz h' c' kp e) (by simp only[ah] <;> omega)
def tyV(K:fH)(T:String)(x:V)(H:Hp):Prop:=match x with
 |.str _=>T="str"
 |.int _=>T="int"
 |.ref p=>(T="list"/\∃xs,SqL K H p xs)\/(T="tuple"/\∃o,K.lookup p=some o/\o.cls=.type "tuple"/\o.dict=none)\/
   (T="dict"/\((∃kvs,H p=some (.dK kvs))\/∃kvs,H p=some (.dT kvs)))\/(T="set"/\∃S n,H p=some (.set S n))
 |_=>False
theorem WM{pins:fI}{σ:St}{H:Hp}{T:String}{x:V}(I:Inv X pins σ H s)(r:RelV x v)(ty:tyV X.K T x H) :
  s.TypeIs v T/\∀a,v=.ref a->∃ob,s.heap.get? a=some ob/\ob.dict=none:=by
 cases x with
 |str z=>
  obtain⟨t,rfl⟩:=r;cases (show T="str" from ty);exact⟨typeIs_str s z t,fun _ e=>nomatch e⟩
 |int i=>
  obtain⟨t,rfl⟩:=r;cases (show T="int" from ty);exact⟨typeIs_int s i t,fun _ e=>nomatch e⟩
 |ref p=>
  cases r;rcases ty with⟨rfl,xs,hq⟩|⟨rfl,o,hk,hc,hd⟩|⟨rfl,hk⟩|⟨rfl,S,n,hk⟩
  ·obtain⟨its,_,pl,_⟩:=I.list hq
   refine⟨pl.isList.typeIs,fun a e=>?_⟩;cases e;obtain⟨o,n,e,c,hd,_⟩:=pl;exact⟨o,e,hd⟩
  ·refine⟨⟨o,I.kIn p o hk,hc⟩,fun a e=>?_⟩
   cases e;exact⟨o,I.kIn _ o hk,hd⟩
  ·have z:∃o,s.heap.get? p=some o/\o.ExactDict:=by
    rcases hk with⟨kvs,hk⟩|⟨kvs,hk⟩
    ·obtain⟨_,_,_,_,o,_,_,e,ex,_⟩:=I.hok p _ hk
     exact⟨o,e,ex⟩
    ·obtain⟨_,_,_,_,o,_,_,e,ex,_⟩:=I.hok p _ hk
     exact⟨o,e,ex⟩
   obtain⟨o,e,ex⟩:=z;refine⟨⟨o,e,ex.1⟩,fun a e2=>?_⟩;cases e2;exact⟨o,e,ex.2.1⟩
  ·obtain⟨o,_,_,_,e,ex,_⟩:=I.hok p _ hk
   refine⟨⟨o,e,ex.1⟩,fun a e2=>?_⟩;cases e2;exact⟨o,e,ex.2.1⟩
 |_=>exact False.elim ty
def tBM0(K:fH)(T:String)(r:V->List V->Hp->VK->Prop)(to:TE):TE:=fun σ H Q=>to σ H fun x H1=>tyV K T x H1/\r x [] H1 Q
def tBM(K:fH)(T:String)(r:V->List V->Hp->VK->Prop)(to:TE)(t:TA):TE:=fun σ H Q=>to σ H fun x H1=>tyV K T x H1/\t σ H1 fun xs H2=>r x xs H2 Q
variable{o e:Expr}{es:fQ}{to:TE}{t:TA}{name:Str}{apos cpos:Pos}{T id:String}{r:V->List V->Hp->VK->Prop}
theorem qaq(pa:PlainAttrs T)(slot:Slot T name id)(hty:typeOf (.builtin id)=pure (.type "method_descriptor"))(hm:MtR X id r)(ho:PE X o to)
  (hbase:attributeBase o name X.env (eval o X.env)=eval o X.env:=by rfl)(hline:(apos.endLine == cpos.line)=true:=by rfl):PE X (.Call (.Attribute o name apos) [] [] cpos) (tBM0 X.K T r to):=by
 intro pins s σ H Q I h;refine wpAny_Call_method0_late hbase hline (thn (ho pins s σ H _ I h) fun v s1⟨x,H1,I1,r1,ty,q1⟩=>?_);obtain⟨h1,h2⟩:=WM I1 r1 ty;exact⟨T,id,pa,slot,hty,h1,h2,dA rfl (PySem.evalArgs_none (hm pins s1 σ H1 x [] v [] Q I1 r1 .nil q1))⟩
theorem qar(pa:PlainAttrs T)(slot:Slot T name id)(hty:typeOf (.builtin id)=pure (.type "method_descriptor"))(hm:MtR X id r)(ho:PE X o to)(ha:PA X (e::es) t)
  (hbase:attributeBase o name X.env (eval o X.env)=eval o X.env:=by rfl)
  (hfew:((backTo cpos (starEach (e::es) X.env)).all (fun x=>!x.1) && (backToKw cpos (keywordEach [] X.env)).all (fun x=>x.1.isSome)
   && decide ((e::es).length+([]:List Keyword).length+(if([]:List Keyword).isEmpty then 0 else 1)<30))=true:=by rfl)
  (hline:(apos.endLine == cpos.line)=true:=by rfl)(hs:starEach (e::es) X.env=(false,eval e X.env)::starEach es X.env:=by rfl)(hplain:(backTo cpos (starEach es X.env)).any (·.1)=false:=by rfl) :
  PE X (.Call (.Attribute o name apos) (e::es) [] cpos) (tBM X.K T r to t):=by
 intro pins s σ H Q I h;refine wpAny_Call_method_late hbase hfew hline rfl (thn (ho pins s σ H _ I h) fun v s1⟨x,H1,I1,r1,ty,q1⟩=>?_);obtain⟨h1,h2⟩:=WM I1 r1 ty;refine⟨T,id,pa,slot,hty,h1,h2,?_⟩;have hA:=ha cpos pins s1 σ H1 _ I1 q1;rw[hs]at hA ⊢;refine dA (by show(false || (backTo cpos (starEach es X.env)).any (·.1))=false;rw[hplain] <;> rfl) (Calls.evalArgs_plain ?_);exact thn hA fun us s2⟨vs,H2,I2,r2,q2⟩=>hm pins s2 σ H2 x vs v us Q I2 r1 r2 q2
end
def MtM(X:Cx)(id:String)(r:V->List V->Hp->VK->Prop):Prop:=
 ∀(pins:fI)(s:Shared)(σ:St)(H:Hp)(x:V)(xs:List V)(v:Value)(us:fM)(Q:VK),Inv X pins σ H s->RelV x v->Vals xs us->r x xs H Q->
  wpAny (model X.prog X.w) X.A (call (.builtin id) (v::us)) (EP X pins σ Q) X.xe s
theorem Vals.one:∀{x:V}{us:fM},Vals [x] us->∃u,us=[u]/\RelV x u
 |_,_,.cons r .nil=>⟨_,rfl,r⟩
theorem Vals.reverse{xs:List V}{us:fM}(h:Vals xs us):Vals xs.reverse us.reverse:=by
 induction h with
 |nil=>exact .nil
 |cons r t ih=>rw[dG,dG];exact Vals.append ih (.cons r .nil)
section
variable{X:Cx}{pins:fI}{σ:St}{H:Hp}{s:Shared}{l b:Addr}{xs ys zs:List V}
theorem Inv.lset{its':fM}{n:Nat}{f:fO->fO}(I:Inv X pins σ H s)(hH:H l=some (.lst xs))
  (e:s.heap.get? l=some { cls:=.type "list",data:=.seq its.toArray n })(hf:f its.toArray=its'.toArray)(hv:Vals ys its')(hz:ys.length<=sizeLine) :
  Inv X pins σ (upd H l (.lst ys)) { s with heap:=s.heap.update l (Obj.mapSeq f),toks:=t' }:=by
 have q:=PySem.IsL.update e f;rw[hf]at q;refine I.write (x:=l) (e:=l) (by rw[hH];exact trivial) (.inl rfl) (fun b' u hb hu=>(cR s.heap (Obj.mapSeq f) (bW hb)).trans hu) ⟨_,q⟩ ?_;exact⟨hz,its',_,hv,q⟩
theorem Inv.lnew(I:Inv X pins σ H s)(hv:Vals ys its)(hz:ys.length<=sizeLine) :
  Inv X pins σ (upd H s.heap.objs.size (.lst ys)) { s with heap:=s.heap.push { cls:=.type "list",data:=.seq its.toArray },toks:=t' }:=
 I.laid (fun _ _ q=>ae _ q) (ak _) ⟨hz,its,0,hv,aB _ rfl⟩
theorem Inv.fresh(I:Inv X pins σ H s):H s.heap.objs.size=none:=I.hok.fresh (ak _)
theorem Inv.lstM(I:Inv X pins σ H s)(hH:H l=some (.lst xs)):xs.length<=sizeLine/\∃(its:fM)(n:Nat),Vals xs its/\xs.length=its.length/\s.heap.get? l=some { cls:=.type "list",data:=.seq its.toArray n }:=by
 obtain⟨z,its,n,r,e⟩:=I.hok l _ hH;exact⟨z,its,n,r,r.length,e⟩
end
section
variable{X:Cx}
def YE:V->List V->Hp->VK->Prop:=fun x vs H Q=>∃l xs y,x=.ref l/\vs=[y]/\H l=some (.lst xs)/\xs.length<sizeLine/\Q .non (upd H l (.lst (xs++[y])))
theorem xU:MtM X "list.append" YE:=by
 intro pins s σ H x vs v us Q I rx rv h;obtain⟨l,xs,y,rfl,rfl,hH,hz,q⟩:=h;cases rx;obtain⟨u,rfl,ru⟩:=rv.one;obtain⟨z,its,n,r,hl,e⟩:=I.lstM hH;refine call_meets F.slot_list_append ⟨_,e,rfl⟩ F.entry_list_append (F.args_list_append_2 _ _) (PySem.list_append l its.toArray n u (by rw[ah];omega)) ⟨e,?_⟩;refine⟨.non,_,I.lset (its':=its++[u]) hH e (by simp) (r.append (.cons ru .nil)) ?_,rfl,q⟩;rw[aK,dN];omega
def rCat:R2:=fun x y H Q=>∃l b xs zs,x=.ref l/\y=.ref b/\H l=some (.lst xs)/\H b=some (.lst zs)/\xs.length+zs.length<=sizeLine/\∀p,H p=none->Q (.ref p) (upd H p (.lst (xs++zs)))
theorem qau:OpR X (binaryOp .Add) rCat:=by
 intro pins s σ H x y v u Q I rx ry h;obtain⟨l,b,xs,zs,rfl,rfl,hH,hB,hz,q⟩:=h;cases rx;cases ry;obtain⟨z,its,n,r,hl,e⟩:=I.lstM hH;obtain⟨z2,its2,n2,r2,hl2,e2⟩:=I.lstM hB;refine PySem.P.add_list e e2 ?_ (by rw[ah,ah];omega);have ea:its.toArray++its2.toArray=(its++its2).toArray:=by simp
 rw[ea];exact⟨.ref _,_,I.lnew (t':=s.toks) (r.append r2) (by rw[aK];omega),rfl,q _ I.fresh⟩
theorem len_rep(xs:List α)(k:Nat):(List.replicate k xs).flatten.length=k * xs.length:=by
 induction k with
 |zero=>simp
 |succ k ih=>rw[List.replicate_succ,List.flatten_cons,aK,ih,Nat.succ_mul,Nat.add_comm]
end
section
variable{prog:Program}{w:World}{A:Around}{E:fJ}{s:Shared}
end
section
variable{X:Cx}
end
end L2
namespace Att
open PySem PySem.W PySem.Calls PyProof.Rows
variable{P:Params}{h:Heap}{l:OpenLaw}
theorem xZ:∀(ns:fR)(vs:fM),WellAll P h vs (ns.map WData.int)->IntsAre vs ns:=by
 intro ns
 induction ns with
 |nil=>
  intro vs w;rw[dJ]at w;cases w;exact .nil
 |cons n ns ih=>
  intro vs w;rw[aA]at w;cases w with
  |cons a b=>
   cases a;exact .cons _ _ (ih _ b)
theorem Kn{n:Nat}(hn:l.most=some n){args:List WData}{vals:fM}
  (hpre:l.row.toRowW.claim.pre args=true)(hwl:WellAll P h vals args) :
  ∃a vs ns,vals=[Value.ref a]/\args=[WData.list (ns.map WData.int)]/\h.get? a=some { cls:=.type "list",data:=.seq vs.toArray }/\IntsAre vs ns/\ns.length<=n:=by
 have hsh:WShape.hasAll [] args [.list .int]=true:=(pre_splitW hpre).1;have hc:l.pre.holds [] { args:=args }=true:=(pre_splitW hpre).2;obtain⟨d,r,rfl,h1,h2⟩:=hasAllW_cons hsh;obtain rfl:=hasAllW_nil h2;obtain⟨xs,rfl,h3⟩:=hasW_list h1;obtain⟨ns,rfl⟩:=items_int h3;have hlen:ns.length<=n:=by
  unfold OpenLaw.pre at hc;have h4:(WTm.not (.lt (.lit (.int (n:Int))) (.len (.arg 0)))).holds [] { args:=[.list (ns.map .int)] }=true:=by
   have h4:=(holds_andW hc).1;rw[hn]at h4;exact h4
  have h5:=condW_of h4 (w_not (w_lt w_lit (w_len_list (w_arg rfl))));rw[ab]at h5;refine Nat.le_of_not_lt fun q=>?_
  have q':(n:Int)<((ns.length:Nat):Int):=by omega
  first
   |(rw[aO q']at h5;exact absurd h5 (by decide))
   |(simp at h5;omega)
 cases hwl with
 |cons w1 w2=>
  cases w2;cases w1 with
  |list ho hall=>exact⟨_,_,ns,rfl,rfl,ho,xZ ns _ hall,hlen⟩
theorem KF(l:OpenLaw)(args:List WData):l.row.toRowW.claim.post args (.bool true) args=true:=
 postW_of (r:=l.row.toRowW) (X:=(true == true))
  (show WShape.has [] (.bool true) .bool=true by first|rfl|decide|simp[WShape.has,WShape.arms,WShape.armsAll])
  (show(WTm.eq .res (.lit (.bool true))).value [] { args:=args,res:=some (.bool true),after:=args }=some (.bool (true == true))from w_eq_bool (w_res rfl) w_lit) rfl
theorem attach_call{n:Nat}{q:Program}{loose:fP}{XP:(fK)->Heap->Prop}{YP:World->Heap->Prop}{d:DefRec}
  (hn:l.most=some n)(hdf:d.params.defaults=[])
  (call:∀(w:World)(s₀ s₁:Shared)(mg mb:fK)(fa:Addr)(o:Obj)(pm cd doc:Value)(a:Addr)(vs:fM)(ns:fR),
   Ground q loose [] XP w s₀ mg mb s₁.heap->YP w s₁.heap->
   s₁.heap.get? fa=some o->o.data=.func (docDef d.name d.params d.body d.scope pm cd doc)->s₁.heap.CodeRec cd d.name->mg d.name=some (.ref fa)->
   s₁.heap.get? a=some { cls:=.type "list",data:=.seq vs.toArray }->IntsAre vs ns->ns.length<=n->s₁.gens=#[]->
   codeAny (model l.prog w) callerA (.call (.ref fa) ⟨[.ref a],[]⟩) (fun r s'=>r=.ok (.ret (.bool true))/\OldK s₁.heap s'.heap/\s'.os=s₁.os/\AllBare s'.gens) s₁) :
  WalkO q loose XP YP l.row.toRowW d [] (fun f vs=>PySem.call f vs):=by
 intro w s₀ s₁ mg mb G Y fa o pm cd doc dV kV ho hd hcd hD hmg hg args vals as hpre hlay hrd hwl hlo;obtain rfl:dV=.none:=Dflts.none hD hdf;obtain rfl:kV=.none:=Dflts.noKw hD;obtain⟨a,vs,ns,rfl,rfl,hobj,hints,hlen⟩:=Kn hn hpre hwl;refine enter_call (eL (call w s₀ s₁ mg mb fa o pm cd doc a vs ns G Y ho (fd_plain hd) hcd hmg hobj hints hlen hg) fun r s' hq=>?_);obtain⟨rfl,h2,h3,h4⟩:=hq;exact⟨.inl ⟨.bool true,.bool true,[],rfl,fun _=>rfl,.bool true,KF l _,fun _=>⟨List.Pairwise.nil,fun _ hm=>(nomatch hm)⟩⟩,h2,h3,h4⟩
section
variable{prog:Program}{w:World}{A:Around}{E:fJ}{s:Shared}{K:Frag}
def noObjs(h:Heap):Heap:={ h with objs:=#[] }
theorem noObjs_get(h:Heap)(b:Addr):(noObjs h).get? b=none:=by
 cases e:(noObjs h).get? b with
 |none=>rfl
 |some o=>exact absurd (ao e) (cg _)
theorem fr_all{L:Addr}{m:fK}(n:h.Ns L m):Fr (noObjs h) L h m:=
 ⟨n,fun b o e=>(by rw[noObjs_get]at e;cases e),aV _⟩
end
end Att
namespace L2
open PySem PySem.Spec PyProof.Rows
variable{qual:Str}{st:Stmt}{f:Addr}{fd:FuncData}{ps:fP}{H:Hp}
theorem y8:∀{vs:fM}{ns:fR},IntsAre vs ns->Vals (ns.map V.int) vs
 |_,_,.nil=>.nil
 |_,_,.cons n t h=>.cons ⟨t,rfl⟩ (y8 h)
def vg(s:Stmt):Arguments:=match s with
 |.FunctionDef _ a _ _ _ _ _ _ _ _=>a
 |_=>{ posonlyargs:=[],args:=[],vararg:=none,kwonlyargs:=[],kw_defaults:=[],kwarg:=none,defaults:=[] }
def jq(s:Stmt):List Stmt:=match s with
 |.FunctionDef _ _ b _ _ _ _ _ _ _=>b
 |_=>[]
def qp(s:Stmt):Scope:=match s with
 |.FunctionDef _ _ _ _ _ _ sc _ _ _=>sc
 |_=>{ kind:=.function,names:=[],isGenerator:=false,isCoroutine:=false }
abbrev CX0:CXT:=fun _ _ _ _ _ _=>False
abbrev E0:XK:=fun _ _ _=>False
theorem xN{X:Cx}:Xs CX0 X E0:=fun _ _ _ _ _ _ _ h=>h.elim
structure Fun(K:fH)(x qual:Str)(st:Stmt)(f:Addr)(fd:FuncData):Prop where
 ex:∃(oc:Value)(od:fN)(kV doc pm:Value)(an:fN)(cdv ct:Value)(osl:Array (Option Value)),
  fd=PySem.W.fnOf x qual (vg st) (jq st) (qp st) .none kV doc pm an cdv ct/\K.lookup f=some ⟨oc,od,.func fd,osl⟩/\PySem.W.codeIn K cdv qual=true
 kp:PySem.W.keepIn K (.ref f)=true
section
variable{P:Program}{w:World}{K:fH}{mg:fK}{base:Heap}
theorem Fun.ok{x:Str}{N:fP}{k:Nat}{sp:Sp}(F:Fun K x qual st f fd)(S:FnScope N ps (qp st))(len:∀vs H Q E,sp vs H Q E->vs.length=ps.length)
  (hbody:∀(cdv:Value)(A:Around)(outer:List Env)(s:Shared)(H:Hp)(vs:List V)(Q:VK)(E:XK),Room k (A.deeper (envOfC qual (qp st) s.heap.objs.size f cdv))->sp vs H Q E->
   ∃t,PSs (cxOf CX0 P w K mg base N qual (qp st) f cdv A outer s H E).nox (jq st) t/\t { nx:=fun _ H'=>Q .non H',rt:=Q } (start N vs) H):FnOk P w K mg base CX0 (k+1) f fd ps sp:=by
 obtain⟨oc,od,kV,doc,pm,an,cdv,ct,osl,rfl,lk,hcd⟩:=F.ex;refine qbv lk hcd S len fun A outer s H vs Q E hr hsp=>?_
 obtain⟨t,h,q⟩:=hbody cdv A outer s H vs Q E hr hsp;exact⟨t,h.nox,q⟩
theorem Fun.binds{x:Str}(F:Fun K x qual st f fd)
  (h:∀(kV doc pm:Value)(an:fN)(cdv ct:Value)(us:fM),us.length=ps.length->bindArgs (PySem.W.fnOf x qual (vg st) (jq st) (qp st) .none kV doc pm an cdv ct) ⟨us,[]⟩=pure (ps.zip us)):Binds K fd ps []:=by
 obtain⟨oc,od,kV,doc,pm,an,cdv,ct,osl,rfl,lk,hcd⟩:=F.ex;exact .all (h kV doc pm an cdv ct)
end
theorem VF{A:Around}{k:Nat}(hr:Room k A):A.units+1<cLine:=c4 (Nat.add_le_add_left (by decide:1<=64) _) hr.units
theorem jt{n:Nat}(h:n<=1000):n<sizeLine:=c4 h (by decide)
section
variable{X:Cx}
theorem pv(i:Nat){x:Str}{pos:Pos}(hN:X.N[i]?=some x:=by rfl)(hv:Vis X.env.scope x:=by first|exact Or.inl rfl|exact Or.inr (Or.inl rfl)|exact Or.inr (Or.inr rfl))(hd:(x == ("__debug__":Str))=false:=by decide)
  (hcd:(x == ("__classdict__":Str))=false:=by decide):PE X (.Name x pos) (tVar i):=qal hN hv hd hcd
theorem QY:CallR X (.builtin "len") (fun xs H Q=>∃a kvs,xs=[V.ref a]/\H a=some (.dK kvs)/\Q (.int kvs.length) H):=by
 intro pins s σ H xs us Q I r h;obtain⟨a,kvs,rfl,ha,q⟩:=h;obtain⟨u,rfl,ru⟩:=eW r;cases ru;exact qdf I (.inl ha) fun t s' I'=>⟨.int kvs.length,H,I',⟨t,rfl⟩,q⟩
end
theorem iteF{A B:Prop}(h:B):if false=true then A else B:=by
 rw[aG aH];exact h
def Same(H H':Hp):Prop:=∀b o,H b=some o->H' b=some o
theorem Same.refl(H:Hp):Same H H:=fun _ _ h=>h
theorem Same.trans{H1 H2:Hp}(a:Same H H1)(b:Same H1 H2):Same H H2:=fun c o h=>b c o (a c o h)
theorem Same.free{H':Hp}(e:Same H H'){l:Addr}(h:H' l=Option.none):H l=Option.none:=by
 cases q:H l with
 |none=>rfl
 |some o=>
  rw[e l o q]at h;cases h
section
variable{κ:Type}[DecidableEq κ]
end
end L2
namespace X2
open PySem PySem.Spec PyProof.Rows L2
variable{H H':Hp}{X:Cx}{A B c:Prop}{elt iter tg:Expr}{ifs:fQ}{scope:Scope}{pos:Pos}
theorem JB:bootBuiltins "len"=some (.builtin "len"):=by decide +kernel
theorem vP:bootBuiltins "isinstance"=some (.builtin "isinstance"):=by decide +kernel
theorem yR:bootBuiltins "list"=some (.type "list"):=by decide +kernel
theorem yQ:bootBuiltins "tuple"=some (.type "tuple"):=by decide +kernel
theorem Xi:bootBuiltins "dict"=some (.type "dict"):=by decide +kernel
theorem Xh:bootBuiltins "int"=some (.type "int"):=by decide +kernel
theorem yS:bootBuiltins "bool"=some (.type "bool"):=by decide +kernel
theorem qb4:bootBuiltins "str"=some (.type "str"):=by decide +kernel
section
variable{X:Cx}
theorem Xe:CallR X (.builtin "isinstance") (fun xs H Q=>∃x T t b,xs=[x,.ty T]/\TyOf X.K H x t/\PySem.W.kitOne X.K t (.type T)=some b/\Q (.bl b) H):=by
 intro pins s σ H xs us Q I r h;obtain⟨x,T,t,b,rfl,ty,e,q⟩:=h;obtain⟨u,w',rfl,ru,rw'⟩:=vals2 r;cases (show w'=Value.type T from rw');exact Vz I ru ty e fun tk=>⟨.bl b,H,I.tok _,rfl,q⟩
theorem Xd:CallR X (.builtin "isinstance") (fun xs H Q=>∃x p T1 T2,∃t:String,∃b,xs=[x,.ref p]/\H p=some (.tup [.ty T1,.ty T2])/\TyOf X.K H x (.type t)/\PySem.W.kitAny X.K (.type t) [.type T1,.type T2]=some b/\Q (.bl b) H):=by
 intro pins s σ H xs us Q I r h;obtain⟨x,p,T1,T2,t,b,rfl,hp,ty,e,q⟩:=h;obtain⟨u,w',rfl,ru,rw'⟩:=vals2 r;cases (show w'=Value.ref p from rw');obtain⟨_,its,rel,o,h1,h2,n,h3⟩:=(show ObjOk X.prog X.w H s.heap p (.tup [.ty T1,.ty T2])from I.hok p _ hp);obtain⟨a1,a2,rfl,e1,e2⟩:=vals2 rel;cases (show a1=Value.type T1 from e1);cases (show a2=Value.type T2 from e2);obtain⟨oc,od,odt,osl⟩:=o;cases (show oc=Value.type "tuple" from h2);cases (show odt=_ from h3);have fin:∀tk,EP X pins σ Q (.bool b) { s with toks:=tk }:=fun tk=>⟨.bl b,H,I.tok _,rfl,q⟩
 cases ty with
 |non=>cases (show u=Value.none from ru);exact bT PySem.W.kitx_none I.kIn True.intro h1 e (fun z=>nomatch z) fin
 |bl y=>cases (show u=Value.bool y from ru);exact bT PySem.W.kitx_bool I.kIn True.intro h1 e (fun z=>nomatch z) fin
 |int i=>obtain⟨t,q⟩:=(show ∃t,u=Value.int i t from ru);cases q;exact bT PySem.W.kitx_int I.kIn True.intro h1 e (fun z=>nomatch z) fin
 |str y=>obtain⟨t,q⟩:=(show ∃t,u=Value.str y t from ru);cases q;exact bT PySem.W.kitx_str I.kIn True.intro h1 e (fun z=>nomatch z) fin
 |flt y=>obtain⟨t,q⟩:=(show ∃t,u=Value.float y t from ru);cases q;exact bT PySem.W.kitx_float I.kIn True.intro h1 e (fun z=>nomatch z) fin
 |@lst a xs ea=>
  cases (show u=Value.ref a from ru);obtain⟨_,_,n,_,g1⟩:=(show ObjOk X.prog X.w H s.heap a (.lst xs)from I.hok a _ ea);exact bT dD I.kIn ⟨_,g1,rfl⟩ h1 e (fun z=>nomatch z) fin
 |@frz a ob xs ea=>
  cases (show u=Value.ref a from ru);obtain⟨_,_,_,n,_,g1⟩:=(show ObjOk X.prog X.w H s.heap a (.frz ob (.lst xs))from I.hok a _ ea);exact bT dD I.kIn ⟨_,g1,rfl⟩ h1 e (fun z=>nomatch z) fin
 |@tup a xs ea=>
  cases (show u=Value.ref a from ru);obtain⟨_,_,_,p⟩:=(show ObjOk X.prog X.w H s.heap a (.tup xs)from I.hok a _ ea);obtain⟨o,g1,g2,_⟩:=p;exact bT PySem.W.kitx_tuple I.kIn ⟨o,g1,g2⟩ h1 e (fun z=>nomatch z) fin
 |@dK a kvs ea=>
  cases (show u=Value.ref a from ru);obtain⟨_,_,vs,_,p⟩:=(show ObjOk X.prog X.w H s.heap a (.dK kvs)from I.hok a _ ea);obtain⟨o,es,ep,g1,g2,_⟩:=p;exact bT dE I.kIn ⟨o,g1,g2.1⟩ h1 e (fun z=>nomatch z) fin
 |@dT a kvs ea=>
  cases (show u=Value.ref a from ru);obtain⟨_,_,xs,_,o,es,ep,g1,g2,_⟩:=(show ObjOk X.prog X.w H s.heap a (.dT kvs)from I.hok a _ ea);exact bT dE I.kIn ⟨o,g1,g2.1⟩ h1 e (fun z=>nomatch z) fin
end
section
variable{K:fH}
abbrev kSub(a b:String):Option Bool:=if(Value.type a == Value.type b)=true then some true else if PySem.W.kitMeta b=true then(fastBuiltinMro a).map (·.contains (Value.type b))else none
theorem jU:PySem.W.kitOne K (.type "NoneType") (.type "tuple")=some false:=by
 show kSub "NoneType" "tuple"=some false;decide +kernel
theorem j5:PySem.W.kitOne K (.type "NoneType") (.type "list")=some false:=by
 show kSub "NoneType" "list"=some false;decide +kernel
theorem vW:PySem.W.kitOne K (.type "NoneType") (.type "bool")=some false:=by
 show kSub "NoneType" "bool"=some false;decide +kernel
theorem xr:PySem.W.kitOne K (.type "NoneType") (.type "int")=some false:=by
 show kSub "NoneType" "int"=some false;decide +kernel
theorem xq:PySem.W.kitOne K (.type "NoneType") (.type "str")=some false:=by
 show kSub "NoneType" "str"=some false;decide +kernel
theorem xY:PySem.W.kitAny K (.type "NoneType") [.type "tuple",.type "list"]=some false:=by
 simp only[PySem.W.kitAny,jU,j5]
theorem k8:PySem.W.kitOne K (.type "bool") (.type "tuple")=some false:=by
 show kSub "bool" "tuple"=some false;decide +kernel
theorem vH:PySem.W.kitOne K (.type "bool") (.type "list")=some false:=by
 show kSub "bool" "list"=some false;decide +kernel
theorem yu:PySem.W.kitOne K (.type "bool") (.type "bool")=some true:=by
 show kSub "bool" "bool"=some true;decide +kernel
theorem QE:PySem.W.kitOne K (.type "bool") (.type "int")=some true:=by
 show kSub "bool" "int"=some true;decide +kernel
theorem QC:PySem.W.kitOne K (.type "bool") (.type "str")=some false:=by
 show kSub "bool" "str"=some false;decide +kernel
theorem ZG:PySem.W.kitAny K (.type "bool") [.type "tuple",.type "list"]=some false:=by
 simp only[PySem.W.kitAny,k8,vH]
theorem vF:PySem.W.kitOne K (.type "int") (.type "tuple")=some false:=by
 show kSub "int" "tuple"=some false;decide +kernel
theorem xh:PySem.W.kitOne K (.type "int") (.type "list")=some false:=by
 show kSub "int" "list"=some false;decide +kernel
theorem Qz:PySem.W.kitOne K (.type "int") (.type "bool")=some false:=by
 show kSub "int" "bool"=some false;decide +kernel
theorem ZE:PySem.W.kitOne K (.type "int") (.type "int")=some true:=by
 show kSub "int" "int"=some true;decide +kernel
theorem ZD:PySem.W.kitOne K (.type "int") (.type "str")=some false:=by
 show kSub "int" "str"=some false;decide +kernel
theorem JV:PySem.W.kitAny K (.type "int") [.type "tuple",.type "list"]=some false:=by
 simp only[PySem.W.kitAny,vF,xh]
theorem vD:PySem.W.kitOne K (.type "str") (.type "tuple")=some false:=by
 show kSub "str" "tuple"=some false;decide +kernel
theorem xg:PySem.W.kitOne K (.type "str") (.type "list")=some false:=by
 show kSub "str" "list"=some false;decide +kernel
theorem Qw:PySem.W.kitOne K (.type "str") (.type "bool")=some false:=by
 show kSub "str" "bool"=some false;decide +kernel
theorem ZB:PySem.W.kitOne K (.type "str") (.type "int")=some false:=by
 show kSub "str" "int"=some false;decide +kernel
theorem ZA:PySem.W.kitOne K (.type "str") (.type "str")=some true:=by
 show kSub "str" "str"=some true;decide +kernel
theorem JU:PySem.W.kitAny K (.type "str") [.type "tuple",.type "list"]=some false:=by
 simp only[PySem.W.kitAny,vD,xg]
theorem k6:PySem.W.kitOne K (.type "list") (.type "tuple")=some false:=by
 show kSub "list" "tuple"=some false;decide +kernel
theorem vE:PySem.W.kitOne K (.type "list") (.type "list")=some true:=by
 show kSub "list" "list"=some true;decide +kernel
theorem yr:PySem.W.kitOne K (.type "list") (.type "bool")=some false:=by
 show kSub "list" "bool"=some false;decide +kernel
theorem Qy:PySem.W.kitOne K (.type "list") (.type "int")=some false:=by
 show kSub "list" "int"=some false;decide +kernel
theorem Qx:PySem.W.kitOne K (.type "list") (.type "str")=some false:=by
 show kSub "list" "str"=some false;decide +kernel
theorem ZC:PySem.W.kitAny K (.type "list") [.type "tuple",.type "list"]=some true:=by
 simp only[PySem.W.kitAny,k6,vE]
theorem kL:PySem.W.kitOne K (.type "tuple") (.type "tuple")=some true:=by
 show kSub "tuple" "tuple"=some true;decide +kernel
theorem k5:PySem.W.kitOne K (.type "tuple") (.type "list")=some false:=by
 show kSub "tuple" "list"=some false;decide +kernel
theorem wx:PySem.W.kitOne K (.type "tuple") (.type "bool")=some false:=by
 show kSub "tuple" "bool"=some false;decide +kernel
theorem yq:PySem.W.kitOne K (.type "tuple") (.type "int")=some false:=by
 show kSub "tuple" "int"=some false;decide +kernel
theorem yp:PySem.W.kitOne K (.type "tuple") (.type "str")=some false:=by
 show kSub "tuple" "str"=some false;decide +kernel
theorem Qv:PySem.W.kitAny K (.type "tuple") [.type "tuple",.type "list"]=some true:=by
 simp only[PySem.W.kitAny,kL,k5]
theorem k7:PySem.W.kitOne K (.type "dict") (.type "tuple")=some false:=by
 show kSub "dict" "tuple"=some false;decide +kernel
theorem vG:PySem.W.kitOne K (.type "dict") (.type "list")=some false:=by
 show kSub "dict" "list"=some false;decide +kernel
theorem yt:PySem.W.kitOne K (.type "dict") (.type "bool")=some false:=by
 show kSub "dict" "bool"=some false;decide +kernel
theorem QB:PySem.W.kitOne K (.type "dict") (.type "int")=some false:=by
 show kSub "dict" "int"=some false;decide +kernel
theorem QA:PySem.W.kitOne K (.type "dict") (.type "str")=some false:=by
 show kSub "dict" "str"=some false;decide +kernel
theorem ZF:PySem.W.kitAny K (.type "dict") [.type "tuple",.type "list"]=some false:=by
 simp only[PySem.W.kitAny,k7,vG]
end
inductive Dt where
 |non|bl (b:Bool)|int (i:Int)|str (x:Str)|tup (ds:List Dt)|lst (ds:List Dt)
inductive Rep(H:Hp):V->Dt->Prop where
 |non:Rep H .non .non
 |bl (b:Bool):Rep H (.bl b) (.bl b)
 |int (i:Int):Rep H (.int i) (.int i)
 |str (x:Str):Rep H (.str x) (.str x)
 |tup {a:Addr} {xs:List V} {ds:List Dt} (e:H a=some (.tup xs)) (l:xs.length=ds.length) (r:∀(i:Nat) x d,xs[i]?=some x->ds[i]?=some d->Rep H x d):Rep H (.ref a) (.tup ds)
 |lst {a:Addr} {xs:List V} {ds:List Dt} (e:H a=some (.lst xs)) (l:xs.length=ds.length) (r:∀(i:Nat) x d,xs[i]?=some x->ds[i]?=some d->Rep H x d):Rep H (.ref a) (.lst ds)
theorem Rep.mono(s:Same H H'){v:V}{d:Dt}(r:Rep H v d):Rep H' v d:=by
 induction r with
 |non=>exact .non
 |bl b=>exact .bl b
 |int i=>exact .int i
 |str x=>exact .str x
 |tup e l r ih=>exact .tup (s _ _ e) l ih
 |lst e l r ih=>exact .lst (s _ _ e) l ih
section
variable{K:fH}{H:Hp}{x:V}{d:Dt}
end
theorem zm{p:Addr}(h:H p=none)(o:HO):Same H (upd H p o):=fun b u q=>by rw[qk (qQ q h)];exact q
theorem _root_.L2.Same.put(s:Same H H'){p:Addr}(h:H p=none)(o:HO):Same H (upd H' p o):=fun b u q=>by rw[qk (qQ q h)];exact s b u q
theorem small{n:Nat}(h:n<=1000):n<=sizeLine:=bD (jt h)
theorem pick{xs:List V}{i:Int}(h0:0<=i)(h1:i<xs.length):∃v,atI xs i=some v/\v∈xs:=by
 obtain⟨k,rfl⟩:=bI h0;have hk:k<xs.length:=by omega
 exact⟨xs[k],y3 (aa hk),cj hk⟩
theorem YI{sts:List Stmt}{t R:TS}(h:PSs X sts t)(hr:∀D σ H,R D σ H->t D σ H):PSs X sts R:=fun pins s σ H D I q=>h pins s σ H D I (hr D σ H q)
theorem iteP[Decidable c](h:c)(a:A):if c then A else B:=by rw[aF h];exact a
theorem iteN[Decidable c](h:¬ c)(b:B):if c then A else B:=by rw[aG h];exact b
def isI:V->Bool|.int _=>true|_=>false
theorem YU{xs:List V}{i:Int}(hx:xs.all isI=true)(h0:0<=i)(h1:i<xs.length):∃z,atI xs i=some (.int z)/\V.int z∈xs:=by
 obtain⟨v,e,m⟩:=pick h0 h1;have q:=bG.mp hx v m;cases v with
 |int z=>exact⟨z,e,m⟩
 |_=>cases q
section
variable{prog:Program}{w:World}{A:Around}{E:fJ}{R:Result->Shared->Prop}{s:Shared}
theorem QU{it acc:Value}{env:Env}(W:Nat->Shared->Prop)
  (turn:∀n s,W n s->wpAny (model prog w) A (pyNext it) (fun r s1=>match r with
   |none=>R (.ok .next) s1
   |some v=>wpAny (model prog w) A (letOwnedTupleGo tg it v) (fun _ s2=>wpAny (model prog w) A (assign tg env v) (fun _ s3=>
     wpAny (model prog w) A (forIn ifs true fun c r=>if r=true then do let ok <- isTrue c env (eval c env);pure (ForInStep.yield ok)else pure (ForInStep.yield r)) (fun ok s4=>
      if ok=true then wpAny (model prog w) A (eval elt env) (fun x s5=>
       wpAny (model prog w) A (call (.builtin "list.append") [acc,x]) (fun _ s6=>∃m,m<n/\W m s6) (fun _ _=>False) s5) (fun _ _=>False) s4
      else ∃m,m<n/\W m s4) (fun _ _=>False) s3) (fun _ _=>False) s2) (fun _ _=>False) s1) (fun _ _=>False) s)
  (n:Nat)(h:W n s):codeAny (model prog w) A (.compLoop (.ListComp elt [⟨tg,iter,ifs,0⟩] scope pos) 0 it acc env) R s:=by
 have no:∀{α:Type}{t:Sem α}{Q:α->Shared->Prop}{E':fJ}{s:Shared},wpAny (model prog w) A t Q (fun _ _=>False) s->wpAny (model prog w) A t Q E' s:=fun q=>bf q (fun _ _ z=>z) fun _ _ z=>z.elim
 refine codeAny_loop rfl W (fun n s hW=>?_) n h;show wpAny _ A ((compTurn (.ListComp elt [⟨tg,iter,ifs,0⟩] scope pos) 0 it acc env).onRaise (fun x=>do noteFrame x env;theTreesLotGoes x)) _ _ s;refine wpAny_noted ?_;rw[compTurn_list];refine af (d0 (af (no (bf (turn n s hW) (fun r s1 h1=>?_) fun _ _ z=>z))));cases r with
 |none=>exact aw h1
 |some v=>
  refine af (no (bf h1 (fun _ s2 h2=>?_) fun _ _ z=>z));refine af (no (bf h2 (fun _ s3 h3=>?_) fun _ _ z=>z));refine af (no (bf h3 (fun ok s4 h4=>?_) fun _ _ z=>z));cases ok with
  |true=>
   rw[aF rfl]at h4;rw[aF rfl];refine af (af (no (bf h4 (fun x s5 h5=>?_) fun _ _ z=>z)));exact af (no (bf h5 (fun _ s6 h6=>aw (aw ⟨rfl,h6⟩)) fun _ _ z=>z))
  |false=>
   rw[aG (by decide)]at h4;rw[aG (by decide)];exact aw ⟨rfl,h4⟩
end
def qz(X:Cx)(scope:Scope)(cl:List (Str×Addr))(N:fP)(C:Addr)(s:Shared)(H:Hp)(fp:fL):Cx:=
 { X with N:=N,s₀:=s,H₀:=H,env:=compEnvC scope cl C X.env,outer:=X.stack,ex:=fp,fn:=fun _=>false,pn:=[],xe:=fun _ _=>False }
structure CompOk(X:Cx)(scope:Scope)(cl:List (Str×Addr))(T caps:fP)(ix:List Nat):Prop where
 kind:scope.kind=.function
 clos:closureFor scope X.env=pure cl
 nocell:∀y∈scope.names,y.2≠.cell
 names:∀y∈scope.names,y.2=.local->scope.names.lookup y.1=some .local
 ixs:ix.map (fun i=>X.N[i]?)=caps.map some
 capk:∀x∈caps,(relabel scope X.env).names.lookup x=some .cell/\X.env.scope.names.lookup x=some .cell/\cl.lookup x=X.env.cells.lookup x
 has:∀x,((relabel scope X.env).names.lookup x=some .cell\/(relabel scope X.env).names.lookup x=some .free)->∃c,cl.lookup x=some c
 sub:∀x c,cl.lookup x=some c->X.env.cells.lookup x=some c
def σC(T:fP)(ix:List Nat)(σ:L2.St):L2.St:=T.map (fun _=>none)++ix.map fun i=>(σ[i]?).join
section
variable{X:Cx}{scope:Scope}{cl:List (Str×Addr)}{T caps:fP}{ix:List Nat}{pins:fI}{σ:L2.St}{H H1:Hp}{s s2:Shared}{C:Addr}{fp:fL}
theorem v5(O:CompOk X scope cl T caps ix)(I:Inv X pins σ H s2)(J:Inv X pins σ H1 s)(un:Un (frs X.stack) fp H H1 s2.heap s.heap)(os:s.os=s2.os){m0:fK}(hC:s.heap.Ns C m0)(hCs:s2.heap.objs.size<=C)(hCn:H1 C=none)
  (hfp:∀b∈fp,FpOk X pins H b/\b<s2.heap.objs.size):Inv (qz X scope cl (T++caps) C s2 H fp) [] (σC T ix σ) H1 s:=by
 have li:ix.length=caps.length:=by have:=bC List.length O.ixs;simpa using this
 refine⟨⟨I.ok.mod,O.kind,I.ok.glob,I.ok.blt,hCs,fun x y c h1 h2=>I.ok.inj x y c (O.sub _ _ h1) (O.sub _ _ h2),O.has,fun x c h _=>(nomatch h),I.ok.hd,I.ok.frames,.inl rfl,fun b hb=>⟨aq (aI (hfp b hb).2 hCs),fun x c e=>(hfp b hb).1.2.2.2.2.1 x c (O.sub _ _ e)⟩,
  I.bs,bj I.ok.bsz I.sz,fun b o e hb=>?_,fun b hb z=>?_,I.stack,I.stkFree⟩,os,J.bare,un,⟨m0,hC,fun i x v h1 h2 h3=>?_⟩,fun x c e=>J.cell x c (O.sub _ _ e),hCn,fun x c e=>J.freeC x c (O.sub _ _ e),fun p hp=>absurd (show p∈([]:fI)from hp) (by simp),J.hok,?_⟩
 ·rcases(hfp b hb).1.2.2.2.1 with z|z
  ·exact I.ok.noex b o e z
  ·exact absurd (aI (ao e) (bj I.ok.bsz z)) (bH _)
 ·rcases aj.mp (I.stkSub b z)with q|q
  ·exact(hfp b hb).1.2.1 q
  ·exact(hfp b hb).1.2.2.1 q
 ·have h1:(T++caps)[i]?=some x:=h1
  unfold σC at h2
  by_cases hi:i<T.length
  ·rw[aW (by simpa using hi),ag,aa hi]at h2
   cases h2
  ·rw[aT (by simpa using hi),ab,ag]at h2
   rw[aT (by omega)]at h1;obtain⟨k1,k2,k3⟩:=O.capk x (ay h1);have q:=bC (fun l=>l[i - T.length]?) O.ixs;simp only[ag,h1,dz]at q;cases e:ix[i - T.length]? with
   |none=>rw[e]at q;cases q
   |some j=>
    rw[e]at q h2;have q':X.N[j]?=some x:=by simpa using q
    have h2':(σ[j]?).join=some v:=by simpa using h2
    cases e2:σ[j]? with
    |none=>rw[e2]at h2';cases h2'
    |some o=>
     rw[e2]at h2';have h2'':o=some v:=h2';subst h2'';obtain⟨m,hn,hl⟩:=J.loc;obtain⟨u,r,l⟩:=hl j x v q' e2 (.inr (.inl k2));refine⟨u,r,?_⟩;rcases l with⟨hk,_⟩|⟨_,c,hc,hcell⟩
     ·have hk':X.env.scope.names.lookup x=some .local:=hk
      rw[k2]at hk';cases hk'
     ·exact .inr ⟨.inl k1,c,k3.trans hc,hcell⟩
 ·unfold σC
  show _=(T++caps).length;rw[aK,aK,ab,ab,li]
end
def PTs(X:Cx)(ifs:fQ)(t:TT):Prop:=
 ∀(pins:fI)(s:Shared)(σ:L2.St)(H:Hp)(Q:Bool->Hp->Prop),Inv X pins σ H s->t σ H Q->
  wpAny (model X.prog X.w) X.A (forIn ifs true fun c r=>if r=true then do let ok <- isTrue c X.env (eval c X.env);pure (ForInStep.yield ok)else pure (ForInStep.yield r)) (TP X pins σ Q) X.xe s
def tAll:TT:=fun _ H Q=>Q true H
theorem xJ:PTs X [] tAll:=fun _ _ _ H _ I h=>wpAny_tests_nil ⟨H,I,h⟩
theorem Kz{c:Expr}{t:TT}(h:PT X c t):PTs X [c] t:=fun pins s σ H Q I q=>wpAny_tests_one (h pins s σ H Q I q)
def JH(wi:TI)(g:TG)(tt:TT)(te:TE)(T:fP)(ix:List Nat):TE:=fun σ H Q=>wi σ H fun J H1=>∀D,H1 D=none->∃W:Nat->Nat->L2.St->List V->Hp->Prop,(∃m,W 0 m (σC T ix σ) [] (upd H1 D (.lst [])))/\
 ∀i m σ' xs H2,W i m σ' xs H2->H2 D=some (.lst xs)/\xs.length<sizeLine/\((J.stop i H2/\Q (.ref D) H2)\/
  (J.go i H2/\∀x H3,J.yld i H2 x H3->g x σ' H3 fun σ2 H4=>tt σ2 H4 fun b H5=>
   if b=true then te σ2 H5 fun y H6=>H6 D=some (.lst xs)/\∃m',m'<m/\W (i+1) m' σ2 (xs++[y]) (upd H6 D (.lst (xs++[y])))else ∃m',m'<m/\W (i+1) m' σ2 xs H5))
theorem Zp{cl:List (Str×Addr)}{T caps:fP}{ix:List Nat}{wi:TI}{g:TG}{tt:TT}{te:TE}
  (O:CompOk X scope cl T caps ix)(hc:X.calm=true)(hi:PI X tg iter wi)(hg:∀C s H fp,PG (qz X scope cl (T++caps) C s H fp) tg g)(ht:∀C s H fp,PTs (qz X scope cl (T++caps) C s H fp) ifs tt)
  (he:∀C s H fp,PE (qz X scope cl (T++caps) C s H fp) elt te)(hs:∀x,foldedSetIterable iter X.env x=pure x:=by intro _;rfl):PE X (.ListComp elt [⟨tg,iter,ifs,0⟩] scope pos) (JH wi g tt te T ix):=by
 intro pins s σ H Q I h;rw[eval_ListComp];refine dw (use:=none) rfl hs O.clos O.kind O.names (thn (hi pins s σ H _ I h) fun v s1 h1=>thn h1 fun itv s2 h2=>?_);obtain⟨it,fp,tn,J,H2,e,I2,T2,st2,f2,R2⟩:=h2;subst e;have hfp:∀b∈fp,FpOk X pins H2 b/\b<s2.heap.objs.size:=fun b hb=>⟨f2 b hb,by obtain⟨o,e,_⟩:=T2.obj _ _ st2 b hb;exact ao e⟩
 refine bX (c7 O.nocell (fun y hy=>absurd hy (by simp)) (fun h₁ hns hsb=>?_) O.kind);dsimp only at hns hsb ⊢;generalize hG:s2.heap.push { cls:=.type "list",dict:=none,data:=.seq ([]:fM).toArray }=G at hns hsb ⊢
 have hCz:s2.heap.objs.size<G.objs.size:=by rw[<- hG,bZ];exact bV _
 have old:∀b o,s2.heap.get? b=some o->h₁.get? b=some o:=fun b o e=>by
  have lt:=ao e;exact hsb.extBut b o (aq (bb lt hCz)) (ae _ (hG▸ae _ e))
 have hD:h₁.get? s2.heap.objs.size=some { cls:=.type "list",dict:=none,data:=.seq ([]:fM).toArray }:=hsb.extBut _ _ (aq hCz) (ae _ (hG▸aB _ rfl));have nD:H2 s2.heap.objs.size=none:=I2.hok.fresh (ak _);have nC:H2 G.objs.size=none:=I2.hok.fresh (bD hCz);obtain⟨W,⟨m0,w0⟩,turn⟩:=R2 s2.heap.objs.size nD;have J1:Inv X pins σ (upd H2 s2.heap.objs.size (.lst [])) { s2 with heap:=h₁,toks:=s2.toks+([]:List (Str×Value)).length }:=
  I2.laid (t':=s2.toks+([]:List (Str×Value)).length) old (ak _) (show ObjOk X.prog X.w _ h₁ _ (.lst [])from⟨aV _,[],0,.nil,hD⟩)
 have un:Un (frs X.stack) fp H2 (upd H2 s2.heap.objs.size (.lst [])) s2.heap h₁:=Un.laid old (ak _) nD;have hCn:(upd H2 s2.heap.objs.size (.lst [])) G.objs.size=none:=by rw[qk (aq hCz).symm];exact nC
 have K1:=v5 (s:={ s2 with heap:=h₁,toks:=s2.toks+([]:List (Str×Value)).length }) O I2 J1 un rfl hns (bD hCz) hCn hfp;have stat:∀{H':Hp},(∀b∈fp,H' b=none)->∀b∈fp,FpOk (qz X scope cl (T++caps) G.objs.size s2 H2 fp) [] H' b:=fun hn b hb=>
  ⟨hn b hb,aq (bb (hfp b hb).2 hCz),K1.ok.exfs b hb,.inl hb,fun x c e=>(K1.ok.exf b hb).2 x c e,fun p hp=>absurd (show p∈([]:fI)from hp) (by simp)⟩
 have start:∃(i:Nat)(σ':L2.St)(xs:List V)(H':Hp),Inv (qz X scope cl (T++caps) G.objs.size s2 H2 fp) [] σ' H' { s2 with heap:=h₁,toks:=s2.toks+([]:List (Str×Value)).length }/\tn i h₁/\(∀b∈fp,H' b=none)/\W i m0 σ' xs H':=
  ⟨0,_,[],_,K1,T2.keep _ _ _ st2 fun b _ o e=>old b o e,fun b hb=>by rw[qk (aq (hfp b hb).2)];exact(f2 b hb).1,w0⟩
 have loop:codeAny (model X.prog X.w) X.A (.compLoop (.ListComp elt [⟨tg,iter,ifs,0⟩] scope pos) 0 (.ref it) (.ref s2.heap.objs.size) (compEnvC scope cl G.objs.size X.env))
   (compPost (model X.prog X.w) X.A X.xe none (EP X pins σ Q) (.ref s2.heap.objs.size) G.objs.size) { s2 with heap:=h₁,toks:=s2.toks+([]:List (Str×Value)).length }:=by
  refine QU (fun n s'=>∃(i:Nat)(σ':L2.St)(xs:List V)(H':Hp),Inv (qz X scope cl (T++caps) G.objs.size s2 H2 fp) [] σ' H' s'/\tn i s'.heap/\(∀b∈fp,H' b=none)/\W i n σ' xs H') ?_ m0 start;rintro n s3 ⟨i,σ3,xs,H3,I3,st3,fr3,w3⟩;obtain⟨hD3,hz3,tn3⟩:=turn i n σ3 xs H3 w3;rcases tn3 with⟨stop,qn⟩|⟨go,step⟩
  ·refine thn (T2.done (qz X scope cl (T++caps) G.objs.size s2 H2 fp) rfl rfl rfl hc i [] s3 σ3 H3 _ I3 (stat fr3) st3 stop) fun r s4⟨hr,I4⟩=>?_
   subst hr;obtain⟨m,hm,_⟩:=I4.loc;have B:Inv X pins σ H3 s4:=I2.call' I4.os I4.base I4.hok I4.bare fun b hb=>⟨(f2 b hb).2.2.2.1,(f2 b hb).2.1,(f2 b hb).2.2.2.2.1,(f2 b hb).2.2.2.2.2⟩
   refine⟨m,hm,fun h' hs'=>?_⟩;refine⟨.ref s2.heap.objs.size,H3,B.turned (t':=s4.toks) (it:=G.objs.size) (fun b o hb e=>hs'.extBut b o hb e) I4.free ?_ (.inr ?_) (fun x c e z=>?_) fun p hp z=>?_,rfl,qn⟩
   ·exact(aq (bb I2.lt hCz)).symm
   ·exact bD (c4 I2.sz hCz)
   ·obtain⟨v,q⟩:=I2.cell x c e
    exact absurd z (aq (bb q.lt hCz))
   ·exact absurd z (aq (bb (ao (I2.pin p hp).1) hCz))
  ·refine thn (T2.item (qz X scope cl (T++caps) G.objs.size s2 H2 fp) rfl rfl rfl hc i [] s3 σ3 H3 _ I3 (stat fr3) st3 go) fun r s4⟨u,hr,h4⟩=>?_
   subst hr;refine thn h4 fun _ s5⟨x,H5,I5,r5,y5,st5,fr5⟩=>?_
   have I5':=I5.pinned (stat fr5) (T2.obj _ _ st5);have back:∀{σ7:L2.St}{H7:Hp}{s7:Shared},Inv (qz X scope cl (T++caps) G.objs.size s2 H2 fp) ([]++xL fp s5.heap) σ7 H7 s7->Inv (qz X scope cl (T++caps) G.objs.size s2 H2 fp) [] σ7 H7 s7/\tn (i+1) s7.heap/\∀b∈fp,H7 b=none:=fun{σ7 H7 s7} I7=>by
    refine⟨I7.unpinned,T2.keep _ _ _ st5 fun b hb o e=>(I7.pin (b,o) (az _ (az _ (zX hb e)))).1,fun b hb=>?_⟩;obtain⟨o,e,d⟩:=T2.obj _ _ st5 b hb;exact(I7.pin (b,o) (az _ (az _ (zX hb e)))).2.1
   refine thn (hg G.objs.size s2 H2 fp _ s5 σ3 H5 x u _ I5' r5 (step x H5 y5)) fun _ s6⟨σ6,H6,I6,q6⟩=>?_
   refine thn (ht G.objs.size s2 H2 fp _ s6 σ6 H6 _ I6 q6) fun ok s7⟨H7,I7,q7⟩=>?_
   cases ok with
   |true=>
    rw[aF rfl]at q7;rw[aF rfl];refine thn (he G.objs.size s2 H2 fp _ s7 σ6 H7 _ I7 q7) fun z s8⟨y,H8,I8,r8,hD8,m',hm',w8⟩=>?_
    refine thn (xU _ s8 σ6 H8 (.ref s2.heap.objs.size) [y] _ [z] (fun _ H9=>H9=upd H8 s2.heap.objs.size (.lst (xs++[y]))) I8 rfl (.cons r8 .nil) ⟨_,xs,y,rfl,rfl,hD8,hz3,rfl⟩) fun _ s9⟨_,H9,I9,_,e9⟩=>?_
    subst e9;obtain⟨a1,a2,a3⟩:=back I9;exact⟨m',hm',i+1,σ6,xs++[y],_,a1,a2,a3,w8⟩
   |false=>
    rw[aG (by decide)]at q7;rw[aG (by decide)];obtain⟨m',hm',w7⟩:=q7;obtain⟨a1,a2,a3⟩:=back I7;exact⟨m',hm',i+1,σ6,xs,H7,a1,a2,a3,w7⟩
 exact codeAny_compStart_list loop (T2.self _ 0 _ _ _ (T2.keep _ _ _ st2 fun b _ o e=>old b o e) loop)
end X2
namespace M
open PySem PySem.Spec PyProof.Rows L2 X2
variable{K:fH}{H H' h:Hp}{c c2:Co}{v:V}{fp:fL}{u u':HO}{m:Bool}{X:Cx}{e iter tg:Expr}{t':TT}{σ:L2.St}{α β κ ν:Type}{Q:VK}{st:Stmt}{pins:fI}{s:Shared}{A:Around}{N:fP}{vs:List V}{Dn:Ends}{ts:fQ}{Rr:It->Hp->Prop}{z:Addr}
inductive D where
 |non|bl (b:Bool)|int (i:Int)|str (x:Str)|tup (ds:List D)|lst (ds:List D)|dic (kvs:List (Key×D))|dit (kvs:List (List Key×D))|obj (n:Nat)|scr (ds:List D)
structure Co where
 h:Hp
 ob:Nat->fN
structure Co.Le(c c':Co):Prop where
 h:Same c.h c'.h
 ob:∀n a,c.ob n=some a->c'.ob n=some a
theorem Co.Le.refl(c:Co):Co.Le c c:=⟨Same.refl _,fun _ _ e=>e⟩
theorem Co.Le.trans{a b c:Co}(x:Co.Le a b)(y:Co.Le b c):Co.Le a c:=⟨x.h.trans y.h,fun n z e=>y.ob n z (x.ob n z e)⟩
theorem w5(s:Same H H'){a:Addr}{xs:List V}(h:SqL K H a xs):SqL K H' a xs:=by
 rcases h with(h|⟨o,h⟩)|h
 ·exact .inl (.inl (s _ _ h))
 ·exact .inl (.inr ⟨o,s _ _ h⟩)
 ·exact .inr h
theorem tupT(s:Same h H){a:Addr}{xs:List V}(e:h a=some (.tup xs)):SqT K H a xs:=SqT.of (s _ _ e)
theorem lstT(s:Same h H){a:Addr}{xs:List V}(e:h a=some (.lst xs)):SqL K H a xs:=SqL.of (s _ _ e)
inductive Rep(K:fH)(c:Co):V->D->Prop where
 |non:Rep K c .non .non
 |bl (b:Bool):Rep K c (.bl b) (.bl b)
 |int (i:Int):Rep K c (.int i) (.int i)
 |str (x:Str):Rep K c (.str x) (.str x)
 |tup {a:Addr} {xs:List V} {ds:List D} (e:c.h a=some (.tup xs)) (l:xs.length=ds.length) (r:∀(i:Nat) x d,xs[i]?=some x->ds[i]?=some d->Rep K c x d):Rep K c (.ref a) (.tup ds)
 |lst {a:Addr} {xs:List V} {ds:List D} (e:c.h a=some (.lst xs)) (l:xs.length=ds.length) (r:∀(i:Nat) x d,xs[i]?=some x->ds[i]?=some d->Rep K c x d):Rep K c (.ref a) (.lst ds)
 |dic {a:Addr} {ys:List (Key×V)} {kvs:List (Key×D)} (e:c.h a=some (.dK ys)) (l:ys.map (·.1)=kvs.map (·.1)) (nd:(kvs.map (·.1)).Nodup) (r:∀(i:Nat) p q,ys[i]?=some p->kvs[i]?=some q->Rep K c p.2 q.2):Rep K c (.ref a) (.dic kvs)
 |dit {a:Addr} {ys:List (List Key×V)} {kvs:List (List Key×D)} (e:c.h a=some (.dT ys)) (l:ys.map (·.1)=kvs.map (·.1)) (nd:(kvs.map (·.1)).Nodup) (r:∀(i:Nat) p q,ys[i]?=some p->kvs[i]?=some q->Rep K c p.2 q.2):Rep K c (.ref a) (.dit kvs)
 |obj {n:Nat} {a:Addr} (e:c.ob n=some a):Rep K c (.ref a) (.obj n)
 |scr {a:Addr} {xs:List V} {ds:List D} (e:SqL K c.h a xs) (l:xs.length=ds.length) (r:∀(i:Nat) x d,xs[i]?=some x->ds[i]?=some d->Rep K c x d):Rep K c (.ref a) (.scr ds)
theorem Rep.mono{c':Co}(s:Co.Le c c'){d:D}(r:Rep K c v d):Rep K c' v d:=by
 induction r with
 |non=>exact .non
 |bl b=>exact .bl b
 |int i=>exact .int i
 |str x=>exact .str x
 |tup e l r ih=>exact .tup (s.h _ _ e) l ih
 |lst e l r ih=>exact .lst (s.h _ _ e) l ih
 |dic e l nd r ih=>exact .dic (s.h _ _ e) l nd ih
 |dit e l nd r ih=>exact .dit (s.h _ _ e) l nd ih
 |obj e=>exact .obj (s.ob _ _ e)
 |scr e l r ih=>exact .scr (w5 s.h e) l ih
structure Reps(K:fH)(c:Co)(xs:List V)(ds:List D):Prop where
 l:xs.length=ds.length
 r:∀(i:Nat) x d,xs[i]?=some x->ds[i]?=some d->Rep K c x d
theorem Reps.mono{K:fH}{c c':Co}(s:Co.Le c c'){xs:List V}{ds:List D}(r:Reps K c xs ds):Reps K c' xs ds:=⟨r.l,fun i x d a b=>(r.r i x d a b).mono s⟩
theorem Reps.nil:Reps K c [] []:=⟨rfl,fun _ _ _ h=>by simp at h⟩
theorem Reps.cons{K:fH}{c:Co}{x:V}{d:D}{xs:List V}{ds:List D}(h:Rep K c x d)(t:Reps K c xs ds):Reps K c (x::xs) (d::ds):=by
 refine⟨by simp[t.l],fun i y e a b=>?_⟩;cases i with
 |zero=>cases a;cases b;exact h
 |succ i=>exact t.r i y e (by simpa using a) (by simpa using b)
theorem Reps.uncons{xs:List V}{d:D}{ds:List D}(h:Reps K c xs (d::ds)):∃x t,xs=x::t/\Rep K c x d/\Reps K c t ds:=by
 cases xs with
 |nil=>exact absurd h.l (by simp)
 |cons x t=>exact⟨x,t,rfl,h.r 0 x d rfl rfl,by have:=h.l;simpa using this,fun i y e a b=>h.r (i+1) y e (by simpa using a) (by simpa using b)⟩
theorem Reps.unnil{xs:List V}(h:Reps K c xs []):xs=[]:=dQ h.l
theorem Reps.append{xs ys:List V}{ds es:List D}(h:Reps K c xs ds)(t:Reps K c ys es):Reps K c (xs++ys) (ds++es):=by
 refine⟨by simp[h.l,t.l],fun i x d a b=>?_⟩
 by_cases hi:i<xs.length
 ·rw[aW hi]at a
  rw[aW (by rw[<- h.l];exact hi)]at b;exact h.r i x d a b
 ·rw[aT (by omega)]at a
  rw[aT (by have:=h.l;omega),<- h.l]at b;exact t.r _ x d a b
theorem Reps.at{xs:List V}{ds:List D}(h:Reps K c xs ds){i:Nat}{d:D}(e:ds[i]?=some d):∃x,xs[i]?=some x/\Rep K c x d:=by
 have hi:i<xs.length:=by rw[h.l];exact(ai.mp e).1
 exact⟨xs[i],aa hi,h.r i _ d (aa hi) e⟩
theorem Reps.atV{xs:List V}{ds:List D}(h:Reps K c xs ds){i:Nat}{x:V}(e:xs[i]?=some x):∃d,ds[i]?=some d/\Rep K c x d:=by
 have hi:i<ds.length:=by rw[<- h.l];exact(ai.mp e).1
 exact⟨ds[i],aa hi,h.r i x _ e (aa hi)⟩
theorem Reps.sub{xs:List V}{ds:List D}(h:Reps K c xs ds)(p n:Nat):Reps K c ((xs.drop p).take n) ((ds.drop p).take n):=by
 refine⟨by rw[bF,bF,cO,cO,h.l],fun i x d a b=>?_⟩;rw[eM]at a b
 split at a
 ·rw[aF (by assumption)]at b
  rw[List.getElem?_drop]at a b;exact h.r _ x d a b
 ·cases a
theorem Reps.reverse{K:fH}{c:Co}:∀{xs:List V}{ds:List D},Reps K c xs ds->Reps K c xs.reverse ds.reverse
 |[],[],_=>.nil
 |[],_::_,h=>absurd h.l (by simp)
 |_::_,[],h=>absurd h.l (by simp)
 |x::xs,d::ds,h=>by
  obtain⟨y,t,e,r,rs⟩:=h.uncons;cases e;rw[dG,dG];exact(Reps.reverse rs).append (.cons r .nil)
def isT:HO->Bool
 |.tbl _=>true
 |_=>false
def noTb:Option HO->Option HO
 |some (.tbl _)=>none
 |o=>o
def Hn(H:Hp)(fp:fL):Hp:=fun a=>if a∈fp then none else noTb (H a)
theorem Hn.of{a:Addr}(h:Hn H fp a=some u):H a=some u/\a∉fp/\isT u=false:=by
 unfold Hn at h
 split at h
 ·cases h
 ·rename_i hf
  cases e:H a with
  |none=>rw[e]at h;cases h
  |some o=>
   rw[e]at h;cases o <;> first
    |(cases h;done)
    |(cases h;exact⟨rfl,hf,rfl⟩)
theorem Hn.mk{a:Addr}(h:H a=some u)(hf:a∉fp)(ht:isT u=false):Hn H fp a=some u:=by
 unfold Hn;rw[aG hf,h];cases u <;> first
  |rfl
  |cases ht
theorem Hn.same:Same (Hn H fp) H:=fun _ _ e=>(Hn.of e).1
theorem Hn.grow(s:Same H H'):Same (Hn H fp) (Hn H' fp):=fun a u e=>by
 obtain⟨h1,h2,h3⟩:=Hn.of e;exact Hn.mk (s _ _ h1) h2 h3
structure Xn where
 cls:Str
 args:List D
structure Wo where
 BS:Type
 BR:BS->Hp->Co->fL->Prop
 EA:Value->Value->fN->Shared->Hp->Prop
 XV:Xn->Value->fN->Hp->Co->Prop
 tabs:Hp->Prop
 brS:∀b H c fp H' c',BR b H c fp->(∀a∈fp,H' a=H a)->Co.Le c c'->(∀a∈fp,c'.h a=none)->BR b H' c' fp
 xvS:∀x k a H c c',XV x k a H c->Co.Le c c'->XV x k a H c'
 tabS:∀H H',tabs H->(∀a u,H a=some u->(∀xs,u≠.lst xs)->(∀xs,u≠.dK xs)->(∀xs,u≠.dT xs)->H' a=some u)->tabs H'
def Wo.EX(W:Wo)(x:Xn)(ev:Value)(s:Shared)(H:Hp)(c:Co):Prop:=∃k a,W.EA ev k a s H/\W.XV x k a H c
theorem Wo.exS(W:Wo)(x:Xn)(ev:Value)(s:Shared)(H:Hp)(c c':Co)(h:W.EX x ev s H c)(l:Co.Le c c'):W.EX x ev s H c':=let⟨k,a,h1,h2⟩:=h;⟨k,a,h1,W.xvS _ _ _ _ _ _ h2 l⟩
structure SS(W:Wo) where
 v:List (Option D)
 b:W.BS
inductive R(W:Wo)(α:Type) where
 |ok (a:α) (b:W.BS)
 |exc (x:Xn) (b:W.BS)
 |bad
structure En where
 H:Hp
 c:Co
 fp:fL
structure FR(H:Hp)(c:Co)(fp:fL)(H':Hp)(c':Co)(fp':fL):Prop where
 le:Co.Le c c'
 nn:Same (Hn H fp) (Hn H' fp')
 out:∀a,Hn H fp a≠none->c.h a=none->c'.h a=none
 th:∀a,H' a=none->H a=none
theorem FR.refl{H:Hp}{c:Co}{fp:fL}:FR H c fp H c fp:=⟨.refl _,Same.refl _,fun _ _ e=>e,fun _ e=>e⟩
theorem FR.trans{H H1 H2:Hp}{c c1 c2:Co}{fp fp1 fp2:fL}(a:FR H c fp H1 c1 fp1)(b:FR H1 c1 fp1 H2 c2 fp2):FR H c fp H2 c2 fp2:=
 ⟨a.le.trans b.le,a.nn.trans b.nn,fun x hx hc=>b.out x (fun z=>hx (a.nn.free z)) (a.out x hx hc),fun x e=>a.th x (b.th x e)⟩
def OwnV(K:fH)(E:En)(H:Hp)(c:Co)(fp:fL)(x:V):D->Prop
 |.lst ds=>∃a xs,x=.ref a/\c.h a=none/\a∉fp/\E.H a=none/\H a=some (.lst xs)/\Reps K c xs ds
 |.dic kvs=>∃(a:Addr)(ys:List (Key×V)),x=.ref a/\c.h a=none/\a∉fp/\E.H a=none/\H a=some (.dK ys)/\ys.map (·.1)=kvs.map (·.1)/\(kvs.map (·.1)).Nodup/\Reps K c (ys.map (·.2)) (kvs.map (·.2))
 |.dit kvs=>∃(a:Addr)(ys:List (List Key×V)),x=.ref a/\c.h a=none/\a∉fp/\E.H a=none/\H a=some (.dT ys)/\ys.map (·.1)=kvs.map (·.1)/\(kvs.map (·.1)).Nodup/\Reps K c (ys.map (·.2)) (kvs.map (·.2))
 |d=>Rep K c x d
def ku:D->Bool
 |.lst _=>true
 |.dic _=>true
 |.dit _=>true
 |_=>false
structure SE(W:Wo)(E:En)(b:W.BS)(H:Hp)(c:Co)(fp:fL):Prop where
 core:Same c.h (Hn H fp)
 br:W.BR b H c fp
 tab:W.tabs H
 fph:∀a∈fp,∃u,H a=some u/\isT u=false
 fr0:FR E.H E.c E.fp H c fp
structure SR(W:Wo)(K:fH)(E:En)(O:List Nat)(g:SS W)(σ:L2.St)(H:Hp)(c:Co)(fp:fL):Prop extends SE W E g.b H c fp where
 frz:∀(i:Nat) d,i∉O->g.v[i]?=some (some d)->∃x,σ[i]?=some (some x)/\Rep K c x d
 own:∀(i:Nat) d,i∈O->g.v[i]?=some (some d)->∃x,σ[i]?=some (some x)/\OwnV K E H c fp x d
 dis:∀(i j:Nat) d e a,i∈O->j∈O->i≠j->g.v[i]?=some (some d)->g.v[j]?=some (some e)->ku d=true->ku e=true->σ[i]?=some (some (.ref a))->σ[j]?=some (some (.ref a))->False
 len:g.v.length=σ.length
def cm(m:Bool)(H:Hp)(c:Co)(fp:fL):Co:=if m=true then c else⟨Hn H fp,c.ob⟩
theorem FR.cm{m:Bool}{H H':Hp}{c c':Co}{fp fp':fL}(f:FR H c fp H' c' fp'):Co.Le (cm m H c fp) (cm m H' c' fp'):=by
 cases m with
 |true=>exact f.le
 |false=>exact⟨f.nn,f.le.ob⟩
section
variable{W:Wo}{K:fH}{E:En}{O:List Nat}{g:SS W}{b b':W.BS}{σ:L2.St}{H H':Hp}{c c':Co}{fp fp':fL}
theorem SE.bor(S:SE W E b H c fp):Co.Le (cm m H c fp) ⟨Hn H fp,c.ob⟩:=by
 cases m with
 |true=>exact⟨S.core,fun _ _ e=>e⟩
 |false=>exact .refl _
theorem SE.all(S:SE W E b H c fp):Same (cm m H c fp).h H:=S.bor.h.trans Hn.same
theorem OwnV.step(f:FR H c fp H' c' fp'){x:V}{d:D}(h:OwnV K E H c fp x d):OwnV K E H' c' fp' x d:=by
 cases d with
 |lst ds=>
  obtain⟨a,xs,e,hc,hf,he,hh,r⟩:=h;have hn:Hn H fp a=some (.lst xs):=Hn.mk hh hf rfl;obtain⟨h1,h2,_⟩:=Hn.of (f.nn _ _ hn);exact⟨a,xs,e,f.out a (by rw[hn];simp) hc,h2,he,h1,r.mono f.le⟩
 |dic kvs=>
  obtain⟨a,ys,e,hc,hf,he,hh,l,nd,r⟩:=h;have hn:Hn H fp a=some (.dK ys):=Hn.mk hh hf rfl;obtain⟨h1,h2,_⟩:=Hn.of (f.nn _ _ hn);exact⟨a,ys,e,f.out a (by rw[hn];simp) hc,h2,he,h1,l,nd,r.mono f.le⟩
 |dit kvs=>
  obtain⟨a,ys,e,hc,hf,he,hh,l,nd,r⟩:=h;have hn:Hn H fp a=some (.dT ys):=Hn.mk hh hf rfl;obtain⟨h1,h2,_⟩:=Hn.of (f.nn _ _ hn);exact⟨a,ys,e,f.out a (by rw[hn];simp) hc,h2,he,h1,l,nd,r.mono f.le⟩
 |non=>exact Rep.mono f.le h
 |bl b=>exact Rep.mono f.le h
 |int i=>exact Rep.mono f.le h
 |str x=>exact Rep.mono f.le h
 |tup ds=>exact Rep.mono f.le h
 |obj n=>exact Rep.mono f.le h
 |scr n=>exact Rep.mono f.le h
theorem SR.step(S:SR W K E O g σ H c fp)(f:FR H c fp H' c' fp')(S':SE W E b H' c' fp'):SR W K E O ⟨g.v,b⟩ σ H' c' fp':=
 ⟨S',fun i d hi e=>let⟨x,h1,h2⟩:=S.frz i d hi e;⟨x,h1,h2.mono f.le⟩,fun i d hi e=>let⟨x,h1,h2⟩:=S.own i d hi e;⟨x,h1,h2.step f⟩,S.dis,S.len⟩
theorem SE.fpc(S:SE W E b H c fp):∀a∈fp,c.h a=none:=fun a ha=>by
 cases e:c.h a with
 |none=>rfl
 |some u=>exact absurd ha (Hn.of (S.core _ _ e)).2.1
def Co.add(c:Co)(p:Addr)(u:HO):Co:=⟨upd c.h p u,c.ob⟩
theorem Co.add_le{c:Co}{p:Addr}(h:c.h p=none):Co.Le c (c.add p u):=⟨zm h u,fun _ _ e=>e⟩
theorem SE.free(S:SE W E b H c fp){p:Addr}(hp:H p=none):c.h p=none/\p∉fp:=by
 refine⟨S.core.trans Hn.same |>.free hp,fun hf=>?_⟩;obtain⟨u,e,_⟩:=S.fph p hf;rw[hp]at e;cases e
theorem kh{H:Hp}{fp:fL}{p:Addr}(hp:H p=none):Hn H fp p=none:=by
 unfold Hn;rw[hp]
 split <;> rfl
theorem SE.freeE(S:SE W E b H c fp){p:Addr}(hp:H p=none):E.H p=none:=S.fr0.th p hp
theorem Jn{H:Hp}{fp:fL}{p:Addr}(hp:H p=none):Same (Hn H fp) (Hn (upd H p u) fp):=Hn.grow (zm hp u)
theorem FR.new(S:SE W E b H c fp){p:Addr}(hp:H p=none)(u:HO):FR H c fp (upd H p u) (c.add p u) fp:=
 ⟨Co.add_le (S.free hp).1,Jn hp,fun a ha hc=>by
  show upd c.h p u a=none;rw[qk ?_]
  ·exact hc
  ·rintro rfl
   exact ha (kh hp),fun _ e=>(zm hp u).free e⟩
theorem FR.newO{p:Addr}(hp:H p=none)(u:HO):FR H c fp (upd H p u) c fp:=
 ⟨.refl _,Jn hp,fun a _ hc=>hc,fun _ e=>(zm hp u).free e⟩
theorem Kc{p:Addr}(t:W.tabs H)(hp:H p=none):W.tabs (upd H p u):=W.tabS _ _ t fun a w e _ _ _=>by rw[qk (qQ e hp)];exact e
theorem SE.new(S:SE W E b H c fp){p:Addr}(hp:H p=none){u:HO}(hu:isT u=false):SE W E b (upd H p u) (c.add p u) fp:=by
 obtain⟨hc,hf⟩:=S.free hp;have ne:∀a∈fp,a≠p:=fun a ha z=>hf (z▸ha)
 refine⟨fun a w e=>?_,W.brS _ _ _ _ _ _ S.br (fun a ha=>qk (ne a ha)) (Co.add_le hc) fun a ha=>?_,Kc S.tab hp,fun a ha=>?_,S.fr0.trans (FR.new S hp u)⟩
 ·by_cases h:a=p
  ·subst h
   have e':upd c.h a u a=some w:=e;rw[ql]at e';cases e';exact Hn.mk ql hf hu
  ·have e':upd c.h p u a=some w:=e
   rw[qk h]at e';exact Jn hp _ _ (S.core _ _ e')
 ·show upd c.h p u a=none
  rw[qk (ne a ha)];exact S.fpc a ha
 ·obtain⟨w,e,z⟩:=S.fph a ha
  exact⟨w,(qk (ne a ha)).trans e,z⟩
theorem SE.newO(S:SE W E b H c fp){p:Addr}(hp:H p=none){u:HO}:SE W E b (upd H p u) c fp:=by
 obtain⟨hc,hf⟩:=S.free hp;have ne:∀a∈fp,a≠p:=fun a ha z=>hf (z▸ha)
 refine⟨S.core.trans (Jn hp),W.brS _ _ _ _ _ _ S.br (fun a ha=>qk (ne a ha)) (.refl _) S.fpc,Kc S.tab hp,fun a ha=>?_,S.fr0.trans (FR.newO hp u)⟩;obtain⟨w,e,z⟩:=S.fph a ha;exact⟨w,(qk (ne a ha)).trans e,z⟩
theorem SR.new(S:SR W K E O g σ H c fp){p:Addr}(hp:H p=none){u:HO}(hu:isT u=false):SR W K E O g σ (upd H p u) (c.add p u) fp:=S.step (b:=g.b) (FR.new S.toSE hp u) (S.toSE.new hp hu)
theorem SR.newO(S:SR W K E O g σ H c fp){p:Addr}(hp:H p=none){u:HO}:SR W K E O g σ (upd H p u) c fp:=S.step (b:=g.b) (FR.newO hp u) (S.toSE.newO hp)
end
def W1(T:Hp->Prop)(hT:∀H H',T H->(∀a u,H a=some u->(∀xs,u≠.lst xs)->(∀xs,u≠.dK xs)->(∀xs,u≠.dT xs)->H' a=some u)->T H')(B:Hp->Co->fL->Prop)(hB:∀H c fp H' c',B H c fp->(∀a∈fp,H' a=H a)->Co.Le c c'->(∀a∈fp,c'.h a=none)->B H' c' fp):Wo where
 BS:=Unit
 BR:=fun _ H c fp=>B H c fp
 EA:=fun _ _ _ _ _=>False
 XV:=fun _ _ _ _ _=>False
 tabs:=T
 brS:=fun _ H c fp H' c'=>hB H c fp H' c'
 xvS:=fun _ _ _ _ _ _ h _=>h
 tabS:=hT
def B0:Hp->Co->fL->Prop:=fun _ _ fp=>fp=[]
theorem hB0:∀H c fp H' c',B0 H c fp->(∀a∈fp,H' a=H a)->Co.Le c c'->(∀a∈fp,c'.h a=none)->B0 H' c' fp:=fun _ _ _ _ _ h _ _ _=>h
abbrev W0(T:Hp->Prop)(hT:∀H H',T H->(∀a u,H a=some u->(∀xs,u≠.lst xs)->(∀xs,u≠.dK xs)->(∀xs,u≠.dT xs)->H' a=some u)->T H'):Wo:=W1 T hT B0 hB0
noncomputable def qF{W:Wo}{α β:Type}(f:SS W->R W α)(k:α->SS W->R W β):SS W->R W β:=fun g=>match f g with
 |.ok a b=>k a ⟨g.v,b⟩
 |.exc x b=>.exc x b
 |.bad=>.bad
noncomputable def eOpt{W:Wo}{α:Type}(o:Option α):SS W->R W α:=fun g=>match o with
 |some d=>.ok d g.b
 |none=>.bad
noncomputable def eRet{W:Wo}{α:Type}(a:α):SS W->R W α:=fun g=>.ok a g.b
def tG{W:Wo}{ν α:Type}(X:Cx)(E:En)(rel:Co->ν->α->Prop)(m:Bool)(O:List Nat)(f:SS W->R W α)(g:SS W)(c:Co)(fp:fL)(σ:L2.St)(H:Hp)(Q:ν->Hp->Prop):Prop:=
 SR W X.K E O g σ H c fp/\match f g with
  |.ok d b=>∀v H' c' fp',SR W X.K E O ⟨g.v,b⟩ σ H' c' fp'->FR H c fp H' c' fp'->rel (cm m H' c' fp') v d->Q v H'
  |.exc x b=>∀ev s' H' c' fp',Inv X [] σ H' s'->SR W X.K E O ⟨g.v,b⟩ σ H' c' fp'->FR H c fp H' c' fp'->W.EX x ev s' H' c'->X.xe ev s'
  |.bad=>False
section
variable{W:Wo}{X:Cx}{E:En}{ν ν' α β:Type}{rel:Co->ν->α->Prop}{rel':Co->ν'->β->Prop}{m m':Bool}{O:List Nat}{g:SS W}{c:Co}{fp:fL}{σ:L2.St}{H:Hp}{Q:ν->Hp->Prop}{Q':ν'->Hp->Prop}
theorem tG.bind{f:SS W->R W α}{k:α->SS W->R W β}(h:tG X E rel' m' O (qF f k) g c fp σ H Q')
  (cont:∀d b v H1 c1 fp1,SR W X.K E O ⟨g.v,b⟩ σ H1 c1 fp1->FR H c fp H1 c1 fp1->rel (cm m H1 c1 fp1) v d->tG X E rel' m' O (k d) ⟨g.v,b⟩ c1 fp1 σ H1 Q'->Q v H1):tG X E rel m O f g c fp σ H Q:=by
 obtain⟨S,h⟩:=h;unfold qF at h;refine⟨S,?_⟩;cases e:f g with
 |bad=>rw[e]at h;exact h
 |exc x b=>rw[e]at h;exact h
 |ok d b=>
  rw[e]at h;intro v H1 c1 fp1 S1 F1 r1;refine cont d b v H1 c1 fp1 S1 F1 r1 ⟨S1,?_⟩;have h:match k d ⟨g.v,b⟩with
   |.ok d b=>∀v H' c' fp',SR W X.K E O ⟨g.v,b⟩ σ H' c' fp'->FR H c fp H' c' fp'->rel' (cm m' H' c' fp') v d->Q' v H'
   |.exc x b=>∀ev s' H' c' fp',Inv X [] σ H' s'->SR W X.K E O ⟨g.v,b⟩ σ H' c' fp'->FR H c fp H' c' fp'->W.EX x ev s' H' c'->X.xe ev s'
   |.bad=>False:=h
  cases e2:k d ⟨g.v,b⟩with
  |bad=>rw[e2]at h;exact h
  |exc x b2=>rw[e2]at h;exact fun ev s' H' c' fp' I S' F' x'=>h ev s' H' c' fp' I S' (F1.trans F') x'
  |ok d2 b2=>rw[e2]at h;exact fun v H' c' fp' S' F' r'=>h v H' c' fp' S' (F1.trans F') r'
theorem tG.opt{o:Option β}(h:tG X E rel' m' O (eOpt o) g c fp σ H Q'):∃d,o=some d/\∀v H' c' fp',SR W X.K E O g σ H' c' fp'->FR H c fp H' c' fp'->rel' (cm m' H' c' fp') v d->Q' v H':=by
 obtain⟨S,h⟩:=h;cases o with
 |none=>exact h.elim
 |some d=>exact⟨d,rfl,h⟩
theorem tG.ret{d:β}(h:tG X E rel' m' O (eRet d) g c fp σ H Q'):∀v H' c' fp',SR W X.K E O g σ H' c' fp'->FR H c fp H' c' fp'->rel' (cm m' H' c' fp') v d->Q' v H':=h.2
end
def DE(W:Wo)(E:En)(m:Bool)(X:Cx)(O:List Nat)(e:Expr)(f:SS W->R W D):Prop:=PE X e fun σ H Q=>∃g c fp,tG X E (Rep X.K) m O f g c fp σ H Q
def DA(W:Wo)(E:En)(m:Bool)(X:Cx)(O:List Nat)(es:fQ)(f:SS W->R W (List D)):Prop:=PA X es fun σ H Q=>∃g c fp,tG X E (Reps X.K) m O f g c fp σ H Q
def relB(_:Co)(x b:Bool):Prop:=x=b
def DT(W:Wo)(E:En)(X:Cx)(O:List Nat)(e:Expr)(f:SS W->R W Bool):Prop:=PT X e fun σ H Q=>∃g c fp,tG X E relB true O f g c fp σ H Q
def DW(W:Wo)(E:En)(X:Cx)(O:List Nat)(e:Expr)(f:SS W->R W Bool):Prop:=PW X e fun σ H Q=>∃g c fp,tG X E relB true O f g c fp σ H Q
theorem qN{t t':TE}(h:PE X e t)(w:∀σ H Q,t' σ H Q->t σ H Q):PE X e t':=fun pins s σ H Q I q=>h pins s σ H Q I (w σ H Q q)
theorem yf{t:TT}(h:PT X e t)(w:∀σ H Q,t' σ H Q->t σ H Q):PT X e t':=fun pins s σ H Q I q=>h pins s σ H Q I (w σ H Q q)
theorem Kv{t:TT}(h:PW X e t)(w:∀σ H Q,t' σ H Q->t σ H Q):PW X e t':=fun whole pins s σ H Q I q=>h whole pins s σ H Q I (w σ H Q q)
theorem KY{es:fQ}{t t':TA}(h:PA X es t)(w:∀σ H Q,t' σ H Q->t σ H Q):PA X es t':=fun pos pins s σ H Q I q=>h pos pins s σ H Q I (w σ H Q q)
section
variable{W:Wo}{X:Cx}{E:En}{O:List Nat}{m m1 m2:Bool}{e a b:Expr}{f fa fb:SS W->R W D}{pos:Pos}
theorem qdh{g:SS W}(S:SR W X.K E O g σ H c fp):Co.Le (cm true H c fp) (cm m H c fp):=by
 cases m with
 |true=>exact .refl _
 |false=>exact S.toSE.bor (m:=true)
def eVar(i:Nat):SS W->R W D:=fun g=>eOpt ((g.v[i]?).join) g
theorem YW(hc:Same c.h (Hn H fp)){x:V}{d:D}(h:OwnV K E H c fp x d):Rep K ⟨Hn H fp,c.ob⟩ x d:=by
 have le:Co.Le c ⟨Hn H fp,c.ob⟩:=⟨hc,fun _ _ e=>e⟩;cases d with
 |lst ds=>
  obtain⟨a,xs,rfl,_,hf,_,hh,r⟩:=h;exact .lst (Hn.mk hh hf rfl) r.l (r.mono le).r
 |dic kvs=>
  obtain⟨a,ys,rfl,_,hf,_,hh,l,nd,r⟩:=h;refine .dic (Hn.mk hh hf rfl) l nd fun i p q h1 h2=>(r.mono le).r i _ _ (by rw[ag,h1];rfl) (by rw[ag,h2];rfl)
 |dit kvs=>
  obtain⟨a,ys,rfl,_,hf,_,hh,l,nd,r⟩:=h;refine .dit (Hn.mk hh hf rfl) l nd fun i p q h1 h2=>(r.mono le).r i _ _ (by rw[ag,h1];rfl) (by rw[ag,h2];rfl)
 |non=>exact Rep.mono le h
 |bl b=>exact Rep.mono le h
 |int i=>exact Rep.mono le h
 |str x=>exact Rep.mono le h
 |tup ds=>exact Rep.mono le h
 |obj n=>exact Rep.mono le h
 |scr n=>exact Rep.mono le h
theorem join_some{o:Option (Option α)}{a:α}(h:o.join=some a):o=some (some a):=by
 cases o with
 |none=>cases h
 |some o=>exact bC some h
theorem qb{i:Nat}(h:PE X e (tVar i))(hi:i∉O):DE W E true X O e (eVar i):=qN h fun σ H Q⟨g,c,fp,q⟩=>by
 obtain⟨d,e,k⟩:=tG.opt (o:=(g.v[i]?).join) q;obtain⟨x,h1,h2⟩:=q.1.frz i d hi (join_some e);exact⟨x,h1,k x H c fp q.1 .refl h2⟩
theorem kO{i:Nat}(h:PE X e (tVar i))(hi:i∈O):DE W E false X O e (eVar i):=qN h fun σ H Q⟨g,c,fp,q⟩=>by
 obtain⟨d,e,k⟩:=tG.opt (o:=(g.v[i]?).join) q;obtain⟨x,h1,h2⟩:=q.1.own i d hi (join_some e);exact⟨x,h1,k x H c fp q.1 .refl (YW q.1.core h2)⟩
noncomputable def isAt:D->Option V
 |.non=>some .non
 |.bl b=>some (.bl b)
 |.int i=>some (.int i)
 |.str x=>some (.str x)
 |_=>none
theorem JD{d:D}(h:isAt d=some v):Rep K c v d:=by
 cases d <;> cases h <;> constructor
theorem Qe{d:D}{x:V}(h:isAt d=some v)(r:Rep K c x d):x=v:=by
 cases r <;> cases h <;> rfl
def eC(d:D):SS W->R W D:=eRet d
theorem de_c{d:D}(h:PE X e (tC v))(hd:isAt d=some v):DE W E true X O e (eC d):=qN h fun σ H Q⟨g,c,fp,q⟩=>q.ret v H c fp q.1 .refl (JD hd)
def e1(op:D->Option D)(fa:SS W->R W D):SS W->R W D:=qF fa fun x=>eOpt (op x)
def e2(op:D->D->Option D)(fa fb:SS W->R W D):SS W->R W D:=qF fa fun x=>qF fb fun y=>eOpt (op x y)
def Op2(X:Cx)(r:R2)(op:D->D->Option D):Prop:=∀(H:Hp)(c:Co)(x y:V)(dx dy d:D)(Q:VK),Same c.h H->Rep X.K c x dx->Rep X.K c y dy->op dx dy=some d->(∀v,isAt d=some v->Q v H)->r x y H Q
theorem two{op:D->D->Option D}{g:SS W}{r:R2}(h:tG X E (Rep X.K) true O (e2 op fa fb) g c fp σ H Q)(hr:Op2 X r op) :
  tG X E (Rep X.K) m1 O fa g c fp σ H fun x H1=>∃g c fp,tG X E (Rep X.K) m2 O fb g c fp σ H1 fun y H2=>r x y H2 Q:=by
 refine h.bind fun d b v H1 c1 fp1 S1 F1 r1 h1=>⟨_,c1,fp1,h1.bind fun d' b' v' H2 c2 fp2 S2 F2 r2 h2=>?_⟩
 obtain⟨z,ez,k⟩:=h2.opt;refine hr H2 ⟨Hn H2 fp2,c2.ob⟩ v v' d d' z Q Hn.same ((r1.mono F2.cm).mono S2.toSE.bor) (r2.mono S2.toSE.bor) ez fun u hu=>k u H2 c2 fp2 S2 .refl (JD hu)
theorem zh{o:Operator}{r:R2}{op:D->D->Option D}(ho:OpR X (binaryOp o) r)(hr:Op2 X r op)(ha:DE W E m1 X O a fa)(hb:DE W E m2 X O b fb):DE W E true X O (.BinOp a o b pos) (e2 op fa fb):=
 qN (KR ho ha hb) fun σ H Q⟨g,c,fp,q⟩=>⟨g,c,fp,two q hr⟩
theorem kQ{o:CmpOp}{r:R2}{op:D->D->Option D}(ho:OpR X (compareOp o) r)(hr:Op2 X r op)(ha:DE W E m1 X O a fa)(hb:DE W E m2 X O b fb)(hm:behindInMarks o b=false):DE W E true X O (.Compare a [o] [b] pos) (e2 op fa fb):=
 qN (KW ho ha hb hm) fun σ H Q⟨g,c,fp,q⟩=>⟨g,c,fp,two q hr⟩
end
def NewV(H:Hp)(v:V)(d:D):Prop:=ku d=true->∀a,v=.ref a->H a=none
def tO{W:Wo}(X:Cx)(E:En)(O:List Nat)(f:SS W->R W D)(g:SS W)(c:Co)(fp:fL)(σ:L2.St)(H:Hp)(Q:VK):Prop:=
 SR W X.K E O g σ H c fp/\match f g with
  |.ok d b=>∀v H' c' fp',SR W X.K E O ⟨g.v,b⟩ σ H' c' fp'->FR H c fp H' c' fp'->OwnV X.K E H' c' fp' v d->NewV H v d->Q v H'
  |.exc x b=>∀ev s' H' c' fp',Inv X [] σ H' s'->SR W X.K E O ⟨g.v,b⟩ σ H' c' fp'->FR H c fp H' c' fp'->W.EX x ev s' H' c'->X.xe ev s'
  |.bad=>False
def DO(W:Wo)(E:En)(X:Cx)(O:List Nat)(e:Expr)(f:SS W->R W D):Prop:=PE X e fun σ H Q=>∃g c fp,tO X E O f g c fp σ H Q
section
variable{W:Wo}{K:fH}{X:Cx}{E:En}{O:List Nat}{g:SS W}{b:W.BS}{σ:L2.St}{H H':Hp}{c c':Co}{fp fp':fL}
theorem SE.give(S:SE W E b H c fp){a:Addr}(ha:H a=some u)(hu:isT u=false)(hc:c.h a=none)(hf:a∉fp)(he:E.H a=none):SE W E b H (c.add a u) fp:=by
 have ne:∀z∈fp,z≠a:=fun z hz q=>hf (q▸hz)
 refine⟨fun z w e=>?_,W.brS _ _ _ _ _ _ S.br (fun z hz=>rfl) (Co.add_le hc) fun z hz=>?_,S.tab,S.fph,S.fr0.le.trans (Co.add_le hc),S.fr0.nn,fun z hz hq=>?_,S.fr0.th⟩
 ·by_cases h:z=a
  ·subst h
   have e':upd c.h z u z=some w:=e;rw[ql]at e';cases e';exact Hn.mk ha hf hu
  ·have e':upd c.h a u z=some w:=e
   rw[qk h]at e';exact S.core _ _ e'
 ·show upd c.h a u z=none
  rw[qk (ne z hz)];exact S.fpc z hz
 ·show upd c.h a u z=none
  rw[qk (fun q=>by subst q;exact hz (kh he))];exact S.fr0.out z hz hq
theorem wH{x:V}{d:D}(h:OwnV K E H c fp x d)(hm:ku d=true):∃a u,x=.ref a/\H a=some u/\isT u=false/\c.h a=none/\a∉fp/\E.H a=none/\∀c':Co,Co.Le c c'->c'.h a=some u->Rep K c' x d:=by
 cases d with
 |lst ds=>
  obtain⟨a,xs,rfl,hc,hf,he,hh,r⟩:=h;exact⟨a,_,rfl,hh,rfl,hc,hf,he,fun c' le e=>.lst e r.l (r.mono le).r⟩
 |dic kvs=>
  obtain⟨a,ys,rfl,hc,hf,he,hh,l,nd,r⟩:=h;exact⟨a,_,rfl,hh,rfl,hc,hf,he,fun c' le e=>.dic e l nd fun i p q h1 h2=>(r.mono le).r i _ _ (by rw[ag,h1];rfl) (by rw[ag,h2];rfl)⟩
 |dit kvs=>
  obtain⟨a,ys,rfl,hc,hf,he,hh,l,nd,r⟩:=h;exact⟨a,_,rfl,hh,rfl,hc,hf,he,fun c' le e=>.dit e l nd fun i p q h1 h2=>(r.mono le).r i _ _ (by rw[ag,h1];rfl) (by rw[ag,h2];rfl)⟩
 |non=>cases hm
 |bl b=>cases hm
 |int i=>cases hm
 |str x=>cases hm
 |tup ds=>cases hm
 |obj n=>cases hm
 |scr n=>cases hm
theorem ym{x:V}{d:D}(h:OwnV K E H c fp x d)(hm:ku d=false):Rep K c x d:=by
 cases d with
 |lst ds=>cases hm
 |dic kvs=>cases hm
 |dit kvs=>cases hm
 |non=>exact h
 |bl b=>exact h
 |int i=>exact h
 |str x=>exact h
 |tup ds=>exact h
 |obj n=>exact h
 |scr n=>exact h
theorem DO.de{f:SS W->R W D}(h:DO W E X O e f):DE W E true X O e f:=qN h fun σ H Q⟨g,c,fp,S,q⟩=>by
 refine⟨g,c,fp,S,?_⟩;cases e2:f g with
 |bad=>rw[e2]at q;exact q
 |exc x b2=>rw[e2]at q;exact q
 |ok d b2=>
  rw[e2]at q;intro v H' c' fp' S' F' o nw;cases hm:ku d with
  |false=>exact q v H' c' fp' S' F' (ym o hm)
  |true=>
   obtain⟨a,u,rfl,ha,hu,hc,hf,he,r⟩:=wH o hm;have le:=Co.add_le (u:=u) hc;have nH:H a=none:=nw hm a rfl;have F2:FR H c fp H' (c'.add a u) fp':=⟨F'.le.trans le,F'.nn,fun z hz hq=>by
    show upd c'.h a u z=none;rw[qk (fun t=>by subst t;exact hz (kh nH))];exact F'.out z hz hq,F'.th⟩
   have S2:SR W X.K E O ⟨g.v,b2⟩ σ H' (c'.add a u) fp':=S.step F2 (S'.toSE.give ha hu hc hf he);exact q (.ref a) H' (c'.add a u) fp' S2 F2 (r _ le ql)
variable{m m1 m2:Bool}{e a:Expr}{es:fQ}{f fa fb:SS W->R W D}{fs:SS W->R W (List D)}{pos:Pos}
def aNil:SS W->R W (List D):=eRet []
def qf(f:SS W->R W D)(fs:SS W->R W (List D)):SS W->R W (List D):=qF f fun x=>qF fs fun xs=>eRet (x::xs)
theorem qE:DA W E m X O [] aNil:=KY zx fun σ H Q⟨g,c,fp,q⟩=>q.ret [] H c fp q.1 .refl .nil
theorem qc(ha:DE W E m1 X O e f)(hr:DA W E m X O es fs)(hm:m1=true\/m=false:=by first|exact Or.inl rfl|exact Or.inr rfl)(hs:starEach (e::es) X.env=(false,eval e X.env)::starEach es X.env:=by rfl):DA W E m X O (e::es) (qf f fs):=
 KY (qA ha hr hs) fun σ H Q⟨g,c,fp,q⟩=>⟨g,c,fp,q.bind fun d b v H1 c1 fp1 S1 F1 r1 h1=>⟨_,c1,fp1,h1.bind fun d' b' v' H2 c2 fp2 S2 F2 r2 h2=>by
  refine h2.ret (v::v') H2 c2 fp2 S2 .refl (.cons ((r1.mono F2.cm).mono ?_) r2);rcases hm with rfl|rfl
  ·exact qdh S2
  ·exact S2.toSE.bor⟩⟩
def eTup(fs:SS W->R W (List D)):SS W->R W D:=qF fs fun ds=>eOpt (if ds.length<=1000 then some (.tup ds)else none)
def eLst(fs:SS W->R W (List D)):SS W->R W D:=qF fs fun ds=>eOpt (if ds.length<=1000 then some (.lst ds)else none)
theorem Zk{xs:List V}{ds:List D}{p:Addr}(h:c.h p=some (.tup xs))(r:Reps K c xs ds):Rep K c (.ref p) (.tup ds):=.tup h r.l r.r
theorem zM{p:Prop}[Decidable p]{x y:α}(h:(if p then some x else none)=some y):p/\x=y:=by
 split at h
 ·rename_i hp;exact⟨hp,bh h⟩
 ·cases h
theorem kP{k:Nat}(h:DA W E true X O es fs):DE W E true X O (.Tuple es k pos) (eTup fs):=qN (KN h) fun σ H Q⟨g,c,fp,q⟩=>⟨g,c,fp,q.bind fun ds b xs H1 c1 fp1 S1 F1 r1 h1=>by
 obtain⟨d,e,k⟩:=h1.opt;obtain⟨hl,rfl⟩:=zM e;refine⟨by rw[r1.l];exact X2.small hl,fun p hp=>k _ _ (c1.add p _) fp1 (S1.new hp rfl) (FR.new S1.toSE hp _) (Zk ql (r1.mono (Co.add_le (S1.toSE.free hp).1)))⟩⟩
theorem tO.bind{rel:Co->ν->α->Prop}{f:SS W->R W α}{k:α->SS W->R W D}{Q1:ν->Hp->Prop}(h:tO X E O (qF f k) g c fp σ H Q)
  (cont:∀d b v H1 c1 fp1,SR W X.K E O ⟨g.v,b⟩ σ H1 c1 fp1->FR H c fp H1 c1 fp1->rel (cm m H1 c1 fp1) v d->tO X E O (k d) ⟨g.v,b⟩ c1 fp1 σ H1 Q->Q1 v H1):tG X E rel m O f g c fp σ H Q1:=by
 obtain⟨S,h⟩:=h;unfold qF at h;refine⟨S,?_⟩;cases e:f g with
 |bad=>rw[e]at h;exact h
 |exc x b=>rw[e]at h;exact h
 |ok d b=>
  rw[e]at h;intro v H1 c1 fp1 S1 F1 r1;refine cont d b v H1 c1 fp1 S1 F1 r1 ⟨S1,?_⟩;have h:match k d ⟨g.v,b⟩with
   |.ok d b=>∀v H' c' fp',SR W X.K E O ⟨g.v,b⟩ σ H' c' fp'->FR H c fp H' c' fp'->OwnV X.K E H' c' fp' v d->NewV H v d->Q v H'
   |.exc x b=>∀ev s' H' c' fp',Inv X [] σ H' s'->SR W X.K E O ⟨g.v,b⟩ σ H' c' fp'->FR H c fp H' c' fp'->W.EX x ev s' H' c'->X.xe ev s'
   |.bad=>False:=h
  cases e2:k d ⟨g.v,b⟩with
  |bad=>rw[e2]at h;exact h
  |exc x b2=>rw[e2]at h;exact fun ev s' H' c' fp' I S' F' x'=>h ev s' H' c' fp' I S' (F1.trans F') x'
  |ok d2 b2=>
   rw[e2]at h;exact fun v H' c' fp' S' F' r' nw=>h v H' c' fp' S' (F1.trans F') r' fun hm a ha=>F1.th a (nw hm a ha)
theorem tO.opt{o:Option D}(h:tO X E O (eOpt o) g c fp σ H Q):∃d,o=some d/\∀v H' c' fp',SR W X.K E O g σ H' c' fp'->FR H c fp H' c' fp'->OwnV X.K E H' c' fp' v d->NewV H v d->Q v H':=by
 obtain⟨S,h⟩:=h;cases o with
 |none=>exact h.elim
 |some d=>exact⟨d,rfl,h⟩
theorem tO.list{ds:List D}{xs:List V}(h:tO X E O (eOpt (some (.lst ds))) g c fp σ H Q)(r:Reps X.K c xs ds)(p:Addr)(hp:H p=none):Q (.ref p) (upd H p (.lst xs)):=by
 obtain⟨S,k⟩:=h;exact k (.ref p) _ c fp (S.newO hp) (FR.newO hp _) ⟨p,xs,rfl,(S.toSE.free hp).1,(S.toSE.free hp).2,S.toSE.freeE hp,ql,r⟩ fun _ a e=>by cases e;exact hp
theorem jN(h:DA W E true X O es fs):DO W E X O (.List es pos) (eLst fs):=qN (qao h) fun σ H Q⟨g,c,fp,q⟩=>⟨g,c,fp,q.bind (rel:=Reps X.K) fun ds b xs H1 c1 fp1 S1 F1 r1 h1=>by
 obtain⟨d,e,k⟩:=h1.opt;obtain⟨hl,rfl⟩:=zM e;rw[aF hl]at h1;exact⟨by rw[r1.l];exact X2.small hl,fun p hp=>h1.list r1 p hp⟩⟩
def qbx:SS W->R W D:=eRet (.dic [])
theorem uw(h:PE X e WO):DO W E X O e qbx:=qN h fun σ H Q⟨g,c,fp,S,k⟩=>fun p hp=>
 k (.ref p) _ c fp (S.newO hp) (FR.newO hp _) ⟨p,[],rfl,(S.toSE.free hp).1,(S.toSE.free hp).2,S.toSE.freeE hp,ql,rfl,.nil,.nil⟩ fun _ a e=>by cases e;exact hp
end
def allE(f:D->D->Option Bool):List D->List D->Option Bool
 |[],[]=>some true
 |x::xs,y::ys=>match f x y,allE f xs ys with
  |some b,some r=>some (b && r)
  |_,_=>none
 |_,_=>none
noncomputable def eqN:Nat->D->D->Option Bool
 |0,_,_=>none
 |n+1,d,e=>match d,e with
  |.lst xs,.lst ys=>if xs.length=ys.length then allE (eqN n) xs ys else some false
  |.tup xs,.tup ys=>if xs.length=ys.length then allE (eqN n) xs ys else none
  |.non,.non=>some true
  |.bl a,.bl b=>some (a == b)
  |.int a,.int b=>some (a == b)
  |.str a,.str b=>some (a == b)
  |.non,.int _=>some false
  |.non,.str _=>some false
  |.non,.bl _=>some false
  |.non,.tup _=>some false
  |.non,.lst _=>some false
  |.int _,.non=>some false
  |.int _,.str _=>some false
  |.int _,.tup _=>some false
  |.int _,.lst _=>some false
  |.str _,.non=>some false
  |.str _,.int _=>some false
  |.str _,.bl _=>some false
  |.str _,.tup _=>some false
  |.str _,.lst _=>some false
  |.bl _,.non=>some false
  |.bl _,.str _=>some false
  |.tup _,.non=>some false
  |.tup _,.int _=>some false
  |.tup _,.str _=>some false
  |.tup _,.lst _=>some false
  |.lst _,.non=>some false
  |.lst _,.int _=>some false
  |.lst _,.str _=>some false
  |.lst _,.tup _=>some false
  |_,_=>none
theorem vi{f:D->D->Option Bool}:∀{xs ys:List D}{b:Bool},allE f xs ys=some b->∃e:Nat->Bool,(∀(j:Nat) x y,xs[j]?=some x->ys[j]?=some y->f x y=some (e j))/\b=(List.range xs.length).all e
 |[],[],b,h=>by cases h;exact⟨fun _=>true,fun j x y h=>by simp at h,rfl⟩
 |[],_::_,_,h=>by cases h
 |_::_,[],_,h=>by cases h
 |x::xs,y::ys,b,h=>by
  unfold allE at h;cases e1:f x y with
  |none=>rw[e1]at h;cases h
  |some b1=>
   cases e2:allE f xs ys with
   |none=>rw[e1,e2]at h;cases h
   |some r=>
    rw[e1,e2]at h;cases h;obtain⟨e,k,hr⟩:=vi e2;refine⟨fun j=>match j with|0=>b1|j+1=>e j,fun j u v hu hv=>?_,?_⟩
    ·cases j with
     |zero=>cases hu;cases hv;exact e1
     |succ j=>exact k j u v (by simpa using hu) (by simpa using hv)
    ·rw[hr,bz,List.range_succ_eq_map,eX,List.all_map]
     rfl
section
variable{X:Cx}{pins:fI}{σ:L2.St}{H:Hp}{s:Shared}{A:Around}{c:Co}
theorem jh:∀{xs:List V}{us:fM}{j:Nat}{u:Value},Vals xs us->us[j]?=some u->∃x,xs[j]?=some x/\RelV x u
 |_,_,_,_,.nil,h=>by simp at h
 |_,_,0,_,.cons r _,h=>by cases h;exact⟨_,rfl,r⟩
 |_,_,j+1,u,.cons _ t,h=>by
  obtain⟨x,h1,h2⟩:=jh (j:=j) (u:=u) t (by simpa using h);exact⟨x,by simpa using h1,h2⟩
open SeqAt
theorem Kt(I:Inv X pins σ H s)(hs:Same c.h H){x:V}{d e:D}(r:Rep X.K c x d):Rep X.K c x e->∀n b,eqN n d e=some b->b=true:=by
 induction r generalizing e with
 |non=>intro q n b h;cases q;cases n <;> cases h;rfl
 |bl b=>intro q n b' h;cases q;cases n <;> cases h;simp
 |int i=>intro q n b h;cases q;cases n <;> cases h;simp
 |str x=>intro q n b h;cases q;cases n <;> cases h;simp
 |@tup a xs ds ex l r ih=>
  intro q n b h;cases q with
  |@tup _ xs' es ex' l' r'=>
   obtain rfl:=I.tuple_inj (tupT hs ex) (tupT hs ex');cases n with
   |zero=>cases h
   |succ n=>
    have h':(if ds.length=es.length then allE (eqN n) ds es else none)=some b:=h;rw[aF (l.symm.trans l')]at h';obtain⟨e,k,hb⟩:=vi h';rw[hb,bG];intro j hj;have hj':j<ds.length:=by simpa using hj
    have hx:j<xs.length:=by omega
    have he:j<es.length:=by omega
    exact ih j _ _ (aa hx) (aa hj') (r' j _ _ (aa hx) (aa he)) n _ (k j _ _ (aa hj') (aa he))
  |@lst _ xs' es ex' l' r'=>cases n with
   |zero=>cases h
   |succ n=>
    exfalso;obtain⟨_,_,⟨o,e1,e2,_⟩,_⟩:=I.tuple (tupT hs ex);obtain⟨_,_,⟨o',n',e1',e2',_⟩,_⟩:=I.list (lstT hs ex');rw[e1]at e1';cases e1';rw[e2]at e2';injection e2' with z;exact absurd z (by decide)
  |dic=>cases n <;> cases h
  |dit=>cases n <;> cases h
  |obj=>cases n <;> cases h
  |scr=>cases n <;> cases h
 |@lst a xs ds ex l r ih=>
  intro q n b h;cases q with
  |@lst _ xs' es ex' l' r'=>
   obtain rfl:=I.list_inj (lstT hs ex) (lstT hs ex');cases n with
   |zero=>cases h
   |succ n=>
    have h':(if ds.length=es.length then allE (eqN n) ds es else some false)=some b:=h;rw[aF (l.symm.trans l')]at h';obtain⟨e,k,hb⟩:=vi h';rw[hb,bG];intro j hj;have hj':j<ds.length:=by simpa using hj
    have hx:j<xs.length:=by omega
    have he:j<es.length:=by omega
    exact ih j _ _ (aa hx) (aa hj') (r' j _ _ (aa hx) (aa he)) n _ (k j _ _ (aa hj') (aa he))
  |@tup _ xs' es ex' l' r'=>cases n with
   |zero=>cases h
   |succ n=>
    exfalso;obtain⟨_,_,⟨o,e1,e2,_⟩,_⟩:=I.tuple (tupT hs ex');obtain⟨_,_,⟨o',n',e1',e2',_⟩,_⟩:=I.list (lstT hs ex);rw[e1]at e1';cases e1';rw[e2]at e2';injection e2' with z;exact absurd z (by decide)
  |dic=>cases n <;> cases h
  |dit=>cases n <;> cases h
  |obj=>cases n <;> cases h
  |scr=>cases n <;> cases h
 |dic=>intro q n b h;cases n <;> cases e <;> cases h
 |dit=>intro q n b h;cases n <;> cases e <;> cases h
 |obj=>intro q n b h;cases n <;> cases e <;> cases h
 |scr=>intro q n b h;cases n <;> cases e <;> cases h
theorem vX(I:Inv X pins σ H s)(hs:Same c.h H):∀(n:Nat)(A:Around)(x y:V)(u v:Value)(d e:D)(b:Bool),A.units+n<cLine->Rep X.K c x d->Rep X.K c y e->RelV x u->RelV y v->eqN n d e=some b->RcAt A s u v b/\EqAt A s u v b
 |0,_,_,_,_,_,_,_,_,_,_,_,_,_,h=>by cases h
 |n+1,A,x,y,u,v,d,e,b,hu,rx,ry,ru,rv,h=>by
  have hu0:A.units<cLine:=by omega
  have hl:∀{a:Addr}{xs:List V},c.h a=some (.lst xs)->∃its:fM,Vals xs its/\s.heap.IsList a its.toArray:=fun h=>by
   obtain⟨its,r,p,_⟩:=I.list (lstT hs h);exact⟨its,r,p.isList⟩
  have ht:∀{a:Addr}{xs:List V},c.h a=some (.tup xs)->∃its:fM,Vals xs its/\s.heap.IsTuple a its.toArray:=fun h=>by
   obtain⟨its,r,p,_⟩:=I.tuple (tupT hs h);exact⟨its,r,p⟩
  cases rx with
  |non=>
   cases ru;cases ry with
   |non=>cases rv;cases h;exact⟨.none_none,.same _⟩
   |bl q=>cases rv;cases h;exact⟨.none_bool q,.none_bool q⟩
   |int q=>obtain⟨t,rfl⟩:=rv;cases h;exact⟨.none_int q t,.none_int q t⟩
   |str q=>obtain⟨t,rfl⟩:=rv;cases h;exact⟨.none_str q t,.none_str q t⟩
   |tup e' l r=>cases rv;cases h;obtain⟨its,_,p⟩:=ht e';exact⟨.none_tuple p hu0,.none_tuple p hu0⟩
   |lst e' l r=>cases rv;cases h;obtain⟨its,_,p⟩:=hl e';exact⟨.none_list p hu0,.none_list p hu0⟩
   |dic=>cases h
   |dit=>cases h
   |obj=>cases h
   |scr=>cases h
  |bl a=>
   cases ru;cases ry with
   |non=>cases rv;cases h;exact⟨.bool_none a,.bool_none a⟩
   |bl q=>cases rv;cases h;exact⟨.bool_bool a q,.bool_bool a q⟩
   |int q=>cases h
   |str q=>obtain⟨t,rfl⟩:=rv;cases h;exact⟨.bool_str a q t,.bool_str a q t⟩
   |tup e' l r=>cases h
   |lst e' l r=>cases h
   |dic=>cases h
   |dit=>cases h
   |obj=>cases h
   |scr=>cases h
  |int a=>
   obtain⟨t',rfl⟩:=ru;cases ry with
   |non=>cases rv;cases h;exact⟨.int_none a t',.int_none a t'⟩
   |bl q=>cases h
   |int q=>obtain⟨t,rfl⟩:=rv;cases h;exact⟨.int_int a t' q t,.int_int a t' q t⟩
   |str q=>obtain⟨t,rfl⟩:=rv;cases h;exact⟨.int_str a t' q t,.int_str a t' q t⟩
   |tup e' l r=>cases rv;cases h;obtain⟨its,_,p⟩:=ht e';exact⟨.int_tuple a t' p hu0,.int_tuple a t' p hu0⟩
   |lst e' l r=>cases rv;cases h;obtain⟨its,_,p⟩:=hl e';exact⟨.int_list a t' p hu0,.int_list a t' p hu0⟩
   |dic=>cases h
   |dit=>cases h
   |obj=>cases h
   |scr=>cases h
  |str a=>
   obtain⟨t',rfl⟩:=ru;cases ry with
   |non=>cases rv;cases h;exact⟨.str_none a t',.str_none a t'⟩
   |bl q=>cases rv;cases h;exact⟨.str_bool a t' q,.str_bool a t' q⟩
   |int q=>obtain⟨t,rfl⟩:=rv;cases h;exact⟨.str_int a t' q t,.str_int a t' q t⟩
   |str q=>obtain⟨t,rfl⟩:=rv;cases h;exact⟨.str_str a t' q t,.str_str a t' q t⟩
   |tup e' l r=>cases rv;cases h;obtain⟨its,_,p⟩:=ht e';exact⟨.str_tuple a t' p hu0,.str_tuple a t' p hu0⟩
   |lst e' l r=>cases rv;cases h;obtain⟨its,_,p⟩:=hl e';exact⟨.str_list a t' p hu0,.str_list a t' p hu0⟩
   |dic=>cases h
   |dit=>cases h
   |obj=>cases h
   |scr=>cases h
  |@tup a xs ds ex l r=>
   cases ru;obtain⟨its,vr,p⟩:=ht ex;cases ry with
   |non=>cases rv;cases h;exact⟨.tuple_none p hu0,.tuple_none p hu0⟩
   |bl q=>cases h
   |int q=>obtain⟨t,rfl⟩:=rv;cases h;exact⟨.tuple_int q t p hu0,.tuple_int q t p hu0⟩
   |str q=>obtain⟨t,rfl⟩:=rv;cases h;exact⟨.tuple_str q t p hu0,.tuple_str q t p hu0⟩
   |lst e' l r=>cases rv;cases h;obtain⟨its',_,p'⟩:=hl e';exact⟨.tuple_list p p' hu0,.tuple_list p p' hu0⟩
   |@tup a' xs' ds' ex' l' r'=>
    cases rv;obtain⟨its',vr',p'⟩:=ht ex';have h':(if ds.length=ds'.length then allE (eqN n) ds ds' else none)=some b:=h
    split at h'
    ·rename_i hlen
     obtain⟨e,k,hb⟩:=vi h';have s1:its.toArray.size=ds.length:=by rw[ah,<- vr.length,l]
     have s2:its'.toArray.size=ds'.length:=by rw[ah,<- vr'.length,l']
     have q:=RcAt.tuples (e:=e) p p' hu0 fun j h1 h2=>by
      obtain⟨x1,g1,w1⟩:=jh vr (j:=j) (u:=its[j]) (aa (by simpa using h1));obtain⟨x2,g2,w2⟩:=jh vr' (j:=j) (u:=its'[j]) (aa (by simpa using h2));have d1:j<ds.length:=by omega
      have d2:j<ds'.length:=by omega
      have:=(vX I hs n A.in1 x1 x2 _ _ ds[j] ds'[j] (e j) (by show A.units+1+n<_;omega) (r j _ _ g1 (aa d1)) (r' j _ _ g2 (aa d2)) w1 w2 (k j _ _ (aa d1) (aa d2))).2;simpa using this
     have hm:min its.toArray.size its'.toArray.size=ds.length:=by rw[s1,s2,hlen,Nat.min_self]
     rw[hm,s1,s2,hlen,bR,Bool.and_true]at q;rw[hlen]at hb;rw[<- hb]at q;refine⟨q,?_⟩
     by_cases haa:a=a'
     ·subst haa
      have:=Kt I hs (.tup ex l r) (.tup ex' l' r') (n+1) b h;subst this;exact .same _
     ·exact .of_refs haa q
    ·cases h'
   |dic=>cases h
   |dit=>cases h
   |obj=>cases h
   |scr=>cases h
  |@lst a xs ds ex l r=>
   cases ru;obtain⟨its,vr,p⟩:=hl ex;cases ry with
   |non=>cases rv;cases h;exact⟨.list_none p hu0,.list_none p hu0⟩
   |bl q=>cases h
   |int q=>obtain⟨t,rfl⟩:=rv;cases h;exact⟨.list_int q t p hu0,.list_int q t p hu0⟩
   |str q=>obtain⟨t,rfl⟩:=rv;cases h;exact⟨.list_str q t p hu0,.list_str q t p hu0⟩
   |tup e' l r=>cases rv;cases h;obtain⟨its',_,p'⟩:=ht e';exact⟨.list_tuple p p' hu0,.list_tuple p p' hu0⟩
   |@lst a' xs' ds' ex' l' r'=>
    cases rv;obtain⟨its',vr',p'⟩:=hl ex';have s1:its.toArray.size=ds.length:=by rw[ah,<- vr.length,l]
    have s2:its'.toArray.size=ds'.length:=by rw[ah,<- vr'.length,l']
    have h':(if ds.length=ds'.length then allE (eqN n) ds ds' else some false)=some b:=h
    split at h'
    ·rename_i hlen
     obtain⟨e,k,hb⟩:=vi h';have q:=RcAt.lists (e:=e) p p' (by rw[s1,s2,hlen]) hu0 fun j h1 h2=>by
      obtain⟨x1,g1,w1⟩:=jh vr (j:=j) (u:=its[j]) (aa (by simpa using h1));obtain⟨x2,g2,w2⟩:=jh vr' (j:=j) (u:=its'[j]) (aa (by simpa using h2));have d1:j<ds.length:=by omega
      have d2:j<ds'.length:=by omega
      have:=(vX I hs n A.in1 x1 x2 _ _ ds[j] ds'[j] (e j) (by show A.units+1+n<_;omega) (r j _ _ g1 (aa d1)) (r' j _ _ g2 (aa d2)) w1 w2 (k j _ _ (aa d1) (aa d2))).2;simpa using this
     rw[s1,<- hb]at q;refine⟨q,?_⟩
     by_cases haa:a=a'
     ·subst haa
      have:=Kt I hs (.lst ex l r) (.lst ex' l' r') (n+1) b h;subst this;exact .same _
     ·exact .of_refs haa q
    ·rename_i hlen
     cases h';have q:=RcAt.lists_lengths p p' (by rw[s1,s2];simpa using hlen) hu0;refine⟨q,?_⟩
     by_cases haa:a=a'
     ·subst haa
      obtain rfl:=I.list_inj (lstT hs ex) (lstT hs ex');exact absurd (l.symm.trans l') hlen
     ·exact .of_refs haa q
   |dic=>cases h
   |dit=>cases h
   |obj=>cases h
   |scr=>cases h
  |dic=>cases e <;> cases h
  |dit=>cases e <;> cases h
  |obj=>cases e <;> cases h
  |scr=>cases e <;> cases h
end
def ordE(e r:Nat->Bool)(t:Bool):Nat->Nat->Bool
 |_,0=>t
 |i,k+1=>if e i=true then ordE e r t (i+1) k else r i
def RcO(op:CmpOp)(A:Around)(s:Shared)(y x:Value)(b:Bool):Prop:=∀(prog:Program)(w:World)(E:fJ)(Q:fJ),Q (.bool b) s->wpAny (model prog w) A (richCompare op y x) Q E s
section
open PySem.SeqAt
open PySem.AutoSeq1 (wpAny_loadPart')
open PySem.MeetsSeq PySem.MeetsSeq2 PySem.MeetsSeq3 SeqRoads2
theorem uM(l b:Addr)(items items2:fO)(n n2:Nat)(dd dd2:fN)(sl sl2:Array (Option Value))(e r:Nat->Bool) :
  Meets (Builtin.«tuple.__lt__» ⟨[.ref l,.ref b],[]⟩)
   (fun A R s=>s.heap.get? l=some { cls:=.type "tuple",dict:=dd,data:=.seq items n,slots:=sl }/\s.heap.get? b=some { cls:=.type "tuple",dict:=dd2,data:=.seq items2 n2,slots:=sl2 }/\
    (∀j(h1:j<items.size)(h2:j<items2.size),(∀k,k<j->e k=true)->EqAt A.in1 s items[j] items2[j] (e j))/\(∀j(h1:j<items.size)(h2:j<items2.size),(∀k,k<j->e k=true)->e j=false->RcO .Lt A.in1 s items[j] items2[j] (r j))/\
    R (.ok (.ret (.bool (ordE e r (decide (items.size<items2.size)) 0 (min items.size items2.size))))) s):=
 .of_wp fun prog w A R s h=>by
  obtain⟨hp,g,d,tk,os⟩:=s;obtain⟨hl,hb,he,hr,h⟩:=h;have f2:=AutoSeq1.sub_tuple_tuple;have zl:(items.toList.zip items2.toList).length=min items.size items2.size:=by rw[eA,bx,bx]
  wp_walk using aD hl,aD hb,wpAny_forIn_list _ (fun rest b s'=>b.1=none/\s'=⟨hp,g,d,tk,os⟩/\∃i k,i+k=min items.size items2.size/\rest=(items.toList.zip items2.toList).drop i/\(∀q,q<i->e q=true)/\
   R (.ok (.ret (.bool (ordE e r (decide (items.size<items2.size)) i k)))) ⟨hp,g,d,tk,os⟩) _
  case turn=>
   rintro⟨y,x⟩ rest b s' ⟨hb',rfl,i,k,hik,hz,hq,hR⟩;have lt0:i<(items.toList.zip items2.toList).length:=by
    by_cases q:i<(items.toList.zip items2.toList).length
    ·exact q
    ·rw[List.drop_eq_nil_of_le (by omega)]at hz;cases hz
   have a1:i<items.size:=by omega
   have a2:i<items2.size:=by omega
   rw[bN lt0]at hz
   injection hz with ez hrest
   rw[List.getElem_zip]at ez
   injection ez with ey ex
   have ey:y=items[i]:=by rw[ey];simp
   have ex:x=items2[i]:=by rw[ex];simp
   subst ey ex;cases k with
   |zero=>omega
   |succ k=>
    have hR:R (.ok (.ret (.bool (if e i=true then ordE e r (decide (items.size<items2.size)) (i+1) k else r i)))) _:=hR;refine af (he i a1 a2 hq prog w _ _ ?_);cases ei:e i with
    |true=>
     rw[aF ei]at hR
     wp_walk
     exact⟨rfl,rfl,i+1,k,by omega,hrest,fun q hq'=>by by_cases z:q=i;(subst z;exact ei);exact hq q (by omega),hR⟩
    |false=>
     rw[ei,aG (by decide)]at hR;have hri:=hr i a1 a2 hq ei prog w
     wp_walk using hri
     exact⟨_,rfl,by simpa using hR⟩
  case fin=>
   rintro⟨b1,b2⟩ s' ⟨hb',rfl,i,k,hik,hz,hq,hR⟩;simp only at hb';subst hb';have k0:k=0:=by
    by_cases q:i<(items.toList.zip items2.toList).length
    ·rw[bN q]at hz;cases hz
    ·omega
   subst k0;have hR:R (.ok (.ret (.bool (decide (items.size<items2.size))))) _:=hR
   wp_walk
   exact⟨_,rfl,by simpa[Builtin.Tuple.tupleCompareSizes] using hR⟩
  case h=>
   exact⟨rfl,rfl,0,min items.size items2.size,by omega,rfl,fun q hq=>absurd hq (cg _),h⟩
theorem Zx(l b:Addr)(items items2:fO)(n n2:Nat)(dd dd2:fN)(sl sl2:Array (Option Value))(e r:Nat->Bool)(k:Nat) :
  ∀i:Nat,i+k=min items.size items2.size->Meets (Builtin.«list.__eq__.loop» ⟨[.ref l,.ref b,rawInt i,rawInt (0)],[]⟩)
   (fun A R s=>s.heap.get? l=some { cls:=.type "list",dict:=dd,data:=.seq items n,slots:=sl }/\s.heap.get? b=some { cls:=.type "list",dict:=dd2,data:=.seq items2 n2,slots:=sl2 }/\
    (∀j(h1:j<items.size)(h2:j<items2.size),(∀k,k<j->e k=true)->EqAt A.in1 s items[j] items2[j] (e j))/\(∀j(h1:j<items.size)(h2:j<items2.size),(∀k,k<j->e k=true)->e j=false->RcO .Lt A.in1 s items[j] items2[j] (r j))/\(∀q,q<i->e q=true)/\
    R (.ok (.ret (.bool (ordE e r (decide (items.size<items2.size)) i k)))) s):=by
 induction k with
 |zero=>
  intro i hk prog w A R s h;obtain⟨hp,g,d,tk,os⟩:=s;obtain⟨hl,hb,he,hr,hq,h⟩:=h
  wp_walk using aD hl,aD hb
  have h:R (.ok (.ret (.bool (decide (items.size<items2.size))))) _:=h;have zz:items[((i:Nat):Int).toNat]?=none\/items2[((i:Nat):Int).toNat]?=none:=by
   simp only[cB,eI];omega
  cases z1:items[((i:Nat):Int).toNat]? with
  |none=>
   wp_walk using aD hl,aD hb
   exact h
  |some v1=>
   cases z2:items2[((i:Nat):Int).toNat]? with
   |none=>
    wp_walk using aD hl,aD hb
    exact h
   |some v2=>rw[z1,z2]at zz;rcases zz with zz|zz <;> cases zz
 |succ k ih=>
  intro i hk prog w A R s h;obtain⟨hp,g,d,tk,os⟩:=s;obtain⟨hl,hb,he,hr,hq,h⟩:=h
  wp_walk using aD hl,aD hb
  have a1:i<items.size:=by omega
  have a2:i<items2.size:=by omega
  have z1:items[((i:Nat):Int).toNat]?=some items[i]:=by simp[a1]
  have z2:items2[((i:Nat):Int).toNat]?=some items2[i]:=by simp[a2]
  have hc:((i:Int)+1)=((i+1:Nat):Int):=by push_cast;rfl
  have h:R (.ok (.ret (.bool (if e i=true then ordE e r (decide (items.size<items2.size)) (i+1) k else r i)))) _:=h;rw[z1,z2];refine af (he i a1 a2 hq prog w _ _ ?_);cases ei:e i with
  |true=>
   rw[aF ei]at h
   wp_walk
   rw[hc];refine⟨cf plain_eq_loop _,bO entry_eq_loop ?_⟩;rw[bu plain_eq_loop _];exact ih (i+1) (by omega) prog w A R _ ⟨hl,hb,he,hr,fun q hq'=>by by_cases z:q=i;(subst z;exact ei);exact hq q (by omega),h⟩
  |false=>
   rw[ei,aG (by decide)]at h;have hri:=hr i a1 a2 hq ei prog w
   wp_walk using aD hl,aD hb
   rw[z1,z2]
   wp_walk using hri
   simpa using h
theorem qa7(l b:Addr)(items items2:fO)(n n2:Nat)(dd dd2:fN)(sl sl2:Array (Option Value))(e r:Nat->Bool) :
  Meets (Builtin.«list.__lt__» ⟨[.ref l,.ref b],[]⟩)
   (fun A R s=>s.heap.get? l=some { cls:=.type "list",dict:=dd,data:=.seq items n,slots:=sl }/\s.heap.get? b=some { cls:=.type "list",dict:=dd2,data:=.seq items2 n2,slots:=sl2 }/\
    (∀j(h1:j<items.size)(h2:j<items2.size),(∀k,k<j->e k=true)->EqAt A.in1 s items[j] items2[j] (e j))/\(∀j(h1:j<items.size)(h2:j<items2.size),(∀k,k<j->e k=true)->e j=false->RcO .Lt A.in1 s items[j] items2[j] (r j))/\
    R (.ok (.ret (.bool (ordE e r (decide (items.size<items2.size)) 0 (min items.size items2.size))))) s):=by
 intro prog w A R s h;obtain⟨hp,g,d,tk,os⟩:=s;obtain⟨hl,hb,he,hr,h⟩:=h;have f3:=AutoSeq1.sub_list_list
 wp_walk using aD hl,aD hb
 refine⟨cf plain_eq_loop _,bO entry_eq_loop ?_⟩;rw[bu plain_eq_loop _];exact Zx l b items items2 n n2 dd dd2 sl sl2 e r _ 0 (by omega) prog w A R _ ⟨hl,hb,he,hr,fun q hq=>absurd hq (cg _),h⟩
theorem uN(l b:Addr)(items items2:fO)(n n2:Nat)(dd dd2:fN)(sl sl2:Array (Option Value))(e r:Nat->Bool) :
  Meets (Builtin.«tuple.__gt__» ⟨[.ref l,.ref b],[]⟩)
   (fun A R s=>s.heap.get? l=some { cls:=.type "tuple",dict:=dd,data:=.seq items n,slots:=sl }/\s.heap.get? b=some { cls:=.type "tuple",dict:=dd2,data:=.seq items2 n2,slots:=sl2 }/\
    (∀j(h1:j<items.size)(h2:j<items2.size),(∀k,k<j->e k=true)->EqAt A.in1 s items[j] items2[j] (e j))/\(∀j(h1:j<items.size)(h2:j<items2.size),(∀k,k<j->e k=true)->e j=false->RcO .Gt A.in1 s items[j] items2[j] (r j))/\
    R (.ok (.ret (.bool (ordE e r (decide (items.size > items2.size)) 0 (min items.size items2.size))))) s):=
 .of_wp fun prog w A R s h=>by
  obtain⟨hp,g,d,tk,os⟩:=s;obtain⟨hl,hb,he,hr,h⟩:=h;have f2:=AutoSeq1.sub_tuple_tuple;have zl:(items.toList.zip items2.toList).length=min items.size items2.size:=by rw[eA,bx,bx]
  wp_walk using aD hl,aD hb,wpAny_forIn_list _ (fun rest b s'=>b.1=none/\s'=⟨hp,g,d,tk,os⟩/\∃i k,i+k=min items.size items2.size/\rest=(items.toList.zip items2.toList).drop i/\(∀q,q<i->e q=true)/\
   R (.ok (.ret (.bool (ordE e r (decide (items.size > items2.size)) i k)))) ⟨hp,g,d,tk,os⟩) _
  case turn=>
   rintro⟨y,x⟩ rest b s' ⟨hb',rfl,i,k,hik,hz,hq,hR⟩;have lt0:i<(items.toList.zip items2.toList).length:=by
    by_cases q:i<(items.toList.zip items2.toList).length
    ·exact q
    ·rw[List.drop_eq_nil_of_le (by omega)]at hz;cases hz
   have a1:i<items.size:=by omega
   have a2:i<items2.size:=by omega
   rw[bN lt0]at hz
   injection hz with ez hrest
   rw[List.getElem_zip]at ez
   injection ez with ey ex
   have ey:y=items[i]:=by rw[ey];simp
   have ex:x=items2[i]:=by rw[ex];simp
   subst ey ex;cases k with
   |zero=>omega
   |succ k=>
    have hR:R (.ok (.ret (.bool (if e i=true then ordE e r (decide (items.size > items2.size)) (i+1) k else r i)))) _:=hR;refine af (he i a1 a2 hq prog w _ _ ?_);cases ei:e i with
    |true=>
     rw[aF ei]at hR
     wp_walk
     exact⟨rfl,rfl,i+1,k,by omega,hrest,fun q hq'=>by by_cases z:q=i;(subst z;exact ei);exact hq q (by omega),hR⟩
    |false=>
     rw[ei,aG (by decide)]at hR;have hri:=hr i a1 a2 hq ei prog w
     wp_walk using hri
     exact⟨_,rfl,by simpa using hR⟩
  case fin=>
   rintro⟨b1,b2⟩ s' ⟨hb',rfl,i,k,hik,hz,hq,hR⟩;simp only at hb';subst hb';have k0:k=0:=by
    by_cases q:i<(items.toList.zip items2.toList).length
    ·rw[bN q]at hz;cases hz
    ·omega
   subst k0;have hR:R (.ok (.ret (.bool (decide (items.size > items2.size))))) _:=hR
   wp_walk
   exact⟨_,rfl,by simpa[Builtin.Tuple.tupleCompareSizes] using hR⟩
  case h=>
   exact⟨rfl,rfl,0,min items.size items2.size,by omega,rfl,fun q hq=>absurd hq (cg _),h⟩
theorem Zy(l b:Addr)(items items2:fO)(n n2:Nat)(dd dd2:fN)(sl sl2:Array (Option Value))(e r:Nat->Bool)(k:Nat) :
  ∀i:Nat,i+k=min items.size items2.size->Meets (Builtin.«list.__eq__.loop» ⟨[.ref l,.ref b,rawInt i,rawInt (4)],[]⟩)
   (fun A R s=>s.heap.get? l=some { cls:=.type "list",dict:=dd,data:=.seq items n,slots:=sl }/\s.heap.get? b=some { cls:=.type "list",dict:=dd2,data:=.seq items2 n2,slots:=sl2 }/\
    (∀j(h1:j<items.size)(h2:j<items2.size),(∀k,k<j->e k=true)->EqAt A.in1 s items[j] items2[j] (e j))/\(∀j(h1:j<items.size)(h2:j<items2.size),(∀k,k<j->e k=true)->e j=false->RcO .Gt A.in1 s items[j] items2[j] (r j))/\(∀q,q<i->e q=true)/\
    R (.ok (.ret (.bool (ordE e r (decide (items.size > items2.size)) i k)))) s):=by
 induction k with
 |zero=>
  intro i hk prog w A R s h;obtain⟨hp,g,d,tk,os⟩:=s;obtain⟨hl,hb,he,hr,hq,h⟩:=h
  wp_walk using aD hl,aD hb
  have h:R (.ok (.ret (.bool (decide (items.size > items2.size))))) _:=h;have zz:items[((i:Nat):Int).toNat]?=none\/items2[((i:Nat):Int).toNat]?=none:=by
   simp only[cB,eI];omega
  cases z1:items[((i:Nat):Int).toNat]? with
  |none=>
   wp_walk using aD hl,aD hb
   exact h
  |some v1=>
   cases z2:items2[((i:Nat):Int).toNat]? with
   |none=>
    wp_walk using aD hl,aD hb
    exact h
   |some v2=>rw[z1,z2]at zz;rcases zz with zz|zz <;> cases zz
 |succ k ih=>
  intro i hk prog w A R s h;obtain⟨hp,g,d,tk,os⟩:=s;obtain⟨hl,hb,he,hr,hq,h⟩:=h
  wp_walk using aD hl,aD hb
  have a1:i<items.size:=by omega
  have a2:i<items2.size:=by omega
  have z1:items[((i:Nat):Int).toNat]?=some items[i]:=by simp[a1]
  have z2:items2[((i:Nat):Int).toNat]?=some items2[i]:=by simp[a2]
  have hc:((i:Int)+1)=((i+1:Nat):Int):=by push_cast;rfl
  have h:R (.ok (.ret (.bool (if e i=true then ordE e r (decide (items.size > items2.size)) (i+1) k else r i)))) _:=h;rw[z1,z2];refine af (he i a1 a2 hq prog w _ _ ?_);cases ei:e i with
  |true=>
   rw[aF ei]at h
   wp_walk
   rw[hc];refine⟨cf plain_eq_loop _,bO entry_eq_loop ?_⟩;rw[bu plain_eq_loop _];exact ih (i+1) (by omega) prog w A R _ ⟨hl,hb,he,hr,fun q hq'=>by by_cases z:q=i;(subst z;exact ei);exact hq q (by omega),h⟩
  |false=>
   rw[ei,aG (by decide)]at h;have hri:=hr i a1 a2 hq ei prog w
   wp_walk using aD hl,aD hb
   rw[z1,z2]
   wp_walk using hri
   simpa using h
theorem qa8(l b:Addr)(items items2:fO)(n n2:Nat)(dd dd2:fN)(sl sl2:Array (Option Value))(e r:Nat->Bool) :
  Meets (Builtin.«list.__gt__» ⟨[.ref l,.ref b],[]⟩)
   (fun A R s=>s.heap.get? l=some { cls:=.type "list",dict:=dd,data:=.seq items n,slots:=sl }/\s.heap.get? b=some { cls:=.type "list",dict:=dd2,data:=.seq items2 n2,slots:=sl2 }/\
    (∀j(h1:j<items.size)(h2:j<items2.size),(∀k,k<j->e k=true)->EqAt A.in1 s items[j] items2[j] (e j))/\(∀j(h1:j<items.size)(h2:j<items2.size),(∀k,k<j->e k=true)->e j=false->RcO .Gt A.in1 s items[j] items2[j] (r j))/\
    R (.ok (.ret (.bool (ordE e r (decide (items.size > items2.size)) 0 (min items.size items2.size))))) s):=by
 intro prog w A R s h;obtain⟨hp,g,d,tk,os⟩:=s;obtain⟨hl,hb,he,hr,h⟩:=h;have f3:=AutoSeq1.sub_list_list
 wp_walk using aD hl,aD hb
 refine⟨cf plain_eq_loop _,bO entry_eq_loop ?_⟩;rw[bu plain_eq_loop _];exact Zy l b items items2 n n2 dd dd2 sl sl2 e r _ 0 (by omega) prog w A R _ ⟨hl,hb,he,hr,fun q hq=>absurd hq (cg _),h⟩
end
def ordL(g:Bool)(eq od:D->D->Option Bool):List D->List D->Option Bool
 |x::xs,y::ys=>match eq x y with
  |some true=>ordL g eq od xs ys
  |some false=>od x y
  |none=>none
 |xs,ys=>some (if g then decide (xs.length<ys.length)else decide (ys.length<xs.length))
noncomputable def ordN(g:Bool):Nat->D->D->Option Bool
 |0,_,_=>none
 |n+1,d,e=>match d,e with
  |.int a,.int b=>some (if g then decide (a<b)else decide (b<a))
  |.str a,.str b=>some (if g then decide (a.cps.toList<b.cps.toList)else decide (b.cps.toList<a.cps.toList))
  |.tup xs,.tup ys=>ordL g (eqN n) (ordN g n) xs ys
  |.lst xs,.lst ys=>ordL g (eqN n) (ordN g n) xs ys
  |_,_=>none
theorem Zr{g:Bool}{eq od:D->D->Option Bool}:∀{xs ys:List D}{b:Bool},ordL g eq od xs ys=some b->∃e r:Nat->Bool,
  (∀(j:Nat) x y,xs[j]?=some x->ys[j]?=some y->(∀k,k<j->e k=true)->eq x y=some (e j))/\(∀(j:Nat) x y,xs[j]?=some x->ys[j]?=some y->(∀k,k<j->e k=true)->e j=false->od x y=some (r j))/\
  b=ordE e r (if g then decide (xs.length<ys.length)else decide (ys.length<xs.length)) 0 (min xs.length ys.length)
 |[],ys,b,h=>by
  have h':some (if g=true then decide (([]:List D).length<ys.length)else decide (ys.length<([]:List D).length))=some b:=by cases ys <;> exact h
  cases h';exact⟨fun _=>true,fun _=>true,fun j x y h=>by simp at h,fun j x y h=>by simp at h,by rw[dZ,Nat.zero_min];rfl⟩
 |x::xs,[],b,h=>by
  have h':some (if g=true then decide ((x::xs).length<([]:List D).length)else decide (([]:List D).length<(x::xs).length))=some b:=h;cases h';exact⟨fun _=>true,fun _=>true,fun j x y _ h=>by simp at h,fun j x y _ h=>by simp at h,by rw[dZ,Nat.min_zero];rfl⟩
 |x::xs,y::ys,b,h=>by
  have h':(match eq x y with|some true=>ordL g eq od xs ys|some false=>od x y|none=>none)=some b:=h;have hm:min (x::xs).length (y::ys).length=min xs.length ys.length+1:=by simp only[bz];omega
  cases q:eq x y with
  |none=>rw[q]at h';cases h'
  |some c=>
   rw[q]at h';cases c with
   |true=>
    obtain⟨e,r,h1,h2,h3⟩:=Zr (show ordL g eq od xs ys=some b from h');have shift:∀(t:Bool) k i,ordE (fun j=>match j with|0=>true|j+1=>e j) (fun j=>match j with|0=>true|j+1=>r j) t (i+1) k=ordE e r t i k:=fun t k=>by
     induction k with
     |zero=>intro i;rfl
     |succ k ih=>intro i;show(if e i=true then _ else _)=(if e i=true then _ else _);rw[ih (i+1)]
    refine⟨fun j=>match j with|0=>true|j+1=>e j,fun j=>match j with|0=>true|j+1=>r j,fun j u v hu hv hk=>?_,fun j u v hu hv hk hf=>?_,?_⟩
    ·cases j with
     |zero=>cases hu;cases hv;exact q
     |succ j=>exact h1 j u v (by simpa using hu) (by simpa using hv) fun k hk'=>hk (k+1) (by omega)
    ·cases j with
     |zero=>cases hf
     |succ j=>exact h2 j u v (by simpa using hu) (by simpa using hv) (fun k hk'=>hk (k+1) (by omega)) hf
    ·rw[hm,h3]
     show _=(if true=true then _ else _);rw[aF rfl,shift];simp only[bz,Nat.add_lt_add_iff_right]
   |false=>
    have h':od x y=some b:=h';refine⟨fun _=>false,fun _=>b,fun j u v hu hv hk=>?_,fun j u v hu hv hk _=>?_,?_⟩
    ·cases j with
     |zero=>cases hu;cases hv;exact q
     |succ j=>exact absurd (hk 0 (by omega)) (by decide)
    ·cases j with
     |zero=>cases hu;cases hv;exact h'
     |succ j=>exact absurd (hk 0 (by omega)) (by decide)
    ·rw[hm];rfl
def cop(g:Bool):CmpOp:=if g then .Lt else .Gt
section
variable{X:Cx}{pins:fI}{σ:L2.St}{H:Hp}{s:Shared}{c:Co}
open SeqAt
theorem Jd(I:Inv X pins σ H s)(hs:Same c.h H)(g:Bool):∀(n:Nat)(A:Around)(x y:V)(u v:Value)(d e:D)(b:Bool),A.units+n<cLine->Rep X.K c x d->Rep X.K c y e->RelV x u->RelV y v->ordN g n d e=some b->RcO (cop g) A s u v b
 |0,_,_,_,_,_,_,_,_,_,_,_,_,_,h=>by cases h
 |n+1,A,x,y,u,v,d,e,b,hu,rx,ry,ru,rv,h=>by
  have hu0:A.units<cLine:=by omega
  have items:∀{xs xs':List V}{ds ds':List D}{its its':fM}{e r:Nat->Bool},xs.length=ds.length->xs'.length=ds'.length->(∀(i:Nat) x d,xs[i]?=some x->ds[i]?=some d->Rep X.K c x d)->(∀(i:Nat) x d,xs'[i]?=some x->ds'[i]?=some d->Rep X.K c x d)->Vals xs its->Vals xs' its'->
    (∀(j:Nat) x y,ds[j]?=some x->ds'[j]?=some y->(∀k,k<j->e k=true)->eqN n x y=some (e j))->(∀(j:Nat) x y,ds[j]?=some x->ds'[j]?=some y->(∀k,k<j->e k=true)->e j=false->ordN g n x y=some (r j))->
    (∀j(h1:j<its.toArray.size)(h2:j<its'.toArray.size),(∀k,k<j->e k=true)->EqAt A.in1 s its.toArray[j] its'.toArray[j] (e j))/\(∀j(h1:j<its.toArray.size)(h2:j<its'.toArray.size),(∀k,k<j->e k=true)->e j=false->RcO (cop g) A.in1 s its.toArray[j] its'.toArray[j] (r j)):=by
   intro xs xs' ds ds' its its' e r l l' r1 r2 vr vr' k1 k2;have w:∀j(h1:j<its.toArray.size)(h2:j<its'.toArray.size),∃x1 x2 d1 d2,Rep X.K c x1 d1/\Rep X.K c x2 d2/\RelV x1 its.toArray[j]/\RelV x2 its'.toArray[j]/\ds[j]?=some d1/\ds'[j]?=some d2:=fun j h1 h2=>by
    obtain⟨x1,g1,w1⟩:=jh vr (j:=j) (u:=its[j]) (aa (by simpa using h1));obtain⟨x2,g2,w2⟩:=jh vr' (j:=j) (u:=its'[j]) (aa (by simpa using h2));have s1:its.toArray.size=ds.length:=by rw[ah,<- vr.length,l]
    have s2:its'.toArray.size=ds'.length:=by rw[ah,<- vr'.length,l']
    have d1:j<ds.length:=by omega
    have d2:j<ds'.length:=by omega
    exact⟨x1,x2,ds[j],ds'[j],r1 j _ _ g1 (aa d1),r2 j _ _ g2 (aa d2),by simpa using w1,by simpa using w2,aa d1,aa d2⟩
   refine⟨fun j h1 h2 hk=>?_,fun j h1 h2 hk hf=>?_⟩
   ·obtain⟨x1,x2,d1,d2,a1,a2,a3,a4,a5,a6⟩:=w j h1 h2
    exact(vX I hs n A.in1 x1 x2 _ _ d1 d2 (e j) (by show A.units+1+n<_;omega) a1 a2 a3 a4 (k1 j _ _ a5 a6 hk)).2
   ·obtain⟨x1,x2,d1,d2,a1,a2,a3,a4,a5,a6⟩:=w j h1 h2
    exact Jd I hs g n A.in1 x1 x2 _ _ d1 d2 (r j) (by show A.units+1+n<_;omega) a1 a2 a3 a4 (k2 j _ _ a5 a6 hk hf)
  cases rx with
  |int a=>
   obtain⟨t',rfl⟩:=ru;cases ry with
   |int q=>
    obtain⟨t,rfl⟩:=rv;cases h;intro prog w E Q hq;cases g with
    |true=>exact(PyProof.Rows.lt_int hq:wpAny (model prog w) A (compareOp .Lt (.int a t') (.int q t)) Q E s)
    |false=>exact(PyProof.Rows.gt_int hq:wpAny (model prog w) A (compareOp .Gt (.int a t') (.int q t)) Q E s)
   |_=>cases h
  |str a=>
   obtain⟨t',rfl⟩:=ru;cases ry with
   |str q=>
    obtain⟨t,rfl⟩:=rv;cases h;intro prog w E Q hq;cases g with
    |true=>exact(PyProof.Rows.lt_str hq:wpAny (model prog w) A (compareOp .Lt (.str a t') (.str q t)) Q E s)
    |false=>exact(PySem.P.gt_str hq:wpAny (model prog w) A (compareOp .Gt (.str a t') (.str q t)) Q E s)
   |_=>cases h
  |@tup a xs ds ex l r=>
   cases ru;cases ry with
   |@tup a' xs' ds' ex' l' r'=>
    cases rv;obtain⟨its,vr,p,_⟩:=I.tuple (tupT hs ex);obtain⟨its',vr',p',_⟩:=I.tuple (tupT hs ex');obtain⟨e,q,k1,k2,hb⟩:=Zr (show ordL g (eqN n) (ordN g n) ds ds'=some b from h);obtain⟨m1,m2⟩:=items l l' r r' vr vr' k1 k2;have s1:its.toArray.size=ds.length:=by rw[ah,<- vr.length,l]
    have s2:its'.toArray.size=ds'.length:=by rw[ah,<- vr'.length,l']
    obtain⟨⟨cls,dd,data,sl⟩,ho,hc,n1,hd⟩:=id p;obtain⟨⟨cls2,dd2,data2,sl2⟩,ho2,hc2,n2,hd2⟩:=id p';simp only at hc hd hc2 hd2;subst hc hd hc2 hd2;intro prog w E Q hq;cases g with
    |true=>
     refine cS (op:=.Lt) ⟨_,ho,rfl⟩ ⟨_,ho2,rfl⟩ PySem.F.slot_tuple_lt PySem.F.entry_tuple_lt (PySem.F.args_tuple_lt_2 _ _) (uM a a' its.toArray its'.toArray n1 n2 dd dd2 sl sl2 e q) ⟨ho,ho2,m1,m2,(fun z=>nomatch z),?_⟩ hu0;rw[s1,s2];rw[hb]at hq;exact hq
    |false=>
     refine cS (op:=.Gt) ⟨_,ho,rfl⟩ ⟨_,ho2,rfl⟩ PySem.F.slot_tuple_gt PySem.F.entry_tuple_gt (PySem.F.args_tuple_gt_2 _ _) (uN a a' its.toArray its'.toArray n1 n2 dd dd2 sl sl2 e q) ⟨ho,ho2,m1,m2,(fun z=>nomatch z),?_⟩ hu0;rw[s1,s2];rw[hb]at hq;exact hq
   |_=>cases h
  |@lst a xs ds ex l r=>
   cases ru;cases ry with
   |@lst a' xs' ds' ex' l' r'=>
    cases rv;obtain⟨its,vr,p,_⟩:=I.list (lstT hs ex);obtain⟨its',vr',p',_⟩:=I.list (lstT hs ex');obtain⟨e,q,k1,k2,hb⟩:=Zr (show ordL g (eqN n) (ordN g n) ds ds'=some b from h);obtain⟨m1,m2⟩:=items l l' r r' vr vr' k1 k2;have s1:its.toArray.size=ds.length:=by rw[ah,<- vr.length,l]
    have s2:its'.toArray.size=ds'.length:=by rw[ah,<- vr'.length,l']
    obtain⟨⟨cls,dd,data,sl⟩,n1,ho,hc,hdd,hd⟩:=id p;obtain⟨⟨cls2,dd2,data2,sl2⟩,n2,ho2,hc2,hdd2,hd2⟩:=id p';simp only at hc hd hc2 hd2;subst hc hd hc2 hd2;intro prog w E Q hq;cases g with
    |true=>
     refine cS (op:=.Lt) ⟨_,ho,rfl⟩ ⟨_,ho2,rfl⟩ PySem.F.slot_list_lt PySem.F.entry_list_lt (PySem.F.args_list_lt_2 _ _) (qa7 a a' its.toArray its'.toArray n1 n2 dd dd2 sl sl2 e q) ⟨ho,ho2,m1,m2,(fun z=>nomatch z),?_⟩ hu0;rw[s1,s2];rw[hb]at hq;exact hq
    |false=>
     refine cS (op:=.Gt) ⟨_,ho,rfl⟩ ⟨_,ho2,rfl⟩ PySem.F.slot_list_gt PySem.F.entry_list_gt (PySem.F.args_list_gt_2 _ _) (qa8 a a' its.toArray its'.toArray n1 n2 dd dd2 sl sl2 e q) ⟨ho,ho2,m1,m2,(fun z=>nomatch z),?_⟩ hu0;rw[s1,s2];rw[hb]at hq;exact hq
   |_=>cases h
  |_=>cases e <;> cases h
end
inductive Ou(W:Wo) where
 |nx (g:SS W)
 |rt (d:D) (b:W.BS)
 |bk (g:SS W)
 |ct (g:SS W)
 |ex (x:Xn) (g:SS W)
 |bad
section
variable{W:Wo}{K:fH}{X:Cx}{E:En}{O O' O1 O2 OL:List Nat}{g:SS W}{b:W.BS}{σ:L2.St}{H H':Hp}{c c':Co}{fp fp':fL}
theorem SR.congr(S:SR W K E O g σ H c fp)(h:∀i,i∈O↔i∈O'):SR W K E O' g σ H c fp:=
 ⟨S.toSE,fun i d hi e=>S.frz i d (fun z=>hi ((h i).mp z)) e,fun i d hi e=>S.own i d ((h i).mpr hi) e,fun i j d e a hi hj=>S.dis i j d e a ((h i).mpr hi) ((h j).mpr hj),S.len⟩
theorem SR.freeze1(S:SR W K E O g σ H c fp)(i:Nat):∃c',Co.Le c c'/\SR W K E (O.filter (·≠i)) g σ H c' fp:=by
 have mem:∀j,j∈O.filter (·≠i)↔j∈O/\j≠i:=fun j=>by simp[aY]
 by_cases hi:i∈O
 ·by_cases hd:∃d,g.v[i]?=some (some d)/\ku d=true
  ·obtain⟨d,hg,hm⟩:=hd
   obtain⟨x,hx,ow⟩:=S.own i d hi hg;obtain⟨a,u,rfl,ha,hu,hc,hf,he,r⟩:=wH ow hm;have le:=Co.add_le (u:=u) hc;refine⟨c.add a u,le,S.toSE.give ha hu hc hf he,fun j e hj hq=>?_,fun j e hj hq=>?_,fun j k d e b hj hk=>S.dis j k d e b ((mem j).mp hj).1 ((mem k).mp hk).1,S.len⟩
   ·by_cases hji:j=i
    ·subst hji
     rw[hg]at hq;cases hq;exact⟨_,hx,r _ le ql⟩
    ·obtain⟨y,h1,h2⟩:=S.frz j e (fun z=>hj ((mem j).mpr ⟨z,hji⟩)) hq
     exact⟨y,h1,h2.mono le⟩
   ·obtain⟨hjO,hji⟩:=(mem j).mp hj
    obtain⟨y,h1,h2⟩:=S.own j e hjO hq;refine⟨y,h1,?_⟩;cases hme:ku e with
    |false=>
     have:=(ym h2 hme).mono le;cases e <;> first|exact this|cases hme
    |true=>
     have ne:∀z,y=.ref z->z≠a:=fun z ez q=>by subst q;subst ez;exact S.dis j i e d z hjO hi hji hq hg hme hm h1 hx
     have out:∀z,y=.ref z->c.h z=none->(c.add a u).h z=none:=fun z ez q=>by
      show upd c.h a u z=none;rw[qk (ne z ez)];exact q
     cases e with
     |lst ds=>obtain⟨z,xs,e1,e2,e3,e4,e5,e6⟩:=h2;exact⟨z,xs,e1,out z e1 e2,e3,e4,e5,e6.mono le⟩
     |dic ds=>obtain⟨z,xs,e1,e2,e3,e4,e5,e6,e7,e8⟩:=h2;exact⟨z,xs,e1,out z e1 e2,e3,e4,e5,e6,e7,e8.mono le⟩
     |dit ds=>obtain⟨z,xs,e1,e2,e3,e4,e5,e6,e7,e8⟩:=h2;exact⟨z,xs,e1,out z e1 e2,e3,e4,e5,e6,e7,e8.mono le⟩
     |non=>cases hme
     |bl _=>cases hme
     |int _=>cases hme
     |str _=>cases hme
     |tup _=>cases hme
     |obj _=>cases hme
     |scr _=>cases hme
  ·refine⟨c,.refl _,S.toSE,fun j e hj hq=>?_,fun j e hj hq=>S.own j e ((mem j).mp hj).1 hq,fun j k d e b hj hk=>S.dis j k d e b ((mem j).mp hj).1 ((mem k).mp hk).1,S.len⟩
   by_cases hji:j=i
   ·subst hji
    obtain⟨y,h1,h2⟩:=S.own j e hi hq;cases hme:ku e with
    |false=>exact⟨y,h1,ym h2 hme⟩
    |true=>exact absurd ⟨e,hq,hme⟩ hd
   ·exact S.frz j e (fun z=>hj ((mem j).mpr ⟨z,hji⟩)) hq
 ·exact⟨c,.refl _,S.congr fun j=>by rw[mem];exact⟨fun h=>⟨h,fun z=>hi (z▸h)⟩,fun h=>h.1⟩⟩
theorem SR.freeze(S:SR W K E O g σ H c fp)(hs:∀i∈O',i∈O):∃c',Co.Le c c'/\SR W K E O' g σ H c' fp:=by
 have go:∀(l P:List Nat)(c:Co),SR W K E P g σ H c fp->(∀i∈O',i∈P)->(∀i∈P,i∈l\/i∈O')->∃c',Co.Le c c'/\SR W K E O' g σ H c' fp:=by
  intro l
  induction l with
  |nil=>intro P c S h1 h2;exact⟨c,.refl _,S.congr fun i=>⟨fun h=>(h2 i h).elim (fun z=>nomatch z) id,h1 i⟩⟩
  |cons j l ih=>
   intro P c S h1 h2
   by_cases hj:j∈O'
   ·exact ih P c S h1 fun i hi=>(h2 i hi).elim (fun z=>by rcases aj.mp z with rfl|z;exact .inr hj;exact .inl z) .inr
   ·obtain⟨c1,l1,S1⟩:=S.freeze1 j
    obtain⟨c2,l2,S2⟩:=ih _ c1 S1 (fun i hi=>by simp only[aY,ne_eq,decide_not,dO,fD,cJ];exact⟨h1 i hi,fun z=>hj (z▸hi)⟩)
     (fun i hi=>by
      simp only[aY,ne_eq,decide_not,dO,fD,cJ]at hi;rcases h2 i hi.1 with z|z
      ·rcases aj.mp z with z|z
       ·exact absurd z hi.2
       ·exact .inl z
      ·exact .inr z)
    exact⟨c2,l1.trans l2,S2⟩
 exact go O O c S hs fun i hi=>.inl hi
def tSq(X:Cx)(E:En)(fr:Bool)(OL O':List Nat)(D:Ends)(c:Co)(o:Ou W):Prop:=match o with
 |.nx g'=>∀σ' H' c' fp',SR W X.K E O' g' σ' H' c' fp'->Co.Le c c'->D.nx σ' H'
 |.rt d b=>∀v H' c' fp',SE W E b H' c' fp'->(if fr=true then OwnV X.K E H' c' fp' v d else Rep X.K c' v d)->D.rt v H'
 |.bk g'=>∀σ' H' c' fp',SR W X.K E OL g' σ' H' c' fp'->Co.Le c c'->D.bk σ' H'
 |.ct g'=>∀σ' H' c' fp',SR W X.K E OL g' σ' H' c' fp'->Co.Le c c'->D.ct σ' H'
 |.ex x g'=>∀ev σ' s' H' c' fp',Inv X [] σ' H' s'->SR W X.K E [] g' σ' H' c' fp'->W.EX x ev s' H' c'->X.xe ev s'
 |.bad=>False
theorem tSq.mono{fr:Bool}{D:Ends}{o:Ou W}(l:Co.Le c c')(q:tSq X E fr OL O' D c o):tSq X E fr OL O' D c' o:=by
 cases o with
 |nx g'=>exact fun σ' H' c2 fp' S' l'=>q σ' H' c2 fp' S' (l.trans l')
 |rt d b=>exact q
 |bk g'=>exact fun σ' H' c2 fp' S' l'=>q σ' H' c2 fp' S' (l.trans l')
 |ct g'=>exact fun σ' H' c2 fp' S' l'=>q σ' H' c2 fp' S' (l.trans l')
 |ex x g'=>exact q
 |bad=>exact q
def tSx(X:Cx)(E:En)(fr:Bool)(OL O:List Nat)(f:SS W->Ou W)(O':List Nat)(g:SS W)(c:Co)(fp:fL):TS:=fun D σ H=>SR W X.K E O g σ H c fp/\tSq X E fr OL O' D c (f g)
def tS(X:Cx)(E:En)(fr:Bool)(OL O:List Nat)(f:SS W->Ou W)(O':List Nat):TS:=fun D σ H=>∃g c fp,tSx X E fr OL O f O' g c fp D σ H
def DS(W:Wo)(E:En)(fr:Bool)(OL:List Nat)(X:Cx)(O:List Nat)(st:Stmt)(f:SS W->Ou W)(O':List Nat):Prop:=PS X st (tS X E fr OL O f O')
def DSs(W:Wo)(E:En)(fr:Bool)(OL:List Nat)(X:Cx)(O:List Nat)(sts:List Stmt)(f:SS W->Ou W)(O':List Nat):Prop:=PSs X sts (tS X E fr OL O f O')
theorem zR{t t':TS}(h:PS X st t)(w:∀D σ H,t' D σ H->t D σ H):PS X st t':=fun pins s σ H D I q=>h pins s σ H D I (w D σ H q)
theorem jR{st:List Stmt}{t t':TS}(h:PSs X st t)(w:∀D σ H,t' D σ H->t D σ H):PSs X st t':=fun pins s σ H D I q=>h pins s σ H D I (w D σ H q)
variable{fr:Bool}{st:Stmt}{sts rest:List Stmt}{f h:SS W->Ou W}
theorem tS.weak(hs:∀i∈O1,i∈O)(hp:∀i∈O2,i∈O'){D:Ends}(q:tS X E fr OL O f O2 D σ H):tS X E fr OL O1 f O' D σ H:=by
 obtain⟨g,c,fp,S,q⟩:=q;obtain⟨c',le,S'⟩:=S.freeze hs;refine⟨g,c',fp,S',?_⟩;cases e:f g with
 |nx g'=>
  rw[e]at q;intro σ2 H2 c2 fp2 S2 l2;obtain⟨c3,l3,S3⟩:=S2.freeze hp;exact q _ _ _ _ S3 ((le.trans l2).trans l3)
 |rt d b=>rw[e]at q;exact q
 |bk g'=>rw[e]at q;exact q.mono le
 |ct g'=>rw[e]at q;exact q.mono le
 |ex x g'=>rw[e]at q;exact q
 |bad=>rw[e]at q;exact q
theorem DS.weak(hh:DS W E fr OL X O1 st f O')(hs:∀i∈O1,i∈O:=by decide)(hp:∀i∈O2,i∈O':=by decide):DS W E fr OL X O st f O2:=zR hh fun D σ H q=>q.weak hs hp
theorem DSs.weak(hh:DSs W E fr OL X O1 sts f O')(hs:∀i∈O1,i∈O:=by decide)(hp:∀i∈O2,i∈O':=by decide):DSs W E fr OL X O sts f O2:=jR hh fun D σ H q=>q.weak hs hp
noncomputable def sNil:SS W->Ou W:=fun g=>.nx g
noncomputable def sSeq(f h:SS W->Ou W):SS W->Ou W:=fun g=>match f g with
 |.nx g'=>h g'
 |.rt d b=>.rt d b
 |.bk g'=>.bk g'
 |.ct g'=>.ct g'
 |.ex x g'=>.ex x g'
 |.bad=>.bad
theorem zg:DSs W E fr OL X O [] sNil O:=jR jF fun D σ H⟨g,c,fp,S,q⟩=>q σ H c fp S (.refl _)
theorem qy(h1:DS W E fr OL X O st f O'):DSs W E fr OL X O [st] f O':=zC h1
theorem qo(h1:DS W E fr OL X O st f O1)(h2:DSs W E fr OL X O1 rest h O'):DSs W E fr OL X O (st::rest) (sSeq f h) O':=jR (qY h1 h2) fun D σ H⟨g,c,fp,S,q⟩=>by
 refine⟨g,c,fp,S,?_⟩;unfold sSeq at q;cases e:f g with
 |nx g'=>rw[e]at q;exact fun σ' H' c' fp' S' l'=>⟨g',c',fp',S',q.mono l'⟩
 |rt d b=>rw[e]at q;exact q
 |bk g'=>rw[e]at q;exact q
 |ct g'=>rw[e]at q;exact q
 |ex x g'=>rw[e]at q;exact q
 |bad=>rw[e]at q;exact q
noncomputable def zZ{α:Type}(f:SS W->R W α)(k:α->SS W->Ou W):SS W->Ou W:=fun g=>match f g with
 |.ok a b=>k a ⟨g.v,b⟩
 |.exc x b=>.ex x ⟨g.v,b⟩
 |.bad=>.bad
theorem tSx.bind{rel:Co->ν->α->Prop}{fa:SS W->R W α}{k:α->SS W->Ou W}{D:Ends}{Q:ν->Hp->Prop}(q:tSx X E fr OL O (zZ fa k) O' g c fp D σ H)
  (cont:∀d b v H1 c1 fp1,FR H c fp H1 c1 fp1->rel (cm m H1 c1 fp1) v d->tSx X E fr OL O (k d) O' ⟨g.v,b⟩ c1 fp1 D σ H1->Q v H1):tG X E rel m O fa g c fp σ H Q:=by
 obtain⟨S,q⟩:=q;refine⟨S,?_⟩;unfold zZ at q;cases e:fa g with
 |bad=>rw[e]at q;exact q
 |exc x b=>
  rw[e]at q;intro ev s' H' c' fp' I S' F' x';obtain⟨c2,l2,S2⟩:=S'.freeze (O':=[]) (fun i h=>nomatch h);exact q ev σ s' H' c2 fp' I S2 (W.exS _ _ _ _ _ _ x' l2)
 |ok d b=>
  rw[e]at q;exact fun v H1 c1 fp1 S1 F1 r1=>cont d b v H1 c1 fp1 F1 r1 ⟨S1,q.mono F1.le⟩
theorem tSx.bindO{fa:SS W->R W D}{k:D->SS W->Ou W}{D:Ends}(q:tSx X E fr OL O (zZ fa k) O' g c fp D σ H)
  (cont:∀d b v H1 c1 fp1,FR H c fp H1 c1 fp1->OwnV X.K E H1 c1 fp1 v d->NewV H v d->tSx X E fr OL O (k d) O' ⟨g.v,b⟩ c1 fp1 D σ H1->Q v H1):tO X E O fa g c fp σ H Q:=by
 obtain⟨S,q⟩:=q;refine⟨S,?_⟩;unfold zZ at q;cases e:fa g with
 |bad=>rw[e]at q;exact q
 |exc x b=>
  rw[e]at q;intro ev s' H' c' fp' I S' F' x';obtain⟨c2,l2,S2⟩:=S'.freeze (O':=[]) (fun i h=>nomatch h);exact q ev σ s' H' c2 fp' I S2 (W.exS _ _ _ _ _ _ x' l2)
 |ok d b=>
  rw[e]at q;exact fun v H1 c1 fp1 S1 F1 r1 nw=>cont d b v H1 c1 fp1 F1 r1 nw ⟨S1,q.mono F1.le⟩
noncomputable def put(g:SS W)(i:Nat)(d:D):SS W:=⟨g.v.set i (some d),g.b⟩
theorem SR.set(S:SR W K E O g σ H c fp){i:Nat}{d:D}{x:V}(r:Rep K c x d):SR W K E (O.filter (·≠i)) (put g i d) (σ.set i (some x)) H c fp:=by
 have mem:∀j,j∈O.filter (·≠i)↔j∈O/\j≠i:=fun j=>by simp[aY]
 have other:∀{j:Nat}{e:D},j≠i->(g.v.set i (some d))[j]?=some (some e)->g.v[j]?=some (some e):=fun hj h=>by rw[aM (bW hj)]at h;exact h
 refine⟨S.toSE,fun j e hj hq=>?_,fun j e hj hq=>?_,fun j k d1 e a hj hk hjk h1 h2 m1 m2 h3 h4=>?_,by show(g.v.set i (some d)).length=_;rw[cD,cD];exact S.len⟩
 ·by_cases hji:j=i
  ·subst hji
   have hq:(g.v.set j (some d))[j]?=some (some e):=hq;have hl:j<g.v.length:=by
    have:=(ai.mp hq).1;rw[cD]at this;exact this
   rw[bq hl]at hq;cases hq;exact⟨x,bq (by rw[<- S.len];exact hl),r⟩
  ·obtain⟨y,h1,h2⟩:=S.frz j e (fun z=>hj ((mem j).mpr ⟨z,hji⟩)) (other hji hq)
   exact⟨y,by rw[aM (bW hji)];exact h1,h2⟩
 ·obtain⟨hjO,hji⟩:=(mem j).mp hj
  obtain⟨y,h1,h2⟩:=S.own j e hjO (other hji hq);exact⟨y,by rw[aM (bW hji)];exact h1,h2⟩
 ·obtain⟨hjO,hji⟩:=(mem j).mp hj
  obtain⟨hkO,hki⟩:=(mem k).mp hk;rw[aM (bW hji)]at h3;rw[aM (bW hki)]at h4;exact S.dis j k d1 e a hjO hkO hjk (other hji h1) (other hki h2) m1 m2 h3 h4
theorem Zq{x:V}{d:D}(h:OwnV K E H c fp x d)(hm:ku d=true){a:Addr}(e:x=.ref a):H a≠none:=by
 obtain⟨a',u,e',ha,_⟩:=wH h hm;cases e.symm.trans e';rw[ha];simp
theorem SR.setO(S:SR W K E O g σ H c fp){i:Nat}{d:D}{x:V}(o:OwnV K E H c fp x d)(nw:∀j e y,j∈O->g.v[j]?=some (some e)->ku e=true->σ[j]?=some (some y)->ku d=true->y≠x):SR W K E (i::O) (put g i d) (σ.set i (some x)) H c fp:=by
 have other:∀{j:Nat}{e:D},j≠i->(g.v.set i (some d))[j]?=some (some e)->g.v[j]?=some (some e):=fun hj h=>by rw[aM (bW hj)]at h;exact h
 have self:∀{e:D},(g.v.set i (some d))[i]?=some (some e)->e=d/\i<σ.length:=fun hq=>by
  have hl:i<g.v.length:=by
   have:=(ai.mp hq).1;rw[cD]at this;exact this
  rw[bq hl]at hq;cases hq;exact⟨rfl,by rw[<- S.len];exact hl⟩
 refine⟨S.toSE,fun j e hj hq=>?_,fun j e hj hq=>?_,fun j k d1 e a hj hk hjk h1 h2 m1 m2 h3 h4=>?_,by show(g.v.set i (some d)).length=_;rw[cD,cD];exact S.len⟩
 ·have hji:j≠i:=fun z=>hj (by rw[z];exact ar ..)
  obtain⟨y,h1,h2⟩:=S.frz j e (fun z=>hj (av _ z)) (other hji hq);exact⟨y,by rw[aM (bW hji)];exact h1,h2⟩
 ·by_cases hji:j=i
  ·subst hji
   obtain⟨rfl,hl⟩:=self hq;exact⟨x,bq hl,o⟩
  ·obtain⟨y,h1,h2⟩:=S.own j e ((aj.mp hj).resolve_left hji) (other hji hq)
   exact⟨y,by rw[aM (bW hji)];exact h1,h2⟩
 ·by_cases hji:j=i
  ·subst hji
   have hki:k≠j:=bW hjk;obtain⟨rfl,hl⟩:=self h1;rw[bq hl]at h3;rw[aM (bW hki)]at h4;cases h3;exact nw k e _ ((aj.mp hk).resolve_left hki) (other hki h2) m2 h4 m1 rfl
  ·rw[aM (bW hji)]at h3
   by_cases hki:k=i
   ·subst hki
    obtain⟨rfl,hl⟩:=self h2;rw[bq hl]at h4;cases h4;exact nw j d1 _ ((aj.mp hj).resolve_left hji) (other hji h1) m1 h3 m2 rfl
   ·rw[aM (bW hki)]at h4
    exact S.dis j k d1 e a ((aj.mp hj).resolve_left hji) ((aj.mp hk).resolve_left hki) hjk (other hji h1) (other hki h2) m1 m2 h3 h4
def sSet(i:Nat)(f:SS W->R W D):SS W->Ou W:=zZ f fun d g=>.nx (put g i d)
variable{e:Expr}{fe:SS W->R W D}{pos pos':Pos}{i:Nat}{x:Str}
theorem zF(hN:X.N.Nodup)(hi:X.N[i]?=some x)(hx:Loc X.env.scope x)(he:DE W E true X O e fe)(hs:swapsWith e (some (.Name x pos')) pos.line X.env=pure false:=by rfl)(hf:X.fn x=true\/X.env.scope.names.lookup x=some .local:=by first|exact .inl rfl|exact .inr rfl|assumption) :
  DS W E fr OL X O (.Assign [.Name x pos'] e pos) (sSet i fe) (O.filter (·≠i)):=zR (wE hN hi hx he hs hf) fun D σ H⟨g,c,fp,q⟩=>⟨g,c,fp,q.bind fun d b v H1 c1 fp1 F1 r1 q1=>q1.2 _ _ c1 fp1 (q1.1.set r1) (.refl _)⟩
theorem kj(hN:X.N.Nodup)(hi:X.N[i]?=some x)(hx:Loc X.env.scope x)(he:DO W E X O e fe)(hs:swapsWith e (some (.Name x pos')) pos.line X.env=pure false:=by rfl)(hf:X.fn x=true\/X.env.scope.names.lookup x=some .local:=by first|exact .inl rfl|exact .inr rfl|assumption) :
  DS W E fr OL X O (.Assign [.Name x pos'] e pos) (sSet i fe) (i::O):=zR (wE hN hi hx he hs hf) fun D σ H⟨g,c,fp,q⟩=>⟨g,c,fp,q.bindO fun d b v H1 c1 fp1 F1 o1 nw q1=>q1.2 _ _ c1 fp1 (q1.1.setO o1 fun j e y hj hg hm hy hd=>by
   rintro rfl;obtain⟨z,hz,ow⟩:=q.1.own j e hj hg;cases hy.symm.trans hz;obtain⟨a,u,rfl,_⟩:=wH o1 hd;exact Zq ow hm rfl (nw hd a rfl)) (.refl _)⟩
def sRet(f:SS W->R W D):SS W->Ou W:=zZ f fun d g=>.rt d g.b
theorem zG(he:DE W E true X O e fe):DS W E false OL X O (.Return (some e) pos) (sRet fe) O':=zR (jS he) fun D σ H⟨g,c,fp,q⟩=>⟨g,c,fp,q.bind fun d b v H1 c1 fp1 F1 r1 q1=>q1.2 v _ c1 fp1 q1.1.toSE r1⟩
theorem VT(h:PE X e (tVar i))(hi:i∈O):DS W E true OL X O (.Return (some e) pos) (sRet (eVar i)) O':=zR (jS h) fun D σ H⟨g,c,fp,S,q⟩=>by
 unfold sRet zZ eVar eOpt at q;cases e:(g.v[i]?).join with
 |none=>rw[e]at q;exact q.elim
 |some d=>
  rw[e]at q;obtain⟨x,h1,h2⟩:=S.own i d hi (join_some e);exact⟨x,h1,q x H c fp S.toSE h2⟩
def sIf(t:SS W->R W Bool)(f h:SS W->Ou W):SS W->Ou W:=zZ t fun b g=>if b=true then f g else h g
theorem jf{t:SS W->R W Bool}{e:Expr}{as bs:List Stmt}(ht:DT W E X O e t)(ha:DSs W E fr OL X O as f O')(hb:DSs W E fr OL X O bs h O'):DS W E fr OL X O (.If e as bs pos) (sIf t f h) O':=zR (xK ht ha hb) fun D σ H⟨g,c,fp,q⟩=>⟨g,c,fp,q.bind fun d b v H1 c1 fp1 F1 r1 q1=>by
 have r1:v=d:=r1;subst r1;cases v with
 |true=>exact⟨_,c1,fp1,q1⟩
 |false=>exact⟨_,c1,fp1,q1⟩⟩
end
section
variable{W:Wo}{K:fH}{X:Cx}{E:En}{O O' O1 O2 OL:List Nat}{g:SS W}{b:W.BS}{σ:L2.St}{H H':Hp}{c c':Co}{fp fp':fL}{fr:Bool}{m m1 m2:Bool}{pos:Pos}{e a:Expr}{es:fQ}
variable{fa fb fe:SS W->R W D}{ta tb:SS W->R W Bool}
def asB:D->Option Bool
 |.bl b=>some b
 |_=>none
def qCmp(op:D->D->Option D)(fa fb:SS W->R W D):SS W->R W Bool:=qF (e2 op fa fb) fun d=>eOpt (asB d)
theorem bind_assoc{γ:Type}(f:SS W->R W α)(k:α->SS W->R W β)(h:β->SS W->R W γ):qF (qF f k) h=qF f fun a=>qF (k a) h:=by
 funext g
 unfold qF;cases f g <;> rfl
theorem zE{o:CmpOp}{r:R2}{op:D->D->Option D}{a b:Expr}(ho:OpR X (compareOp o) r)(hr:Op2 X r op)(ha:DE W E m1 X O a fa)(hb:DE W E m2 X O b fb)(hm:behindInMarks o b=false):DT W E X O (.Compare a [o] [b] pos) (qCmp op fa fb):=
 yf (jl ho ha hb hm) fun σ H Q⟨g,c,fp,q⟩=>⟨g,c,fp,by
  unfold qCmp e2 at q;simp only[bind_assoc]at q;refine q.bind fun d b v H1 c1 fp1 S1 F1 r1 h1=>⟨_,c1,fp1,h1.bind fun d' b' v' H2 c2 fp2 S2 F2 r2 h2=>?_⟩
  obtain⟨S,h2⟩:=h2;unfold qF at h2;cases ez:op d d' with
  |none=>rw[ez]at h2;exact h2.elim
  |some z=>
   rw[ez]at h2;refine hr H2 ⟨Hn H2 fp2,c2.ob⟩ v v' d d' z _ Hn.same ((r1.mono F2.cm).mono S2.toSE.bor) (r2.mono S2.toSE.bor) ez fun u hu=>?_
   cases z with
   |bl k=>cases hu;exact⟨k,rfl,h2 k H2 c2 fp2 S2 .refl rfl⟩
   |_=>exact h2.elim⟩
def truD:D->Option Bool
 |.non=>some false
 |.bl b=>some b
 |.int i=>some (i != 0)
 |.str y=>if y.length<=1000000 then some (!(y.cps.toList.isEmpty))else none
 |.lst ds=>some (!ds.isEmpty)
 |.tup ds=>some (!ds.isEmpty)
 |.dic ds=>some (!ds.isEmpty)
 |_=>none
theorem yG{xs:List α}{ys:List β}(h:xs.length=ys.length):xs.isEmpty=ys.isEmpty:=by
 cases xs <;> cases ys <;> simp at h ⊢
theorem Yq{x:V}{d:D}{k:Bool}(hs:Same c.h H)(r:Rep K c x d)(h:truD d=some k):TruV K x H k:=by
 cases r with
 |non=>cases h;rfl
 |bl b=>cases h;rfl
 |int i=>cases h;rfl
 |str y=>
  obtain⟨h1,h2⟩:=zM (show(if y.length<=1000000 then some (!(y.cps.toList.isEmpty))else none)=some k from h);refine⟨bj h1 (by decide),?_⟩;rw[<- h2];have e:y.length=y.cps.toList.length:=(bx).symm;rw[e];cases y.cps.toList with
  |nil=>rfl
  |cons a l=>simp;omega
 |tup e l r=>cases h;exact .inr (.inl ⟨_,tupT hs e,by rw[yG l]⟩)
 |lst e l r=>cases h;exact .inl ⟨_,lstT hs e,by rw[yG l]⟩
 |dic e l nd r=>
  have hl:=bC List.length l;rw[ab,ab]at hl;cases h;exact .inr (.inr ⟨_,hs _ _ e,by rw[yG hl]⟩)
 |dit e l nd r=>cases h
 |obj e=>cases h
 |scr e=>cases h
def qTru(f:SS W->R W D):SS W->R W Bool:=qF f fun d=>eOpt (truD d)
theorem jV(h:DE W E m X O e fe)(he:∀whole,isTrue e X.env whole=(do let v <- whole;standAt e.pos;holding [v] (truthy v)):=by intro _;rfl):DT W E X O e (qTru fe):=yf (Z8 h he) fun σ H Q⟨g,c,fp,q⟩=>⟨g,c,fp,q.bind fun d b v H1 c1 fp1 S1 F1 r1 h1=>by
 obtain⟨k,ek,hq⟩:=h1.opt;exact⟨k,Yq S1.toSE.all r1 ek,hq k H1 c1 fp1 S1 .refl rfl⟩⟩
def qNot(t:SS W->R W Bool):SS W->R W Bool:=qF t fun b=>eRet (!b)
theorem wM(h:DT W E X O e ta):DT W E X O (.UnaryOp .Not e pos) (qNot ta):=yf (Qh h) fun σ H Q⟨g,c,fp,q⟩=>⟨g,c,fp,q.bind fun d b v H1 c1 fp1 S1 F1 r1 h1=>by
 have r1:v=d:=r1;subst r1;exact h1.ret _ H1 c1 fp1 S1 .refl rfl⟩
def qAnd(t u:SS W->R W Bool):SS W->R W Bool:=qF t fun b=>if b=true then u else eRet false
def qOr(t u:SS W->R W Bool):SS W->R W Bool:=qF t fun b=>if b=true then eRet true else u
theorem yH(h:DT W E X O a ta):DW W E X O (.BoolOp .And [a] pos) ta:=ye h
theorem VQ(h:DT W E X O a ta):DW W E X O (.BoolOp .Or [a] pos) ta:=Z5 h
theorem Jq{b:Expr}{rest:fQ}(ha:DT W E X O a ta)(hb:DW W E X O (.BoolOp .And (b::rest) pos) tb):DW W E X O (.BoolOp .And (a::b::rest) pos) (qAnd ta tb):=Kv (Z6 ha hb) fun σ H Q⟨g,c,fp,q⟩=>⟨g,c,fp,q.bind fun d b v H1 c1 fp1 S1 F1 r1 h1=>by
 have r1:v=d:=r1;subst r1;cases v with
 |true=>exact⟨_,c1,fp1,h1⟩
 |false=>exact h1.ret _ H1 c1 fp1 S1 .refl rfl⟩
theorem uv{b:Expr}{rest:fQ}(ha:DT W E X O a ta)(hb:DW W E X O (.BoolOp .Or (b::rest) pos) tb):DW W E X O (.BoolOp .Or (a::b::rest) pos) (qOr ta tb):=Kv (Kw ha hb) fun σ H Q⟨g,c,fp,q⟩=>⟨g,c,fp,q.bind fun d b v H1 c1 fp1 S1 F1 r1 h1=>by
 have r1:v=d:=r1;subst r1;cases v with
 |true=>exact h1.ret _ H1 c1 fp1 S1 .refl rfl
 |false=>exact⟨_,c1,fp1,h1⟩⟩
theorem DW.dt(h:DW W E X O e ta):DT W E X O e ta:=PW.pt h
def eAnd(fa fb:SS W->R W D):SS W->R W D:=qF fa fun d=>match d with
 |.bl true=>fb
 |.bl false=>eRet (.bl false)
 |_=>fun _=>.bad
def eNot(fa:SS W->R W D):SS W->R W D:=qF fa fun d=>eOpt (match d with|.bl b=>some (.bl (!b))|_=>none)
theorem wN{op}(h:DE W E m X O a fa):DE W E m X O (.BoolOp op [a] pos) fa:=WX h
theorem WU{x:V}{k:Bool}(r:Rep K c x (.bl k)):x=.bl k:=by cases r;rfl
theorem wg{b:Expr}{rest:fQ}(ha:DE W E m1 X O a fa)(hb:DE W E true X O (.BoolOp .And (b::rest) pos) fb):DE W E true X O (.BoolOp .And (a::b::rest) pos) (eAnd fa fb):=qN (WY ha hb) fun σ H Q⟨g,c,fp,q⟩=>⟨g,c,fp,q.bind fun d b v H1 c1 fp1 S1 F1 r1 h1=>by
 cases d with
 |bl k=>
  cases WU r1;cases k with
  |true=>exact⟨true,rfl,⟨_,c1,fp1,h1⟩⟩
  |false=>exact⟨false,rfl,h1.ret _ H1 c1 fp1 S1 .refl (.bl false)⟩
 |_=>exact h1.2.elim⟩
theorem qbz(ha:DE W E m1 X O a fa):DE W E true X O (.UnaryOp .Not a pos) (eNot fa):=qN (qan ha) fun σ H Q⟨g,c,fp,q⟩=>⟨g,c,fp,q.bind fun d b v H1 c1 fp1 S1 F1 r1 h1=>by
 cases d with
 |bl k=>cases WU r1;exact⟨k,rfl,h1.2 _ H1 c1 fp1 S1 .refl (.bl (!k))⟩
 |_=>exact h1.2.elim⟩
def onI(f:Int->Int->Option D):D->D->Option D|.int i,.int j=>f i j|_,_=>none
theorem jJ{f:Int->Int->Option D}{x y z:D}(h:onI f x y=some z):∃i j,x=.int i/\y=.int j:=by
 cases x with
 |int i=>
  cases y with
  |int j=>exact⟨i,j,rfl,rfl⟩
  |_=>cases h
 |_=>cases h
def addI:D->D->Option D:=onI fun i j=>some (.int (i+j))
def subI:D->D->Option D:=onI fun i j=>some (.int (i - j))
def mulI:D->D->Option D:=onI fun i j=>if(-(2 ^ 64)<i/\i<2 ^ 64)\/(-(2 ^ 64)<j/\j<2 ^ 64)then some (.int (i * j))else none
def wb:D->D->Option D:=onI fun i j=>if 0<j/\j<1073741824 then some (.int (i / j))else none
def modI:D->D->Option D:=onI fun i j=>if 0<j then some (.int (i % j))else none
def powI:D->D->Option D:=onI fun i j=>if 0<=j/\j<=1000000/\i.natAbs<2 ^ 64 then some (.int (i ^ j.toNat))else none
def ltI:D->D->Option D:=onI fun i j=>some (.bl (decide (i<j)))
def leI:D->D->Option D:=onI fun i j=>some (.bl (decide (i<=j)))
def gtI:D->D->Option D:=onI fun i j=>some (.bl (decide (j<i)))
def geI:D->D->Option D:=onI fun i j=>some (.bl (decide (j<=i)))
theorem zW{x:V}{i:Int}(r:Rep K c x (.int i)):x=.int i:=by cases r;rfl
theorem zV{x:V}{i:Str}(r:Rep K c x (.str i)):x=.str i:=by cases r;rfl
theorem int2{op:D->D->Option D}(h:∀x y z,op x y=some z->∃i j,x=.int i/\y=.int j){dx dy d:D}{x y:V}(rx:Rep K c x dx)(ry:Rep K c y dy)(e:op dx dy=some d):∃i j,x=.int i/\y=.int j/\dx=.int i/\dy=.int j:=by
 obtain⟨i,j,rfl,rfl⟩:=h _ _ _ e;exact⟨i,j,zW rx,zW ry,rfl,rfl⟩
theorem Vc:Op2 X (rI0 fun i j=>.int (i - j)) subI:=fun H c x y dx dy d Q hs rx ry e k=>by
 obtain⟨i,j,rfl,rfl,rfl,rfl⟩:=int2 (op:=subI) (fun x y z h=>jJ h) rx ry e;cases e;exact⟨i,j,rfl,rfl,k _ rfl⟩
theorem o_lt:Op2 X (rI0 fun i j=>.bl (decide (i<j))) ltI:=fun H c x y dx dy d Q hs rx ry e k=>by
 obtain⟨i,j,rfl,rfl,rfl,rfl⟩:=int2 (op:=ltI) (fun x y z h=>jJ h) rx ry e;cases e;exact⟨i,j,rfl,rfl,k _ rfl⟩
theorem o_le:Op2 X (rI0 fun i j=>.bl (decide (i<=j))) leI:=fun H c x y dx dy d Q hs rx ry e k=>by
 obtain⟨i,j,rfl,rfl,rfl,rfl⟩:=int2 (op:=leI) (fun x y z h=>jJ h) rx ry e;cases e;exact⟨i,j,rfl,rfl,k _ rfl⟩
theorem o_gt:Op2 X (rI0 fun i j=>.bl (decide (j<i))) gtI:=fun H c x y dx dy d Q hs rx ry e k=>by
 obtain⟨i,j,rfl,rfl,rfl,rfl⟩:=int2 (op:=gtI) (fun x y z h=>jJ h) rx ry e;cases e;exact⟨i,j,rfl,rfl,k _ rfl⟩
theorem o_ge:Op2 X (rI0 fun i j=>.bl (decide (j<=i))) geI:=fun H c x y dx dy d Q hs rx ry e k=>by
 obtain⟨i,j,rfl,rfl,rfl,rfl⟩:=int2 (op:=geI) (fun x y z h=>jJ h) rx ry e;cases e;exact⟨i,j,rfl,rfl,k _ rfl⟩
theorem kZ:Op2 X (rI CMul fun i j=>.int (i * j)) mulI:=fun H c x y dx dy d Q hs rx ry e k=>by
 obtain⟨i,j,rfl,rfl,rfl,rfl⟩:=int2 (op:=mulI) (fun x y z h=>jJ h) rx ry e;obtain⟨h,rfl⟩:=zM e;exact⟨i,j,rfl,rfl,h,k _ rfl⟩
theorem Vd:Op2 X (rI CDiv fun i j=>.int (i / j)) wb:=fun H c x y dx dy d Q hs rx ry e k=>by
 obtain⟨i,j,rfl,rfl,rfl,rfl⟩:=int2 (op:=wb) (fun x y z h=>jJ h) rx ry e;obtain⟨h,rfl⟩:=zM e;exact⟨i,j,rfl,rfl,h,k _ rfl⟩
theorem jd:Op2 X (rI (fun _ j=>0<j) fun i j=>.int (i % j)) modI:=fun H c x y dx dy d Q hs rx ry e k=>by
 obtain⟨i,j,rfl,rfl,rfl,rfl⟩:=int2 (op:=modI) (fun x y z h=>jJ h) rx ry e;obtain⟨h,rfl⟩:=zM e;exact⟨i,j,rfl,rfl,h,k _ rfl⟩
theorem Y5:Op2 X (rI CPow fun i j=>.int (i ^ j.toNat)) powI:=fun H c x y dx dy d Q hs rx ry e k=>by
 obtain⟨i,j,rfl,rfl,rfl,rfl⟩:=int2 (op:=powI) (fun x y z h=>jJ h) rx ry e;obtain⟨h,rfl⟩:=zM e;exact⟨i,j,rfl,rfl,h,k _ rfl⟩
def deep:Nat:=30
def rEqG(X:Cx):R2:=fun x y H Q=>∃c dx dy b,Same c.h H/\Rep X.K c x dx/\Rep X.K c y dy/\eqN deep dx dy=some b/\Q (.bl b) H
def rNeG(X:Cx):R2:=fun x y H Q=>∃c dx dy b,Same c.h H/\Rep X.K c x dx/\Rep X.K c y dy/\eqN deep dx dy=some b/\Q (.bl (!b)) H
theorem jI(hu:X.A.units+deep<cLine):OpR X (compareOp .Eq) (rEqG X):=fun pins s σ H x y v u Q I rx ry⟨c,dx,dy,b,hs,r1,r2,he,q⟩=>
 (vX I hs deep X.A x y v u dx dy b hu r1 r2 rx ry he).1 X.prog X.w X.xe _ ⟨.bl b,H,I,rfl,q⟩
def eqD(d e:D):Option D:=(eqN deep d e).map .bl
def neD(d e:D):Option D:=(eqN deep d e).map fun b=>.bl (!b)
theorem o_eq:Op2 X (rEqG X) eqD:=fun H c x y dx dy d Q hs rx ry e k=>by
 unfold eqD at e;cases q:eqN deep dx dy with
 |none=>rw[q]at e;cases e
 |some b=>rw[q]at e;cases e;exact⟨c,dx,dy,b,hs,rx,ry,q,k _ rfl⟩
open SeqAt in
theorem Y6(I:Inv X pins σ H s)(hs:Same c.h H)(n:Nat)(A:Around)(x y:V)(u v:Value)(d e:D)(b:Bool)(hu:A.units+n<cLine)(rx:Rep X.K c x d)(ry:Rep X.K c y e)(ru:RelV x u)(rv:RelV y v)(h:eqN n d e=some b):RcNeAt A s u v (!b):=by
 cases n with
 |zero=>cases h
 |succ n=>
  have hu0:A.units<cLine:=by omega
  have hl:∀{a:Addr}{xs:List V},c.h a=some (.lst xs)->∃its:fM,Vals xs its/\s.heap.IsList a its.toArray:=fun h=>by
   obtain⟨its,r,p,_⟩:=I.list (lstT hs h);exact⟨its,r,p.isList⟩
  have ht:∀{a:Addr}{xs:List V},c.h a=some (.tup xs)->∃its:fM,Vals xs its/\s.heap.IsTuple a its.toArray:=fun h=>by
   obtain⟨its,r,p,_⟩:=I.tuple (tupT hs h);exact⟨its,r,p⟩
  have items:∀{xs xs':List V}{ds ds':List D}{its its':fM}{e:Nat->Bool},xs.length=ds.length->xs'.length=ds'.length->(∀(i:Nat) x d,xs[i]?=some x->ds[i]?=some d->Rep X.K c x d)->(∀(i:Nat) x d,xs'[i]?=some x->ds'[i]?=some d->Rep X.K c x d)->Vals xs its->Vals xs' its'->
    (∀(j:Nat) x y,ds[j]?=some x->ds'[j]?=some y->eqN n x y=some (e j))->∀j(h1:j<its.toArray.size)(h2:j<its'.toArray.size),EqAt A.in1 s its.toArray[j] its'.toArray[j] (e j):=by
   intro xs xs' ds ds' its its' e l l' r r' vr vr' k j h1 h2;obtain⟨x1,g1,w1⟩:=jh vr (j:=j) (u:=its[j]) (aa (by simpa using h1));obtain⟨x2,g2,w2⟩:=jh vr' (j:=j) (u:=its'[j]) (aa (by simpa using h2));have s1:its.toArray.size=ds.length:=by rw[ah,<- vr.length,l]
   have s2:its'.toArray.size=ds'.length:=by rw[ah,<- vr'.length,l']
   have d1:j<ds.length:=by omega
   have d2:j<ds'.length:=by omega
   have:=(vX I hs n A.in1 x1 x2 _ _ ds[j] ds'[j] (e j) (by show A.units+1+n<_;omega) (r j _ _ g1 (aa d1)) (r' j _ _ g2 (aa d2)) w1 w2 (k j _ _ (aa d1) (aa d2))).2;simpa using this
  cases rx with
  |non=>
   cases ru;cases ry with
   |non=>cases rv;cases h;exact .none_none
   |bl q=>cases rv;cases h;exact .none_bool q
   |int q=>obtain⟨t,rfl⟩:=rv;cases h;exact .none_int q t
   |str q=>obtain⟨t,rfl⟩:=rv;cases h;exact .none_str q t
   |tup e' l r=>cases rv;cases h;obtain⟨its,_,p⟩:=ht e';exact .none_tuple p hu0
   |lst e' l r=>cases rv;cases h;obtain⟨its,_,p⟩:=hl e';exact .none_list p hu0
   |dic=>cases h
   |dit=>cases h
   |obj=>cases h
   |scr=>cases h
  |bl a=>
   cases ru;cases ry with
   |non=>cases rv;cases h;exact .bool_none a
   |bl q=>cases rv;cases h;exact .bool_bool a q
   |str q=>obtain⟨t,rfl⟩:=rv;cases h;exact .bool_str a q t
   |_=>cases h
  |int a=>
   obtain⟨t',rfl⟩:=ru;cases ry with
   |non=>cases rv;cases h;exact .int_none a t'
   |bl q=>cases h
   |int q=>obtain⟨t,rfl⟩:=rv;cases h;exact .int_int a t' q t
   |str q=>obtain⟨t,rfl⟩:=rv;cases h;exact .int_str a t' q t
   |tup e' l r=>cases rv;cases h;obtain⟨its,_,p⟩:=ht e';exact .int_tuple a t' p hu0
   |lst e' l r=>cases rv;cases h;obtain⟨its,_,p⟩:=hl e';exact .int_list a t' p hu0
   |dic=>cases h
   |dit=>cases h
   |obj=>cases h
   |scr=>cases h
  |str a=>
   obtain⟨t',rfl⟩:=ru;cases ry with
   |non=>cases rv;cases h;exact .str_none a t'
   |bl q=>cases rv;cases h;exact .str_bool a t' q
   |int q=>obtain⟨t,rfl⟩:=rv;cases h;exact .str_int a t' q t
   |str q=>obtain⟨t,rfl⟩:=rv;cases h;exact .str_str a t' q t
   |tup e' l r=>cases rv;cases h;obtain⟨its,_,p⟩:=ht e';exact .str_tuple a t' p hu0
   |lst e' l r=>cases rv;cases h;obtain⟨its,_,p⟩:=hl e';exact .str_list a t' p hu0
   |dic=>cases h
   |dit=>cases h
   |obj=>cases h
   |scr=>cases h
  |@tup a xs ds ex l r=>
   cases ru;obtain⟨its,vr,p⟩:=ht ex;cases ry with
   |non=>cases rv;cases h;exact .tuple_none p hu0
   |bl q=>cases h
   |int q=>obtain⟨t,rfl⟩:=rv;cases h;exact .tuple_int q t p hu0
   |str q=>obtain⟨t,rfl⟩:=rv;cases h;exact .tuple_str q t p hu0
   |lst e' l r=>cases rv;cases h;obtain⟨its',_,p'⟩:=hl e';exact .tuple_list p p' hu0
   |@tup a' xs' ds' ex' l' r'=>
    cases rv;obtain⟨its',vr',p'⟩:=ht ex';have h':(if ds.length=ds'.length then allE (eqN n) ds ds' else none)=some b:=h
    split at h'
    ·rename_i hlen
     obtain⟨e,k,hb⟩:=vi h';have s1:its.toArray.size=ds.length:=by rw[ah,<- vr.length,l]
     have s2:its'.toArray.size=ds'.length:=by rw[ah,<- vr'.length,l']
     have q:=RcNeAt.tuples (e:=e) p p' hu0 (items l l' r r' vr vr' k);have hm:min its.toArray.size its'.toArray.size=ds.length:=by rw[s1,s2,hlen,Nat.min_self]
     rw[hm,s1,s2,hlen,bR,Bool.and_true]at q;rw[hlen]at hb;rw[<- hb]at q;exact q
    ·cases h'
   |dic=>cases h
   |dit=>cases h
   |obj=>cases h
   |scr=>cases h
  |@lst a xs ds ex l r=>
   cases ru;obtain⟨its,vr,p⟩:=hl ex;cases ry with
   |non=>cases rv;cases h;exact .list_none p hu0
   |bl q=>cases h
   |int q=>obtain⟨t,rfl⟩:=rv;cases h;exact .list_int q t p hu0
   |str q=>obtain⟨t,rfl⟩:=rv;cases h;exact .list_str q t p hu0
   |tup e' l r=>cases rv;cases h;obtain⟨its',_,p'⟩:=ht e';exact .list_tuple p p' hu0
   |@lst a' xs' ds' ex' l' r'=>
    cases rv;obtain⟨its',vr',p'⟩:=hl ex';have s1:its.toArray.size=ds.length:=by rw[ah,<- vr.length,l]
    have s2:its'.toArray.size=ds'.length:=by rw[ah,<- vr'.length,l']
    have h':(if ds.length=ds'.length then allE (eqN n) ds ds' else some false)=some b:=h
    split at h'
    ·rename_i hlen
     obtain⟨e,k,hb⟩:=vi h';have q:=RcNeAt.lists (e:=e) p p' (by rw[s1,s2,hlen]) hu0 (items l l' r r' vr vr' k);rw[s1,<- hb]at q;exact q
    ·rename_i hlen
     cases h';exact RcNeAt.lists_lengths p p' (by rw[s1,s2];simpa using hlen) hu0
   |dic=>cases h
   |dit=>cases h
   |obj=>cases h
   |scr=>cases h
  |dic=>cases e <;> cases h
  |dit=>cases e <;> cases h
  |obj=>cases e <;> cases h
  |scr=>cases e <;> cases h
theorem K2(hu:X.A.units+deep<cLine):OpR X (compareOp .NotEq) (rNeG X):=fun pins s σ H x y v u Q I rx ry⟨c,dx,dy,b,hs,r1,r2,he,q⟩=>
 Y6 I hs deep X.A x y v u dx dy b hu r1 r2 rx ry he X.prog X.w X.xe _ ⟨.bl (!b),H,I,rfl,q⟩
theorem o_ne:Op2 X (rNeG X) neD:=fun H c x y dx dy d Q hs rx ry e k=>by
 unfold neD at e;cases q:eqN deep dx dy with
 |none=>rw[q]at e;cases e
 |some b=>rw[q]at e;cases e;exact⟨c,dx,dy,b,hs,rx,ry,q,k _ rfl⟩
def isND:D->D->Option D|d,.non=>some (.bl (match d with|.non=>true|_=>false))|_,_=>none
def qa4:D->D->Option D|d,.non=>some (.bl (match d with|.non=>false|_=>true))|_,_=>none
theorem X6:Op2 X (fun x y H Q=>y=.non/\Q (.bl (decide (x=.non))) H) isND:=fun H c x y dx dy d Q hs rx ry e k=>by
 cases ry <;> first|cases e|skip
 refine⟨rfl,?_⟩;cases rx <;> exact k _ rfl
theorem qaz:Op2 X (fun x y H Q=>y=.non/\Q (.bl (!decide (x=.non))) H) qa4:=fun H c x y dx dy d Q hs rx ry e k=>by
 cases ry <;> first|cases e|skip
 refine⟨rfl,?_⟩;cases rx <;> exact k _ rfl
noncomputable def zL:D->Option Key
 |.int i=>some (.inl i)
 |.str x=>some (.inr x)
 |_=>none
def zK:List D->Option (List Key)
 |[]=>some []
 |d::ds=>match zL d,zK ds with|some k,some ks=>some (k::ks)|_,_=>none
def anyE(f:D->Option Bool):List D->Option Bool
 |[]=>some false
 |x::xs=>match f x,anyE f xs with
  |some b,some r=>some (b || r)
  |_,_=>none
noncomputable def qJ{κ:Type}[DecidableEq κ](kvs:List (κ×D))(k:κ):Option D:=(kvs.find? fun p=>decide (p.1=k)).map (·.2)
def inD(x:D):D->Option Bool
 |.lst ds=>anyE (fun d=>eqN deep d x) ds
 |.tup ds=>anyE (fun d=>eqN deep d x) ds
 |.dic kvs=>match zL x with|some k=>some (qJ kvs k).isSome|none=>none
 |.dit kvs=>match x with|.tup ks=>(match zK ks with|some k=>some (qJ kvs k).isSome|none=>none)|_=>none
 |.str z=>match x with|.str y=>some (!(Builtin.Str.occurrences z y 0 z.length 1).isEmpty)|_=>none
 |_=>none
theorem Xq{f:D->Option Bool}:∀{xs:List D}{b:Bool},anyE f xs=some b->(∀x∈xs,∃v,f x=some v)/\(b=true↔∃x∈xs,f x=some true)
 |[],b,h=>by cases h;exact⟨fun _ h=>(nomatch h),by simp⟩
 |x::xs,b,h=>by
  unfold anyE at h;cases e1:f x with
  |none=>rw[e1]at h;cases h
  |some b1=>
   cases e2:anyE f xs with
   |none=>rw[e1,e2]at h;cases h
   |some r=>
    rw[e1,e2]at h;cases h;obtain⟨k1,k2⟩:=Xq e2;refine⟨fun y hy=>?_,?_⟩
    ·rcases aj.mp hy with rfl|hy
     ·exact⟨_,e1⟩
     ·exact k1 y hy
    ·rw[Bool.or_eq_true,k2]
     constructor
     ·rintro(rfl|⟨y,hy,q⟩)
      ·exact⟨x,ar ..,e1⟩
      ·exact⟨y,av _ hy,q⟩
     ·rintro⟨y,hy,q⟩
      rcases aj.mp hy with rfl|hy
      ·rw[e1]at q;cases q;exact .inl rfl
      ·exact .inr ⟨y,hy,q⟩
theorem vT{x:V}{d:D}{k:Key}(r:Rep K c x d)(h:zL d=some k):x=kV k:=by
 cases r <;> cases h <;> rfl
theorem vn:∀{ds:List D}{xs:List V}{ks:List Key},Reps K c xs ds->zK ds=some ks->xs=ks.map kV
 |[],xs,ks,r,h=>by cases h;rw[r.unnil];rfl
 |d::ds,xs,ks,r,h=>by
  obtain⟨x,t,rfl,r1,r2⟩:=r.uncons;unfold zK at h;cases e1:zL d with
  |none=>rw[e1]at h;cases h
  |some k=>
   cases e2:zK ds with
   |none=>rw[e1,e2]at h;cases h
   |some kk=>
    rw[e1,e2]at h;cases h;rw[vT r1 e1,vn r2 e2];rfl
theorem vL[DecidableEq κ]{ys:List (κ×V)}{kvs:List (κ×D)}{k:κ}(l:ys.map (·.1)=kvs.map (·.1))(r:∀(i:Nat) p q,ys[i]?=some p->kvs[i]?=some q->Rep K c p.2 q.2):(qJ kvs k=none/\valV ys k=none)\/∃d v,qJ kvs k=some d/\valV ys k=some v/\Rep K c v d:=by
 induction ys generalizing kvs with
 |nil=>
  cases kvs with
  |nil=>exact .inl ⟨rfl,rfl⟩
  |cons q kvs=>cases l
 |cons p ys ih=>
  cases kvs with
  |nil=>cases l
  |cons q kvs=>
   simp only[aA,bP]at l;obtain⟨hk,l⟩:=l;unfold qJ valV;rw[aZ,aZ]
   by_cases e:q.1=k
   ·have e':p.1=k:=hk.trans e
    simp only[e,e',decide_true];exact .inr ⟨q.2,p.2,rfl,rfl,r 0 p q rfl rfl⟩
   ·have e':¬ p.1=k:=fun z=>e (hk.symm.trans z)
    simp only[e,e',decide_false];exact ih l fun i p' q' h1 h2=>r (i+1) p' q' (by simpa using h1) (by simpa using h2)
theorem v4{a:Addr}{x:V}{d dk:D}{o:Option D}(hs:Same c.h H)(rd:Rep K c (.ref a) d)(hs2:Same c2.h H)(rx:Rep K c2 x dk)(h:(∃kvs k,d=.dic kvs/\zL dk=some k/\o=qJ kvs k)\/(∃kvs ks k,d=.dit kvs/\dk=.tup ks/\zK ks=some k/\o=qJ kvs k)) :
  (o=none/\DGet H a x none)\/∃dv v,o=some dv/\DGet H a x (some v)/\Rep K c v dv:=by
 rcases h with⟨kvs,k,rfl,hk,ho⟩|⟨kvs,ks,k,rfl,rfl,hk,ho⟩
 ·cases rd with
  |dic e l nd r=>
   have ex:=vT rx hk;have g:=DGet.k (k:=k) (hs _ _ e);rw[<- ex]at g;rcases vL (k:=k) l r with⟨h1,h2⟩|⟨dv,v,h1,h2,h3⟩
   ·rw[h2]at g;exact .inl ⟨ho.trans h1,g⟩
   ·rw[h2]at g;exact .inr ⟨dv,v,ho.trans h1,g,h3⟩
 ·cases rd with
  |dit e l nd r=>
   cases rx with
   |tup e2 l2 r2=>
    have ex:=vn ⟨l2,r2⟩ hk;subst ex;have g:=DGet.t (k:=k) (hs _ _ e) (hs2 _ _ e2);rcases vL (k:=k) l r with⟨h1,h2⟩|⟨dv,v,h1,h2,h3⟩
    ·rw[h2]at g;exact .inl ⟨ho.trans h1,g⟩
    ·rw[h2]at g;exact .inr ⟨dv,v,ho.trans h1,g,h3⟩
def rInG(X:Cx)(neg:Bool):R2:=fun x y H Q=>∃c dx dy b,Same c.h H/\Rep X.K c x dx/\Rep X.K c y dy/\inD dx dy=some b/\Q (.bl (if neg then !b else b)) H
open SeqAt in
open Classical in
theorem vw(I:Inv X pins σ H s)(hs:Same c.h H)(hu:A.units+deep<cLine){x:V}{v:Value}{dx:D}{xs:List V}{ds:List D}{its:fM}{b:Bool}(rx:Rep X.K c x dx)(rv:RelV x v)(rs:Reps X.K c xs ds)(vr:Vals xs its)(h:anyE (fun d=>eqN deep d dx) ds=some b) :
  ∃e:Value->Bool,(∀y,y∈its.toArray->EqAt A s y v (e y))/\its.toArray.any e=b:=by
 obtain⟨k1,k2⟩:=Xq h;have at':∀j u,its[j]?=some u->∃y d,ds[j]?=some d/\Rep X.K c y d/\RelV y u:=fun j u hj=>by
  obtain⟨y,h1,h2⟩:=jh vr hj;obtain⟨d,h3,h4⟩:=rs.atV h1;exact⟨y,d,h3,h4,h2⟩
 have eqv:∀{y:V}{u:Value}{d:D}{q:Bool},Rep X.K c y d->RelV y u->eqN deep d dx=some q->EqAt A s u v q:=fun r1 r2 q=>(vX I hs deep A _ x _ v _ dx _ hu r1 rx r2 rv q).2
 refine⟨fun u=>decide (∃(j:Nat)(d:D)(y:V),its[j]?=some u/\ds[j]?=some d/\Rep X.K c y d/\RelV y u/\eqN deep d dx=some true),fun u hu'=>?_,?_⟩
 ·have hu':u∈its:=by simpa using hu'
  obtain⟨j,hj⟩:=aX.mp hu';obtain⟨y,d,h1,h2,h3⟩:=at' j u hj
  by_cases q:∃(j:Nat)(d:D)(y:V),its[j]?=some u/\ds[j]?=some d/\Rep X.K c y d/\RelV y u/\eqN deep d dx=some true
  ·show EqAt A s u v (decide _)
   rw[aO q];obtain⟨_,d',y',_,_,z1,z2,z3⟩:=q;exact eqv z1 z2 z3
  ·show EqAt A s u v (decide _)
   rw[aP q];obtain⟨w,hw⟩:=k1 d (ay h1);cases w with
   |true=>exact absurd ⟨j,d,y,hj,h1,h2,h3,hw⟩ q
   |false=>exact eqv h2 h3 hw
 ·apply cW.mpr
  rw[k2,Array.any_eq_true'];constructor
  ·rintro⟨u,hu',hd⟩
   obtain⟨j,d,y,z0,z1,z2,z3,z4⟩:=cF hd;exact⟨d,ay z1,z4⟩
  ·rintro⟨d,hd,q⟩
   obtain⟨j,hj⟩:=aX.mp hd;obtain⟨y,h1,h2⟩:=rs.at hj;obtain⟨u,h3,h4⟩:=vr.get h1;exact⟨u,by simpa using ay h3,aO ⟨j,d,y,h3,hj,h2,h4,q⟩⟩
theorem x8(hu:A.units+40<cLine):A.in1.units+deep<cLine:=by
 show A.units+1+30<_;omega
theorem K3(hu:X.A.units+40<cLine):OpR X (compareOp .In) (rInG X false):=by
 rintro pins s σ H x y v u Q I rx ry ⟨c,dx,dy,b,hs,r1,r2,he,q⟩;have fin:EP X pins σ Q (.bool b) s:=⟨.bl b,H,I,rfl,q⟩;cases r2 with
 |lst ex l r=>
  cases ry;obtain⟨its,vr,p,_⟩:=I.list (lstT hs ex);obtain⟨e,h1,h2⟩:=vw I hs (x8 hu) r1 rx ⟨l,r⟩ vr he;exact SeqAt.in_listAt e p.isList h1 (by rw[h2];exact fin)
 |tup ex l r=>
  cases ry;obtain⟨its,vr,p,_⟩:=I.tuple (tupT hs ex);obtain⟨e,h1,h2⟩:=vw I hs (x8 hu) r1 rx ⟨l,r⟩ vr he;exact SeqAt.in_tupleAt e p h1 (by rw[h2];exact fin)
 |@dic a ys kvs ex l nd r=>
  cases ry;unfold inD at he;cases hk:zL dx with
  |none=>rw[hk]at he;cases he
  |some k=>
   rw[hk]at he;have he:some (qJ kvs k).isSome=some b:=he;cases he;rcases v4 hs (.dic ex l nd r) hs r1 (.inl ⟨kvs,k,rfl,hk,rfl⟩)with⟨h1,h2⟩|⟨dv,w,h1,h2,h3⟩
   ·refine d_in (by omega) I h2 rx fun s3 I3=>⟨.bl false,H,I3,rfl,?_⟩
    rw[h1]at q;exact q
   ·refine d_in (by omega) I h2 rx fun s3 I3=>⟨.bl true,H,I3,rfl,?_⟩
    rw[h1]at q;exact q
 |@dit a ys kvs ex l nd r=>
  cases ry;cases dx with
  |tup ks=>
   have he:(match zK ks with|some k=>some (qJ kvs k).isSome|none=>none)=some b:=he;cases hk:zK ks with
   |none=>rw[hk]at he;cases he
   |some k=>
    rw[hk]at he;have he:some (qJ kvs k).isSome=some b:=he;cases he;rcases v4 hs (.dit ex l nd r) hs r1 (.inr ⟨kvs,ks,k,rfl,rfl,hk,rfl⟩)with⟨h1,h2⟩|⟨dv,w,h1,h2,h3⟩
    ·refine d_in (by omega) I h2 rx fun s3 I3=>⟨.bl false,H,I3,rfl,?_⟩
     rw[h1]at q;exact q
    ·refine d_in (by omega) I h2 rx fun s3 I3=>⟨.bl true,H,I3,rfl,?_⟩
     rw[h1]at q;exact q
  |_=>cases he
 |str z=>
  obtain⟨t,rfl⟩:=ry;cases dx with
  |str y=>
   cases zV r1;obtain⟨t',rfl⟩:=rx;cases he;exact in_str fin
  |_=>cases he
 |_=>cases he
theorem Qn(hu:X.A.units+40<cLine):OpR X (compareOp .NotIn) (rInG X true):=by
 rintro pins s σ H x y v u Q I rx ry ⟨c,dx,dy,b,hs,r1,r2,he,q⟩;have fin:EP X pins σ Q (.bool (!b)) s:=⟨.bl (!b),H,I,rfl,q⟩;cases r2 with
 |lst ex l r=>
  cases ry;obtain⟨its,vr,p,_⟩:=I.list (lstT hs ex);obtain⟨e,h1,h2⟩:=vw I hs (x8 hu) r1 rx ⟨l,r⟩ vr he;exact SeqAt.notIn_listAt e p.isList h1 (by rw[h2];exact fin)
 |tup ex l r=>
  cases ry;obtain⟨its,vr,p,_⟩:=I.tuple (tupT hs ex);obtain⟨e,h1,h2⟩:=vw I hs (x8 hu) r1 rx ⟨l,r⟩ vr he;exact SeqAt.notIn_tupleAt e p h1 (by rw[h2];exact fin)
 |@dic a ys kvs ex l nd r=>
  cases ry;unfold inD at he;cases hk:zL dx with
  |none=>rw[hk]at he;cases he
  |some k=>
   rw[hk]at he;have he:some (qJ kvs k).isSome=some b:=he;cases he;rcases v4 hs (.dic ex l nd r) hs r1 (.inl ⟨kvs,k,rfl,hk,rfl⟩)with⟨h1,h2⟩|⟨dv,w,h1,h2,h3⟩
   ·refine yN (by omega) I h2 rx fun s3 I3=>⟨.bl true,H,I3,rfl,?_⟩
    rw[h1]at q;exact q
   ·refine yN (by omega) I h2 rx fun s3 I3=>⟨.bl false,H,I3,rfl,?_⟩
    rw[h1]at q;exact q
 |@dit a ys kvs ex l nd r=>
  cases ry;cases dx with
  |tup ks=>
   have he:(match zK ks with|some k=>some (qJ kvs k).isSome|none=>none)=some b:=he;cases hk:zK ks with
   |none=>rw[hk]at he;cases he
   |some k=>
    rw[hk]at he;have he:some (qJ kvs k).isSome=some b:=he;cases he;rcases v4 hs (.dit ex l nd r) hs r1 (.inr ⟨kvs,ks,k,rfl,rfl,hk,rfl⟩)with⟨h1,h2⟩|⟨dv,w,h1,h2,h3⟩
    ·refine yN (by omega) I h2 rx fun s3 I3=>⟨.bl true,H,I3,rfl,?_⟩
     rw[h1]at q;exact q
    ·refine yN (by omega) I h2 rx fun s3 I3=>⟨.bl false,H,I3,rfl,?_⟩
     rw[h1]at q;exact q
  |_=>cases he
 |str z=>
  obtain⟨t,rfl⟩:=ry;cases dx with
  |str y=>
   cases zV r1;obtain⟨t',rfl⟩:=rx;cases he;exact notIn_str fin
  |_=>cases he
 |_=>cases he
def inO(x y:D):Option D:=(inD x y).map .bl
def ninO(x y:D):Option D:=(inD x y).map fun b=>.bl (!b)
theorem o_in:Op2 X (rInG X false) inO:=fun H c x y dx dy d Q hs rx ry e k=>by
 unfold inO at e;cases q:inD dx dy with
 |none=>rw[q]at e;cases e
 |some b=>rw[q]at e;cases e;exact⟨c,dx,dy,b,hs,rx,ry,q,k _ rfl⟩
theorem qa0:Op2 X (rInG X true) ninO:=fun H c x y dx dy d Q hs rx ry e k=>by
 unfold ninO at e;cases q:inD dx dy with
 |none=>rw[q]at e;cases e
 |some b=>rw[q]at e;cases e;exact⟨c,dx,dy,b,hs,rx,ry,q,k _ rfl⟩
def ixD:D->D->Option D
 |.scr ds,.int i=>atI ds i
 |.lst ds,.int i=>atI ds i
 |.tup ds,.int i=>atI ds i
 |.str z,.int i=>if z.length<=1000000 then(atI z.cps.toList i).map fun c=>.str ⟨#[c]⟩else none
 |.dic kvs,k=>match zL k with|some k=>qJ kvs k|none=>none
 |.dit kvs,.tup ks=>match zK ks with|some k=>qJ kvs k|none=>none
 |_,_=>none
def rIxG(X:Cx):R2:=fun x y H Q=>rIx X.K x y H Q\/∃a v,x=.ref a/\DGet H a y (some v)/\Q v H
theorem ug(hu:X.A.units+1<cLine):IxR X (fun x y H Q=>∃a v,x=.ref a/\DGet H a y (some v)/\Q v H):=by
 intro value slice pins s σ H x y v u Q I rx ry h hs;obtain⟨a,w,rfl,g,q⟩:=h;cases rx;exact tail_any (we I g) eO.lookup (QT hu I g ry fun w' s3 I3 rw'=>⟨w,H,I3,rw',q⟩) hs
theorem ixG(hu:X.A.units+1<cLine):IxR X (rIxG X):=ix_seq.or (ug hu)
theorem xA{xs:List V}{ds:List D}{i:Int}{d:D}(r:Reps K c xs ds)(h:atI ds i=some d):∃x,atI xs i=some x/\Rep K c x d:=by
 unfold atI at h ⊢;rw[r.l];cases e:ixN ds.length i with
 |none=>rw[e]at h;cases h
 |some j=>
  rw[e]at h;obtain⟨x,h1,h2⟩:=r.at (show ds[j]?=some d from h);exact⟨x,h1,h2⟩
theorem W5{x y:V}{dx dy d:D}(hs:Same c.h H)(rx:Rep X.K c x dx)(hs2:Same c2.h H)(ry:Rep X.K c2 y dy)(h:ixD dx dy=some d)(k:∀v,Rep X.K c v d->Q v H):rIxG X x y H Q:=by
 cases rx with
 |lst ex l r=>
  cases ry <;> first|cases h|skip
  obtain⟨v,h1,h2⟩:=xA ⟨l,r⟩ (show atI _ _=some d from h);exact .inl (.inl ⟨_,_,_,v,rfl,rfl,lstT hs ex,h1,k v h2⟩)
 |scr ex l r=>
  cases ry <;> first|cases h|skip
  obtain⟨v,h1,h2⟩:=xA ⟨l,r⟩ (show atI _ _=some d from h);exact .inl (.inl ⟨_,_,_,v,rfl,rfl,w5 hs ex,h1,k v h2⟩)
 |tup ex l r=>
  cases ry <;> first|cases h|skip
  obtain⟨v,h1,h2⟩:=xA ⟨l,r⟩ (show atI _ _=some d from h);exact .inl (.inr (.inl ⟨_,_,_,v,rfl,rfl,tupT hs ex,h1,k v h2⟩))
 |str z=>
  cases ry with
  |int i=>
   have h':(if z.length<=1000000 then(atI z.cps.toList i).map fun c=>D.str ⟨#[c]⟩else none)=some d:=h
   split at h'
   ·rename_i hz
    cases e:atI z.cps.toList i with
    |none=>rw[e]at h';cases h'
    |some q=>
     rw[e]at h';cases h';exact .inl (.inr (.inr ⟨z,i,q,rfl,rfl,bj hz (by decide),e,k _ (.str _)⟩))
   ·cases h'
  |_=>cases h
 |@dic a ys kvs ex l nd r=>
  have h':(match zL dy with|some k=>qJ kvs k|none=>none)=some d:=h;cases hk:zL dy with
  |none=>rw[hk]at h';cases h'
  |some q=>
   rw[hk]at h';rcases v4 hs (.dic ex l nd r) hs2 ry (.inl ⟨kvs,q,rfl,hk,rfl⟩)with⟨h1,h2⟩|⟨dv,w,h1,h2,h3⟩
   ·rw[show qJ kvs q=some d from h']at h1;cases h1
   ·rw[show qJ kvs q=some d from h']at h1
    cases h1;exact .inr ⟨a,w,rfl,h2,k w h3⟩
 |@dit a ys kvs ex l nd r=>
  cases dy with
  |tup ks=>
   have h':(match zK ks with|some k=>qJ kvs k|none=>none)=some d:=h;cases hk:zK ks with
   |none=>rw[hk]at h';cases h'
   |some q=>
    rw[hk]at h';rcases v4 hs (.dit ex l nd r) hs2 ry (.inr ⟨kvs,ks,q,rfl,rfl,hk,rfl⟩)with⟨h1,h2⟩|⟨dv,w,h1,h2,h3⟩
    ·rw[show qJ kvs q=some d from h']at h1;cases h1
    ·rw[show qJ kvs q=some d from h']at h1
     cases h1;exact .inr ⟨a,w,rfl,h2,k w h3⟩
  |_=>cases h
 |_=>cases h
theorem qM{b:Expr}(hu:X.A.units+1<cLine)(ha:DE W E m X O a fa)(hb:DE W E m2 X O b fb)(hs:ZQ b:=by intro _ _;rfl):DE W E m X O (.Subscript a b pos) (e2 ixD fa fb):=
 qN (Qj (ixG hu) ha hb hs) fun σ H Q⟨g,c,fp,q⟩=>⟨g,c,fp,q.bind fun d b v H1 c1 fp1 S1 F1 r1 h1=>⟨_,c1,fp1,h1.bind fun d' b' v' H2 c2 fp2 S2 F2 r2 h2=>by
  obtain⟨z,ez,k⟩:=h2.opt;exact W5 S2.toSE.all (r1.mono F2.cm) S2.toSE.all r2 ez fun u hu=>k u H2 c2 fp2 S2 .refl hu⟩⟩
theorem yT{i:Nat}{k:D->SS W->R W α}{g:SS W}:qF (eVar i) k g=match(g.v[i]?).join with|some d=>k d g|none=>.bad:=by
 unfold qF eVar eOpt;cases (g.v[i]?).join <;> rfl
theorem tG.var{rel:Co->ν->α->Prop}{i:Nat}{k:D->SS W->R W α}{Q:ν->Hp->Prop}(q:tG X E rel m O (qF (eVar i) k) g c fp σ H Q):∃d,g.v[i]?=some (some d)/\tG X E rel m O (k d) g c fp σ H Q:=by
 obtain⟨S,h⟩:=q;rw[yT]at h;cases e:(g.v[i]?).join with
 |none=>rw[e]at h;exact h.elim
 |some d=>rw[e]at h;exact⟨d,join_some e,S,h⟩
theorem qb1{i:Nat}{b:Expr}(hu:X.A.units+1<cLine)(ha:PE X a (tVar i))(hi:i∈O)(hb:DE W E m2 X O b fb)(hs:ZQ b:=by intro _ _;rfl):DE W E true X O (.Subscript a b pos) (e2 ixD (eVar i) fb):=
 qN (Qj (ixG hu) ha hb hs) fun σ H Q⟨g,c,fp,q⟩=>by
  obtain⟨d,hg,q1⟩:=tG.var q;obtain⟨x,h1,h2⟩:=q.1.own i d hi hg;refine⟨x,h1,g,c,fp,?_⟩;refine q1.bind fun d' b' v' H2 c2 fp2 S2 F2 r2 h2'=>?_
  obtain⟨z,ez,k⟩:=h2'.opt;have o2:=h2.step F2;cases hm:ku d with
  |false=>
   exact W5 (S2.toSE.all (m:=true)) (ym o2 hm) S2.toSE.all r2 ez fun u hu=>k u H2 c2 fp2 S2 .refl hu
  |true=>
   cases d with
   |lst ds=>
    obtain⟨p,xs,rfl,_,_,_,hh,rs⟩:=o2;cases r2 <;> first|cases ez|skip
    obtain⟨u,z1,z2⟩:=xA rs (show atI ds _=some z from ez);exact .inl (.inl ⟨p,xs,_,u,rfl,rfl,SqL.of hh,z1,k u H2 c2 fp2 S2 .refl z2⟩)
   |dic kvs=>
    obtain⟨p,ys,rfl,_,_,_,hh,l,nd,rs⟩:=o2;have h':(match zL d' with|some k=>qJ kvs k|none=>none)=some z:=ez;cases hk:zL d' with
    |none=>rw[hk]at h';cases h'
    |some kk=>
     rw[hk]at h';have g1:=DGet.k (k:=kk) hh;rw[<- vT r2 hk]at g1;rcases vL (k:=kk) l (fun i p q h1 h2=>rs.r i _ _ (by rw[ag,h1];rfl) (by rw[ag,h2];rfl))with⟨z1,z2⟩|⟨dv,u,z1,z2,z3⟩
     ·rw[show qJ kvs kk=some z from h']at z1;cases z1
     ·rw[show qJ kvs kk=some z from h']at z1
      cases z1;rw[z2]at g1;exact .inr ⟨p,u,rfl,g1,k u H2 c2 fp2 S2 .refl z3⟩
   |dit kvs=>
    obtain⟨p,ys,rfl,_,_,_,hh,l,nd,rs⟩:=o2;cases r2 with
    |@tup a2 xs2 ks ex2 l2 rr2=>
     have h':(match zK ks with|some k=>qJ kvs k|none=>none)=some z:=ez;cases hk:zK ks with
     |none=>rw[hk]at h';cases h'
     |some kk=>
      rw[hk]at h';have ek:=vn ⟨l2,rr2⟩ hk;subst ek;have g1:=DGet.t (k:=kk) hh (S2.toSE.all _ _ ex2);rcases vL (k:=kk) l (fun i p q h1 h2=>rs.r i _ _ (by rw[ag,h1];rfl) (by rw[ag,h2];rfl))with⟨z1,z2⟩|⟨dv,u,z1,z2,z3⟩
      ·rw[show qJ kvs kk=some z from h']at z1;cases z1
      ·rw[show qJ kvs kk=some z from h']at z1
       cases z1;rw[z2]at g1;exact .inr ⟨p,u,rfl,g1,k u H2 c2 fp2 S2 .refl z3⟩
    |_=>cases ez
   |non=>cases hm
   |bl _=>cases hm
   |int _=>cases hm
   |str _=>cases hm
   |tup _=>cases hm
   |obj _=>cases hm
   |scr _=>cases hm
end
def spP(K:fH)(T:Hp->Prop)(n:Nat)(fr:Bool)(F:List D->Option D):Sp:=fun vs H Q EX=>vs.length=n/\∃c ds,Same c.h (Hn H [])/\T H/\Reps K c vs ds/\∃d,F ds=some d/\
 ∀v H' c',FR H c [] H' c' []->Same c'.h (Hn H' [])->T H'->(if fr=true then OwnV K ⟨H,c,[]⟩ H' c' [] v d else Rep K c' v d)->Q v H'
noncomputable def zI{W:Wo}(n:Nat)(ds:List D)(b:W.BS):SS W:=⟨ds.map some++List.replicate (n - ds.length) none,b⟩
section
variable{W:Wo}{K:fH}{X:Cx}{E:En}{O O' O1 O2 OL:List Nat}{g:SS W}{b:W.BS}{σ:L2.St}{H H':Hp}{c c':Co}{fp fp':fL}{fr:Bool}{m m1 m2:Bool}{pos:Pos}{e a:Expr}{es:fQ}
variable{fa fb fe:SS W->R W D}{fs:SS W->R W (List D)}{ta tb:SS W->R W Bool}
theorem wV{ds:List D}(S:SE W E b H c fp)(r:Reps K c vs ds):SR W K E [] (zI N.length ds b) (L2.start N vs) H c fp:=by
 refine⟨S,fun i d _ h=>?_,fun i d hi=>(nomatch hi),fun i j d e a hi=>(nomatch hi),?_⟩
 ·unfold zI at h
  have h:(ds.map some++List.replicate (N.length - ds.length) none)[i]?=some (some d):=h
  by_cases hi:i<ds.length
  ·rw[aW (by simpa using hi),ag]at h
   have hd:ds[i]?=some d:=by
    cases q:ds[i]? with
    |none=>rw[q]at h;cases h
    |some z=>rw[q]at h;cases h;rfl
   obtain⟨x,h1,h2⟩:=r.at hd;refine⟨x,?_,h2⟩;unfold L2.start;rw[aW (by rw[ab,r.l];exact hi),ag,h1];rfl
  ·rw[aT (by simpa using hi),d3]at h
   split at h <;> cases h
 ·unfold zI L2.start
  rw[aK,aK,ab,ab,cz,cz,r.l]
def jr{T:Hp->Prop}{hT}{B:Hp->Co->fL->Prop}{hB}(n:Nat)(f:SS (W1 T hT B hB)->Ou (W1 T hT B hB)):List D->Option D:=fun ds=>match f (zI n ds ())with
 |.rt d _=>some d
 |.nx _=>some .non
 |_=>none
theorem yE{T:Hp->Prop}{hT}{P:Program}{w:World}{mg:fK}{base:Heap}{x qual:Str}{f:Addr}{fd:FuncData}{ps:fP}{k n:Nat}{body:SS (W0 T hT)->Ou (W0 T hT)}(F:Fun K x qual st f fd)(Sc:FnScope N ps (qp st))(hn:n=ps.length)
  (h:∀(cdv:Value)(A:Around)(outer:List Env)(s:Shared)(H:Hp)(EX:XK)(E:En),Room k (A.deeper (envOfC qual (qp st) s.heap.objs.size f cdv))->DSs (W0 T hT) E fr [] (cxOf CX0 P w K mg base N qual (qp st) f cdv A outer s H EX).nox [] (jq st) body O') :
  FnOk P w K mg base CX0 (k+1) f fd ps (spP K T n fr (jr N.length body)):=by
 refine F.ok Sc (fun vs H Q EX q=>by rw[<- hn];exact q.1) fun cdv A outer s H vs Q EX hr q=>?_
 obtain⟨_,c,ds,co,tb,r,d,e,q⟩:=q;refine⟨_,h cdv A outer s H EX ⟨H,c,[]⟩ hr,zI N.length ds (W:=W0 T hT) (),c,[],wV ⟨co,rfl,tb,fun a ha=>(nomatch ha),.refl⟩ r,?_⟩;unfold jr at e;cases eb:body (zI N.length ds ())with
 |rt d' b'=>
  rw[eb]at e;cases e;intro v H' c' fp' S' r';cases (show fp'=[] from S'.br);exact q v H' c' S'.fr0 S'.core S'.tab r'
 |nx g'=>
  rw[eb]at e;cases e;intro σ' H' c' fp' S' _;cases (show fp'=[] from S'.br);exact q .non H' c' S'.fr0 S'.core S'.tab (by cases fr with|true=>exact Rep.non (K:=K) (c:=c')|false=>exact Rep.non (K:=K) (c:=c'))
 |ex x g'=>rw[eb]at e;cases e
 |bk g'=>rw[eb]at e;cases e
 |ct g'=>rw[eb]at e;cases e
 |bad=>rw[eb]at e;cases e
def zO(n:Nat)(F:List D->Option D)(fs:SS W->R W (List D)):SS W->R W D:=qF fs fun ds=>eOpt (if ds.length=n then F ds else none)
def atO(o:Option D):Option D:=o.bind fun d=>(isAt d).bind fun _=>some d
theorem hn_nil{H:Hp}{fp:fL}:Same (Hn H fp) (Hn H []):=fun a u e=>by
 obtain⟨h1,_,h3⟩:=Hn.of e;exact Hn.mk h1 (ax) h3
theorem wD(S:SE W E b H c fp)(f:FR H c [] H' c' [])(co:Same c'.h (Hn H' []))(tab:W.tabs H'):SE W E b H' c' fp/\FR H c fp H' c' fp:=by
 have keep:∀a u,H a=some u->isT u=false->H' a=some u:=fun a u e z=>(Hn.of (f.nn _ _ (Hn.mk e (ax) z))).1
 have fpo:∀a∈fp,c'.h a=none:=fun a ha=>by
  obtain⟨u,e,z⟩:=S.fph a ha;exact f.out a (by rw[Hn.mk e (ax) z];simp) (S.fpc a ha)
 have F:FR H c fp H' c' fp:=⟨f.le,fun a u e=>by
  obtain⟨h1,h2,h3⟩:=Hn.of e;exact Hn.mk (keep a u h1 h3) h2 h3,fun a ha hc=>f.out a (fun z=>ha (hn_nil.free z)) hc,f.th⟩
 refine⟨⟨fun a u e=>?_,W.brS _ _ _ _ _ _ S.br (fun a ha=>?_) f.le fpo,tab,fun a ha=>?_,S.fr0.trans F⟩,F⟩
 ·obtain⟨h1,_,h3⟩:=Hn.of (co _ _ e)
  exact Hn.mk h1 (fun z=>by rw[fpo a z]at e;cases e) h3
 ·obtain⟨u,e,z⟩:=S.fph a ha
  rw[keep a u e z,e]
 ·obtain⟨u,e,z⟩:=S.fph a ha
  exact⟨u,keep a u e z,z⟩
theorem XY(S:SE W E b H c fp)(hf:∀a,(∃u,H' a=some u)->H a=none->a∉fp){d:D}(o:OwnV K ⟨H,c,[]⟩ H' c' [] v d):OwnV K E H' c' fp v d:=by
 cases d with
 |lst ds=>obtain⟨a,xs,e1,e2,e3,e4,e5,e6⟩:=o;exact⟨a,xs,e1,e2,hf a ⟨_,e5⟩ e4,S.fr0.th a e4,e5,e6⟩
 |dic ds=>obtain⟨a,xs,e1,e2,e3,e4,e5,e6⟩:=o;exact⟨a,xs,e1,e2,hf a ⟨_,e5⟩ e4,S.fr0.th a e4,e5,e6⟩
 |dit ds=>obtain⟨a,xs,e1,e2,e3,e4,e5,e6⟩:=o;exact⟨a,xs,e1,e2,hf a ⟨_,e5⟩ e4,S.fr0.th a e4,e5,e6⟩
 |non=>exact o
 |bl _=>exact o
 |int _=>exact o
 |str _=>exact o
 |tup _=>exact o
 |obj _=>exact o
 |scr _=>exact o
theorem YX{d:D}(o:OwnV K ⟨H,c,fp⟩ H' c' fp' v d):NewV H v d:=fun hm a ea=>by
 cases d with
 |lst ds=>obtain⟨a',xs,e1,e2,e3,e4,e5⟩:=o;cases ea.symm.trans e1;exact e4
 |dic ds=>obtain⟨a',xs,e1,e2,e3,e4,e5⟩:=o;cases ea.symm.trans e1;exact e4
 |dit ds=>obtain⟨a',xs,e1,e2,e3,e4,e5⟩:=o;cases ea.symm.trans e1;exact e4
 |non=>cases hm
 |bl _=>cases hm
 |int _=>cases hm
 |str _=>cases hm
 |tup _=>cases hm
 |obj _=>cases hm
 |scr _=>cases hm
variable{k n:Nat}{f:Addr}{fd:FuncData}{ps:fP}{F:List D->Option D}{x:Str}{p:Pos}{T:Hp->Prop}
theorem uG{ds:List D}(hT:W.tabs=T)(r1:Reps X.K c vs ds)(h1:tG X E (Rep X.K) true O (eOpt (if ds.length=n then F ds else none)) g c fp σ H Q):spP X.K T n false F (vs++[]) H Q E0:=by
 subst hT;have S:=h1.1;obtain⟨d,e,k⟩:=h1.opt;rw[c9]
 split at e
 ·rename_i hl
  refine⟨by rw[r1.l];exact hl,c,ds,S.core.trans hn_nil,S.tab,r1,d,e,fun v H' c' f co tb r=>?_⟩;obtain⟨S',F'⟩:=wD S.toSE f co tb;exact k v H' c' fp (S.step F' S') F' r
 ·cases e
theorem WG{ds:List D}(hT:W.tabs=T)(r1:Reps X.K c vs ds)(h1:tO X E O (eOpt (if ds.length=n then F ds else none)) g c fp σ H Q):spP X.K T n true F (vs++[]) H Q E0:=by
 subst hT;have S:=h1.1;obtain⟨d,e,k⟩:=h1.opt;rw[c9]
 split at e
 ·rename_i hl
  refine⟨by rw[r1.l];exact hl,c,ds,S.core.trans hn_nil,S.tab,r1,d,e,fun v H' c' f co tb r=>?_⟩;obtain⟨S',F'⟩:=wD S.toSE f co tb;exact k v H' c' fp (S.step F' S') F' (XY S.toSE (fun a _ q=>(S.toSE.free q).2) r) (YX r)
 ·cases e
section
variable(hr:Room k X.A)(hg:Gl X x)(hm:X.mg x=some (.ref f))(hk:PySem.W.keepIn X.K (.ref f)=true)(hb:Binds X.K fd ps [])(hT:W.tabs=T:=by rfl)(hd:(x == ("__debug__":Str))=false:=by decide)
  (hs:starEach (e::es) X.env=(false,eval e X.env)::starEach es X.env:=by rfl)(hplain:(backTo pos (starEach es X.env)).any (·.1)=false:=by rfl)
include hr hg hm hk hb hT hd hs hplain
theorem zT(G:FnOk X.prog X.w X.K X.mg X.base CX0 k f fd ps (spP X.K T n false F))(ha:DA W E true X O (e::es) fs):DE W E true X O (.Call (.Name x p) (e::es) [] pos) (zO n F fs):=
 qN (jH G hr hg hm hk hb .nil xN ha hd hs hplain) fun σ H Q⟨g,c,fp,q⟩=>⟨g,c,fp,q.bind fun ds b vs H1 c1 fp1 S1 F1 r1 h1=>uG hT r1 h1⟩
theorem vZ(G:FnOk X.prog X.w X.K X.mg X.base CX0 k f fd ps (spP X.K T n true F))(ha:DA W E true X O (e::es) fs):DO W E X O (.Call (.Name x p) (e::es) [] pos) (zO n F fs):=
 qN (jH G hr hg hm hk hb .nil xN ha hd hs hplain) fun σ H Q⟨g,c,fp,q⟩=>⟨g,c,fp,q.bind (rel:=Reps X.K) fun ds b vs H1 c1 fp1 S1 F1 r1 h1=>WG hT r1 h1⟩
end
end
def uk:HO->Bool
 |.lst _=>true
 |.dK _=>true
 |.dT _=>true
 |_=>false
section
variable{W:Wo}{K:fH}{X:Cx}{E:En}{O O' O1 O2 OL:List Nat}{g:SS W}{b:W.BS}{σ:L2.St}{H H':Hp}{c c':Co}{fp fp':fL}{fr:Bool}{m m1 m2:Bool}{pos:Pos}{e a:Expr}{es:fQ}
variable{fa fb fe:SS W->R W D}{fs:SS W->R W (List D)}{ta tb:SS W->R W Bool}
theorem SE.mut(S:SE W E b H c fp){a:Addr}(ha:H a=some u)(hu:uk u=true)(hc:c.h a=none)(hf:a∉fp)(he:Hn E.H E.fp a=none):SE W E b (upd H a u') c fp:=by
 have ne:∀z∈fp,z≠a:=fun z hz q=>hf (q▸hz)
 refine⟨fun z w e=>?_,W.brS _ _ _ _ _ _ S.br (fun z hz=>qk (ne z hz)) (.refl _) S.fpc,W.tabS _ _ S.tab fun z w e n1 n2 n3=>?_,fun z hz=>?_,S.fr0.le,fun z w e=>?_,S.fr0.out,fun z e=>?_⟩
 ·obtain⟨h1,h2,h3⟩:=Hn.of (S.core _ _ e)
  exact Hn.mk ((qk fun q=>by subst q;rw[hc]at e;cases e).trans h1) h2 h3
 ·refine(qk fun q=>?_).trans e
  subst q;rw[ha]at e;cases e;cases u <;> first|exact n1 _ rfl|exact n2 _ rfl|exact n3 _ rfl|cases hu
 ·obtain⟨w,e,q⟩:=S.fph z hz
  exact⟨w,(qk (ne z hz)).trans e,q⟩
 ·obtain⟨h1,h2,h3⟩:=Hn.of (S.fr0.nn _ _ e)
  refine Hn.mk ((qk fun q=>?_).trans h1) h2 h3;subst q;rw[he]at e;cases e
 ·apply S.fr0.th
  by_cases q:z=a
  ·subst q;rw[ql]at e;cases e
  ·rw[qk q]at e;exact e
theorem KZ{x:V}{d:D}{a:Addr}(o:OwnV K E H c fp x d)(h:ku d=true->x≠.ref a):OwnV K E (upd H a u) c fp x d:=by
 cases d with
 |lst ds=>obtain⟨z,xs,e1,e2,e3,e4,e5,e6⟩:=o;exact⟨z,xs,e1,e2,e3,e4,(qk fun q=>h rfl (by rw[e1,q])).trans e5,e6⟩
 |dic ds=>obtain⟨z,xs,e1,e2,e3,e4,e5,e6⟩:=o;exact⟨z,xs,e1,e2,e3,e4,(qk fun q=>h rfl (by rw[e1,q])).trans e5,e6⟩
 |dit ds=>obtain⟨z,xs,e1,e2,e3,e4,e5,e6⟩:=o;exact⟨z,xs,e1,e2,e3,e4,(qk fun q=>h rfl (by rw[e1,q])).trans e5,e6⟩
 |non=>exact o
 |bl _=>exact o
 |int _=>exact o
 |str _=>exact o
 |tup _=>exact o
 |obj _=>exact o
 |scr _=>exact o
theorem SR.mutT(S:SR W K E O g σ H c fp){a:Addr}(ha:H a=some u)(hu:uk u=true)(hc:c.h a=none)(hf:a∉fp)(he:Hn E.H E.fp a=none)(hE:E.H a≠none):SR W K E O g σ (upd H a u') c fp:=by
 refine⟨S.toSE.mut ha hu hc hf he,S.frz,fun j e hj hq=>?_,S.dis,S.len⟩;obtain⟨y,h1,h2⟩:=S.own j e hj hq;refine⟨y,h1,KZ h2 fun q z=>?_⟩;subst z;cases e with
 |lst ds=>obtain⟨z,xs,e1,e2,e3,e4,e5,e6⟩:=h2;cases e1;exact hE e4
 |dic ds=>obtain⟨z,xs,e1,e2,e3,e4,e5,e6⟩:=h2;cases e1;exact hE e4
 |dit ds=>obtain⟨z,xs,e1,e2,e3,e4,e5,e6⟩:=h2;cases e1;exact hE e4
 |_=>cases q
theorem SR.mut(S:SR W K E O g σ H c fp){i:Nat}{d d':D}{a:Addr}{u u':HO}(hi:i∈O)(hg:g.v[i]?=some (some d))(hm:ku d=true)(hx:σ[i]?=some (some (.ref a)))(ha:H a=some u)(hu:uk u=true)(hc:c.h a=none)(hf:a∉fp)(he:E.H a=none)(o:OwnV K E (upd H a u') c fp (.ref a) d') :
  SR W K E O (put g i d') σ (upd H a u') c fp:=by
 have hl:i<g.v.length:=(ai.mp hg).1;have other:∀{j:Nat}{e:D},j≠i->(g.v.set i (some d'))[j]?=some (some e)->g.v[j]?=some (some e):=fun hj h=>by rw[aM (bW hj)]at h;exact h
 have old:∀{j:Nat}{e:D},(g.v.set i (some d'))[j]?=some (some e)->ku e=true->∃e',g.v[j]?=some (some e')/\ku e'=true:=fun{j e} h q=>by
  by_cases hj:j=i
  ·subst hj;exact⟨d,hg,hm⟩
  ·exact⟨e,other hj h,q⟩
 refine⟨S.toSE.mut ha hu hc hf (kh he),fun j e hj hq=>?_,fun j e hj hq=>?_,fun j k d1 e b hj hk hjk h1 h2 m1 m2 h3 h4=>?_,by show(g.v.set i (some d')).length=_;rw[cD];exact S.len⟩
 ·have hji:j≠i:=fun z=>hj (z▸hi)
  exact S.frz j e hj (other hji hq)
 ·by_cases hji:j=i
  ·subst hji
   have hq:(g.v.set j (some d'))[j]?=some (some e):=hq;rw[bq hl]at hq;cases hq;exact⟨_,hx,o⟩
  ·obtain⟨y,h1,h2⟩:=S.own j e hj (other hji hq)
   refine⟨y,h1,KZ h2 fun q z=>?_⟩;subst z;exact S.dis j i e d a hj hi hji (other hji hq) hg q hm h1 hx
 ·obtain⟨e1,q1,q2⟩:=old h1 m1
  obtain⟨e2,q3,q4⟩:=old h2 m2;exact S.dis j k e1 e2 b hj hk hjk q1 q3 q2 q4 h3 h4
def yb(i:Nat)(k:D->SS W->Ou W):SS W->Ou W:=fun g=>match(g.v[i]?).join with
 |some d=>k d g
 |none=>.bad
theorem tSx.recv{fr:Bool}{i:Nat}{k:D->SS W->Ou W}(q:tSx X E fr OL O (yb i k) O' g c fp Dn σ H):∃d,g.v[i]?=some (some d)/\tSx X E fr OL O (k d) O' g c fp Dn σ H:=by
 obtain⟨S,q⟩:=q;unfold yb at q;cases e:(g.v[i]?).join with
 |none=>rw[e]at q;exact q.elim
 |some d=>rw[e]at q;exact⟨d,join_some e,S,q⟩
def big:Nat:=10000000
theorem yU{n:Nat}(h:n<big):n<sizeLine:=bb h (by decide)
def sPut(i:Nat)(o:Option D):SS W->Ou W:=fun g=>match o with
 |some d=>.nx (put g i d)
 |none=>.bad
theorem tSx.put{fr:Bool}{i:Nat}{o:Option D}{Dn:Ends}(q:tSx X E fr OL O (sPut i o) O' g c fp Dn σ H):∃d,o=some d/\∀σ' H' c' fp',SR W X.K E O' (put g i d) σ' H' c' fp'->Co.Le c c'->Dn.nx σ' H':=by
 cases o with
 |none=>exact q.2.elim
 |some d=>exact⟨d,rfl,q.2⟩
def sApp(i:Nat)(f:SS W->R W D):SS W->Ou W:=yb i fun d=>match d with
 |.lst ds=>zZ f fun y=>sPut i (if ds.length<big then some (.lst (ds++[y]))else none)
 |_=>fun _=>.bad
theorem k_{i:Nat}{apos cpos:Pos}(hx:PE X a (tVar i))(hi:i∈O)(he:DE W E true X O e fe)
  (hbase:attributeBase a "append" X.env (eval a X.env)=eval a X.env:=by rfl)
  (hfew:((backTo cpos (starEach [e] X.env)).all (fun x=>!x.1) && (backToKw cpos (keywordEach [] X.env)).all (fun x=>x.1.isSome) && decide ([e].length+([]:List Keyword).length+(if([]:List Keyword).isEmpty then 0 else 1)<30))=true:=by rfl)
  (hline:(apos.endLine == cpos.line)=true:=by rfl)(hs:starEach [e] X.env=(false,eval e X.env)::starEach [] X.env:=by rfl)(hplain:(backTo cpos (starEach [] X.env)).any (·.1)=false:=by rfl)
  (hsw:swapsWith (.Call (.Attribute a "append" apos) [e] [] cpos) none pos.line X.env=pure false:=by rfl):DS W E fr OL X O (.Expr (.Call (.Attribute a "append" apos) [e] [] cpos) pos) (sApp i fe) O:=
 zR (YK (qar PySem.F.plainAttrs_list PySem.F.slot_list_append PySem.F.type_list_append xU hx (qA he zx hs) hbase hfew hline hs hplain) hsw) fun Dn σ H⟨g,c,fp,q⟩=>by
  obtain⟨d,hg,q1⟩:=q.recv;cases d with
  |lst ds=>
   obtain⟨v,hv,o⟩:=q.1.own i _ hi hg;obtain⟨z,xs,rfl,hc,hf,he',hh,rs⟩:=id o;refine⟨_,hv,.inl ⟨rfl,_,SqL.of hh⟩,g,c,fp,q1.bind fun y b vy H1 c1 fp1 F1 r1 q2=>?_⟩;obtain⟨d',ed,k⟩:=q2.put;obtain⟨hl,rfl⟩:=zM ed;obtain⟨z',xs',ez,hc',hf',he'',hh',rs'⟩:=o.step F1;cases ez;refine⟨z,xs',vy,rfl,rfl,hh',by rw[rs'.l];exact yU hl,k σ _ c1 fp1 (q2.1.mut hi hg rfl hv hh' rfl hc' hf' he'' ⟨z,_,rfl,hc',hf',he'',ql,rs'.append (.cons r1 .nil)⟩) (.refl _)⟩
  |_=>exact q1.2.elim
def putD{κ:Type}[DecidableEq κ](kvs:List (κ×D))(k:κ)(v:D):List (κ×D):=if(kvs.any fun kv=>decide (kv.1=k))=true then kvs.map fun kv=>if kv.1=k then(kv.1,v)else kv else kvs++[(k,v)]
theorem Kx[DecidableEq κ]{ys:List (κ×V)}{kvs:List (κ×D)}{k:κ}{d:D}(l:ys.map (·.1)=kvs.map (·.1))(r:Reps K c (ys.map (·.2)) (kvs.map (·.2)))(rv:Rep K c v d):(putK ys k v).map (·.1)=(putD kvs k d).map (·.1)/\Reps K c ((putK ys k v).map (·.2)) ((putD kvs k d).map (·.2)):=by
 have ea:(ys.any fun kv=>decide (kv.1=k))=(kvs.any fun kv=>decide (kv.1=k)):=by
  have h1:(ys.any fun kv=>decide (kv.1=k))=(ys.map (·.1)).any fun z=>decide (z=k):=by rw[fo];rfl
  have h2:(kvs.any fun kv=>decide (kv.1=k))=(kvs.map (·.1)).any fun z=>decide (z=k):=by rw[fo];rfl
  rw[h1,h2,l]
 unfold putK putD;rw[ea]
 split
 ·rename_i h0
  clear ea h0
  induction ys generalizing kvs with
  |nil=>cases kvs with
   |nil=>exact⟨rfl,.nil⟩
   |cons q kvs=>cases l
  |cons p ys ih=>cases kvs with
   |nil=>cases l
   |cons q kvs=>
    simp only[aA,bP]at l;obtain⟨hk,l⟩:=l;obtain⟨w,t,e,r1,r2⟩:=Reps.uncons (show Reps K c (p.2::ys.map (·.2)) (q.2::kvs.map (·.2))from r);cases e;obtain⟨i1,i2⟩:=ih l r2
    by_cases hq:q.1=k
    ·have hp:p.1=k:=hk.trans hq
     simp only[aA,aF hq,aF hp];exact⟨by rw[hk,i1],.cons rv i2⟩
    ·have hp:¬ p.1=k:=fun z=>hq (hk.symm.trans z)
     simp only[aA,aG hq,aG hp];exact⟨by rw[hk,i1],.cons r1 i2⟩
 ·rw[aN,aN,aN,aN,l]
  exact⟨rfl,r.append (.cons rv .nil)⟩
theorem Qq[DecidableEq κ]{kvs:List (κ×D)}{k:κ}{d:D}(h:(kvs.map (·.1)).Nodup):((putD kvs k d).map (·.1)).Nodup:=by
 unfold putD
 split
 ·rw[cu]
  have:(Prod.fst ∘ fun kv:κ×D=>if kv.1=k then(kv.1,d)else kv)=Prod.fst:=by
   funext p
   show(if p.1=k then(p.1,d)else p).1=p.1
   split <;> rfl
  rw[this];exact h
 ·rename_i q
  rw[aN,bY];refine⟨h,by simp,fun z hz y hy=>?_⟩;simp only[aA,dJ,au]at hy;subst hy;obtain⟨p,hp,rfl⟩:=aC.mp hz;exact fun w=>q (b7.mpr ⟨p,hp,by simpa using w⟩)
def putO(d k v:D):Option D:=match d with
 |.dic kvs=>(match zL k with|some k=>if kvs.length<big then some (.dic (putD kvs k v))else none|none=>none)
 |.dit kvs=>(match k with|.tup ks=>(match zK ks with|some k=>if kvs.length<big then some (.dit (putD kvs k v))else none|none=>none)|_=>none)
 |_=>none
def JM(i:Nat)(fk fv:SS W->R W D):SS W->Ou W:=zZ fv fun v=>yb i fun d=>zZ fk fun k=>sPut i (putO d k v)
theorem VU{i:Nat}{ix:Expr}{fk fv:SS W->R W D}{value:Expr}{pos':Pos}(hu:X.A.units+1<cLine)(hx:PE X a (tVar i))(hi:i∈O)(hk:DE W E true X O ix fk)(hv:DE W E true X O value fv)(hs:swapsWith value (some (.Subscript a ix pos')) pos.line X.env=pure false:=by rfl) :
  DS W E fr OL X O (.Assign [.Subscript a ix pos'] value pos) (JM i fk fv) O:=zR (KB hu hx hk hv hs) fun Dn σ H⟨g,c,fp,q⟩=>⟨g,c,fp,q.bind fun dv b v H1 c1 fp1 F1 r1 q1=>by
 have S1:=q1.1;obtain⟨d,hg,q1⟩:=q1.recv;obtain⟨x,hx1,o⟩:=S1.own i d hi hg;refine⟨x,hx1,_,c1,fp1,q1.bind fun dk b2 k H2 c2 fp2 F2 r2 q3=>?_⟩;obtain⟨d',ed,kk⟩:=q3.put;have o2:=o.step F2;have r1':=r1.mono F2.cm;cases d with
 |dic kvs=>
  obtain⟨z,ys,rfl,hc,hf,he,hh,l,nd,rs⟩:=o2;unfold putO at ed;cases ek:zL dk with
  |none=>simp only[ek]at ed;cases ed
  |some kq=>
   simp only[ek]at ed;obtain⟨hl,rfl⟩:=zM ed;have len:ys.length=kvs.length:=by simpa using bC List.length l
   obtain⟨p1,p2⟩:=Kx (k:=kq) l rs r1';refine⟨z,_,rfl,(vT r2 ek)▸DPut.k (k:=kq) (v:=v) hh (by rw[len];exact yU hl),kk σ _ c2 fp2 (q3.1.mut hi hg rfl hx1 hh rfl hc hf he ⟨z,_,rfl,hc,hf,he,ql,p1,Qq nd,p2⟩) (.refl _)⟩
 |dit kvs=>
  obtain⟨z,ys,rfl,hc,hf,he,hh,l,nd,rs⟩:=o2;unfold putO at ed;cases r2 with
  |@tup a2 xs2 ks ex2 l2 rr2=>
   cases ek:zK ks with
   |none=>simp only[ek]at ed;cases ed
   |some kq=>
    simp only[ek]at ed;obtain⟨hl,rfl⟩:=zM ed;have len:ys.length=kvs.length:=by simpa using bC List.length l
    have ex:=vn ⟨l2,rr2⟩ ek;subst ex;obtain⟨p1,p2⟩:=Kx (k:=kq) l rs r1';refine⟨z,_,rfl,DPut.t (k:=kq) (v:=v) hh (q3.1.toSE.all (m:=true) _ _ ex2) (by rw[len];exact yU hl),kk σ _ c2 fp2 (q3.1.mut hi hg rfl hx1 hh rfl hc hf he ⟨z,_,rfl,hc,hf,he,ql,p1,Qq nd,p2⟩) (.refl _)⟩
  |_=>cases ed
 |_=>cases ed⟩
def gD(W:Wo)(K:fH)(E:En)(O:List Nat)(p:D->SS W->Option (SS W))(O':List Nat):TG:=fun v σ H Q=>∃g c fp d g',SR W K E O g σ H c fp/\Rep K c v d/\p d g=some g'/\g'.b=g.b/\∀σ',SR W K E O' g' σ' H c fp->Q σ' H
def DG(W:Wo)(E:En)(X:Cx)(O:List Nat)(tg:Expr)(p:D->SS W->Option (SS W))(O':List Nat):Prop:=PG X tg (gD W X.K E O p O')
def DGs(W:Wo)(E:En)(X:Cx)(O:List Nat)(ts:fQ)(p:List D->SS W->Option (SS W))(O':List Nat):Prop:=PGs X ts fun vs σ H Q=>∃g c fp ds g',SR W X.K E O g σ H c fp/\Reps X.K c vs ds/\p ds g=some g'/\g'.b=g.b/\∀σ',SR W X.K E O' g' σ' H c fp->Q σ' H
theorem KM{t t':TG}(h:PG X tg t)(w:∀v σ H Q,t' v σ H Q->t v σ H Q):PG X tg t':=fun pins s σ H v u Q I r q=>h pins s σ H v u Q I r (w v σ H Q q)
theorem Jb{t t':TGs}(h:PGs X ts t)(w:∀v σ H Q,t' v σ H Q->t v σ H Q):PGs X ts t':=fun pins s σ H v u Q I r q=>h pins s σ H v u Q I r (w v σ H Q q)
def ze(i:Nat):D->SS W->Option (SS W):=fun d g=>some (put g i d)
theorem qX{i:Nat}(h:PG X e (QL i)):DG W E X O e (ze i) (O.filter (·≠i)):=KM h fun v σ H Q⟨g,c,fp,d,g',S,r,e,_,k⟩=>by
 cases e;exact k _ (S.set r)
def pNil:List D->SS W->Option (SS W):=fun ds g=>match ds with|[]=>some g|_=>none
def z8(p:D->SS W->Option (SS W))(ps:List D->SS W->Option (SS W)):List D->SS W->Option (SS W):=fun ds g=>match ds with|d::r=>(p d g).bind (ps r)|[]=>none
def v8(p:D->SS W->Option (SS W)):Prop:=∀d g g',p d g=some g'->g'.b=g.b
theorem qm{i:Nat}:v8 (W:=W) (ze i):=fun d g g' e=>by cases e;rfl
theorem wf:DGs W E X O [] pNil O:=Jb kF fun v σ H Q⟨g,c,fp,ds,g',S,r,e,_,k⟩=>by
 cases ds with
 |nil=>cases e;exact⟨r.unnil,k σ S⟩
 |cons=>cases e
theorem zo{p:D->SS W->Option (SS W)}{ps:List D->SS W->Option (SS W)}(kp:v8 p)(h1:DG W E X O e p O1)(h2:DGs W E X O1 ts ps O')(hs:(assignEach (e::ts) X.env).map (·.2)=assign e X.env::(assignEach ts X.env).map (·.2):=by rfl):DGs W E X O (e::ts) (z8 p ps) O':=Jb (zj h1 h2 hs) fun v σ H Q⟨g,c,fp,ds,g',S,r,e,eb,k⟩=>by
 cases ds with
 |nil=>cases e
 |cons d ds=>
  obtain⟨x,t,rfl,r1,r2⟩:=r.uncons;unfold z8 at e;cases q:p d g with
  |none=>simp only[q]at e;cases e
  |some g1=>
   simp only[q]at e;have b1:=kp _ _ _ q;exact⟨x,t,rfl,g,c,fp,d,g1,S,r1,q,b1,fun σ' S'=>⟨g1,c,fp,ds,g',S',r2,e,eb.trans b1.symm,k⟩⟩
def pTup(n:Nat)(ps:List D->SS W->Option (SS W)):D->SS W->Option (SS W):=fun d g=>match d with|.tup ds=>if ds.length=n then ps ds g else none|_=>none
theorem QR{n k:Nat}{ps:List D->SS W->Option (SS W)}(hc:X.calm=true)(h:DGs W E X O ts ps O')(hn:(assignEach ts X.env).length=n:=by rfl)(hst:(assignEach ts X.env).findIdx? (·.1)=none:=by rfl):DG W E X O (.Tuple ts k pos) (pTup n ps) O':=KM (Qi hc h hn hst) fun v σ H Q⟨g,c,fp,d,g',S,r,e,eb,kk⟩=>by
 cases r with
 |@tup z xs ds ex l rr=>
  have e:(if ds.length=n then ps ds g else none)=some g':=e
  split at e
  ·rename_i hl
   exact⟨z,xs,rfl,SqT.of (S.toSE.all (m:=true) _ _ ex),by rw[l];exact hl,g,c,fp,ds,g',S,⟨l,rr⟩,e,eb,kk⟩
  ·cases e
 |_=>cases e
theorem vI{n:Nat}{ps:List D->SS W->Option (SS W)}(h:∀ds g g',ps ds g=some g'->g'.b=g.b):v8 (W:=W) (pTup n ps):=fun d g g' e=>by
 cases d with
 |tup ds=>
  have e:(if ds.length=n then ps ds g else none)=some g':=e
  split at e
  ·exact h _ _ _ e
  ·cases e
 |_=>cases e
theorem kM:∀ds g g',pNil (W:=W) ds g=some g'->g'.b=g.b:=fun ds g g' e=>by
 cases ds with
 |nil=>cases e;rfl
 |cons=>cases e
theorem qO{p:D->SS W->Option (SS W)}{ps:List D->SS W->Option (SS W)}(kp:v8 p)(h:∀ds g g',ps ds g=some g'->g'.b=g.b):∀ds g g',z8 p ps ds g=some g'->g'.b=g.b:=fun ds g g' e=>by
 cases ds with
 |nil=>cases e
 |cons d ds=>
  unfold z8 at e;cases q:p d g with
  |none=>simp only[q]at e;cases e
  |some g1=>simp only[q]at e;exact(h _ _ _ e).trans (kp _ _ _ q)
def sAsg(p:D->SS W->Option (SS W))(f:SS W->R W D):SS W->Ou W:=zZ f fun d g=>match p d g with
 |some g'=>.nx g'
 |none=>.bad
theorem VW{p:D->SS W->Option (SS W)}(kp:v8 p)(he:DE W E true X O e fe)(hg:DG W E X O tg p O')(hs:swapsWithSole [tg] e pos.line X.env=pure false:=by rfl)(hw:swappedStores [tg] e X.env=pure none:=by rfl)(h1:(assignEach [tg] X.env).map (·.2)=[assign tg X.env]:=by rfl) :
  DS W E fr OL X O (.Assign [tg] e pos) (sAsg p fe) O':=zR (qag he hg hs hw h1) fun Dn σ H⟨g,c,fp,q⟩=>⟨g,c,fp,q.bind fun d b v H1 c1 fp1 F1 r1 q1=>by
 obtain⟨S1,q1⟩:=q1;cases e:p d ⟨g.v,b⟩with
 |none=>simp only[e]at q1;exact q1.elim
 |some g'=>
  simp only[e]at q1;exact⟨_,c1,fp1,d,g',S1,r1,e,kp _ _ _ e,fun σ' S'=>q1 σ' H1 c1 fp1 S' (.refl _)⟩⟩
structure Walk(K:fH)(J:It)(c:Co)(ds:List D):Prop where
 go:∀i H1 c1,Co.Le c c1->Same c1.h H1->i<ds.length->J.go i H1/\∀x H2,J.yld i H1 x H2->∃d,ds[i]?=some d/\((H2=H1/\Rep K c1 x d)\/∃p u,H1 p=none/\isT u=false/\H2=upd H1 p u/\Rep K (c1.add p u) x d)
 stop:∀i H1 c1,Co.Le c c1->Same c1.h H1->ds.length<=i->J.stop i H1
def tI(X:Cx)(E:En)(O:List Nat)(f:SS W->R W (List D))(g:SS W)(c:Co)(fp:fL)(σ:L2.St)(H:Hp)(Rr:It->Hp->Prop):Prop:=
 SR W X.K E O g σ H c fp/\match f g with
  |.ok ds b=>∀J H' c' fp',SR W X.K E O ⟨g.v,b⟩ σ H' c' fp'->FR H c fp H' c' fp'->Walk X.K J c' ds->Rr J H'
  |.exc x b=>∀ev s' H' c' fp',Inv X [] σ H' s'->SR W X.K E O ⟨g.v,b⟩ σ H' c' fp'->FR H c fp H' c' fp'->W.EX x ev s' H' c'->X.xe ev s'
  |.bad=>False
def DI(W:Wo)(E:En)(X:Cx)(O:List Nat)(tg iter:Expr)(f:SS W->R W (List D)):Prop:=PI X tg iter fun σ H Rr=>∃g c fp,tI X E O f g c fp σ H Rr
theorem kE{t t':TI}(h:PI X tg iter t)(w:∀σ H Rr,t' σ H Rr->t σ H Rr):PI X tg iter t':=fun pins s σ H Rr I q=>h pins s σ H Rr I (w σ H Rr q)
theorem PI.or{t t':TI}(h:PI X tg iter t)(h':PI X tg iter t'):PI X tg iter (fun σ H Rr=>t σ H Rr\/t' σ H Rr):=fun pins s σ H Rr I q=>q.elim (h pins s σ H Rr I) (h' pins s σ H Rr I)
theorem tI.bind{rel:Co->ν->α->Prop}{f:SS W->R W α}{k:α->SS W->R W (List D)}{Q:ν->Hp->Prop}(h:tI X E O (qF f k) g c fp σ H Rr)
  (cont:∀d b v H1 c1 fp1,SR W X.K E O ⟨g.v,b⟩ σ H1 c1 fp1->FR H c fp H1 c1 fp1->rel (cm m H1 c1 fp1) v d->tI X E O (k d) ⟨g.v,b⟩ c1 fp1 σ H1 Rr->Q v H1):tG X E rel m O f g c fp σ H Q:=by
 obtain⟨S,h⟩:=h;unfold qF at h;refine⟨S,?_⟩;cases e:f g with
 |bad=>rw[e]at h;exact h
 |exc x b=>rw[e]at h;exact h
 |ok d b=>
  rw[e]at h;intro v H1 c1 fp1 S1 F1 r1;refine cont d b v H1 c1 fp1 S1 F1 r1 ⟨S1,?_⟩;have h:match k d ⟨g.v,b⟩with
   |.ok ds b=>∀J H' c' fp',SR W X.K E O ⟨g.v,b⟩ σ H' c' fp'->FR H c fp H' c' fp'->Walk X.K J c' ds->Rr J H'
   |.exc x b=>∀ev s' H' c' fp',Inv X [] σ H' s'->SR W X.K E O ⟨g.v,b⟩ σ H' c' fp'->FR H c fp H' c' fp'->W.EX x ev s' H' c'->X.xe ev s'
   |.bad=>False:=h
  cases e2:k d ⟨g.v,b⟩with
  |bad=>rw[e2]at h;exact h
  |exc x b2=>rw[e2]at h;exact fun ev s' H' c' fp' I S' F' x'=>h ev s' H' c' fp' I S' (F1.trans F') x'
  |ok d2 b2=>rw[e2]at h;exact fun J H' c' fp' S' F' w=>h J H' c' fp' S' (F1.trans F') w
theorem tI.opt{o:Option (List D)}(h:tI X E O (eOpt o) g c fp σ H Rr):∃ds,o=some ds/\∀J H' c' fp',SR W X.K E O g σ H' c' fp'->FR H c fp H' c' fp'->Walk X.K J c' ds->Rr J H':=by
 cases o with
 |none=>exact h.2.elim
 |some ds=>exact⟨ds,rfl,h.2⟩
def Yy:D->Option (List D)
 |.lst ds=>some ds
 |.tup ds=>some ds
 |_=>none
theorem vm{xs:List V}{ds:List D}(e:c.h z=some (.lst xs))(r:Reps K c xs ds):Walk K (Itl K z) c ds:=by
 refine⟨fun i H1 c1 le s hi=>?_,fun i H1 c1 le s hi=>⟨xs,SqL.of (s _ _ (le.h _ _ e)),by rw[r.l];exact hi⟩⟩;have hx:i<xs.length:=by rw[r.l];exact hi
 have sq:SqL K H1 z xs:=SqL.of (s _ _ (le.h _ _ e));refine⟨⟨xs,xs[i],sq,aa hx⟩,fun x H2⟨eH,y⟩=>⟨ds[i],aa hi,.inl ⟨eH,?_⟩⟩⟩;exact(r.mono le).r i x _ (y xs sq) (aa hi)
theorem Xu{xs:List V}{ds:List D}(e:c.h z=some (.tup xs))(r:Reps K c xs ds):Walk K (Itt K z) c ds:=by
 refine⟨fun i H1 c1 le s hi=>?_,fun i H1 c1 le s hi=>⟨xs,SqT.of (s _ _ (le.h _ _ e)),by rw[r.l];exact hi⟩⟩;have hx:i<xs.length:=by rw[r.l];exact hi
 have sq:SqT K H1 z xs:=SqT.of (s _ _ (le.h _ _ e));refine⟨⟨xs,xs[i],sq,aa hx⟩,fun x H2⟨eH,y⟩=>⟨ds[i],aa hi,.inl ⟨eH,?_⟩⟩⟩;exact(r.mono le).r i x _ (y xs sq) (aa hi)
def iSeq(f:SS W->R W D):SS W->R W (List D):=qF f fun d=>eOpt (Yy d)
theorem Jv(h:DE W E true X O e fe):DI W E X O tg e (iSeq fe):=kE (PI.or (jm h) (qaj h)) fun σ H Rr⟨g,c,fp,q⟩=>by
 obtain⟨S,q⟩:=q;have q0:tI X E O (iSeq fe) g c fp σ H Rr:=⟨S,q⟩;unfold iSeq qF at q;cases ef:fe g with
 |bad=>rw[ef]at q;exact q.elim
 |exc y b=>exact .inl ⟨g,c,fp,S,by rw[ef]at q ⊢;exact q⟩
 |ok d b=>
  rw[ef]at q;cases d with
  |lst ds=>exact .inl ⟨g,c,fp,S,by rw[ef];intro v H1 c1 fp1 S1 F1 r1;cases r1 with|lst ex l r=>exact⟨_,rfl,⟨_,SqL.of (S1.toSE.all (m:=true) _ _ ex)⟩,q _ H1 c1 fp1 S1 F1 (vm ex ⟨l,r⟩)⟩⟩
  |tup ds=>exact .inr ⟨g,c,fp,S,by rw[ef];intro v H1 c1 fp1 S1 F1 r1;cases r1 with|tup ex l r=>exact⟨_,rfl,⟨_,SqT.of (S1.toSE.all (m:=true) _ _ ex)⟩,q _ H1 c1 fp1 S1 F1 (Xu ex ⟨l,r⟩)⟩⟩
  |_=>exact q.elim
def rngD(lo:Int)(n:Nat):List D:=(List.range n).map fun(k:Nat)=>D.int (lo+(k:Int))
theorem Xv{lo:Int}{n:Nat}:Walk K (Itr lo n) c (rngD lo n):=by
 have hl:(rngD lo n).length=n:=by unfold rngD;rw[ab,dH]
 refine⟨fun i H1 c1 le s hi=>?_,fun i H1 c1 le s hi=>by rw[hl]at hi;exact hi⟩;rw[hl]at hi;refine⟨hi,fun x H2⟨eH,ex⟩=>⟨.int (lo+(i:Int)),?_,.inl ⟨eH,by rw[ex];exact .int _⟩⟩⟩;unfold rngD;rw[ag,List.getElem?_range hi];rfl
def rng1:List D->Option (List D)
 |[.int j]=>if -(2 ^ 62)<=j/\j<2 ^ 62 then some (rngD 0 j.toNat)else none
 |_=>none
def z9(fs:SS W->R W (List D)):SS W->R W (List D):=qF fs fun ds=>eOpt (rng1 ds)
theorem j7{x:Expr}{p:Pos}(hg:Gl X "range")(hm:X.mg "range"=none)(ha:DA W E m X O [x] fs)(hs:starEach [x] X.env=[(false,eval x X.env)]:=by rfl):DI W E X O tg (.Call (.Name "range" p) [x] [] pos) (z9 fs):=kE (KK hg hm ha hs) fun σ H Rr⟨g,c,fp,q⟩=>⟨g,c,fp,q.bind (rel:=Reps X.K) fun ds b vs H1 c1 fp1 S1 F1 r1 h1=>by
 obtain⟨l,el,k⟩:=h1.opt;cases ds with
 |nil=>cases el
 |cons d ds=>
  cases d with
  |int j=>
   cases ds with
   |nil=>
    obtain⟨y,t,rfl,r2,r3⟩:=r1.uncons;cases zW r2;cases r3.unnil;obtain⟨hb,rfl⟩:=zM el;exact⟨j,rfl,hb.1,hb.2,k _ H1 c1 fp1 S1 .refl Xv⟩
   |cons=>cases el
  |_=>cases el⟩
noncomputable def forD(p:D->SS W->Option (SS W))(f:SS W->Ou W):List D->SS W->Ou W
 |[],g=>.nx g
 |d::ds,g=>match p d g with
  |none=>.bad
  |some g1=>match f g1 with
   |.nx g2=>forD p f ds g2
   |.ct g2=>forD p f ds g2
   |.bk g2=>.nx g2
   |.rt d b=>.rt d b
   |.ex x g2=>.ex x g2
   |.bad=>.bad
def sFor(fi:SS W->R W (List D))(p:D->SS W->Option (SS W))(f:SS W->Ou W):SS W->Ou W:=zZ fi fun ds=>forD p f ds
theorem tSx.bindI{fr:Bool}{fi:SS W->R W (List D)}{k:List D->SS W->Ou W}(q:tSx X E fr OL O (zZ fi k) O' g c fp Dn σ H)
  (cont:∀ds b J H1 c1 fp1,Walk X.K J c1 ds->tSx X E fr OL O (k ds) O' ⟨g.v,b⟩ c1 fp1 Dn σ H1->Rr J H1):tI X E O fi g c fp σ H Rr:=by
 obtain⟨S,q⟩:=q;refine⟨S,?_⟩;unfold zZ at q;cases e:fi g with
 |bad=>rw[e]at q;exact q
 |exc x b=>
  rw[e]at q;intro ev s' H' c' fp' I S' F' x';obtain⟨c2,l2,S2⟩:=S'.freeze (O':=[]) (fun i h=>nomatch h);exact q ev σ s' H' c2 fp' I S2 (W.exS _ _ _ _ _ _ x' l2)
 |ok ds b=>
  rw[e]at q;exact fun J H1 c1 fp1 S1 F1 w=>cont ds b J H1 c1 fp1 w ⟨S1,q.mono F1.le⟩
theorem SR.yield(S:SR W K E O g σ H c fp){x:V}{d:D}(h:(H'=H/\Rep K c x d)\/∃p u,H p=none/\isT u=false/\H'=upd H p u/\Rep K (c.add p u) x d):∃c',SR W K E O g σ H' c' fp/\Rep K c' x d/\Co.Le c c'/\FR H c fp H' c' fp:=by
 rcases h with⟨rfl,r⟩|⟨p,u,hp,hu,rfl,r⟩
 ·exact⟨c,S,r,.refl _,.refl⟩
 ·exact⟨c.add p u,S.new hp hu,r,Co.add_le (S.toSE.free hp).1,FR.new S.toSE hp u⟩
theorem W8{fi:SS W->R W (List D)}{p:D->SS W->Option (SS W)}{f:SS W->Ou W}(kp:v8 p)(q:tSx X E fr OL O (sFor fi p f) O g c fp Dn σ H):tFor (fun σ H Rr=>tI X E O fi g c fp σ H Rr) (gD W X.K E O p O1) (tS X E fr O O1 f O) Dn σ H:=q.bindI fun ds b J H1 c1 fp1 w q1=>by
 have all:∀{g:SS W}{σ:L2.St}{H:Hp}{c:Co}{fp:fL},SR W X.K E O g σ H c fp->Same c.h H:=fun S=>S.toSE.all (m:=true)
 refine⟨fun i mm σ2 H2=>mm=ds.length - i/\i<=ds.length/\∃g2 c2 fp2,Co.Le c1 c2/\tSx X E fr OL O (forD p f (ds.drop i)) O g2 c2 fp2 Dn σ2 H2,⟨ds.length,by simp,aV _,_,c1,fp1,.refl _,by rw[f6];exact q1⟩,?_⟩;rintro i mm σ2 H2 ⟨rfl,hi',g2,c2,fp2,le,S2,q2⟩
 by_cases hlt:i<ds.length
 ·right
  obtain⟨go,yl⟩:=w.go i H2 c2 le (all S2) hlt;refine⟨go,fun σ3 H3=>∃m',m'<ds.length - i/\m'=ds.length - (i+1)/\i+1<=ds.length/\∃g2 c2 fp2,Co.Le c1 c2/\tSx X E fr OL O (forD p f (ds.drop (i+1))) O g2 c2 fp2 Dn σ3 H3,fun σ3 H3 h=>h,fun x H3 y=>?_⟩;obtain⟨d,hd,yy⟩:=yl x H3 y;obtain⟨c3,S3,r3,le3,_⟩:=S2.yield yy;have ed:ds.drop i=d::ds.drop (i+1):=by
   obtain⟨h1,h2⟩:=ai.mp hd;rw[<- h2];exact bN h1
  rw[ed]at q2;unfold forD at q2;cases ep:p d g2 with
  |none=>simp only[ep]at q2;exact q2.elim
  |some g3=>
   simp only[ep]at q2;refine⟨g2,c3,fp2,d,g3,S3,r3,ep,kp _ _ _ ep,fun σ4 S4=>⟨g3,c3,fp2,S4,?_⟩⟩;have next:∀{g5:SS W}{σ5:L2.St}{H5:Hp}{c5:Co}{fp5:fL},Co.Le c3 c5->SR W X.K E O g5 σ5 H5 c5 fp5->tSq X E fr OL O Dn c2 (forD p f (ds.drop (i+1)) g5)->∃m',m'<ds.length - i/\m'=ds.length - (i+1)/\i+1<=ds.length/\∃g2 c2 fp2,Co.Le c1 c2/\tSx X E fr OL O (forD p f (ds.drop (i+1))) O g2 c2 fp2 Dn σ5 H5:=
    fun l5 S5 q5=>⟨_,by omega,rfl,hlt,_,_,_,(le.trans le3).trans l5,S5,q5.mono (le3.trans l5)⟩
   cases ef:f g3 with
   |nx g5=>simp only[ef]at q2;exact fun σ5 H5 c5 fp5 S5 l5=>next l5 S5 q2
   |ct g5=>simp only[ef]at q2;exact fun σ5 H5 c5 fp5 S5 l5=>next l5 S5 q2
   |bk g5=>simp only[ef]at q2;exact fun σ5 H5 c5 fp5 S5 l5=>q2 σ5 H5 c5 fp5 S5 (le3.trans l5)
   |rt d5 b5=>simp only[ef]at q2;exact q2
   |ex x5 g5=>simp only[ef]at q2;exact q2
   |bad=>simp only[ef]at q2;exact q2
 ·left
  have e:i=ds.length:=by omega
  subst e;rw[fg]at q2;exact⟨w.stop _ H2 c2 le (all S2) (ak _),q2 σ2 H2 c2 fp2 S2 (.refl _)⟩
theorem QO{fi:SS W->R W (List D)}{p:D->SS W->Option (SS W)}{body:List Stmt}{f:SS W->Ou W}(hp:PassesOwn (model X.prog X.w) X.A X.env X.xe)(hc:X.calm=true)(kp:v8 p)(hi:DI W E X O tg iter fi)(hg:DG W E X O tg p O1)(hb:DSs W E fr O X O1 body f O)
  (hs:∀x,foldedSetIterable iter X.env x=pure x:=by intro _;rfl):DS W E fr OL X O (.For tg iter body [] pos) (sFor fi p f) O:=zR (wF hp hc hi hg hb hs) fun Dn σ H⟨g,c,fp,q⟩=>⟨g,c,fp,W8 kp q⟩
end
end M
namespace X2
open PySem PySem.Spec PyProof.Rows L2
variable{X:Cx}{elt iter tg:Expr}{ifs:fQ}{scope:Scope}{pos:Pos}{cl:List (Str×Addr)}{T caps:fP}{ix:List Nat}{wi:TI}{g:TG}{tt:TT}{te:TE}
theorem vO{pos2:Pos}
  (O:CompOk X scope cl T caps ix)(hc:X.calm=true)(hi:PI X tg iter wi)(hg:∀C s H fp,PG (qz X scope cl (T++caps) C s H fp) tg g)(ht:∀C s H fp,PTs (qz X scope cl (T++caps) C s H fp) ifs tt)
  (he:∀C s H fp,PE (qz X scope cl (T++caps) C s H fp) elt te)(hs:∀x,foldedSetIterable iter X.env x=pure x)
  {pins:fI}{s:Shared}{σ:L2.St}{H:Hp}{Q:VK}{use:Option (Value->Sem Unit)}{QQ:fJ}(I:Inv X pins σ H s)(h:JH wi g tt te T ix σ H Q)
  (fin:∀(D C:Addr)(H3:Hp)(s4:Shared)(m:fK),Inv X pins σ H3 s4->s4.heap.Ns C m->H3 C=none->C≠X.env.locals->X.s₀.heap.objs.size<=C->(∀x c,X.env.cells.lookup x=some c->c≠C)->(∀p∈X.pn++pins,p.1≠C)->Q (.ref D) H3->compPost (model X.prog X.w) X.A X.xe use QQ (.ref D) C (.ok .next) s4) :
  wpAny (model X.prog X.w) X.A (comprehension (.ListComp elt [⟨tg,iter,ifs,0⟩] scope pos) scope X.env pos2 (newList []) false (eval iter X.env) use) QQ X.xe s:=by
 refine dw (use:=use) rfl hs O.clos O.kind O.names (thn (hi pins s σ H _ I h) fun v s1 h1=>thn h1 fun itv s2 h2=>?_);obtain⟨it,fp,tn,J,H2,e,I2,T2,st2,f2,R2⟩:=h2;subst e;have hfp:∀b∈fp,FpOk X pins H2 b/\b<s2.heap.objs.size:=fun b hb=>⟨f2 b hb,by obtain⟨o,e,_⟩:=T2.obj _ _ st2 b hb;exact ao e⟩
 refine bX (c7 O.nocell (fun y hy=>absurd hy (by simp)) (fun h₁ hns hsb=>?_) O.kind);dsimp only at hns hsb ⊢;generalize hG:s2.heap.push { cls:=.type "list",dict:=none,data:=.seq ([]:fM).toArray }=G at hns hsb ⊢
 have hCz:s2.heap.objs.size<G.objs.size:=by rw[<- hG,bZ];exact bV _
 have old:∀b o,s2.heap.get? b=some o->h₁.get? b=some o:=fun b o e=>by
  have lt:=ao e;exact hsb.extBut b o (aq (bb lt hCz)) (ae _ (hG▸ae _ e))
 have hD:h₁.get? s2.heap.objs.size=some { cls:=.type "list",dict:=none,data:=.seq ([]:fM).toArray }:=hsb.extBut _ _ (aq hCz) (ae _ (hG▸aB _ rfl));have nD:H2 s2.heap.objs.size=none:=I2.hok.fresh (ak _);have nC:H2 G.objs.size=none:=I2.hok.fresh (bD hCz);obtain⟨W,⟨m0,w0⟩,turn⟩:=R2 s2.heap.objs.size nD;have J1:Inv X pins σ (upd H2 s2.heap.objs.size (.lst [])) { s2 with heap:=h₁,toks:=s2.toks+([]:List (Str×Value)).length }:=
  I2.laid (t':=s2.toks+([]:List (Str×Value)).length) old (ak _) (show ObjOk X.prog X.w _ h₁ _ (.lst [])from⟨aV _,[],0,.nil,hD⟩)
 have un:Un (frs X.stack) fp H2 (upd H2 s2.heap.objs.size (.lst [])) s2.heap h₁:=Un.laid old (ak _) nD;have hCn:(upd H2 s2.heap.objs.size (.lst [])) G.objs.size=none:=by rw[qk (aq hCz).symm];exact nC
 have K1:=v5 (s:={ s2 with heap:=h₁,toks:=s2.toks+([]:List (Str×Value)).length }) O I2 J1 un rfl hns (bD hCz) hCn hfp;have stat:∀{H':Hp},(∀b∈fp,H' b=none)->∀b∈fp,FpOk (qz X scope cl (T++caps) G.objs.size s2 H2 fp) [] H' b:=fun hn b hb=>
  ⟨hn b hb,aq (bb (hfp b hb).2 hCz),K1.ok.exfs b hb,.inl hb,fun x c e=>(K1.ok.exf b hb).2 x c e,fun p hp=>absurd (show p∈([]:fI)from hp) (by simp)⟩
 have start:∃(i:Nat)(σ':L2.St)(xs:List V)(H':Hp),Inv (qz X scope cl (T++caps) G.objs.size s2 H2 fp) [] σ' H' { s2 with heap:=h₁,toks:=s2.toks+([]:List (Str×Value)).length }/\tn i h₁/\(∀b∈fp,H' b=none)/\W i m0 σ' xs H':=
  ⟨0,_,[],_,K1,T2.keep _ _ _ st2 fun b _ o e=>old b o e,fun b hb=>by rw[qk (aq (hfp b hb).2)];exact(f2 b hb).1,w0⟩
 have loop:codeAny (model X.prog X.w) X.A (.compLoop (.ListComp elt [⟨tg,iter,ifs,0⟩] scope pos) 0 (.ref it) (.ref s2.heap.objs.size) (compEnvC scope cl G.objs.size X.env))
   (compPost (model X.prog X.w) X.A X.xe use QQ (.ref s2.heap.objs.size) G.objs.size) { s2 with heap:=h₁,toks:=s2.toks+([]:List (Str×Value)).length }:=by
  refine QU (fun n s'=>∃(i:Nat)(σ':L2.St)(xs:List V)(H':Hp),Inv (qz X scope cl (T++caps) G.objs.size s2 H2 fp) [] σ' H' s'/\tn i s'.heap/\(∀b∈fp,H' b=none)/\W i n σ' xs H') ?_ m0 start;rintro n s3 ⟨i,σ3,xs,H3,I3,st3,fr3,w3⟩;obtain⟨hD3,hz3,tn3⟩:=turn i n σ3 xs H3 w3;rcases tn3 with⟨stop,qn⟩|⟨go,step⟩
  ·refine thn (T2.done (qz X scope cl (T++caps) G.objs.size s2 H2 fp) rfl rfl rfl hc i [] s3 σ3 H3 _ I3 (stat fr3) st3 stop) fun r s4⟨hr,I4⟩=>?_
   subst hr;obtain⟨m,hm,_⟩:=I4.loc;have B:Inv X pins σ H3 s4:=I2.call' I4.os I4.base I4.hok I4.bare fun b hb=>⟨(f2 b hb).2.2.2.1,(f2 b hb).2.1,(f2 b hb).2.2.2.2.1,(f2 b hb).2.2.2.2.2⟩
   refine fin s2.heap.objs.size G.objs.size H3 s4 m B hm I4.free ?_ (bD (c4 I2.sz hCz)) (fun x c e z=>?_) (fun p hp z=>?_) qn
   ·exact(aq (bb I2.lt hCz)).symm
   ·obtain⟨v,q⟩:=I2.cell x c e
    exact absurd z (aq (bb q.lt hCz))
   ·exact absurd z (aq (bb (ao (I2.pin p hp).1) hCz))
  ·refine thn (T2.item (qz X scope cl (T++caps) G.objs.size s2 H2 fp) rfl rfl rfl hc i [] s3 σ3 H3 _ I3 (stat fr3) st3 go) fun r s4⟨u,hr,h4⟩=>?_
   subst hr;refine thn h4 fun _ s5⟨x,H5,I5,r5,y5,st5,fr5⟩=>?_
   have I5':=I5.pinned (stat fr5) (T2.obj _ _ st5);have back:∀{σ7:L2.St}{H7:Hp}{s7:Shared},Inv (qz X scope cl (T++caps) G.objs.size s2 H2 fp) ([]++xL fp s5.heap) σ7 H7 s7->Inv (qz X scope cl (T++caps) G.objs.size s2 H2 fp) [] σ7 H7 s7/\tn (i+1) s7.heap/\∀b∈fp,H7 b=none:=fun{σ7 H7 s7} I7=>by
    refine⟨I7.unpinned,T2.keep _ _ _ st5 fun b hb o e=>(I7.pin (b,o) (az _ (az _ (zX hb e)))).1,fun b hb=>?_⟩;obtain⟨o,e,d⟩:=T2.obj _ _ st5 b hb;exact(I7.pin (b,o) (az _ (az _ (zX hb e)))).2.1
   refine thn (hg G.objs.size s2 H2 fp _ s5 σ3 H5 x u _ I5' r5 (step x H5 y5)) fun _ s6⟨σ6,H6,I6,q6⟩=>?_
   refine thn (ht G.objs.size s2 H2 fp _ s6 σ6 H6 _ I6 q6) fun ok s7⟨H7,I7,q7⟩=>?_
   cases ok with
   |true=>
    rw[aF rfl]at q7;rw[aF rfl];refine thn (he G.objs.size s2 H2 fp _ s7 σ6 H7 _ I7 q7) fun z s8⟨y,H8,I8,r8,hD8,m',hm',w8⟩=>?_
    refine thn (xU _ s8 σ6 H8 (.ref s2.heap.objs.size) [y] _ [z] (fun _ H9=>H9=upd H8 s2.heap.objs.size (.lst (xs++[y]))) I8 rfl (.cons r8 .nil) ⟨_,xs,y,rfl,rfl,hD8,hz3,rfl⟩) fun _ s9⟨_,H9,I9,_,e9⟩=>?_
    subst e9;obtain⟨a1,a2,a3⟩:=back I9;exact⟨m',hm',i+1,σ6,xs++[y],_,a1,a2,a3,w8⟩
   |false=>
    rw[aG (by decide)]at q7;rw[aG (by decide)];obtain⟨m',hm',w7⟩:=q7;obtain⟨a1,a2,a3⟩:=back I7;exact⟨m',hm',i+1,σ6,xs,H7,a1,a2,a3,w7⟩
 exact codeAny_compStart_list loop (T2.self _ 0 _ _ _ (T2.keep _ _ _ st2 fun b _ o e=>old b o e) loop)
theorem yg{spos py:Pos}{i:Nat}{y:Str}(hN:X.N.Nodup)(hi':X.N[i]?=some y)(hx:Loc X.env.scope y)
  (O:CompOk X scope cl T caps ix)(hc:X.calm=true)(hi:PI X tg iter wi)(hg:∀C s H fp,PG (qz X scope cl (T++caps) C s H fp) tg g)(ht:∀C s H fp,PTs (qz X scope cl (T++caps) C s H fp) ifs tt)
  (he:∀C s H fp,PE (qz X scope cl (T++caps) C s H fp) elt te)(hs:∀x,foldedSetIterable iter X.env x=pure x:=by intro _;rfl)
  (hsw:swapsWith (.ListComp elt [⟨tg,iter,ifs,0⟩] scope pos) (some (.Name y py)) spos.line X.env=pure true:=by rfl)
  (hf:X.fn y=true\/X.env.scope.names.lookup y=some .local:=by first|exact .inl rfl|exact .inr rfl|assumption) :
  PS X (.Assign [.Name y py] (.ListComp elt [⟨tg,iter,ifs,0⟩] scope pos) spos) (tAsg (JH wi g tt te T ix) (QL i)):=by
 intro pins s σ H D I h;rw[exec_Assign_Name_used _ _ _ _ hsw];refine af (d0 (af ?_));show wpAny _ X.A (do let _ <- comprehension (.ListComp elt [⟨tg,iter,ifs,0⟩] scope pos) scope X.env _ (newList []) false (eval iter X.env) (some (assign (.Name y py) X.env))) _ _ s;refine af (bf (vO (QQ:=fun _ s'=>SP X pins D .next s') O hc hi hg ht he hs I h ?_) (fun _ s' hq=>aw (aw hq)) fun _ _ e=>e);intro A C H3 s4 m B hm nC cL cs cc cp q;show wpAny _ _ (assign (.Name y py) X.env (.ref A)) _ _ _;refine eP (xD B hN hi' hx (v:=.ref A) rfl (fun s5 I5 hsb=>?_) hf);obtain⟨a,sb,ha⟩:=hsb;have ne:C≠a:=by
  rcases ha with z|z
  ·rw[z];exact cL
  ·exact(cc _ _ z).symm
 refine⟨m,hm.sameBut sb ne,fun h' hs'=>?_⟩;exact⟨_,H3,I5.turned (t':=s5.toks) (it:=C) (fun b o hb e=>hs'.extBut b o hb e) nC cL (.inr cs) cc cp,q⟩
end X2
namespace M
open PySem PySem.Spec PyProof.Rows L2 X2
variable{T:fP}{ix:List Nat}{j:Nat}{z:Addr}{tg:Expr}{Q:VK}
section
variable{W:Wo}{K:fH}{X:Cx}{E:En}{O O' O1 O2 OL:List Nat}{g:SS W}{b:W.BS}{σ:L2.St}{H H':Hp}{c c':Co}{fp fp':fL}{fr:Bool}{m m1 m2:Bool}{pos:Pos}{e a:Expr}{es:fQ}
variable{fa fb fe:SS W->R W D}{fs:SS W->R W (List D)}{ta tb:SS W->R W Bool}
noncomputable def v_(t:SS W->R W Bool)(f:SS W->Ou W):Nat->SS W->Ou W
 |0,_=>.bad
 |n+1,g=>match t g with
  |.ok true b=>(match f ⟨g.v,b⟩with
   |.nx g2=>v_ t f n g2
   |.ct g2=>v_ t f n g2
   |.bk g2=>.nx g2
   |.rt d b=>.rt d b
   |.ex x g2=>.ex x g2
   |.bad=>.bad)
  |.ok false b=>.nx ⟨g.v,b⟩
  |.exc x b=>.ex x ⟨g.v,b⟩
  |.bad=>.bad
def JY:Nat:=5000000
def Qd(t:SS W->R W Bool)(f:SS W->Ou W):SS W->Ou W:=fun g=>v_ t f JY g
theorem Jr{tst:Expr}{body:List Stmt}{t:SS W->R W Bool}{f:SS W->Ou W}(hp:PassesOwn (model X.prog X.w) X.A X.env X.xe)(ht:DT W E X O tst t)(hb:DSs W E fr O X O body f O):DS W E fr OL X O (.While tst body [] pos) (Qd t f) O:=zR (XH hp ht hb) fun Dn σ H⟨g,c,fp,S,q⟩=>by
 refine⟨fun n σ2 H2=>∃g2 c2 fp2,SR W X.K E O g2 σ2 H2 c2 fp2/\tSq X E fr OL O Dn c2 (v_ t f n g2),⟨JY,g,c,fp,S,q⟩,?_⟩;rintro n σ2 H2 ⟨g2,c2,fp2,S2,q2⟩;cases n with
 |zero=>exact q2.elim
 |succ n=>
  refine⟨g2,c2,fp2,S2,?_⟩;unfold v_ at q2;cases et:t g2 with
  |bad=>simp only[et]at q2;exact q2
  |exc x b=>
   simp only[et]at q2;intro ev s' H' c' fp' I S' F' x';obtain⟨c3,l3,S3⟩:=S'.freeze (O':=[]) (fun i h=>nomatch h);exact q2 ev σ2 s' H' c3 fp' I S3 (W.exS _ _ _ _ _ _ x' l3)
  |ok k b=>
   intro v H3 c3 fp3 S3 F3 r3;have r3:v=k:=r3;subst r3;cases v with
   |false=>simp only[et]at q2;exact q2 σ2 H3 c3 fp3 S3 F3.le
   |true=>
    simp only[et]at q2;show if true=true then _ else _
    rw[aF rfl];refine⟨fun σ4 H4=>∃m',m'<n+1/\∃g2 c2 fp2,SR W X.K E O g2 σ4 H4 c2 fp2/\tSq X E fr OL O Dn c2 (v_ t f m' g2),fun _ _ h=>h,⟨_,c3,fp3,S3,?_⟩⟩;cases ef:f ⟨g2.v,b⟩with
    |nx g5=>simp only[ef]at q2;exact fun σ5 H5 c5 fp5 S5 l5=>⟨n,bV _,g5,c5,fp5,S5,q2.mono (F3.le.trans l5)⟩
    |ct g5=>simp only[ef]at q2;exact fun σ5 H5 c5 fp5 S5 l5=>⟨n,bV _,g5,c5,fp5,S5,q2.mono (F3.le.trans l5)⟩
    |bk g5=>simp only[ef]at q2;exact fun σ5 H5 c5 fp5 S5 l5=>q2 σ5 H5 c5 fp5 S5 (F3.le.trans l5)
    |rt d5 b5=>simp only[ef]at q2;exact q2
    |ex x5 g5=>simp only[ef]at q2;exact q2
    |bad=>simp only[ef]at q2;exact q2
def capD(T:Nat)(ix:List Nat)(g:SS W):SS W:=⟨List.replicate T none++ix.map (fun i=>(g.v[i]?).join),g.b⟩
noncomputable def xt(p:D->SS W->Option (SS W))(t:SS W->R W Bool)(f:SS W->R W D):List D->SS W->List D->R W (List D)
 |[],g,acc=>.ok acc g.b
 |d::ds,g,acc=>match p d g with
  |none=>.bad
  |some g1=>match t g1 with
   |.ok true b=>(match f ⟨g1.v,b⟩with
    |.ok y b2=>if acc.length<big then xt p t f ds ⟨g1.v,b2⟩ (acc++[y])else .bad
    |_=>.bad)
   |.ok false b=>xt p t f ds ⟨g1.v,b⟩ acc
   |_=>.bad
theorem wm{p:D->SS W->Option (SS W)}{t:SS W->R W Bool}{f:SS W->R W D}{g:SS W}{acc:List D}:xt p t f [] g acc=.ok acc g.b:=rfl
theorem v6{p:D->SS W->Option (SS W)}{t:SS W->R W Bool}{f:SS W->R W D}{g:SS W}{acc:List D}{d:D}{ds:List D}:xt p t f (d::ds) g acc=match p d g with
  |none=>.bad
  |some g1=>match t g1 with
   |.ok true b=>(match f ⟨g1.v,b⟩with
    |.ok y b2=>if acc.length<big then xt p t f ds ⟨g1.v,b2⟩ (acc++[y])else .bad
    |_=>.bad)
   |.ok false b=>xt p t f ds ⟨g1.v,b⟩ acc
   |_=>.bad:=rfl
def j6(T:Nat)(ix:List Nat)(fi:SS W->R W (List D))(p:D->SS W->Option (SS W))(t:SS W->R W Bool)(f:SS W->R W D):SS W->R W D:=qF fi fun ds g=>match xt p t f ds (capD T ix g) []with
 |.ok out b=>.ok (.lst out) b
 |.exc x b=>.exc x b
 |.bad=>.bad
def capO(T:Nat)(ix O:List Nat):List Nat:=(List.range ix.length).filterMap fun j=>if ix.getD j 0∈O then some (T+j)else none
theorem mem_capO{T:Nat}{O:List Nat}{q:Nat}:q∈capO T ix O↔∃j,j<ix.length/\q=T+j/\ix.getD j 0∈O:=by
 unfold capO;rw[cT];constructor
 ·rintro⟨j,hj,h⟩
  split at h
  ·rename_i h2;cases h;exact⟨j,b9.mp hj,rfl,h2⟩
  ·cases h
 ·rintro⟨j,hj,rfl,h⟩
  exact⟨j,b9.mpr hj,by rw[aF h]⟩
theorem yP{T:Nat}{q:Nat}{d:D}(h:(capD T ix g).v[q]?=some (some d)):∃j,j<ix.length/\q=T+j/\g.v[ix.getD j 0]?=some (some d):=by
 unfold capD at h;have h:(List.replicate T none++ix.map (fun i=>(g.v[i]?).join))[q]?=some (some d):=h
 by_cases hq:q<T
 ·rw[aW (by simpa using hq),d3]at h
  split at h <;> cases h
 ·rw[aT (by simpa using hq),cz,ag]at h
  cases e:ix[q - T]? with
  |none=>rw[e]at h;cases h
  |some i=>
   rw[e]at h;have h:(g.v[i]?).join=some d:=by simpa using h
   have hj:=(ai.mp e).1;refine⟨q - T,hj,by omega,?_⟩;have:ix.getD (q - T) 0=i:=by rw[bJ,e];rfl
   rw[this];exact join_some h
theorem capσ{x:V}(hj:j<ix.length)(h:σ[ix.getD j 0]?=some (some x)):(σC T ix σ)[T.length+j]?=some (some x):=by
 unfold σC;rw[aT (by simp),ab,Nat.add_sub_cancel_left,ag,aa hj];have:ix.getD j 0=ix[j]:=by rw[bJ,aa hj];rfl
 rw[this]at h;simp[h]
theorem SR.enter(nd:ix.Nodup)(S:SR W K E O g σ H c fp):SR W K E (capO T.length ix O) (capD T.length ix g) (σC T ix σ) H c fp:=by
 refine⟨S.toSE,fun q d hq h=>?_,fun q d hq h=>?_,fun q r d e a hq hr hqr h1 h2 m1 m2 h3 h4=>?_,?_⟩
 ·obtain⟨j,hj,rfl,hg⟩:=yP h
  obtain⟨x,h1,h2⟩:=S.frz _ d (fun z=>hq (mem_capO.mpr ⟨j,hj,rfl,z⟩)) hg;exact⟨x,capσ hj h1,h2⟩
 ·obtain⟨j,hj,rfl,hg⟩:=yP h
  obtain⟨j',hj',e,hO⟩:=mem_capO.mp hq;have:j'=j:=by omega
  subst this;obtain⟨x,h1,h2⟩:=S.own _ d hO hg;exact⟨x,capσ hj h1,h2⟩
 ·obtain⟨j,hj,rfl,hg⟩:=yP h1
  obtain⟨k,hk,rfl,hg2⟩:=yP h2;obtain⟨j',hj',e1,hO⟩:=mem_capO.mp hq;obtain⟨k',hk',e2,hO2⟩:=mem_capO.mp hr;have:j'=j:=by omega
  subst this;have:k'=k:=by omega
  subst this;obtain⟨x,x1,x2⟩:=S.own _ d hO hg;obtain⟨y,y1,y2⟩:=S.own _ e hO2 hg2;rw[capσ hj x1]at h3;rw[capσ hk y1]at h4;cases h3;cases h4;refine S.dis _ _ d e a hO hO2 (fun z=>hqr ?_) hg hg2 m1 m2 x1 y1;rw[bJ,bJ,aa hj,aa hk]at z;have z:ix[j']=ix[k']:=z;have z2:ix[j']?=ix[k']?:=by rw[aa hj,aa hk,z]
  rw[(eT hj nd).mp z2]
 ·unfold capD σC
  show(List.replicate T.length none++ix.map _).length=_;rw[aK,aK,ab,ab,cz,ab]
def DTs(W:Wo)(E:En)(X:Cx)(O:List Nat)(ifs:fQ)(t:SS W->R W Bool):Prop:=PTs X ifs fun σ H Q=>∃g c fp,tG X E relB true O t g c fp σ H Q
def qAll:SS W->R W Bool:=eRet true
theorem VR:DTs W E X O [] qAll:=fun pins s σ H Q I⟨g,c,fp,q⟩=>xJ pins s σ H Q I (q.ret true H c fp q.1 .refl rfl)
theorem wd(h:DT W E X O e ta):DTs W E X O [e] ta:=fun pins s σ H Q I q=>Kz h pins s σ H Q I q
def tN{ν α:Type}(K:fH)(E:En)(rel:Co->ν->α->Prop)(O:List Nat)(f:SS W->R W α)(g:SS W)(c:Co)(fp:fL)(σ:L2.St)(H:Hp)(Q:ν->Hp->Prop):Prop:=
 SR W K E O g σ H c fp/\match f g with
  |.ok d b=>∀v H' c' fp',SR W K E O ⟨g.v,b⟩ σ H' c' fp'->FR H c fp H' c' fp'->rel c' v d->Q v H'
  |_=>False
theorem tN.tG{ν α:Type}{rel:Co->ν->α->Prop}{f:SS W->R W α}{Q:ν->Hp->Prop}(h:tN X.K E rel O f g c fp σ H Q):tG X E rel true O f g c fp σ H Q:=by
 obtain⟨S,h⟩:=h;refine⟨S,?_⟩;cases e:f g with
 |bad=>rw[e]at h;exact h
 |exc x b=>rw[e]at h;exact h.elim
 |ok d b=>rw[e]at h;exact h
def Ent(E:En)(z:Addr):En:=⟨upd E.H z (.tbl #[]),E.c,E.fp⟩
theorem VN(he:E.H z=none):Hn (Ent E z).H (Ent E z).fp=Hn E.H E.fp:=by
 funext a
 unfold Hn Ent;show(if a∈E.fp then none else noTb (upd E.H z (.tbl #[]) a))=_
 by_cases h:a=z
 ·subst h
  rw[ql,he];rfl
 ·rw[qk h]
theorem SR.into(S:SR W K E O g σ H c fp)(hz:H z=none){u:HO}:SR W K (Ent E z) O g σ (upd H z u) c fp:=by
 have S':=S.newO hz (u:=u);have he:=S.toSE.freeE hz;refine⟨⟨S'.core,S'.br,S'.tab,S'.fph,S'.fr0.le,by rw[VN he];exact S'.fr0.nn,fun a ha hc=>S'.fr0.out a (by rw[<- VN he];exact ha) hc,fun a ha=>?_⟩,S'.frz,fun j e hj hq=>?_,S'.dis,S'.len⟩
 ·have na:a≠z:=fun q=>by subst q;rw[ql]at ha;cases ha
  show upd E.H z (.tbl #[]) a=none;rw[qk na];exact S'.fr0.th a ha
 ·obtain⟨y,h1,h2⟩:=S.own j e hj hq
  refine⟨y,h1,?_⟩;have ne:∀a,H a≠none->a≠z:=fun a h q=>h (q▸hz)
  have ee:∀a,a≠z->E.H a=none->(Ent E z).H a=none:=fun a n q=>(qk n).trans q
  cases e with
  |lst ds=>obtain⟨a,xs,e1,e2,e3,e4,e5,e6⟩:=h2;have n:=ne a (by rw[e5];simp);exact⟨a,xs,e1,e2,e3,ee a n e4,(qk n).trans e5,e6⟩
  |dic ds=>obtain⟨a,xs,e1,e2,e3,e4,e5,e6⟩:=h2;have n:=ne a (by rw[e5];simp);exact⟨a,xs,e1,e2,e3,ee a n e4,(qk n).trans e5,e6⟩
  |dit ds=>obtain⟨a,xs,e1,e2,e3,e4,e5,e6⟩:=h2;have n:=ne a (by rw[e5];simp);exact⟨a,xs,e1,e2,e3,ee a n e4,(qk n).trans e5,e6⟩
  |non=>exact h2
  |bl _=>exact h2
  |int _=>exact h2
  |str _=>exact h2
  |tup _=>exact h2
  |obj _=>exact h2
  |scr _=>exact h2
abbrev gDA(W:Wo)(K:fH)(O:List Nat)(p:D->SS W->Option (SS W))(O':List Nat):TG:=fun v σ H Q=>∃E,gD W K E O p O' v σ H Q
abbrev tNA(K:fH)(O:List Nat)(t:SS W->R W Bool):TT:=fun σ H Q=>∃E g c fp,tN K E relB O t g c fp σ H Q
abbrev tNE(K:fH)(O:List Nat)(f:SS W->R W D):TE:=fun σ H Q=>∃E g c fp,tN K E (Rep K) O f g c fp σ H Q
structure WalkC(K:fH)(J:It)(H:Hp)(c:Co)(fp:fL)(ds:List D):Prop where
 go:∀i H1 c1 fp1,FR H c fp H1 c1 fp1->Same c1.h H1->i<ds.length->J.go i H1/\∀x H2,J.yld i H1 x H2->∃d,ds[i]?=some d/\((H2=H1/\Rep K c1 x d)\/∃p u,H1 p=none/\isT u=false/\H2=upd H1 p u/\Rep K (c1.add p u) x d)
 stop:∀i H1 c1 fp1,FR H c fp H1 c1 fp1->Same c1.h H1->ds.length<=i->J.stop i H1
theorem Walk.toC{J:It}{ds:List D}(w:Walk K J c ds):WalkC K J H c fp ds:=⟨fun i H1 c1 fp1 f s hi=>w.go i H1 c1 f.le s hi,fun i H1 c1 fp1 f s hi=>w.stop i H1 c1 f.le s hi⟩
def tIC(X:Cx)(E:En)(O:List Nat)(f:SS W->R W (List D))(g:SS W)(c:Co)(fp:fL)(σ:L2.St)(H:Hp)(Rr:It->Hp->Prop):Prop:=
 SR W X.K E O g σ H c fp/\match f g with
  |.ok ds b=>∀J H' c' fp',SR W X.K E O ⟨g.v,b⟩ σ H' c' fp'->FR H c fp H' c' fp'->WalkC X.K J H' c' fp' ds->Rr J H'
  |.exc x b=>∀ev s' H' c' fp',Inv X [] σ H' s'->SR W X.K E O ⟨g.v,b⟩ σ H' c' fp'->FR H c fp H' c' fp'->W.EX x ev s' H' c'->X.xe ev s'
  |.bad=>False
theorem tIC.toI{f:SS W->R W (List D)}{Rr:It->Hp->Prop}(q:tIC X E O f g c fp σ H Rr):tI X E O f g c fp σ H Rr:=by
 obtain⟨S,q⟩:=q;refine⟨S,?_⟩;cases e:f g with
 |bad=>rw[e]at q;exact q
 |exc x b=>rw[e]at q;exact q
 |ok ds b=>rw[e]at q;exact fun J H' c' fp' S' F' w=>q J H' c' fp' S' F' w.toC
def DIC(W:Wo)(E:En)(X:Cx)(O:List Nat)(tg iter:Expr)(f:SS W->R W (List D)):Prop:=PI X tg iter fun σ H Rr=>∃g c fp,tIC X E O f g c fp σ H Rr
theorem DI.toC{iter:Expr}{f:SS W->R W (List D)}(h:DI W E X O tg iter f):DIC W E X O tg iter f:=kE h fun σ H Rr⟨g,c,fp,q⟩=>⟨g,c,fp,q.toI⟩
def qcz:D->Option (List D)|.lst ds=>some ds|_=>none
def iLst(f:SS W->R W D):SS W->R W (List D):=qF f fun d=>eOpt (qcz d)
theorem uz{i:Nat}(h:PE X e (tVar i))(hi:i∈O):DIC W E X O tg e (iLst (eVar i)):=kE (jm h) fun σ H Rr⟨g,c,fp,S,q⟩=>by
 unfold iLst qF eVar eOpt at q;cases ev:(g.v[i]?).join with
 |none=>rw[ev]at q;exact q.elim
 |some d=>
  rw[ev]at q;obtain⟨x,hx,ow⟩:=S.own i d hi (join_some ev);cases d with
  |lst ds=>
   obtain⟨a,xs,rfl,hc,hf,he,hh,rs⟩:=ow;have hn:Hn H fp a=some (.lst xs):=Hn.mk hh hf rfl;refine⟨.ref a,hx,a,rfl,⟨xs,SqL.of hh⟩,q (Itl X.K a) H c fp S .refl ⟨fun j H1 c1 fp1 f s hj=>?_,fun j H1 c1 fp1 f s hj=>⟨xs,SqL.of (Hn.of (f.nn _ _ hn)).1,by rw[rs.l];exact hj⟩⟩⟩;have hx':j<xs.length:=by rw[rs.l];exact hj
   have sq:SqL X.K H1 a xs:=SqL.of (Hn.of (f.nn _ _ hn)).1;refine⟨⟨xs,xs[j],sq,aa hx'⟩,fun x H2⟨eH,y⟩=>⟨ds[j],aa hj,.inl ⟨eH,?_⟩⟩⟩;exact(rs.mono f.le).r j x _ (y xs sq) (aa hj)
  |_=>exact q.elim
theorem Jy{fi:SS W->R W (List D)}{p:D->SS W->Option (SS W)}{t:SS W->R W Bool}{f:SS W->R W D}(nd:ix.Nodup)(kp:v8 p)(hsub:∀i∈capO T.length ix O,i∈O1)(hsup:∀i∈O1,i∈capO T.length ix O)
  (q:tO X E O (j6 T.length ix fi p t f) g c fp σ H Q):JH (fun σ H Rr=>tIC X E O fi g c fp σ H Rr) (gDA W X.K (capO T.length ix O) p O1) (tNA X.K O1 t) (tNE X.K O1 f) T ix σ H Q:=by
 obtain⟨S,q⟩:=q;unfold j6 qF at q;refine⟨S,?_⟩;cases ei:fi g with
 |bad=>rw[ei]at q;exact q
 |exc x b=>rw[ei]at q;exact q
 |ok ds b=>
  rw[ei]at q;intro J H1 c1 fp1 S1 F1 w z nz;have hz:c1.h z=none/\z∉fp1:=S1.toSE.free nz;have ez:E.H z=none:=S1.toSE.freeE nz;have nH:H z=none:=F1.th z nz;have ez1:Hn (Ent E z).H (Ent E z).fp z=none:=by rw[VN ez];exact kh ez
  have ez2:(Ent E z).H z≠none:=by show upd E.H z (.tbl #[]) z≠none;rw[ql];simp
  have q:match(match xt p t f ds (capD T.length ix ⟨g.v,b⟩) []with
    |.ok out b=>R.ok (D.lst out) b
    |.exc x b=>.exc x b
    |.bad=>.bad)with
   |.ok d b=>∀v H' c' fp',SR W X.K E O ⟨g.v,b⟩ σ H' c' fp'->FR H c fp H' c' fp'->OwnV X.K E H' c' fp' v d->NewV H v d->Q v H'
   |.exc x b=>∀ev s' H' c' fp',Inv X [] σ H' s'->SR W X.K E O ⟨g.v,b⟩ σ H' c' fp'->FR H c fp H' c' fp'->W.EX x ev s' H' c'->X.xe ev s'
   |.bad=>False:=q
  refine⟨fun i mm σ2 xs H2=>mm=ds.length - i/\i<=ds.length/\∃g2 c2 fp2 acc,SR W X.K (Ent E z) (capO T.length ix O) g2 σ2 H2 c2 fp2/\FR H1 c1 fp1 H2 c2 fp2/\H2 z=some (.lst xs)/\c2.h z=none/\z∉fp2/\Reps X.K c2 xs acc/\acc.length<=big/\xt p t f ds (capD T.length ix ⟨g.v,b⟩) []=xt p t f (ds.drop i) g2 acc,
   ⟨ds.length,by simp,aV _,_,c1,fp1,[],(S1.into nz).enter nd,FR.newO nz _,ql,hz.1,hz.2,.nil,aV _,by rw[f6]⟩,?_⟩
  rintro i mm σ2 xs H2 ⟨rfl,hi',g2,c2,fp2,acc,S2,F2,h2D,hc2,hf2,rs,hacc,eq⟩;refine⟨h2D,by rw[rs.l];exact c4 hacc (by decide),?_⟩
  by_cases hlt:i<ds.length
  ·right
   obtain⟨go,yl⟩:=w.go i H2 c2 fp2 F2 (S2.toSE.all (m:=true)) hlt;refine⟨go,fun x H3 y=>?_⟩;obtain⟨d,hd,yy⟩:=yl x H3 y;obtain⟨c3,S3,r3,le3,F3⟩:=S2.yield yy;have ed:ds.drop i=d::ds.drop (i+1):=by
    obtain⟨h1,h2⟩:=ai.mp hd;rw[<- h2];exact bN h1
   have kD:∀{Ha Hb:Hp}{ca cb:Co}{fa fb:fL},FR Ha ca fa Hb cb fb->Ha z=some (.lst xs)->ca.h z=none->z∉fa->Hb z=some (.lst xs)/\cb.h z=none/\z∉fb:=fun F h1 h2 h3=>by
    have hn:=Hn.mk h1 h3 rfl;obtain⟨z1,z2,_⟩:=Hn.of (F.nn _ _ hn);exact⟨z1,F.out z (by rw[hn];simp) h2,z2⟩
   obtain⟨h3D,hc3,hf3⟩:=kD F3 h2D hc2 hf2;rw[ed,v6]at eq;cases ep:p d g2 with
   |none=>simp only[ep]at eq;rw[eq]at q;exact q.elim
   |some g3=>
    simp only[ep]at eq;refine⟨Ent E z,g2,c3,fp2,d,g3,S3,r3,ep,kp _ _ _ ep,fun σ4 S4=>?_⟩;refine⟨Ent E z,g3,c3,fp2,S4,?_⟩;cases et:t g3 with
    |bad=>simp only[et]at eq;rw[eq]at q;exact q.elim
    |exc x5 b5=>simp only[et]at eq;rw[eq]at q;exact q.elim
    |ok k b5=>
     intro v H5 c5 fp5 S5 F5 rv;have rv:v=k:=rv;subst rv;obtain⟨h5D,hc5,hf5⟩:=kD F5 h3D hc3 hf3;have F15:FR H1 c1 fp1 H5 c5 fp5:=F2.trans (F3.trans F5);cases v with
     |false=>
      simp only[et]at eq;show if false=true then _ else _
      rw[aG (by decide)];exact⟨_,by omega,rfl,hlt,⟨g3.v,b5⟩,c5,fp5,acc,S5.congr fun i=>⟨hsup i,hsub i⟩,F15,h5D,hc5,hf5,rs.mono (F3.le.trans F5.le),hacc,eq⟩
     |true=>
      simp only[et]at eq;show if true=true then _ else _
      rw[aF rfl];refine⟨Ent E z,_,c5,fp5,S5,?_⟩;cases ef:f ⟨g3.v,b5⟩with
      |bad=>simp only[ef]at eq;rw[eq]at q;exact q.elim
      |exc x6 b6=>simp only[ef]at eq;rw[eq]at q;exact q.elim
      |ok y6 b6=>
       simp only[ef]at eq;intro vy H6 c6 fp6 S6 F6 r6;obtain⟨h6D,hc6,hf6⟩:=kD F6 h5D hc5 hf5
       by_cases hb:acc.length<big
       ·rw[aF hb]at eq
        refine⟨h6D,_,by omega,rfl,hlt,⟨g3.v,b6⟩,c6,fp6,acc++[y6],(S6.mutT h6D rfl hc6 hf6 ez1 ez2).congr fun i=>⟨hsup i,hsub i⟩,?_,ql,hc6,hf6,(rs.mono ((F3.le.trans F5.le).trans F6.le)).append (.cons r6 .nil),by rw[aK,dN];exact hb,eq⟩;have F16:=F15.trans F6;refine⟨F16.le,fun a u e=>?_,F16.out,fun a e=>F16.th a ?_⟩
        ·obtain⟨h1,h2,h3⟩:=Hn.of (F16.nn _ _ e)
         exact Hn.mk ((qk fun qq=>by subst qq;rw[kh nz]at e;cases e).trans h1) h2 h3
        ·by_cases qq:a=z
         ·subst qq;rw[ql]at e;cases e
         ·rw[qk qq]at e;exact e
       ·rw[aG hb]at eq;rw[eq]at q;exact q.elim
  ·left
   have e:i=ds.length:=by omega
   subst e;rw[fg,wm]at eq;rw[eq]at q;have SE2:SE W E g2.b H2 c2 fp2:=⟨S2.core,S2.br,S2.tab,S2.fph,S1.fr0.trans F2⟩;refine⟨w.stop _ H2 c2 fp2 F2 (S2.toSE.all (m:=true)) (ak _),q (.ref z) H2 c2 fp2 (S1.step F2 SE2) (F1.trans F2) ⟨z,xs,rfl,hc2,hf2,ez,h2D,rs⟩ fun _ a ea=>by cases ea;exact nH⟩
theorem V6{fi:SS W->R W (List D)}{p:D->SS W->Option (SS W)}{t:SS W->R W Bool}{f:SS W->R W D}(nd:ix.Nodup)(kp:v8 p)(hsub:∀i∈capO T.length ix O,i∈O1)(hsup:∀i∈O1,i∈capO T.length ix O)
  (q:tO X E O (j6 T.length ix fi p t f) g c fp σ H Q):JH (fun σ H Rr=>∃g c fp,tIC X E O fi g c fp σ H Rr) (gDA W X.K (capO T.length ix O) p O1) (tNA X.K O1 t) (tNE X.K O1 f) T ix σ H Q:=⟨g,c,fp,Jy nd kp hsub hsup q⟩
section
variable{elt tg iter:Expr}{ifs:fQ}{scope:Scope}{cl:List (Str×Addr)}{T caps:fP}{ix:List Nat}{fi:SS W->R W (List D)}{p:D->SS W->Option (SS W)}{t:SS W->R W Bool}{f:SS W->R W D}
theorem uE(hg:∀E C s H fp,DG W E (qz X scope cl (T++caps) C s H fp) (capO T.length ix O) tg p O1):∀C s H fp,PG (qz X scope cl (T++caps) C s H fp) tg (gDA W X.K (capO T.length ix O) p O1):=fun C s H fp pins s' σ H' v u Q I r⟨E,q⟩=>hg E C s H fp pins s' σ H' v u Q I r q
theorem uD(ht:∀E C s H fp,DTs W E (qz X scope cl (T++caps) C s H fp) O1 ifs t):∀C s H fp,PTs (qz X scope cl (T++caps) C s H fp) ifs (tNA X.K O1 t):=fun C s H fp pins s' σ H' Q I⟨E,g,c,fp',q⟩=>ht E C s H fp pins s' σ H' Q I ⟨g,c,fp',tN.tG (X:=qz X scope cl (T++caps) C s H fp) q⟩
theorem uF(he:∀E C s H fp,DE W E true (qz X scope cl (T++caps) C s H fp) O1 elt f):∀C s H fp,PE (qz X scope cl (T++caps) C s H fp) elt (tNE X.K O1 f):=fun C s H fp pins s' σ H' Q I⟨E,g,c,fp',q⟩=>he E C s H fp pins s' σ H' Q I ⟨g,c,fp',tN.tG (X:=qz X scope cl (T++caps) C s H fp) q⟩
theorem VX(Ok:CompOk X scope cl T caps ix)(hc:X.calm=true)(nd:ix.Nodup)(kp:v8 p)(hi:DIC W E X O tg iter fi)(hg:∀E C s H fp,DG W E (qz X scope cl (T++caps) C s H fp) (capO T.length ix O) tg p O1)(hsub:∀i∈capO T.length ix O,i∈O1)(hsup:∀i∈O1,i∈capO T.length ix O)
  (ht:∀E C s H fp,DTs W E (qz X scope cl (T++caps) C s H fp) O1 ifs t)(he:∀E C s H fp,DE W E true (qz X scope cl (T++caps) C s H fp) O1 elt f)(hs:∀x,foldedSetIterable iter X.env x=pure x:=by intro _;rfl) :
  DO W E X O (.ListComp elt [⟨tg,iter,ifs,0⟩] scope pos) (j6 T.length ix fi p t f):=qN (Zp Ok hc hi (uE hg) (uD ht) (uF he) hs) fun σ H Q⟨g,c,fp,q⟩=>V6 nd kp hsub hsup q
theorem xz{i:Nat}{y:Str}{spos py:Pos}(hN:X.N.Nodup)(hi':X.N[i]?=some y)(hx:Loc X.env.scope y)(Ok:CompOk X scope cl T caps ix)(hc:X.calm=true)(nd:ix.Nodup)(kp:v8 p)(hi:DIC W E X O tg iter fi)(hg:∀E C s H fp,DG W E (qz X scope cl (T++caps) C s H fp) (capO T.length ix O) tg p O1)(hsub:∀i∈capO T.length ix O,i∈O1)(hsup:∀i∈O1,i∈capO T.length ix O)
  (ht:∀E C s H fp,DTs W E (qz X scope cl (T++caps) C s H fp) O1 ifs t)(he:∀E C s H fp,DE W E true (qz X scope cl (T++caps) C s H fp) O1 elt f)(hs:∀x,foldedSetIterable iter X.env x=pure x:=by intro _;rfl)
  (hsw:swapsWith (.ListComp elt [⟨tg,iter,ifs,0⟩] scope pos) (some (.Name y py)) spos.line X.env=pure true:=by rfl)(hf:X.fn y=true\/X.env.scope.names.lookup y=some .local:=by first|exact .inl rfl|exact .inr rfl|assumption) :
  DS W E fr OL X O (.Assign [.Name y py] (.ListComp elt [⟨tg,iter,ifs,0⟩] scope pos) spos) (sSet i (j6 T.length ix fi p t f)) (i::O):=zR (yg hN hi' hx Ok hc hi (uE hg) (uD ht) (uF he) hs hsw hf) fun D σ H⟨g,c,fp,q⟩=>V6 nd kp hsub hsup (q.bindO fun d b v H1 c1 fp1 F1 o1 nw q1=>q1.2 _ _ c1 fp1 (q1.1.setO o1 fun j e y hj hg hm hy hd=>by
   rintro rfl;obtain⟨z,hz,ow⟩:=q.1.own j e hj hg;cases hy.symm.trans hz;obtain⟨a,u,rfl,_⟩:=wH o1 hd;exact Zq ow hm rfl (nw hd a rfl)) (.refl _))
end
end
section
variable{prog:Program}{w:World}{A:Around}{R:Result->Shared->Prop}{it:Addr}{fs ws:fL}{n:Nat}{Pv:Nat->Value->Prop}{St:Nat->Heap->Prop}
theorem Vi(Wk:Walks prog w A.in1 it fs ws n Pv St)(G:Shared->Prop)(z:Addr)(hz:z∉fs)(kG:∀(t:Shared)(h2:Heap)(tk:Nat),G t->(∀q o,q∉ws->q≠z->t.heap.get? q=some o->h2.get? q=some o)->G { t with heap:=h2,toks:=tk })(bt:Nat->Nat->Bool)
  (cmp:∀i j u v(t:Shared)(Q:fJ)(E:fJ),Pv i u->Pv j v->G t->Q (.bool (bt i j)) t->wpAny (model prog w) A.in1 (richCompare .Lt u v) Q E t)(pos:0<n) :
  ∀(left j:Nat)(s:Shared)(its:fO)(ep:Nat),j+left=n->St j s.heap->G s->((j=0/\its=#[])\/∃u,0<j/\Pv (argBest bt (j - 1)) u/\its=#[u,u])->s.heap.get? z=some { cls:=.type "list",dict:=none,data:=.seq its ep,slots:=#[] }->
  (∀v h2 tk,Pv (argBest bt (n - 1)) v->G { s with heap:=h2,toks:=tk }->(∀q o,q∉ws->q≠z->s.heap.get? q=some o->h2.get? q=some o)->R (.ok (.ret v)) { s with heap:=h2,toks:=tk })->codeAny (model prog w) A (.builtin "min.loop" ⟨[.ref it,.none,.ref z],[]⟩) R s:=by
 have zw:z∉ws:=fun q=>hz (Wk.sub _ q)
 have nm:(toString "min"++toString ".loop":String)="min.loop":=by decide
 intro left
 induction left with
 |zero=>
  intro j s its ep hj st hG hb hS fin;obtain rfl:j=n:=by omega
  rcases hb with⟨e,_⟩|⟨u,_,hu,rfl⟩
  ·omega
  refine bO F.entry_min_loop ?_;rw[bu cP _];show wpAny _ A.in1 (seqItems? (.ref z) >>= _) _ _ s;refine af (wpAny_seqItems hS rfl ?_);show wpAny _ A.in1 (tryCatch (pyNext (.ref it)) _ >>= _) _ _ s;refine af (dI (Wk.done s _ _ st fun h1 tk k1=>?_));have hS1:=k1 z _ zw hS;show wpAny _ A.in1 (updateSeq z (fun _=>#[]) >>= _) _ _ _;refine af (wpAny_updateSeq hS1 rfl (af (wpAny_letGo (aw ?_))));have keep:∀q o,q∉ws->q≠z->s.heap.get? q=some o->(h1.update z (Obj.mapSeq fun _=>#[])).get? q=some o:=fun q o a1 a2 e=>(cR _ _ (bW a2)).trans (k1 q o a1 e)
  exact fin u _ tk hu (kG _ _ _ hG keep) keep
 |succ left ih=>
  intro j s its ep hj st hG hb hS fin;refine bO F.entry_min_loop ?_;rw[bu cP _];show wpAny _ A.in1 (seqItems? (.ref z) >>= _) _ _ s;refine af (wpAny_seqItems hS rfl ?_);have go:∀v h1 tk,Pv j v->St (j+1) h1->(∀q o,q∉ws->s.heap.get? q=some o->h1.get? q=some o)->∀(its2:fO)(ep2:Nat)(h2:Heap),(∀q o,q≠z->h1.get? q=some o->h2.get? q=some o)->h2.get? z=some { cls:=.type "list",dict:=none,data:=.seq its2 ep2,slots:=#[] }->
    (∃u,Pv (argBest bt j) u/\its2=#[u,u])->codeAny (model prog w) A (.builtin "min.loop" ⟨[.ref it,.none,.ref z],[]⟩) R { s with heap:=h2,toks:=tk }:=fun v h1 tk hP st1 k1 its2 ep2 h2 k2 hS2⟨u,hu,e2⟩=>by
   have keep:∀q o,q∉ws->q≠z->s.heap.get? q=some o->h2.get? q=some o:=fun q o a1 a2 e=>k2 q o a2 (k1 q o a1 e)
   refine ih (j+1) _ its2 ep2 (by omega) (Wk.frame _ _ _ st1 fun q hq o e=>k2 q o (fun y=>hz (y▸hq)) e) (kG _ _ _ hG keep) (.inr ⟨u,by omega,hu,e2⟩) hS2 fun v' h3 tk' hP' G3 k3=>?_
   exact fin v' h3 tk' hP' G3 fun q o a1 a2 e=>k3 q o a1 a2 (keep q o a1 a2 e)
  rcases hb with⟨rfl,rfl⟩|⟨u,j0,hu,rfl⟩
  ·show wpAny _ A.in1 (tryCatch (pyNext (.ref it)) _ >>= _) _ _ s
   refine af (dI (Wk.item 0 s _ _ pos st fun v h1 tk hP st1 k1=>?_));have hS1:=k1 z _ zw hS;show wpAny _ A.in1 (updateSeq z (fun _=>#[v,v]) >>= _) _ _ _;refine af (wpAny_updateSeq hS1 rfl ?_);rw[nm];exact aw ⟨cf cP _,go v h1 tk hP st1 k1 _ _ _ (fun q o a2 e=>(cR _ _ (bW a2)).trans e) (Heap.get?_update_self _ hS1 rfl) ⟨v,hP,rfl⟩⟩
  ·show wpAny _ A.in1 (tryCatch (pyNext (.ref it)) _ >>= _) _ _ s
   refine af (dI (Wk.item j s _ _ (by omega) st fun v h1 tk hP st1 k1=>?_));have hS1:=k1 z _ zw hS;have G1:G { s with heap:=h1,toks:=tk }:=kG _ _ _ hG fun q o a1 _ e=>k1 q o a1 e
   show wpAny _ A.in1 (tryCatch (holding [v,v] (richCompare .Lt v u >>= _)) _ >>= _) _ _ _;refine af (dI (bQ (af (cmp j (argBest bt (j - 1)) v u _ _ _ hP hu G1 ?_))));refine af (bQ (cv (af (wpAny_letGo (aw ?_)))));have eb:argBest bt j=if bt j (argBest bt (j - 1))=true then j else argBest bt (j - 1):=by
    obtain⟨i,rfl⟩:∃i,j=i+1:=⟨j - 1,by omega⟩;rfl
   cases hbt:bt j (argBest bt (j - 1))with
   |true=>
    rw[hbt,aF rfl]at eb;simp only[d4];refine af (wpAny_updateSeq hS1 rfl (af (wpAny_letGo ?_)));rw[nm];exact aw ⟨cf cP _,go v h1 tk hP st1 k1 _ _ _ (fun q o a2 e=>(cR _ _ (bW a2)).trans e) (Heap.get?_update_self _ hS1 rfl) ⟨v,by rw[eb];exact hP,rfl⟩⟩
   |false=>
    rw[hbt,aG (by decide)]at eb;simp only[eN,fz];refine af (wpAny_letGo ?_);rw[nm];exact aw ⟨cf cP _,go v h1 tk hP st1 k1 _ _ h1 (fun q o _ e=>e) hS1 ⟨u,by rw[eb];exact hu,rfl⟩⟩
end
def xv(g:Bool)(ds:List D):Nat->Option Nat
 |0=>some 0
 |k+1=>match xv g ds k with
  |none=>none
  |some j=>match ds[k+1]?,ds[j]? with
   |some d,some e=>(match ordN g deep d e with|some true=>some (k+1)|some false=>some j|none=>none)
   |_,_=>none
def minD(g:Bool)(ds:List D):Option D:=if ds.isEmpty=true then none else(xv g ds (ds.length - 1)).bind fun j=>ds[j]?
def btD(g:Bool)(ds:List D)(i j:Nat):Bool:=match ds[i]?,ds[j]? with
 |some d,some e=>(match ordN g deep d e with|some true=>true|_=>false)
 |_,_=>false
theorem uH{g:Bool}{ds:List D}{i:Nat}{d e:D}{b:Bool}(h1:ds[i]?=some d)(h2:ds[j]?=some e)(h:ordN g deep d e=some b):btD g ds i j=b:=by
 unfold btD;rw[h1,h2];simp only[h];cases b <;> rfl
theorem JW{prog:Program}{w:World}{A:Around}{E:fJ}{s:Shared}{l:Addr}{its:fO}{Q:fJ}(hl:s.heap.IsList l its)
  (h:∀t:Shared,t={ s with heap:=s.heap.push { cls:=.type "list_iterator",data:=.fields #[.ref l,.int 0 0] } }->(t.heap.IsListIter s.heap.objs.size l 0/\t.heap.IsList l its)->(∀q∈[s.heap.objs.size,l],q<t.heap.objs.size)->l≠s.heap.objs.size->Q (.ref s.heap.objs.size) t) :
  wpAny (model prog w) A (pyIter (.ref l)) Q E s:=by
 have lt:l<s.heap.objs.size:=by obtain⟨_,e,_⟩:=hl;exact ao e
 refine dC hl (h _ rfl ⟨⟨_,aB _ rfl,rfl,rfl⟩,hl.push _⟩ (fun q hq=>?_) (aq lt));have sz:(s.heap.push { cls:=.type "list_iterator",data:=.fields #[.ref l,.int 0 0] }).objs.size=s.heap.objs.size+1:=bZ ..;show q<(s.heap.push _).objs.size;rw[sz];simp only[aj,ax,cK]at hq;rcases hq with rfl|rfl
 ·exact bV _
 ·exact cZ lt
theorem JC{g:Bool}{ds:List D}:∀{k j:Nat},xv g ds k=some j->argBest (btD g ds) k=j
 |0,j,h=>by cases h;rfl
 |k+1,j,h=>by
  unfold xv at h;cases e1:xv g ds k with
  |none=>simp only[e1]at h;cases h
  |some i=>
   simp only[e1]at h;have ih:=JC e1;cases e2:ds[k+1]? with
   |none=>simp only[e2]at h;cases h
   |some d=>
    cases e3:ds[i]? with
    |none=>simp only[e2,e3]at h;cases h
    |some e=>
     simp only[e2,e3]at h;show(if btD g ds (k+1) (argBest (btD g ds) k)=true then k+1 else argBest (btD g ds) k)=j;rw[ih];cases e4:ordN g deep d e with
     |none=>simp only[e4]at h;cases h
     |some q=>
      cases q with
      |true=>
       simp only[e4]at h;cases h;rw[uH e2 e3 e4,aF rfl]
      |false=>
       simp only[e4]at h;cases h;rw[uH e2 e3 e4,aG (by decide)]
section
variable{W:Wo}{K:fH}{X:Cx}{E:En}{O:List Nat}{g:SS W}{σ:L2.St}{H:Hp}{c:Co}{fp:fL}{m:Bool}{pos:Pos}{e:Expr}{es:fQ}{fs:SS W->R W (List D)}
theorem Xb(hcm:X.calm=true)(hu:X.A.units+40<cLine):CallR X (.builtin "min") (fun vs H Q=>∃c a xs ds d,vs=[.ref a]/\Same c.h H/\SqL X.K H a xs/\Reps X.K c xs ds/\minD true ds=some d/\(∀d∈ds,∀e∈ds,∃b,ordN true deep d e=some b)/\∀v,Rep X.K c v d->Q v H):=by
 rintro pins s σ H vs us Q I r ⟨c,a,xs,ds,d,rfl,hs,sq,rs,hmin,hall,q⟩;obtain⟨u,rfl,ru⟩:=eW r;cases (show u=Value.ref a from ru);obtain⟨its,vr,pl,hz⟩:=I.list sq;have lds:its.toArray.size=ds.length:=by rw[ah,<- vr.length,rs.l]
 unfold minD at hmin
 split at hmin
 ·cases hmin
 rename_i hne;cases hb:xv true ds (ds.length - 1)with
 |none=>rw[hb]at hmin;cases hmin
 |some j=>
 rw[hb]at hmin;have hmin:ds[j]?=some d:=hmin;have pos:0<ds.length:=by
  cases ds with
  |nil=>exact absurd rfl hne
  |cons=>simp
 have bt:argBest (btD true ds) (its.toArray.size - 1)=j:=by rw[lds];exact JC hb
 refine call_function_tree F.kind_min F.plain_min F.entry_min (F.args_min1 _) ?_;show wpAny _ X.A.in1 (Builtin.Builtins.bindParams "min" ["key","default"] 0 ⟨[],[]⟩ >>= _) _ _ s;refine af (wpAny_of_eq (show Builtin.Builtins.bindParams "min" ["key","default"] 0 ⟨[],[]⟩=pure [none,none] from rfl) (af (aw (af ?_))));refine JW pl.isList fun s2 e2 st hfp hlI=>?_
 subst e2;refine af (bX ?_);have nm:(toString "min"++toString ".loop":String)="min.loop":=by decide
 rw[nm];have Wk:=Walks.list (prog:=X.prog) (w:=X.w) (A:=X.A.in1) (by exact I.ok.hd hcm) s.heap.objs.size a hlI its.toArray;have old:∀b o,s.heap.get? b=some o->b<s.heap.objs.size:=fun b o e=>ao e
 have kGs:∀(t:Shared)(h2:Heap)(tk:Nat),(∃h tk,t={ s with heap:=h,toks:=tk }/\∀b o,s.heap.get? b=some o->h.get? b=some o)->(∀q o,q∉[s.heap.objs.size]->q≠(s.heap.push { cls:=.type "list_iterator",data:=.fields #[.ref a,.int 0 0] }).objs.size->t.heap.get? q=some o->h2.get? q=some o)->∃h tk',({ t with heap:=h2,toks:=tk }:Shared)={ s with heap:=h,toks:=tk' }/\∀b o,s.heap.get? b=some o->h.get? b=some o:=by
  rintro t h2 tk ⟨h1,tk1,rfl,k1⟩ k2;refine⟨h2,tk,rfl,fun b o e=>k2 b o (fun z=>?_) (fun z=>?_) (k1 b o e)⟩
  ·have:=old b o e
   rw[au.mp z]at this;exact bH _ this
  ·have:=old b o e
   rw[z,bZ]at this;exact bH _ (bb this (bV _))
 refine aw ⟨cf cP _,Vi Wk (fun t=>∃h tk,t={ s with heap:=h,toks:=tk }/\∀b o,s.heap.get? b=some o->h.get? b=some o) _ (fun z=>bH _ (hfp _ z)) kGs (btD true ds) (fun i k u v t Q' E' hi hk hG hq=>?_) (by rw[lds];exact pos) its.toArray.size 0 _ #[] _ (by omega) (Wk.frame 0 _ _ st fun b _ o e=>ae _ e) ⟨_,_,rfl,fun b o e=>ae _ (ae _ e)⟩ (.inl ⟨rfl,rfl⟩) (aB _ rfl) fun v h2 tk hP hG _=>?_⟩
 ·obtain⟨x1,g1,w1⟩:=jh vr (j:=i) (u:=u) (by simpa using hi)
  obtain⟨x2,g2,w2⟩:=jh vr (j:=k) (u:=v) (by simpa using hk);obtain⟨d1,e1,r1⟩:=rs.atV g1;obtain⟨d2,e2,r2⟩:=rs.atV g2;obtain⟨b,hb'⟩:=hall d1 (ay e1) d2 (ay e2);rw[uH e1 e2 hb']at hq;obtain⟨h,tk,rfl,hG⟩:=hG;exact Jd (I.kept (t':=tk) hG) hs true deep X.A.in1 x1 x2 u v d1 d2 b (x8 hu) r1 r2 w1 w2 hb' X.prog X.w E' Q' hq
 ·rw[bt]at hP
  obtain⟨x1,g1,w1⟩:=jh vr (j:=j) (u:=v) (by simpa using hP);obtain⟨d1,e1,r1⟩:=rs.atV g1;rw[hmin]at e1;cases e1;obtain⟨h3,tk3,e3,k3⟩:=hG;have e4:h2=h3:=bC Shared.heap e3;subst e4;exact⟨x1,H,I.kept (t':=tk) k3,w1,q x1 r1⟩
end
end M
namespace X2
open PySem PySem.Spec PyProof.Rows L2
variable{ts:fP}{X:Cx}
section
variable{X:Cx}
def tRev(K:fH)(te ts:TE):TE:=fun σ H Q=>te σ H fun x H1=>ts σ H1 fun y H2=>y=.int (-1)/\∃a xs,x=.ref a/\SqL K H2 a xs/\∀p,H2 p=none->Q (.ref p) (upd H2 p (.lst xs.reverse))
theorem qam{e st:Expr}{te ts:TE}{p2 pos:Pos}(he:PE X e te)(hst:PE X st ts)(hsb:∀o i,∃ops,subscripted (.Slice none none (some st) p2) false o i=operate ops (getItem o i):=by intro o i;exact⟨_,by with_unfolding_all rfl⟩):PE X (.Subscript e (.Slice none none (some st) p2) pos) (tRev X.K te ts):=by
 intro pins s σ H Q I h;refine eQ (thn (he pins s σ H _ I h) fun v s1⟨x,H1,I1,r1,q1⟩=>?_);refine wpAny_Slice ?_;rw[evalPart_none];refine aw (aw ?_);show wpAny (model X.prog X.w) X.A (eval st X.env) _ X.xe s1;refine thn (hst pins s1 σ H1 _ I1 q1) fun vk s3⟨y,H3,I3,r3,q3⟩=>?_
 obtain⟨rfl,a,xs,rfl,hx,q⟩:=q3;obtain⟨tk,rfl⟩:=r3;cases (show v=Value.ref a from r1);have I4:Inv X pins σ H3 { s3 with heap:=s3.heap.push { cls:=.type "slice",data:=.fields #[.none,.none,.int (-1) tk] } }:=I3.kept (t':=s3.toks) fun b ob q=>ae _ q
 obtain⟨its,r,ht,hz⟩:=I4.list hx;have hlen:=r.length;show wpAny (model X.prog X.w) X.A (subscriptTail e (.Slice none none (some st) p2) (.ref a) (.ref s3.heap.objs.size)) (EP X pins σ Q) X.xe { s3 with heap:=s3.heap.push { cls:=.type "slice",data:=.fields #[.none,.none,.int (-1) tk] } };obtain⟨ops,hops⟩:=hsb (.ref a) (.ref s3.heap.objs.size);refine tail_any (ops:=ops) ht.isList.typeIs eS.lookup (wpAny_getItem_list_slice ht.isList (Heap.IsSliceOf.new ..) .none .none (.int (-1) tk) (by decide) ?_ (by rw[ah] <;> omega)) hops;rw[PySem.W.krv_pick];refine⟨.ref _,_,I4.laid (t':=s3.toks) (o:=.lst xs.reverse) (fun b ob q=>ae _ q) (ak _) ?_,rfl,q _ (I4.hok.fresh (ak _))⟩;exact⟨by rw[List.length_reverse];exact hz,_,0,r.reverse,aB _ rfl⟩
theorem QZ:CallR X (.type "dict") (fun xs H Q=>∃a kvs,xs=[.ref a]/\H a=some (.dK kvs)/\∀p,H p=none->Q (.ref p) (upd H p (.dK kvs))):=by
 intro pins s σ H xs us Q I r h;obtain⟨a,kvs,rfl,ha,q⟩:=h;obtain⟨u,rfl,ru⟩:=eW r;cases (show u=Value.ref a from ru);exact WC I (.inl ha) fun p s' hp J=>⟨.ref p,_,J,rfl,q p hp⟩
theorem xC:∀{texts:fP}{us:fM},Vals (texts.map V.str) us->∃l:List (Str×Tok),us=strValues l/\l.map (·.1)=texts
 |[],_,.nil=>⟨[],rfl,rfl⟩
 |x::r,_,.cons ⟨t,e⟩ q=>by
  obtain⟨l,h1,h2⟩:=xC q;subst e h1 h2;exact⟨(x,t)::l,rfl,rfl⟩
theorem Y7:MtR X "str.join" (fun x xs H Q=>∃sep p texts,x=.str sep/\xs=[.ref p]/\H p=some (.lst (texts.map V.str))/\JoinOk sep texts=true/\Q (.str (Txt.join sep texts)) H):=by
 intro pins s σ H x xs v us Q I rx rv h;obtain⟨sep,p,texts,rfl,rfl,hp,ok,q⟩:=h;obtain⟨t,rfl⟩:=rx;obtain⟨u,rfl,ru⟩:=eW rv;cases (show u=Value.ref p from ru);obtain⟨its,r,pl,_⟩:=I.list (SqL.of (K:=X.K) hp);obtain⟨l,rfl,h2⟩:=xC r;exact SC.join pl.isList h2 ok fun t' k=>⟨.str _,H,I.tok _,⟨t',rfl⟩,q⟩
end
theorem kn{scope:Scope}{cl:List (Str×Addr)}{T caps:fP}{ix:List Nat}(kind:scope.kind=.function)(clos:closureFor scope X.env=pure cl)(nocell:∀y∈scope.names,y.2≠.cell)
  (names:∀y∈scope.names,y.2=.local->scope.names.lookup y.1=some .local)(ixs:ix.map (fun i=>X.N[i]?)=caps.map some)
  (capk:∀x∈caps,(relabel scope X.env).names.lookup x=some .cell/\X.env.scope.names.lookup x=some .cell/\cl.lookup x=X.env.cells.lookup x)
  (has:((relabel scope X.env).names.all fun p=>match p.2 with|.cell=>(cl.lookup p.1).isSome|.free=>(cl.lookup p.1).isSome|_=>true)=true)
  (sub:∀p∈cl,X.env.cells.lookup p.1=some p.2):CompOk X scope cl T caps ix:=by
 refine⟨kind,clos,nocell,names,ixs,capk,fun x h=>?_,fun x c h=>sub (x,c) (bS h)⟩;rcases h with h|h
 ·have q:=bG.mp has _ (bS h)
  exact cA.mp q
 ·have q:=bG.mp has _ (bS h)
  exact cA.mp q
theorem ue(K:fH)(h:X.K=K):IxR X (rIxT K):=by subst h;exact ix_tup
theorem Yu(k:Nat)(p3 p4 p2:Pos)(o i:Value):∃ops,subscripted (.Slice none none (some (.UnaryOp .USub (.Constant (.int 1) k p3) p4)) p2) false o i=operate ops (getItem o i):=⟨_,by with_unfolding_all rfl⟩
section
variable{X:Cx}{tg:Expr}
end
section
variable{prog:Program}{w:World}{A:Around}{E:fJ}{s:Shared}
end
theorem qcp{α:Type}{xs:List α}{i:Int}(h0:0<=i)(h1:i<xs.length):∃v,atI xs i=some v:=by
 obtain⟨k,rfl⟩:=bI h0;have hk:k<xs.length:=by omega
 exact⟨xs[k],y3 (aa hk)⟩
def abc:Str:="abcdefghijklmnopqrstuvwxyz"
def abc9:Str:=(abc++("0123456789":Str))
theorem Xr:abc.cps.toList.length=26:=by decide +kernel
theorem WJ:abc9.cps.toList.length=36:=by decide +kernel
theorem ub(h:∀t∈ts,t.length=1)(hl:ts.length<=20):JoinOk ("":Str) ts=true:=by
 unfold JoinOk;have e:=PySem.StrLaws.joinFits (sep:=("":Str)) (texts:=ts) (B:=1) (fun y hy=>by rw[h y hy];exact ak _) (by
  have z:("":Str).length=0:=by decide +kernel
  rw[z];omega)
 rw[e];rfl
theorem Wi(h:∀t∈ts,t.length=1):(Txt.join ("":Str) ts).length=ts.length:=by
 have z:("":Str).length=0:=by decide +kernel
 have e:=size_glued ("":Str) ts;rw[z,Nat.mul_zero,Nat.add_zero]at e;refine e.trans ?_;clear e
 induction ts with
 |nil=>rfl
 |cons t r ih=>
  rw[aA,List.sum_cons,bz,h t (aj.mpr (.inl rfl)),ih fun t ht=>h t (aj.mpr (.inr ht))];omega
def qb9(H:Hp)(q:Addr)(n:Int)(a b:Str)(l c:Int):Prop:=H q=some (.tup [.int n,.str a,.str b,.int l,.int c])
section
variable{X:Cx}{pins:fI}{σ:L2.St}{H:Hp}{s:Shared}{h':Heap}
end
end X2
namespace M
open PySem PySem.Spec PyProof.Rows L2 X2
variable{Q:VK}{p2:Pos}
section
variable{W:Wo}{K:fH}{X:Cx}{E:En}{O O' O1 O2 OL:List Nat}{g:SS W}{b:W.BS}{σ:L2.St}{H H':Hp}{c c':Co}{fp fp':fL}{fr:Bool}{m m1 m2:Bool}{pos:Pos}{e a:Expr}{es:fQ}
variable{fa fb fe:SS W->R W D}{fs:SS W->R W (List D)}{ta tb:SS W->R W Bool}
theorem OpR.or{f:Value->Value->Sem Value}{r r':R2}(h:OpR X f r)(h':OpR X f r'):OpR X f (fun x y H Q=>r x y H Q\/r' x y H Q):=fun pins s σ H x y v u Q I rx ry q=>q.elim (h pins s σ H x y v u Q I rx ry) (h' pins s σ H x y v u Q I rx ry)
def addD:D->D->Option D
 |.int i,.int j=>some (.int (i+j))
 |.str x,.str y=>if x.length+y.length<=1000000 then some (.str (x++y))else none
 |.lst xs,.lst ys=>if xs.length+ys.length<=big then some (.lst (xs++ys))else none
 |.tup xs,.tup ys=>if xs.length+ys.length<=big/\xs.isEmpty=false then some (.tup (xs++ys))else none
 |_,_=>none
def qad(X:Cx):R2:=fun x y H Q=>(rI0 fun i j=>.int (i+j)) x y H Q\/(∃i j,x=.str i/\y=.str j/\i.length+j.length<=sizeLine/\Q (.str (i++j)) H)\/rCat x y H Q\/qac X.K x y H Q
theorem Y2:OpR X (binaryOp .Add) (qad X):=OpR.or Jf (OpR.or JO (OpR.or qau Y1))
theorem uK{x y:V}{dx dy d:D}(S:SE W E b H c fp)(rx:Rep X.K c x dx)(ry:Rep X.K c y dy)(h:addD dx dy=some d)(k1:∀v,Rep X.K c v d->ku d=false->Q v H)(k2:∀p us ds,d=.tup ds->H p=none->Reps X.K c us ds->Q (.ref p) (upd H p (.tup us)))(k3:∀p us ds,d=.lst ds->H p=none->Reps X.K c us ds->Q (.ref p) (upd H p (.lst us))):qad X x y H Q:=by
 have bl:big<=sizeLine:=by decide
 cases rx with
 |int i=>
  cases ry <;> first|cases h|skip
  exact .inl ⟨_,_,rfl,rfl,k1 _ (.int _) rfl⟩
 |str i=>
  cases ry with
  |str j=>
   obtain⟨hl,rfl⟩:=zM (show(if i.length+j.length<=1000000 then some (D.str (i++j))else none)=some d from h);exact .inr (.inl ⟨i,j,rfl,rfl,bj hl (by decide),k1 _ (.str _) rfl⟩)
  |_=>cases h
 |@lst p xs ds ex l r=>
  cases ry with
  |@lst p' xs' ds' ex' l' r'=>
   obtain⟨hl,rfl⟩:=zM (show(if ds.length+ds'.length<=big then some (D.lst (ds++ds'))else none)=some d from h);exact .inr (.inr (.inl ⟨p,p',xs,xs',rfl,rfl,S.all (m:=true) _ _ ex,S.all (m:=true) _ _ ex',by rw[l,l'];exact bj hl bl,fun q hq=>k3 q _ _ rfl hq (Reps.append ⟨l,r⟩ ⟨l',r'⟩)⟩))
  |_=>cases h
 |@tup p xs ds ex l r=>
  cases ry with
  |@tup p' xs' ds' ex' l' r'=>
   obtain⟨⟨hl,hn⟩,rfl⟩:=zM (show(if ds.length+ds'.length<=big/\ds.isEmpty=false then some (D.tup (ds++ds'))else none)=some d from h);refine .inr (.inr (.inr ⟨p,p',xs,xs',rfl,rfl,SqT.of (S.all (m:=true) _ _ ex),SqT.of (S.all (m:=true) _ _ ex'),?_,by rw[l,l'];exact bj hl bl,fun e0=>?_,fun _ q hq=>k2 q _ _ rfl hq (Reps.append ⟨l,r⟩ ⟨l',r'⟩)⟩))
   ·intro z;subst z
    cases ds with
    |nil=>cases hn
    |cons=>cases l
   ·subst e0
    cases ds' with
    |nil=>rw[c9]at k1;exact k1 _ (.tup ex l r) rfl
    |cons=>cases l'
  |_=>cases h
 |_=>cases h
theorem zi{b:Expr}(ha:DE W E true X O a fa)(hb:DE W E true X O b fb):DO W E X O (.BinOp a .Add b pos) (e2 addD fa fb):=
 qN (KR Y2 ha hb) fun σ H Q⟨g,c,fp,q⟩=>⟨g,c,fp,q.bind (rel:=Rep X.K) fun d b v H1 c1 fp1 S1 F1 r1 h1=>⟨_,c1,fp1,h1.bind (rel:=Rep X.K) fun d' b' v' H2 c2 fp2 S2 F2 r2 h2=>by
  obtain⟨z,ez,k⟩:=h2.opt;rw[ez]at h2;refine uK S2.toSE (r1.mono F2.le) r2 ez (fun u hu hm=>k u H2 c2 fp2 S2 .refl ?_ (fun z=>by rw[hm]at z;cases z)) (fun p us ds e hp rs=>?_) (fun p us ds e hp rs=>?_)
  ·cases z <;> first|exact hu|cases hm
  ·subst e
   exact k _ _ (c2.add p _) fp2 (S2.new hp rfl) (FR.new S2.toSE hp _) (Zk ql (rs.mono (Co.add_le (S2.toSE.free hp).1))) (fun z=>nomatch z)
  ·subst e
   exact h2.list rs p hp⟩⟩
def lenD:D->Option D
 |.lst ds=>some (.int ds.length)
 |.tup ds=>some (.int ds.length)
 |.scr ds=>some (.int ds.length)
 |.dic ds=>some (.int ds.length)
 |.str x=>if x.length<=1000000 then some (.int x.length)else none
 |_=>none
theorem CallR.or{f:Value}{r r':List V->Hp->VK->Prop}(h:CallR X f r)(h':CallR X f r'):CallR X f (fun xs H Q=>r xs H Q\/r' xs H Q):=fun pins s σ H xs us Q I rx q=>q.elim (h pins s σ H xs us Q I rx) (h' pins s σ H xs us Q I rx)
theorem len_rep{x:V}{dx d:D}(hs:Same c.h H)(rx:Rep X.K c x dx)(h:lenD dx=some d)(k:∀v,isAt d=some v->Q v H):(∃y n,[x]=[y]/\LenV X.K y H n/\Q (.int n) H)\/(∃a kvs,[x]=[V.ref a]/\H a=some (.dK kvs)/\Q (.int kvs.length) H):=by
 cases rx with
 |lst ex l r=>cases h;exact .inl ⟨_,_,rfl,.inl ⟨_,SqL.of (hs _ _ ex),rfl⟩,by rw[l];exact k _ rfl⟩
 |tup ex l r=>cases h;exact .inl ⟨_,_,rfl,.inr ⟨_,SqT.of (hs _ _ ex),rfl⟩,by rw[l];exact k _ rfl⟩
 |scr ex l r=>cases h;exact .inl ⟨_,_,rfl,.inl ⟨_,w5 hs ex,rfl⟩,by rw[l];exact k _ rfl⟩
 |str z=>
  obtain⟨hl,rfl⟩:=zM (show(if z.length<=1000000 then some (D.int z.length)else none)=some d from h);exact .inl ⟨_,_,rfl,⟨bj hl (by decide),rfl⟩,k _ rfl⟩
 |dic ex l nd r=>
  cases h;have hl:=bC List.length l;rw[ab,ab]at hl;exact .inr ⟨_,_,rfl,hs _ _ ex,by rw[hl];exact k _ rfl⟩
 |_=>cases h
theorem vN{p:Pos}(hg:Gl X "len")(hm:X.mg "len"=none)(ha:DE W E m X O a fa)(hs:starEach [a] X.env=(false,eval a X.env)::starEach [] X.env:=by rfl)(h2:(backTo pos (starEach [] X.env)).any (·.1)=false:=by rfl):DE W E true X O (.Call (.Name "len" p) [a] [] pos) (e1 lenD fa):=
 qN (z7 (CallR.or WE QY) hg hm PySem.boot_len (qA ha zx hs) (he:=hs)) fun σ H Q⟨g,c,fp,q⟩=>⟨g,c,fp,q.bind fun d b v H1 c1 fp1 S1 F1 r1 h1=>by
  obtain⟨z,ez,k⟩:=h1.opt;exact len_rep S1.toSE.all r1 ez fun u hu=>k u H1 c1 fp1 S1 .refl (JD hu)⟩
def cutD(xs:List D)(lo hi:Option Int):List D:=(xs.drop (HT.sIx xs.length 0 lo)).take (HT.sIx xs.length xs.length hi - HT.sIx xs.length 0 lo)
theorem Jx{xs:List V}{ds:List D}{lo hi:Option Int}(r:Reps K c xs ds):Reps K c (cutV xs lo hi) (cutD ds lo hi):=by
 unfold cutV cutD;rw[r.l];exact r.sub _ _
def DPo(W:Wo)(E:En)(X:Cx)(O:List Nat)(e:Option Expr)(f:SS W->R W (Option Int)):Prop:=PO X e fun σ H Q=>∃g c fp,tG X E (fun _(x:Option Int)(y:Option Int)=>x=y) true O f g c fp σ H Q
theorem KG{e:Option Expr}{t t':TO}(h:PO X e t)(w:∀σ H Q,t' σ H Q->t σ H Q):PO X e t':=fun pins s σ H Q I q=>h pins s σ H Q I (w σ H Q q)
def Zu:SS W->R W (Option Int):=eRet none
def xR(f:SS W->R W D):SS W->R W (Option Int):=qF f fun d=>eOpt (match d with|.int i=>some (some i)|_=>none)
theorem Jt:DPo W E X O none Zu:=KG YQ fun σ H Q⟨g,c,fp,q⟩=>q.ret none H c fp q.1 .refl rfl
theorem Js(h:DE W E m X O e fe):DPo W E X O (some e) (xR fe):=KG (YO h) fun σ H Q⟨g,c,fp,q⟩=>⟨g,c,fp,q.bind fun d b v H1 c1 fp1 S1 F1 r1 h1=>by
 obtain⟨z,ez,k⟩:=h1.opt;cases d with
 |int i=>cases ez;exact⟨i,zW r1,k _ H1 c1 fp1 S1 .refl rfl⟩
 |_=>cases ez⟩
def vM(f:SS W->R W D)(l u:SS W->R W (Option Int)):SS W->R W D:=qF f fun d=>qF l fun lo=>qF u fun hi=>eOpt (match d with
 |.lst ds=>some (.lst (cutD ds lo hi))
 |.tup ds=>if HT.sIx ds.length 0 lo=0/\HT.sIx ds.length ds.length hi=ds.length then none else some (.tup (cutD ds lo hi))
 |_=>none)
theorem Ju{lo hi:Option Expr}{l u:SS W->R W (Option Int)}(ha:DE W E true X O a fa)(hl:DPo W E X O lo l)(hu:DPo W E X O hi u):DO W E X O (.Subscript a (.Slice lo hi none p2) pos) (vM fa l u):=
 qN (XT (SlR.or Yx uW) ha hl hu) fun σ H Q⟨g,c,fp,q⟩=>⟨g,c,fp,q.bind (rel:=Rep X.K) fun d b v H1 c1 fp1 S1 F1 r1 h1=>⟨_,c1,fp1,h1.bind fun lo b' v' H2 c2 fp2 S2 F2 r2 h2=>⟨_,c2,fp2,h2.bind fun hi b3 v3 H3 c3 fp3 S3 F3 r3 h3=>by
  have r2:v'=lo:=r2;have r3:v3=hi:=r3;subst r2 r3;obtain⟨z,ez,k⟩:=h3.opt;have rx:=(r1.mono F2.le).mono F3.le;cases rx with
  |@lst p xs ds ex ll rr=>
   cases ez;exact .inl ⟨p,xs,rfl,SqL.of (S3.toSE.all (m:=true) _ _ ex),fun q hq=>h3.list (Jx ⟨ll,rr⟩) q hq⟩
  |@tup p xs ds ex ll rr=>
   have ez:(if HT.sIx ds.length 0 v'=0/\HT.sIx ds.length ds.length v3=ds.length then none else some (D.tup (cutD ds v' v3)))=some z:=ez
   split at ez
   ·cases ez
   ·rename_i hw
    cases ez;exact .inr ⟨p,xs,rfl,SqT.of (S3.toSE.all (m:=true) _ _ ex),by rw[ll];exact hw,fun q hq=>k _ _ (c3.add q _) fp3 (S3.new hq rfl) (FR.new S3.toSE hq _) (Zk ql ((Jx ⟨ll,rr⟩).mono (Co.add_le (S3.toSE.free hq).1))) (fun z=>nomatch z)⟩
  |_=>cases ez⟩⟩⟩
def eRev(f s:SS W->R W D):SS W->R W D:=qF f fun d=>qF s fun k=>eOpt (match d,k with
 |.lst ds,.int i=>if i=-1 then some (.lst ds.reverse)else none
 |_,_=>none)
theorem qby{st:Expr}{fk:SS W->R W D}(ha:DE W E true X O a fa)(hk:DE W E m X O st fk)(hsb:∀o i,∃ops,subscripted (.Slice none none (some st) p2) false o i=operate ops (getItem o i)):DO W E X O (.Subscript a (.Slice none none (some st) p2) pos) (eRev fa fk):=
 qN (qam ha hk hsb) fun σ H Q⟨g,c,fp,q⟩=>⟨g,c,fp,q.bind (rel:=Rep X.K) fun d b v H1 c1 fp1 S1 F1 r1 h1=>⟨_,c1,fp1,h1.bind (rel:=Rep X.K) fun d' b' v' H2 c2 fp2 S2 F2 r2 h2=>by
  obtain⟨z,ez,k⟩:=h2.opt;have rx:=r1.mono F2.le;cases rx with
  |@lst p xs ds ex ll rr=>
   cases d' with
   |int i=>
    obtain⟨rfl,rfl⟩:=zM (show(if i=-1 then some (D.lst ds.reverse)else none)=some z from ez);exact⟨zW r2,p,xs,rfl,SqL.of (S2.toSE.all (m:=true) _ _ ex),fun q hq=>h2.list (Reps.reverse ⟨ll,rr⟩) q hq⟩
   |_=>cases ez
  |_=>cases ez⟩⟩
def Qs(d:D):Option D:=(Yy d).map .lst
theorem vY{p:Pos}(hg:Gl X "list")(hm:X.mg "list"=none)(ha:DE W E true X O a fa)(hs:starEach [a] X.env=(false,eval a X.env)::starEach [] X.env:=by rfl):DO W E X O (.Call (.Name "list" p) [a] [] pos) (e1 Qs fa):=
 qN (kI QX hg hm yR (qA ha zx hs) (he:=hs)) fun σ H Q⟨g,c,fp,q⟩=>⟨g,c,fp,q.bind (rel:=Rep X.K) fun d b v H1 c1 fp1 S1 F1 r1 h1=>by
  obtain⟨z,ez,k⟩:=h1.opt;have r1:Rep X.K c1 v d:=r1;unfold Qs at ez h1;cases r1 with
  |lst ex l r=>cases ez;exact⟨_,_,rfl,.inl (SqL.of (S1.toSE.all (m:=true) _ _ ex)),fun q hq=>h1.list ⟨l,r⟩ q hq⟩
  |tup ex l r=>cases ez;exact⟨_,_,rfl,.inr (SqT.of (S1.toSE.all (m:=true) _ _ ex)),fun q hq=>h1.list ⟨l,r⟩ q hq⟩
  |_=>cases ez⟩
def minO(gb:Bool)(d:D):Option D:=match d with
 |.lst ds=>if ds.all (fun d=>ds.all fun e=>(ordN gb deep d e).isSome)=true then minD gb ds else none
 |_=>none
theorem qa6{gb:Bool}{x:V}{dx d:D}(hs:Same c.h H)(rx:Rep X.K c x dx)(h:minO gb dx=some d):∃a xs ds,[x]=[V.ref a]/\SqL X.K H a xs/\Reps X.K c xs ds/\minD gb ds=some d/\(∀d∈ds,∀e∈ds,∃b,ordN gb deep d e=some b):=by
 cases rx with
 |@lst p xs ds ex l r=>
  have h:(if ds.all (fun d=>ds.all fun e=>(ordN gb deep d e).isSome)=true then minD gb ds else none)=some d:=h
  split at h
  ·rename_i ha
   refine⟨p,xs,ds,rfl,SqL.of (hs _ _ ex),⟨l,r⟩,h,fun d hd e he=>?_⟩;exact cA.mp (bG.mp (bG.mp ha d hd) e he)
  ·cases h
 |_=>cases h
theorem Xg:bootBuiltins "min"=some (.builtin "min"):=by decide +kernel
theorem Jw{p:Pos}(hcm:X.calm=true)(hu:X.A.units+40<cLine)(hg:Gl X "min")(hm:X.mg "min"=none)(ha:DE W E m X O a fa)(hs:starEach [a] X.env=(false,eval a X.env)::starEach [] X.env:=by rfl):DE W E m X O (.Call (.Name "min" p) [a] [] pos) (e1 (minO true) fa):=
 qN (z7 (Xb hcm hu) hg hm Xg (qA ha zx hs) (he:=hs)) fun σ H Q⟨g,c,fp,q⟩=>⟨g,c,fp,q.bind fun d b v H1 c1 fp1 S1 F1 r1 h1=>by
  obtain⟨z,ez,k⟩:=h1.opt;obtain⟨z1,xs,ds,e1,e2,e3,e4,e5⟩:=qa6 S1.toSE.all r1 ez;exact⟨_,z1,xs,ds,z,e1,S1.toSE.all,e2,e3,e4,e5,fun u hu=>k u H1 c1 fp1 S1 .refl hu⟩⟩
def sAug(i:Nat)(op:D->D->Option D)(f:SS W->R W D):SS W->Ou W:=yb i fun d=>zZ f fun y=>sPut i (op d y)
theorem Yc{i:Nat}{x:Str}{op:Operator}{f:Int->Int->Int}{po:D->D->Option D}{pos':Pos}(hN:X.N.Nodup)(hi:X.N[i]?=some x)(hx:Loc X.env.scope x)(hO:i∉O)(he:DE W E m X O e fe)(ho:PIp X op (ipI f))(hpo:∀d y z,po d y=some z->∃p q,d=.int p/\y=.int q/\z=.int (f p q))
  (hf:X.fn x=true\/X.env.scope.names.lookup x=some .local:=by first|exact .inl rfl|exact .inr rfl|assumption):DS W E fr OL X O (.AugAssign (.Name x pos') op e pos) (sAug i po fe) O:=zR (qaf hN hi hx he ho hf) fun Dn σ H⟨g,c,fp,q⟩=>by
 obtain⟨d,hg,q1⟩:=q.recv;obtain⟨v,hv,r⟩:=q.1.frz i d hO hg;refine⟨v,hv,g,c,fp,q1.bind fun y b vy H1 c1 fp1 F1 r1 q2=>?_⟩;obtain⟨z,ez,k⟩:=q2.put;obtain⟨p,q',rfl,rfl,rfl⟩:=hpo _ _ _ ez;cases zW r;refine⟨p,q',rfl,zW r1,k _ H1 c1 fp1 ((q2.1.set (.int _)).congr fun j=>?_) (.refl _)⟩;simp only[aY,ne_eq,decide_not,dO,fD,cJ];exact⟨fun h=>h.1,fun h=>⟨h,fun z=>hO (z▸h)⟩⟩
theorem qai:∀d y z,addI d y=some z->∃p q,d=.int p/\y=.int q/\z=.int (p+q):=fun d y z h=>by obtain⟨i,j,rfl,rfl⟩:=jJ h;cases h;exact⟨_,_,rfl,rfl,rfl⟩
theorem qah:∀d y z,subI d y=some z->∃p q,d=.int p/\y=.int q/\z=.int (p - q):=fun d y z h=>by obtain⟨i,j,rfl,rfl⟩:=jJ h;cases h;exact⟨_,_,rfl,rfl,rfl⟩
def tyD:D->Option String
 |.non=>some "NoneType"|.bl _=>some "bool"|.int _=>some "int"|.str _=>some "str"|.tup _=>some "tuple"|.lst _=>some "list"|.dic _=>some "dict"|.dit _=>some "dict"|_=>none
theorem J9{x:V}{d:D}{n:String}(hs:Same c.h H)(r:Rep K c x d)(h:tyD d=some n):TyOf K H x (.type n):=by
 cases r with
 |non=>cases h;exact .non
 |bl b=>cases h;exact .bl b
 |int i=>cases h;exact .int i
 |str x=>cases h;exact .str x
 |tup e l r=>cases h;exact .tup (hs _ _ e)
 |lst e l r=>cases h;exact .lst (hs _ _ e)
 |dic e l nd r=>cases h;exact .dK (hs _ _ e)
 |dit e l nd r=>cases h;exact .dT (hs _ _ e)
 |_=>cases h
def isiS(n t:String):Bool:=n == t || (n == "bool" && t == "int")
def isi1(t:String)(d:D):Option D:=(tyD d).map fun n=>.bl (isiS n t)
def isi2(t u:String)(d:D):Option D:=(tyD d).map fun n=>.bl (isiS n t || isiS n u)
structure IsiOk(K:fH)(t:String):Prop where
 ok:∀n,n∈["NoneType","bool","int","str","tuple","list","dict"]->PySem.W.kitOne K (.type n) (.type t)=some (isiS n t)
theorem J_{d:D}{n:String}(h:tyD d=some n):n∈["NoneType","bool","int","str","tuple","list","dict"]:=by
 cases d <;> cases h <;> decide
theorem QJ:IsiOk K "tuple":=⟨fun n hn=>by
 simp only[aj,ax,cK]at hn;rcases hn with rfl|rfl|rfl|rfl|rfl|rfl|rfl
 ·exact jU
 ·exact k8
 ·exact vF
 ·exact vD
 ·exact kL
 ·exact k6
 ·exact k7⟩
theorem Jl:IsiOk K "list":=⟨fun n hn=>by
 simp only[aj,ax,cK]at hn;rcases hn with rfl|rfl|rfl|rfl|rfl|rfl|rfl
 ·exact j5
 ·exact vH
 ·exact xh
 ·exact xg
 ·exact k5
 ·exact vE
 ·exact vG⟩
theorem xx:IsiOk K "bool":=⟨fun n hn=>by
 simp only[aj,ax,cK]at hn;rcases hn with rfl|rfl|rfl|rfl|rfl|rfl|rfl
 ·exact vW
 ·exact yu
 ·exact Qz
 ·exact Qw
 ·exact wx
 ·exact yr
 ·exact yt⟩
theorem VA:IsiOk K "int":=⟨fun n hn=>by
 simp only[aj,ax,cK]at hn;rcases hn with rfl|rfl|rfl|rfl|rfl|rfl|rfl
 ·exact xr
 ·exact QE
 ·exact ZE
 ·exact ZB
 ·exact yq
 ·exact Qy
 ·exact QB⟩
theorem uj:IsiOk K "str":=⟨fun n hn=>by
 simp only[aj,ax,cK]at hn;rcases hn with rfl|rfl|rfl|rfl|rfl|rfl|rfl
 ·exact xq
 ·exact QC
 ·exact ZD
 ·exact ZA
 ·exact yp
 ·exact Qx
 ·exact QA⟩
theorem jO{p:Pos}{t:String}{x:Str}(ok:IsiOk X.K t)(hg:Gl X "isinstance")(hm:X.mg "isinstance"=none)(hx:PE X (.Name x p2) (tC (.ty t)))(ha:DE W E m X O a fa)(hs:starEach [a,.Name x p2] X.env=(false,eval a X.env)::starEach [.Name x p2] X.env:=by rfl)(hs2:starEach [.Name x p2] X.env=(false,eval (.Name x p2) X.env)::starEach [] X.env:=by rfl)(h2:(backTo pos (starEach [.Name x p2] X.env)).any (·.1)=false:=by rfl) :
  DE W E true X O (.Call (.Name "isinstance" p) [a,.Name x p2] [] pos) (e1 (isi1 t) fa):=
 qN (z7 Xe hg hm vP (qA ha (qA hx zx hs2) hs) (he:=hs) (hpl:=h2)) fun σ H Q⟨g,c,fp,q⟩=>⟨g,c,fp,q.bind fun d b v H1 c1 fp1 S1 F1 r1 h1=>by
  obtain⟨z,ez,k⟩:=h1.opt;unfold isi1 at ez;cases e:tyD d with
  |none=>rw[e]at ez;cases ez
  |some n=>rw[e]at ez;cases ez;exact⟨v,t,_,_,rfl,J9 S1.toSE.all r1 e,ok.ok n (J_ e),k _ H1 c1 fp1 S1 .refl (.bl _)⟩⟩
theorem qbd{n:String}(h:n∈["NoneType","bool","int","str","tuple","list","dict"]):PySem.W.kitAny K (.type n) [.type "tuple",.type "list"]=some (isiS n "tuple" || isiS n "list"):=by
 simp only[aj,ax,cK]at h;rcases h with rfl|rfl|rfl|rfl|rfl|rfl|rfl
 ·exact xY
 ·exact ZG
 ·exact JV
 ·exact JU
 ·exact Qv
 ·exact ZC
 ·exact ZF
theorem Wy{p p3 p4:Pos}{k0:Nat}(hg:Gl X "isinstance")(hm:X.mg "isinstance"=none)(hx:PE X (.Name "tuple" p2) (tC (.ty "tuple")))(hy:PE X (.Name "list" p3) (tC (.ty "list")))(ha:DE W E m X O a fa)
  (hs:starEach [a,.Tuple [.Name "tuple" p2,.Name "list" p3] k0 p4] X.env=(false,eval a X.env)::starEach [.Tuple [.Name "tuple" p2,.Name "list" p3] k0 p4] X.env:=by rfl)(hs2:starEach [.Tuple [.Name "tuple" p2,.Name "list" p3] k0 p4] X.env=(false,eval (.Tuple [.Name "tuple" p2,.Name "list" p3] k0 p4) X.env)::starEach [] X.env:=by rfl)(h2:(backTo pos (starEach [.Tuple [.Name "tuple" p2,.Name "list" p3] k0 p4] X.env)).any (·.1)=false:=by rfl)
  (hs3:starEach [.Name "tuple" p2,.Name "list" p3] X.env=(false,eval (.Name "tuple" p2) X.env)::starEach [.Name "list" p3] X.env:=by rfl)(hs4:starEach [.Name "list" p3] X.env=(false,eval (.Name "list" p3) X.env)::starEach [] X.env:=by rfl) :
  DE W E true X O (.Call (.Name "isinstance" p) [a,.Tuple [.Name "tuple" p2,.Name "list" p3] k0 p4] [] pos) (e1 (isi2 "tuple" "list") fa):=
 qN (z7 Xd hg hm vP (qA ha (qA (KN (qA hx (qA hy zx hs4) hs3)) zx hs2) hs) (he:=hs) (hpl:=h2)) fun σ H Q⟨g,c,fp,q⟩=>⟨g,c,fp,q.bind fun d b v H1 c1 fp1 S1 F1 r1 h1=>by
  obtain⟨z,ez,k⟩:=h1.opt;unfold isi2 at ez;cases e:tyD d with
  |none=>rw[e]at ez;cases ez
  |some n=>
   rw[e]at ez;cases ez;refine⟨(by show 2<=sizeLine;decide),fun t nt=>?_⟩;have ty:=J9 (K:=X.K) S1.toSE.all r1 e;have ty2:TyOf X.K (upd H1 t (.tup [.ty "tuple",.ty "list"])) v (.type n):=J9 (S1.toSE.all.trans (zm nt _)) r1 e;exact⟨v,t,"tuple","list",n,_,rfl,ql,ty2,qbd (J_ e),k _ _ c1 fp1 (S1.newO nt) (FR.newO nt _) (.bl _)⟩⟩
def wq:List D->Option (fP)
 |[]=>some []
 |d::ds=>match d,wq ds with|.str x,some r=>some (x::r)|_,_=>none
theorem y_:∀{ds:List D}{xs:List V}{ts:fP},Reps K c xs ds->wq ds=some ts->xs=ts.map V.str
 |[],xs,ts,r,h=>by cases h;rw[r.unnil];rfl
 |d::ds,xs,ts,r,h=>by
  obtain⟨x,t,rfl,r1,r2⟩:=r.uncons;unfold wq at h;cases d with
  |str y=>
   cases e:wq ds with
   |none=>simp only[e]at h;cases h
   |some q=>simp only[e]at h;cases h;rw[zV r1,y_ r2 e];rfl
  |_=>cases h
def uc(s d:D):Option D:=match s,d with
 |.str x,.lst ds=>(wq ds).bind fun ts=>if JoinOk x ts=true then some (.str (Txt.join x ts))else none
 |_,_=>none
def VO(fa fb:SS W->R W D):SS W->R W D:=qF fa fun s=>match s with
 |.str x=>qF fb fun d=>eOpt (uc (.str x) d)
 |_=>fun _=>.bad
theorem uC{b:Expr}{apos cpos:Pos}(ha:DE W E m1 X O a fa)(hb:DE W E m2 X O b fb)(hbase:attributeBase a "join" X.env (eval a X.env)=eval a X.env:=by rfl)
  (hfew:((backTo cpos (starEach [b] X.env)).all (fun x=>!x.1) && (backToKw cpos (keywordEach [] X.env)).all (fun x=>x.1.isSome) && decide ([b].length+([]:List Keyword).length+(if([]:List Keyword).isEmpty then 0 else 1)<30))=true:=by rfl)
  (hline:(apos.endLine == cpos.line)=true:=by rfl)(hs:starEach [b] X.env=(false,eval b X.env)::starEach [] X.env:=by rfl)(hplain:(backTo cpos (starEach [] X.env)).any (·.1)=false:=by rfl):DE W E true X O (.Call (.Attribute a "join" apos) [b] [] cpos) (VO fa fb):=
 qN (qar PySem.F.plainAttrs_str PySem.F.slot_str_join PySem.F.type_str_join Y7 ha (qA hb zx hs) hbase hfew hline hs hplain) fun σ H Q⟨g,c,fp,q⟩=>⟨g,c,fp,q.bind fun d b v H1 c1 fp1 S1 F1 r1 h1=>by
  cases d with
  |str x=>
   cases zV r1;refine⟨rfl,_,c1,fp1,h1.bind fun d' b' v' H2 c2 fp2 S2 F2 r2 h2=>?_⟩;obtain⟨z,ez,k⟩:=h2.opt;cases r2 with
   |@lst p xs ds ex l r=>
    have ez:((wq ds).bind fun ts=>if JoinOk x ts=true then some (D.str (Txt.join x ts))else none)=some z:=ez;cases e:wq ds with
    |none=>rw[e]at ez;cases ez
    |some ts=>
     rw[e]at ez;obtain⟨hj,rfl⟩:=zM (show(if JoinOk x ts=true then some (D.str (Txt.join x ts))else none)=some z from ez);have ex':=y_ ⟨l,r⟩ e;subst ex';exact⟨x,p,ts,rfl,rfl,S2.toSE.all _ _ ex,hj,k _ H2 c2 fp2 S2 .refl (.str _)⟩
   |_=>cases ez
  |_=>exact h1.2.elim⟩
def Ww(d:D):Option D:=match d with|.dic kvs=>some (.dic kvs)|_=>none
theorem ZL{p:Pos}(hg:Gl X "dict")(hm:X.mg "dict"=none)(ha:DE W E true X O a fa)(hs:starEach [a] X.env=(false,eval a X.env)::starEach [] X.env:=by rfl):DO W E X O (.Call (.Name "dict" p) [a] [] pos) (e1 Ww fa):=
 qN (kI QZ hg hm Xi (qA ha zx hs) (he:=hs)) fun σ H Q⟨g,c,fp,q⟩=>⟨g,c,fp,q.bind (rel:=Rep X.K) fun d b v H1 c1 fp1 S1 F1 r1 h1=>by
  obtain⟨z,ez,k⟩:=h1.opt;have r1:Rep X.K c1 v d:=r1;cases r1 with
  |dic ex l nd r=>
   cases ez;have hl:=bC List.length l;rw[ab,ab]at hl;refine⟨_,_,rfl,S1.toSE.all (m:=true) _ _ ex,fun q hq=>k _ _ c1 fp1 (S1.newO hq) (FR.newO hq _) ⟨q,_,rfl,(S1.toSE.free hq).1,(S1.toSE.free hq).2,S1.toSE.freeE hq,ql,l,nd,⟨by rw[ab,ab];exact hl,fun i x d h1 h2=>?_⟩⟩ fun _ z ez=>by cases ez;exact hq⟩;rw[ag]at h1 h2;obtain⟨p1,e1,e2⟩:=cw.mp h1;obtain⟨p2,e3,e4⟩:=cw.mp h2;subst e2 e4;exact r i p1 p2 e1 e3
  |_=>cases ez⟩
end
end M
namespace M
open PySem L2 X2
section
variable{W:Wo}{K:fH}{X:Cx}{E:En}{O O' O1 O2 OL:List Nat}{g:SS W}{b:W.BS}{σ:L2.St}{H H':Hp}{c c':Co}{fp fp':fL}{fr:Bool}{m m1 m2:Bool}{pos:Pos}{e a:Expr}{es:fQ}
variable{fa fb fe:SS W->R W D}{fs:SS W->R W (List D)}{ta tb:SS W->R W Bool}
theorem huR{k n:Nat}{A:Around}(r:Room k A)(h:n<=64:=by decide):A.units+n<cLine:=by have:=r.units;omega
def negI:D->Option D|.int i=>some (.int (-i))|_=>none
theorem qb0(ha:DE W E m X O a fa):DE W E true X O (.UnaryOp .USub a pos) (e1 negI fa):=qN (qcr uL ha) fun σ H Q⟨g,c,fp,q⟩=>⟨g,c,fp,q.bind fun d b v H1 c1 fp1 S1 F1 r1 h1=>by
 obtain⟨z,ez,k⟩:=h1.opt;cases d <;> try (cases ez;done)
 cases ez;cases r1;exact⟨_,rfl,k _ H1 c1 fp1 S1 .refl (.int _)⟩⟩
end
abbrev HTb(T:Hp->Prop):Prop:=∀H H',T H->(∀a u,H a=some u->(∀xs,u≠.lst xs)->(∀xs,u≠.dK xs)->(∀xs,u≠.dT xs)->H' a=some u)->T H'
abbrev HBb(B:Hp->Co->fL->Prop):Prop:=∀H c fp H' c',B H c fp->(∀a∈fp,H' a=H a)->Co.Le c c'->(∀a∈fp,c'.h a=none)->B H' c' fp
end M
namespace X2
open PySem PySem.Spec PyProof.Rows L2
variable{H H' H1:Hp}{α:Type}{σ:L2.St}{K:fH}{X:Cx}{bp gp pos pp:Pos}{P c c':Addr}{w:World}{mg:fK}{h:Heap}{gx lq px:Str}{params:Arguments}{scope:Scope}{s:Shared}{pm:Value}{ix:Nat}{t0:Tok}
section
variable{X:Cx}
end
structure Rd where
 n:Int
 a:Str
 b:Str
 l:Int
 c:Int
def spn(kvs:List (Key×V))(b:Str):Int:=match valV kvs (Sum.inr b:Key)with|some (.int z)=>z|_=>0
def RdAt(H:Hp)(kvs:List (Key×V))(x:V)(r:Rd):Prop:=∃q,x=.ref q/\qb9 H q r.n r.a r.b r.l r.c/\valV kvs (Sum.inr r.b:Key)=some (.int (spn kvs r.b))
theorem RdAt.mono(s:Same H H'){kvs:List (Key×V)}{x:V}{r:Rd}(h:RdAt H kvs x r):RdAt H' kvs x r:=by
 obtain⟨q,e,h,v⟩:=h;exact⟨q,e,s _ _ h,v⟩
def hg(sp:Str->Int)(e d:Rd):Bool:=decide (e.b=d.a/\e.c+sp e.b<=d.l)
theorem dP{xs:List α}{i:Nat}{x:α}(h:xs[i]?=some x):xs.take (i+1)=xs.take i++[x]:=by
 rw[List.take_succ,h];rfl
def CW(Pv:Nat->Addr->L2.St->List V->Hp->Prop)(n i:Nat)(D:Addr)(σ:L2.St)(ys:List V)(H:Hp):Prop:=∃m',m'<n - i/\(m'=n - (i+1)/\i+1<=n/\Pv (i+1) D σ ys H)
theorem CW.of{Pv:Nat->Addr->L2.St->List V->Hp->Prop}{n i:Nat}{D:Addr}{ys:List V}(h:i<n)(p:Pv (i+1) D σ ys H):CW Pv n i D σ ys H:=⟨n - (i+1),by omega,rfl,h,p⟩
theorem wl{l:Addr}{xs:List V}{g:TG}{tt:TT}{te:TE}{σ0:L2.St}{QD:Addr->Hp->Prop}(Pv:Nat->Addr->L2.St->List V->Hp->Prop)
  (h0:∀D,H1 D=none->Pv 0 D σ0 [] (upd H1 D (.lst [])))
  (hl:∀i D σ ys H2,i<=xs.length->H1 D=none->Pv i D σ ys H2->SqL K H2 l xs/\H2 D=some (.lst ys)/\ys.length<sizeLine)
  (hs:∀i x D σ ys H2,xs[i]?=some x->i<xs.length->H1 D=none->Pv i D σ ys H2->g x σ H2 fun σ2 H4=>tt σ2 H4 fun b H5=>if b=true then te σ2 H5 fun y H6=>H6 D=some (.lst ys)/\CW Pv xs.length i D σ2 (ys++[y]) (upd H6 D (.lst (ys++[y])))else CW Pv xs.length i D σ2 ys H5)
  (hd:∀D ys σ H2,H1 D=none->Pv xs.length D σ ys H2->QD D H2) :
  ∀D,H1 D=none->∃W:Nat->Nat->L2.St->List V->Hp->Prop,(∃m,W 0 m σ0 [] (upd H1 D (.lst [])))/\
   ∀i m σ' ys H2,W i m σ' ys H2->H2 D=some (.lst ys)/\ys.length<sizeLine/\(((Itl K l).stop i H2/\QD D H2)\/
    ((Itl K l).go i H2/\∀x H3,(Itl K l).yld i H2 x H3->g x σ' H3 fun σ2 H4=>tt σ2 H4 fun b H5=>
     if b=true then te σ2 H5 fun y H6=>H6 D=some (.lst ys)/\∃m',m'<m/\W (i+1) m' σ2 (ys++[y]) (upd H6 D (.lst (ys++[y])))else ∃m',m'<m/\W (i+1) m' σ2 ys H5)):=by
 intro D nD;refine⟨fun i m σ ys H=>m=xs.length - i/\i<=xs.length/\Pv i D σ ys H,⟨xs.length,by simp,aV _,h0 D nD⟩,?_⟩;rintro i m σ ys H2 ⟨rfl,hi,p⟩;obtain⟨q,hD,hz⟩:=hl i D σ ys H2 hi nD p;refine⟨hD,hz,?_⟩
 by_cases hlt:i<xs.length
 ·refine .inr ⟨⟨xs,xs[i],q,by simp[hlt]⟩,fun x H3 hy=>?_⟩
  obtain⟨rfl,hy⟩:=hy;exact hs i x D σ ys _ (hy xs q) hlt nD p
 ·have e:i=xs.length:=by omega
  subst e;exact .inl ⟨⟨xs,q,ak _⟩,hd D ys σ H2 nD p⟩
def optD:Option Rd->Dt
 |none=>.non
 |some r=>.tup [.int r.n,.str r.a,.str r.b,.int r.l,.int r.c]
def lv(now:Int):Option Rd->Bool
 |none=>false
 |some d=>decide (d.l<=now)
theorem yj{es:fQ}{k:Nat}{t:TGs}{n:Nat}(K:fH)(hK:X.K=K)(hc:X.calm=true)(h:PGs X es t)(hn:(assignEach es X.env).length=n:=by rfl)(hst:(assignEach es X.env).findIdx? (·.1)=none:=by rfl):PG X (.Tuple es k pos) (gTup K n t):=by
 subst hK;exact Qi hc h hn hst
def two(ds:List Rd):List (Rd×Rd):=ds.zip (ds.drop 1)
def Bm(base:Heap)(mg:fK):Prop:=∃bm ob,mg "__builtins__"=some (.ref bm)/\bm≠builtinsNs/\base.get? bm=some ob/\ob.cls=.type "module"/\ob.dict=some builtinsNs/\ob.data=.plain
theorem Vr{P:Program}{mb:fK}{CX:CXT}{k:Nat}{fa a:Addr}{fd:FuncData}{x:Str}{sp:Sp}{s₁:Shared}{vs:fM}{ns:fR}{ts:fL}
  (KX:K.In s₁.heap)(hns:s₁.heap.Ns mainGlobals mg)(hb:s₁.heap.Ns builtinsNs mb)(hbb:∀x:Str,x≠"__name__"->mb x=bootBuiltins x)(hlim:s₁.heap.NoLimit)(hg:s₁.gens=#[])
  (ha:s₁.heap.get? a=some { cls:=.type "list",data:=.seq vs.toArray })(hi:IntsAre vs ns)(hl:ns.length<=sizeLine)(hr:Room k callerA)
  (htab:∀P∈ts,s₁.heap.get? P=some (PySem.W.tabObj #[]))(hKt:∀P∈ts,K.lookup P=none)(hct:∀P∈ts,isCodeTable s₁.heap P)(hbm:Bm s₁.heap mg)
  (F:∀base:Heap,K.In base->base.Ns mainGlobals mg->Bm base mg->FnOk P w K mg base CX k fa fd [x] sp)(hbind:∀(s:Shared)(u:Value),BindsTo s fd ⟨[u],[]⟩ [(x,u)])
  (hsp:∀H:Hp,(∀P∈ts,H P=some (.tbl #[]))->SqL K H a (ns.map V.int)->sp [.ref a] H (fun v _=>v=.bl true) fun _ _ _=>False)
  (hCX:∀H e s',CX [] H s₁ (fun _ _ _=>False) e s'->False) :
  codeAny (model P w) callerA (.call (.ref fa) ⟨[.ref a],[]⟩) (fun r s'=>r=.ok (.ret (.bool true))/\OldK s₁.heap s'.heap/\s'.os=s₁.os/\AllBare s'.gens) s₁:=by
 have rv:=y8 hi;have lenV:=hi.length;have nat:a∉ts:=fun z=>by
  have q:=htab a z;rw[ha]at q;cases q
 have core:∀H:Hp,(∀b,H b=none\/(∃o xs,H b=some (.frz o (.lst xs)))\/(b∈ts/\H b=some (.tbl #[])))->(∀P∈ts,H P=some (.tbl #[]))->SqL K H a (ns.map V.int)->HOk P w H s₁.heap->(∀b,H b≠none->b=a\/b∈ts)->(∀b,H b≠none->K.lookup b=none)->
   codeAny (model P w) callerA (.call (.ref fa) ⟨[.ref a],[]⟩) (fun r s'=>r=.ok (.ret (.bool true))/\OldK s₁.heap s'.heap/\s'.os=s₁.os/\AllBare s'.gens) s₁:=by
  intro H hO hT hS hok hA hK;have base_of:∀{b:Addr}{o:Obj},s₁.heap.get? b=some o->H b=none->(hidT s₁.heap H).get? b=some o:=fun e n=>Wm e n
  have kindly:∀{b:Addr}{o:Obj},s₁.heap.get? b=some o->(∀it n,o.data≠.seq it n)->(∀ps,o.data≠.fields ps)->H b=none:=fun{b o} e d1 d2=>by
   cases q:H b with
   |none=>rfl
   |some u=>
    rcases hA b (by rw[q];simp)with e'|e'
    ·subst e'
     rw[ha]at e;cases e;exact absurd rfl (d1 _ _)
    ·rw[htab b e']at e;cases e
     exact absurd rfl (d2 _)
  have nsK:∀{b:Addr}{m:fK},s₁.heap.Ns b m->(hidT s₁.heap H).Ns b m:=fun{b m}⟨o,es,ep,e,d,r⟩=>⟨o,es,ep,base_of e (kindly e (fun _ _ z=>by rw[d]at z;cases z) (fun _ z=>by rw[d]at z;cases z)),d,r⟩
  have hKb:K.In (hidT s₁.heap H):=fun b o e=>base_of (KX b o e) (by
   cases q:H b with
   |none=>rfl
   |some u=>
    rw[hK b (by rw[q];simp)]at e;cases e)
  have hM:Mod K mg (hidT s₁.heap H):=⟨hKb,nsK hns,⟨mb,nsK hb,hbb⟩,let⟨mc,h1,h2⟩:=hlim;⟨mc,nsK h1,h2⟩⟩;have hB:Bm (hidT s₁.heap H) mg:=by
   obtain⟨bm,ob,b1,b2,b3,b4,b5,b6⟩:=hbm;exact⟨bm,ob,b1,b2,base_of b3 (kindly b3 (fun _ _ z=>by rw[b6]at z;cases z) (fun _ z=>by rw[b6]at z;cases z)),b4,b5,b6⟩
  have e0:Env0 P w K mg (hidT s₁.heap H) callerA [] s₁ H:=⟨rfl,hM,fun b o e=>Y4 e,Nat.le_of_eq (VG _ _),trivial,fun b hb=>absurd (show b∈([]:fL)from hb) (by simp),hok,.of_eq hg⟩;refine eL ((F _ hKb (nsK hns) hB).run callerA [] s₁ H ⟨[.ref a],[]⟩ [.ref a] [.ref a] _ _ hr e0 (hbind s₁ (.ref a)) (.cons rfl .nil) (hsp H hT hS)) fun r s' h=>?_
  cases r with
  |error e=>exact(hCX H e s' h).elim
  |ok fl=>
   cases fl with
   |next=>exact False.elim h
   |brk=>exact False.elim h
   |cont=>exact False.elim h
   |ret u=>
    obtain⟨v,H',os,bare,un,hok',r',q⟩:=h;have q':v=.bl true:=q;subst q';obtain rfl:u=Value.bool true:=r';have main:∀b o,s₁.heap.get? b=some o->asItWas s₁.heap s'.heap b o/\∃o',s'.heap.get? b=some o':=fun b o e=>by
     rcases hO b with q|⟨ob,xs,z⟩|⟨hbt,z⟩
     ·have y:=un.keep b o e q (by intro z;exact absurd (show b∈([]:fL)from z) (by simp)) (by simp)
      exact⟨.inl y,_,y⟩
     ·have z2:=un.frzs b ob _ z
      obtain⟨e1,_⟩:=hok b _ z;obtain⟨e2,_⟩:=hok' b _ z2;rw[e]at e1;cases e1;exact⟨.inl e2,_,e2⟩
     ·obtain⟨more,z2⟩:=un.tbls b _ z
      have y:s'.heap.get? b=some { cls:=.none,data:=.fields (#[]++more) }:=hok' b _ z2;rw[htab b hbt]at e;cases e;exact⟨.inr (.inl ⟨hct b hbt,rfl,#[],more,rfl,y⟩),_,y⟩
    exact⟨rfl,⟨fun b o e=>(main b o e).1,fun b o e=>(main b o e).2⟩,os,bare⟩
 have tb:∀b,b∈ts->ObjOk P w (fun c=>if c∈ts then some (.tbl #[])else none) s₁.heap b (.tbl #[]):=fun b hb=>htab b hb
 cases hk:K.lookup a with
 |some o=>
  have e:=KX a o hk;rw[ha]at e;cases e;refine core (fun b=>if b∈ts then some (.tbl #[])else none) (fun b=>?_) (fun b hb=>aF hb) (.inr ⟨_,vs.toArray,_,hk,rfl,rfl,rfl,by rw[ah,lenV];exact hl,by simpa using rv⟩) (fun b u z=>?_) (fun b z=>?_) fun b z=>?_
  ·by_cases hb:b∈ts
   ·exact .inr (.inr ⟨hb,aF hb⟩)
   ·exact .inl (aG hb)
  ·by_cases hb:b∈ts
   ·have z':=(aF hb).symm.trans z
    cases z';exact htab b hb
   ·have z':=(aG hb).symm.trans z
    cases z'
  ·by_cases hb:b∈ts
   ·exact .inr hb
   ·exact absurd (aG hb) z
  ·by_cases hb:b∈ts
   ·exact hKt b hb
   ·exact absurd (aG hb) z
 |none=>
  refine core (fun b=>if b=a then some (.frz { cls:=.type "list",data:=.seq vs.toArray } (.lst (ns.map V.int)))else if b∈ts then some (.tbl #[])else none) (fun b=>?_) (fun b hb=>?_) (.inl (.inr ⟨{ cls:=.type "list",data:=.seq vs.toArray },aF rfl⟩)) (fun b u z=>?_) (fun b z=>?_) fun b z=>?_
  ·by_cases hb:b=a
   ·exact .inr (.inl ⟨_,_,aF hb⟩)
   ·by_cases ht:b∈ts
    ·exact .inr (.inr ⟨ht,(aG hb).trans (aF ht)⟩)
    ·exact .inl ((aG hb).trans (aG ht))
  ·have nb:b≠a:=fun z=>nat (z▸hb)
   exact(aG nb).trans (aF hb)
  ·by_cases hb:b=a
   ·have z':=(aF hb).symm.trans z
    cases z';subst hb;exact⟨ha,by rw[ab];exact hl,vs,_,rv,ha⟩
   ·by_cases ht:b∈ts
    ·have z':some (HO.tbl #[])=some u:=((aG hb).trans (aF ht)).symm.trans z
     cases z';exact htab b ht
    ·have z':(none:Option HO)=some u:=((aG hb).trans (aG ht)).symm.trans z
     cases z'
  ·by_cases hb:b=a
   ·exact .inl hb
   ·by_cases ht:b∈ts
    ·exact .inr ht
    ·exact absurd ((aG hb).trans (aG ht)) z
  ·by_cases hb:b=a
   ·rw[hb];exact hk
   ·by_cases ht:b∈ts
    ·exact hKt b ht
    ·exact absurd ((aG hb).trans (aG ht)) z
theorem QV(X:K.In h)(e:PySem.W.codeHdIn K c P=true):isCodeTable h P:=by
 obtain⟨o,vs,file,tf,flags,tg,inF,text,tt,e1,e2,e3,e4,_⟩:=PySem.W.codeHd_of_K X e;exact⟨c,o,vs,e1,e2,e3,e4⟩
theorem bt_sorted:bootBuiltins "sorted"=some (.builtin "sorted"):=by decide +kernel
theorem j_{P:Program}{a:Addr}{o:HO}(x:ObjOk P w H h a o):∃u,h.get? a=some u:=by
 cases o with
 |lst xs=>obtain⟨_,_,_,_,e⟩:=x;exact⟨_,e⟩
 |tup xs=>obtain⟨_,_,_,o,e,_⟩:=x;exact⟨_,e⟩
 |dK kvs=>obtain⟨_,_,_,_,o,_,_,e,_⟩:=x;exact⟨_,e⟩
 |dT kvs=>obtain⟨_,_,_,_,o,_,_,e,_⟩:=x;exact⟨_,e⟩
 |set S n=>obtain⟨o,_,_,_,e,_⟩:=x;exact⟨_,e⟩
 |ins C dx fs=>obtain⟨_,_,_,e,_⟩:=x;exact⟨_,e⟩
 |own b=>exact x
 |xd fs=>obtain⟨_,⟨o,_,_,e,_⟩,_⟩:=x;exact⟨_,e⟩
 |rng lo hi=>obtain⟨_,_,_,e⟩:=x;exact⟨_,e⟩
 |frz o u=>exact⟨_,x.1⟩
 |tbl ps=>exact⟨_,x⟩
 |met f y=>exact⟨_,x⟩
 |ext φ=>exact x.2.1
section
variable{X:Cx}{pins:fI}{σ:L2.St}{H:Hp}{s:Shared}{h':Heap}
theorem x_{D:Addr}(I:Inv X pins σ H s)(h:s.heap.get? D=none):H D=none:=by
 cases e:H D with
 |none=>rfl
 |some u=>
  obtain⟨o,q⟩:=j_ (I.hok D u e);rw[h]at q;cases q
theorem _root_.L2.Inv.laidL{D:Addr}{o:HO}{t':Nat}(I:Inv X pins σ H s)(k:∀b u,b≠X.env.locals->s.heap.get? b=some u->h'.get? b=some u)(ns:∀m,s.heap.Ns X.env.locals m->h'.Ns X.env.locals m)(hD:s.heap.get? D=none)(new:ObjOk X.prog X.w (upd H D o) h' D o) :
  Inv X pins σ (upd H D o) { s with heap:=h',toks:=t' }:=by
 have hn:=x_ I hD;have old:∀{b u},s.heap.get? b=some u->b≠D:=fun e z=>by rw[z,hD]at e;cases e
 refine I.step (g':=s.gens) (d':=s.drawn) (ch:=[]) (fun _ z=>nomatch z) (fun b u hL _ _ e _=>k b u hL e) (fun b u hL _ _ e _=>⟨u.slots,k b u hL e⟩) (fun b u _ e n=>by rw[qk (old e)];exact n)
  (fun b u _ e=>?_) (fun b xs q=>by rw[qk (qQ q hn)];exact q) (fun b u xs q=>by rw[qk (qQ q hn)];exact q) (fun b ps q=>⟨#[],by rw[qk (qQ q hn),q];simp⟩) ns (fun b u e=>?_) I.bare
 ·by_cases hL:b=X.env.locals
  ·obtain⟨m,hm,_⟩:=I.loc
   obtain⟨o',_,_,e',_⟩:=ns m hm;exact⟨o',hL▸e'⟩
  ·exact⟨u,k b u hL e⟩
 ·by_cases hb:b=D
  ·subst hb
   rw[ql]at e;cases e;exact new
  ·rw[qk hb]at e
   refine(I.hok b u e).stay (fun c v hc q=>k c v ?_ q) (fun c q=>by rw[qk (qQ q hn)];exact q) fun c xs q=>by rw[qk (qQ q hn)];exact q
   rintro rfl;rcases hc with z|z
   ·rw[<- z,I.free]at e;cases e
   ·rw[I.free]at z;cases z
end
def isTb:HO->Bool|.tbl _=>true|_=>false
structure SaT(P:Addr)(H H':Hp):Prop where
 keep:∀b u,H b=some u->isTb u=false->H' b=some u
 tbl:∀b ps,H b=some (.tbl ps)->∃more,H' b=some (.tbl (ps++more))
 oth:∀b ps,H b=some (.tbl ps)->b≠P->H' b=some (.tbl ps)
theorem SaT.of(s:Same H H'):SaT P H H':=⟨fun b u e _=>s b u e,fun b ps e=>⟨#[],by rw[s _ _ e];simp⟩,fun b ps e _=>s _ _ e⟩
theorem SaT.trans{H2:Hp}(a:SaT P H H1)(b:SaT P H1 H2):SaT P H H2:=⟨fun c u e n=>b.keep c u (a.keep c u e n) n,fun c ps e=>by
 obtain⟨m1,e1⟩:=a.tbl c ps e;obtain⟨m2,e2⟩:=b.tbl c _ e1;exact⟨m1++m2,by rw[e2,Array.append_assoc]⟩,fun c ps e n=>b.oth c ps (a.oth c ps e n) n⟩
theorem SaT.free(s:SaT P H H'){b:Addr}(h:H' b=none):H b=none:=by
 cases e:H b with
 |none=>rfl
 |some u=>
  cases n:isTb u with
  |false=>rw[s.keep b u e n]at h;cases h
  |true=>
   cases u with
   |tbl ps=>
    obtain⟨m,q⟩:=s.tbl b ps e;rw[h]at q;cases q
   |_=>cases n
theorem SaT.new(s:SaT P H H'){p:Addr}(h:H' p=none)(o:HO):SaT P H (upd H' p o):=s.trans (SaT.of (zm h o))
def vd(c':Addr)(lq:Str):HO:=.ext (fun h=>h.CodeRec (.ref c') lq)
def TabOk(H:Hp)(P:Addr)(pos:Pos)(lq:Str):Prop:=∃ps,H P=some (.tbl ps)/\TriplesOk ps.toList/\(codeAmong pos ps.toList=none\/∃c',codeAmong pos ps.toList=some (.ref c')/\H c'=some (vd c' lq))
theorem TabOk.mono(s:Same H H')(t:TabOk H P pos lq):TabOk H' P pos lq:=by
 obtain⟨ps,e,ht,q⟩:=t;refine⟨ps,s _ _ e,ht,?_⟩;rcases q with q|⟨c',q,h⟩
 ·exact .inl q
 ·exact .inr ⟨c',q,s _ _ h⟩
theorem TabOk.nil(h:H P=some (.tbl #[])):TabOk H P pos lq:=⟨#[],h,trivial,.inl rfl⟩
theorem y9{i j:Int}{a b:Tok}{v:Value}:∀(l:fM),TriplesOk l->TriplesOk (l++[.int i a,.int j b,v]):=by
 intro l h
 fun_induction TriplesOk l with
 |case1=>trivial
 |case2 _ _ _ _ _ rest ih=>exact ih h
 |case3=>exact h.elim
def vc(q:Addr)(lq:Str)(params:Arguments)(body:Expr)(scope:Scope)(pm:Value)(c':Addr):HO:=.ext (fun h=>∃ctv,h.get? q=some (PySem.W.kla_obj "<lambda>" lq params body scope [] pm c' ctv))
def tLam(P:Addr)(lpos:Pos)(lq:Str)(params:Arguments)(body:Expr)(scope:Scope)(pm:Value):TE:=fun _ H Q=>TabOk H P lpos lq/\∀q c' H1,SaT P H H1->TabOk H1 P lpos lq->H q=none->H1 q=some (vc q lq params body scope pm c')->H1 c'=some (vd c' lq)->Q (.ref q) H1
theorem KS{body:Expr}{lpos:Pos}(hcode:X.env.code=.ref c)(hc:PySem.W.codeHdIn X.K c P=true)(BM:Bm X.base X.mg)(hdef:defaultsOf params X.env=([],[]):=by rfl)(hcl:closureFor scope X.env=pure []:=by rfl) :
  PE X (.Lambda params body scope lpos) (tLam P lpos (X.env.qual++"<lambda>") params body scope ((X.mg "__name__").getD .none)):=by
 intro pins s σ H Q I h;obtain⟨⟨ps,hP,ht,hcase⟩,q⟩:=h;have gP:s.heap.get? P=some (PySem.W.tabObj ps):=I.hok P _ hP;have glob:s.heap.Ns mainGlobals X.mg:=I.mod.glob.keeps I.bk;have C:PySem.W.CodeHd s.heap c P:=PySem.W.codeHd_of_K I.kIn hc;obtain⟨bm,ob,b1,b2,b3,b4,b5,b6⟩:=BM;have b3':=I.bk _ _ b3;have hgP:mainGlobals≠P:=fun z=>by
  obtain⟨o,es,ep,e,d,_⟩:=glob;rw[z,gP]at e;cases e;cases d
 have hbP:bm≠P:=fun z=>by rw[z,gP]at b3';cases b3';cases b4
 have hbG:bm≠mainGlobals:=fun z=>by
  obtain⟨o,es,ep,e,d,_⟩:=glob;rw[z,e]at b3';cases b3';rw[d]at b6;cases b6
 have hB:s.heap.BuiltinsAt X.mg P:=⟨bm,ob,b1,b2,hbG,hbP,b3',b4,b5,b6⟩;have lamStay:∀(q c':Addr)(h1 h2:Heap),(∃ctv,h1.get? q=some (PySem.W.kla_obj "<lambda>" (X.env.qual++"<lambda>") params body scope [] ((X.mg "__name__").getD .none) c' ctv))->(∀o,h1.get? q=some o->h2.get? q=some o)->∃ctv,h2.get? q=some (PySem.W.kla_obj "<lambda>" (X.env.qual++"<lambda>") params body scope [] ((X.mg "__name__").getD .none) c' ctv):=fun q c' h1 h2⟨ctv,e⟩ k=>⟨ctv,k _ e⟩
 have codeStay:∀(c':Addr)(h1 h2:Heap),h1.CodeRec (.ref c') (X.env.qual++"<lambda>")->(∀o,h1.get? c'=some o->h2.get? c'=some o)->h2.CodeRec (.ref c') (X.env.qual++"<lambda>"):=fun c' h1 h2⟨c2,o,vs,t,e1,e2,e3,e4⟩ k=>by
  cases e1;exact⟨_,o,vs,t,rfl,k o e2,e3,e4⟩
 refine PySem.W.kla_eval hdef ?_;rcases hcase with hnf|⟨c',hf,hc'⟩
 ·refine PySem.W.kla_makeFunction (mg:=X.mg) hcl I.ok.glob glob hcode C gP ht hnf hgP hB fun c' ctv h' tk hx hge hlt hrec htb=>?_
  have nP:∀b u,H b=some u->isTb u=false->b≠P:=fun b u e n z=>by rw[z,hP]at e;cases e;cases n
  have hcP:c'≠P:=fun z=>absurd (aI (ao gP) (z▸hge)) (bH _)
  have fc:H c'=none:=I.hok.fresh hge;let H1:=upd (upd H P (.tbl (ps++#[rawInt lpos.line,rawInt lpos.col,.ref c']))) c' (vd c' (X.env.qual++"<lambda>"));have H1old:∀b,b≠P->b≠c'->H1 b=H b:=fun b n1 n2=>by show upd _ c' _ b=_;rw[qk n2,qk n1]
  have old:∀{b u},s.heap.get? b=some u->b≠c':=fun e z=>absurd (aI (ao e) (z▸hge)) (bH _)
  have oldH:∀{b u},H b=some u->b≠c':=fun e z=>by rw[z,fc]at e;cases e
  have I1:Inv X pins σ H1 { s with heap:=h',toks:=tk }:=by
   refine I.step (g':=s.gens) (d':=s.drawn) (ch:=[]) (fun _ z=>nomatch z) (fun b u _ _ _ e n=>hx b u (fun z=>by rw[z,hP]at n;cases n) e) (fun b u _ _ _ e n=>⟨u.slots,hx b u (fun z=>by rw[z,hP]at n;cases n) e⟩) (fun b u _ e n=>?_)
    (fun b u _ e=>?_) (fun b xs z=>?_) (fun b u xs z=>?_) (fun b ps' z=>?_) (fun m hm=>hm.extBut hx (fun z=>by have:=I.free;rw[z,hP]at this;cases this)) (fun b u e=>?_) I.bare
   ·rw[H1old b (fun z=>by rw[z,hP]at n;cases n) (old e)];exact n
   ·by_cases hb:b=P
    ·exact⟨_,hb▸htb⟩
    ·exact⟨u,hx b u hb e⟩
   ·rw[H1old b (nP b _ z rfl) (oldH z)];exact z
   ·rw[H1old b (nP b _ z rfl) (oldH z)];exact z
   ·by_cases hb:b=P
    ·subst hb
     rw[hP]at z;cases z;exact⟨#[rawInt lpos.line,rawInt lpos.col,.ref c'],by show upd _ c' _ b=_;rw[qk hcP.symm,ql]⟩
    ·exact⟨#[],by rw[H1old b hb (oldH z),z];simp⟩
   ·have e':upd (upd H P (.tbl (ps++#[rawInt lpos.line,rawInt lpos.col,.ref c']))) c' (vd c' (X.env.qual++"<lambda>")) b=some u:=e
    by_cases hb:b=c'
    ·subst hb
     rw[ql]at e';cases e';obtain⟨c2,o,vs,t,z1,z2,z3,z4⟩:=id hrec;cases z1;exact⟨hrec,⟨o,z2⟩,codeStay b⟩
    ·rw[qk hb]at e'
     by_cases hp:b=P
     ·subst hp
      rw[ql]at e';cases e';exact htb
     ·rw[qk hp]at e'
      refine(I.hok b u e').stay (fun a v ha z=>hx a v ?_ z) (fun a z=>?_) (fun a xs z=>?_)
      ·rintro rfl
       rcases ha with z|z
       ·exact hp z.symm
       ·rw[hP]at z;cases z
      ·have ea:H1 a=H a:=H1old a (nP a _ z rfl) (oldH z)
       show H1 a=_;rw[ea];exact z
      ·have ea:H1 a=H a:=H1old a (nP a _ z rfl) (oldH z)
       show H1 a=_;rw[ea];exact z
  have fq:H1 h'.objs.size=none:=I1.hok.fresh (ak _);have I2:Inv X pins σ (upd H1 h'.objs.size (vc h'.objs.size (X.env.qual++"<lambda>") params body scope ((X.mg "__name__").getD .none) c')) { s with heap:=h'.push (PySem.W.kla_obj "<lambda>" (X.env.qual++"<lambda>") params body scope [] ((X.mg "__name__").getD .none) c' ctv),toks:=tk }:=
   I1.laid (t':=tk) (fun b o e=>ae _ e) (ak _) ⟨⟨ctv,aB _ rfl⟩,⟨_,aB _ rfl⟩,lamStay _ c'⟩
  have s1:SaT P H H1:=⟨fun b u e n=>by rw[H1old b (nP b u e n) (oldH e)];exact e,fun b ps' e=>by
   by_cases hb:b=P
   ·subst hb
    rw[hP]at e;cases e;exact⟨#[rawInt lpos.line,rawInt lpos.col,.ref c'],by show upd _ c' _ b=_;rw[qk hcP.symm,ql]⟩
   ·exact⟨#[],by rw[H1old b hb (oldH e),e];simp⟩,fun b ps' e n=>by rw[H1old b n (oldH e)];exact e⟩
  have hP1:H1 P=some (.tbl (ps++#[rawInt lpos.line,rawInt lpos.col,.ref c'])):=by show upd _ c' _ P=_;rw[qk hcP.symm,ql]
  have hc1:H1 c'=some (vd c' (X.env.qual++"<lambda>")):=ql;have sq:=zm fq (vc h'.objs.size (X.env.qual++"<lambda>") params body scope ((X.mg "__name__").getD .none) c');have el:(ps++#[rawInt lpos.line,rawInt lpos.col,.ref c']).toList=ps.toList++[rawInt lpos.line,rawInt lpos.col,.ref c']:=by simp
  have T1:TabOk H1 P lpos (X.env.qual++"<lambda>"):=⟨_,hP1,by rw[el];exact y9 _ ht,.inr ⟨c',by rw[el];exact codeAmong_snoc _ ht hnf,hc1⟩⟩;exact⟨.ref h'.objs.size,_,I2,rfl,q _ c' _ (s1.trans (SaT.of sq)) (T1.mono sq) (s1.free fq) ql (sq _ _ hc1)⟩
 ·refine PySem.W.kla_makeFunctionHit (mg:=X.mg) hcl I.ok.glob glob hcode C gP ht hf hB fun ctv h' tk hk hsz=>?_
  have I1:Inv X pins σ H { s with heap:=h',toks:=tk }:=I.kept hk;have fq:H h'.objs.size=none:=I1.hok.fresh (ak _);have I2:Inv X pins σ (upd H h'.objs.size (vc h'.objs.size (X.env.qual++"<lambda>") params body scope ((X.mg "__name__").getD .none) c')) { s with heap:=h'.push (PySem.W.kla_obj "<lambda>" (X.env.qual++"<lambda>") params body scope [] ((X.mg "__name__").getD .none) c' ctv),toks:=tk }:=
   I1.laid (t':=tk) (fun b o e=>ae _ e) (ak _) ⟨⟨ctv,aB _ rfl⟩,⟨_,aB _ rfl⟩,lamStay _ c'⟩
  have sq:=zm fq (vc h'.objs.size (X.env.qual++"<lambda>") params body scope ((X.mg "__name__").getD .none) c');have T0:TabOk H P lpos (X.env.qual++"<lambda>"):=⟨ps,hP,ht,.inr ⟨c',hf,hc'⟩⟩;exact⟨.ref h'.objs.size,_,I2,rfl,q _ c' _ (SaT.of sq) (T0.mono sq) fq ql (sq _ _ hc')⟩
theorem Wh{prog:Program}{A:Around}{q x:Addr}{ctv:Value}{its:fO}{t:Tok}{k:Int}
  (hq:s.heap.get? q=some (PySem.W.kla_obj "<lambda>" lq params (.Subscript (.Name px pp) (.Name gx gp) bp) scope [] pm c' ctv))(hc:s.heap.CodeRec (.ref c') lq)(hd:A.depth<recursionLimit)(lim:s.heap.NoLimit)(glob:s.heap.Ns mainGlobals mg)
  (hgx:mg gx=some (.int ix t0))(ht:IsTup s.heap x its)(hk:its[ix]?=some (.int k t))(hz:its.size<=sizeLine)
  (hb:bindArgs (PySem.W.kla_fn "<lambda>" lq params (.Subscript (.Name px pp) (.Name gx gp) bp) scope [] pm (.ref c') ctv) ⟨[.ref x],[]⟩=pure [(px,.ref x)])
  (kd:scope.kind=.function)(co:scope.isCoroutine=false)(gn:scope.isGenerator=false)(ncell:∀y∈scope.names,y.2≠.cell)(lpx:scope.names.lookup px=some .local)(lgx:scope.names.lookup gx=some .globalImplicit)
  (d1:(px == ("__debug__":Str))=false)(d2:(gx == ("__debug__":Str))=false) :
  wpAny (model prog w) A (call (.ref q) [.ref x]) (fun v s'=>∃h' tk t',s'={ s with heap:=h',toks:=tk }/\v=.int k t'/\∀b o,s.heap.get? b=some o->h'.get? b=some o) (fun _ _=>False) s:=by
 refine wpAny_call (PySem.W.kla_callFunE hd hq rfl co gn rfl hc ?_);rw[hb];refine aw (c7 ncell (fun y hy=>?_) (fun h₁ hns hsb=>⟨lim.fresh _ hsb,?_⟩) kd)
 ·rw[au.mp hy]
  exact lpx
 have hk₁:∀b o,s.heap.get? b=some o->h₁.get? b=some o:=fun b o e=>hsb.extBut b o (aq (ao e)) (ae _ e)
 refine PySem.W.kla_codeExpr ?_;have hix:ix<its.size:=by
  obtain⟨z,_⟩:=eJ.mp hk;exact z
 refine eQ (fw (dh kd lpx hns (show List.lookup px [(px,Value.ref x)].reverse=some (.ref x) by simp[List.lookup]) ?_) d1);refine dg kd lgx (Calls.loadGlobal_global (glob.keeps hk₁) hgx ?_) d2;have ht1:IsTup h₁ x its:=by
  obtain⟨o,e,r⟩:=ht;exact⟨o,hk₁ _ _ e,r⟩
 have hn:=xf;refine cQ (x:=.int k t) ht1.typeIs slot_tuple_getitem.lookup (getItem_tuple (j:=ix) ht1 (by omega) (by omega) ?_ hk ⟨rfl,?_⟩)
 ·unfold seqIndex?
  simp;omega
 ·exact⟨_,_,_,rfl,rfl,hk₁⟩
theorem kH{β:Type}{R:α->β->Prop}{l1 l2:List β}(p:l1.Perm l2):∀{m2:List α},Paired R m2 l2->∃m1,Paired R m1 l1/\m1.Perm m2:=by
 induction p with
 |nil=>
  intro m2 h;cases h;exact⟨[],.nil,.nil⟩
 |cons x _ ih=>
  intro m2 h;cases h with
  |cons r t=>
   obtain⟨m1,a,b⟩:=ih t;exact⟨_::m1,.cons r a,b.cons _⟩
 |swap x y l=>
  intro m2 h;cases h with
  |cons r t=>
   cases t with
   |cons r' t=>exact⟨_::_::_,.cons r' (.cons r t),.swap _ _ _⟩
 |trans _ _ ih1 ih2=>
  intro m2 h;obtain⟨m1,a,b⟩:=ih2 h;obtain⟨m0,c,d⟩:=ih1 a;exact⟨m0,c,d.trans b⟩
def KOut(b:Bool)(ks:fR)(xs out:List V):Prop:=∃ps:List (Int×V),ps.Perm (ks.zip xs)/\out=ps.map Prod.snd/\ps.Pairwise (fun p q=>if b then q.1<=p.1 else p.1<=q.1)
theorem vU:∀{ks:fR}{xs:List V}{us:fM},Vals xs us->Paired (fun(p:Int×V)(q:Int×Value)=>p.1=q.1/\RelV p.2 q.2) (ks.zip xs) (ks.zip us)
 |[],_,_,_=>by simp;exact .nil
 |_::_,[],_,.nil=>by simp;exact .nil
 |k::ks,x::xs,u::us,.cons r t=>by
  rw[d6,d6];exact .cons ⟨rfl,r⟩ (vU t)
theorem vV:∀{ps:List (Int×V)}{qs:List (Int×Value)},Paired (fun(p:Int×V)(q:Int×Value)=>p.1=q.1/\RelV p.2 q.2) ps qs->Vals (ps.map Prod.snd) (qs.map Prod.snd)
 |_,_,.nil=>.nil
 |_,_,.cons r t=>.cons r.2 (vV t)
theorem xP{b:Bool}:∀{ps:List (Int×V)}{qs:List (Int×Value)},Paired (fun(p:Int×V)(q:Int×Value)=>p.1=q.1/\RelV p.2 q.2) ps qs->qs.Pairwise (fun p q=>if b then q.1<=p.1 else p.1<=q.1)->ps.Pairwise (fun p q=>if b then q.1<=p.1 else p.1<=q.1)
 |_,_,.nil,_=>.nil
 |p::ps,q::qs,.cons r t,h=>by
  obtain⟨h1,h2⟩:=bB.mp h;refine bB.mpr ⟨fun x hx=>?_,xP t h2⟩;have mem:∀{ps:List (Int×V)}{qs:List (Int×Value)},Paired (fun(p:Int×V)(q:Int×Value)=>p.1=q.1/\RelV p.2 q.2) ps qs->∀x∈ps,∃y∈qs,x.1=y.1:=by
   intro ps qs h
   induction h with
   |nil=>intro x hx;cases hx
   |cons r _ ih=>
    intro x hx;rcases aj.mp hx with z|z
    ·subst z;exact⟨_,ar ..,r.1⟩
    ·obtain⟨y,hy,e⟩:=ih x z
     exact⟨y,av _ hy,e⟩
  obtain⟨y,hy,e⟩:=mem t x hx;have g:=h1 y hy;rw[r.1,e];exact g
theorem Qb{pins:fI}{Q:VK}{a q:Addr}{xs:List V}{ks:fR}{b:Bool}{kw:List (Str×Value)}{k0:Nat}
  (I:Inv X pins σ H s)(hr:Room k0 X.A)(hx:SqL X.K H a xs)(h64:xs.length<64)(hlen:ks.length=xs.length)(items:∀(i:Nat) x k,xs[i]?=some x->ks[i]?=some k->∃p ws,x=V.ref p/\H p=some (.tup ws)/\ws[ix]?=some (.int k))
  (hq:H q=some (vc q lq params (.Subscript (.Name px pp) (.Name gx gp) bp) scope pm c'))(hc:H c'=some (vd c' lq))(hgx:X.mg gx=some (.int ix t0))
  (hb:∀ctv x,bindArgs (PySem.W.kla_fn "<lambda>" lq params (.Subscript (.Name px pp) (.Name gx gp) bp) scope [] pm (.ref c') ctv) ⟨[.ref x],[]⟩=pure [(px,.ref x)])
  (kd:scope.kind=.function)(co:scope.isCoroutine=false)(gn:scope.isGenerator=false)(ncell:∀y∈scope.names,y.2≠.cell)(lpx:scope.names.lookup px=some .local)(lgx:scope.names.lookup gx=some .globalImplicit)
  (d1:(px == ("__debug__":Str))=false)(d2:(gx == ("__debug__":Str))=false)
  (ha1:argsOk "sorted" ⟨[.ref a],kw⟩)(ha2:∀x,argsOk "list.sort" ⟨[.ref x],kw⟩)(ht:∀x,Builtin.«list.sort» ⟨[.ref x],kw⟩=ksk_tree x (.ref q) b)
  (fin:∀D out,H D=none->KOut b ks xs out->Q (.ref D) (upd H D (.lst out))):wpAny (model X.prog X.w) X.A (call (.builtin "sorted") [.ref a] kw) (EP X pins σ Q) X.xe s:=by
 obtain⟨us,ru,pu,hz⟩:=I.list hx;obtain⟨m,hm,_⟩:=id I.loc;have lu:=ru.length;have nL:∀{b u},H b=some u->b≠X.env.locals:=fun e z=>by have:=I.free;rw[<- z,e]at this;cases this
 refine ksk_sorted (h₀:=Att.noObjs s.heap) (L:=X.env.locals) (m:=m) (news:=v7 (Att.noObjs s.heap) s.heap X.env.locals) (kz:=ks) (Att.fr_all hm) Jj pu.isList (by rw[hlen,lu]) (by rw[<- lu];exact h64) ha1 ha2 ht ?_ ?_
 ·intro i v k hv hk h tk own F' N'
  have get:∀b o,b≠X.env.locals->s.heap.get? b=some o->h.get? b=some o:=fun b o nb e=>(N' (b,o) (aU _ (jp nb (Att.noObjs_get _ _) e))).1
  have hi:i<xs.length:=by rw[lu];exact(ai.mp hv).1
  have hxi:xs[i]?=some xs[i]:=aa hi;obtain⟨u,hu,rv⟩:=ru.get hxi;rw[hv]at hu;cases hu;obtain⟨p,ws,ep,hp,hw⟩:=items i _ k hxi hk;rw[ep]at rv;cases (show v=Value.ref p from rv);obtain⟨its,r,pl,hz2⟩:=I.tuple (SqT.of (K:=X.K) hp);obtain⟨u,hu,⟨t,rfl⟩⟩:=r.get hw;obtain⟨⟨ctv,eq⟩,_⟩:=I.hok q _ hq;have cr:s.heap.CodeRec (.ref c') lq:=(I.hok c' _ hc).1;have keepB:∀b o,X.base.get? b=some o->h.get? b=some o:=fun b o e=>get b o (aq (aI (ao (I.ok.bs b o e).1) I.ok.above)) (I.bk b o e)
  have cr':h.CodeRec (.ref c') lq:=by
   obtain⟨c2,o,vs,t,z1,z2,z3,z4⟩:=cr;cases z1;exact⟨_,o,vs,t,rfl,get _ _ (nL hc) z2,z3,z4⟩
  have tp:IsTup h p its.toArray:=by
   obtain⟨o,e,r⟩:=pl;exact⟨o,get _ _ (nL hp) e,r⟩
  refine bf (Wh (s:={ s with heap:=h,toks:=tk }) (mg:=X.mg) (get _ _ (nL hq) eq) cr' (show X.A.in1.in1.depth<recursionLimit from hr.depth) (I.mod.nolimit.keeps keepB) (I.mod.glob.keeps keepB) hgx tp (by simpa using hu) (by rw[ah,<- r.length];exact hz2) (hb ctv p) kd co gn ncell lpx lgx d1 d2) (fun v s' hh=>?_) fun _ _ z=>z
  obtain⟨h2,tk2,t2,e1,e2,kk⟩:=hh;exact⟨h2,tk2,t2,by rw[e1],e2,F'.kept kk,N'.grown kk⟩
 ·intro D h' tk out c F' N' hlt ko
  have kept:∀b o,b≠X.env.locals->s.heap.get? b=some o->h'.get? b=some o:=fun b o nb e=>(N' (b,o) (av _ (jp nb (Att.noObjs_get _ _) e))).1
  have hDn:=N' (D,seqObj "list" out c) (ar ..);have hD:s.heap.get? D=none:=by
   cases e:s.heap.get? D with
   |none=>rfl
   |some o=>exact absurd (hlt (D,o) (jp hDn.2.1 (Att.noObjs_get _ _) e)) (bH _)
  obtain⟨qs,hp,ho,hw⟩:=ko;obtain⟨ps,pr,pp'⟩:=kH hp (vU (ks:=ks) ru);have lps:ps.length=xs.length:=by rw[pp'.length_eq,eA];omega
  have vo:Vals (ps.map Prod.snd) out.toList:=by rw[ho];exact vV pr
  refine⟨.ref D,_,I.laidL (t':=tk) (o:=.lst (ps.map Prod.snd)) kept (fun m' hm'=>?_) hD ?_,rfl,fin D _ (x_ I hD) ⟨ps,pp',rfl,xP pr hw⟩⟩
  ·have em:m'=m:=funext fun x=>hm'.agree hm x
   rw[em];exact F'.ns
  ·exact⟨by rw[ab,lps];exact bD (jt (by omega)),out.toList,c,vo,by rw[di];exact hDn.1⟩
theorem SaT.seq(s:SaT P H H'){a:Addr}{xs:List V}(h:SqL K H a xs):SqL K H' a xs:=by
 rcases h with h|h
 ·rcases h with h|⟨o,h⟩
  ·exact .inl (.inl (s.keep _ _ h rfl))
  ·exact .inl (.inr ⟨o,s.keep _ _ h rfl⟩)
 ·exact .inr h
def Kd(K:fH)(P:Addr)(lpos:Pos)(lq:Str)(ix:Nat)(b:Bool)(tl:TE):TE:=fun σ H Q=>tl σ H fun x H1=>∃a xs ks,x=.ref a/\SqL K H1 a xs/\xs.length<64/\ks.length=xs.length/\
 (∀(i:Nat) x k,xs[i]?=some x->ks[i]?=some k->∃p ws,x=V.ref p/\H1 p=some (.tup ws)/\ws[ix]?=some (.int k))/\TabOk H1 P lpos lq/\
 ∀D out H2,SaT P H1 H2->TabOk H2 P lpos lq->H1 D=none->H2 D=some (.lst out)->KOut b ks xs out->Q (.ref D) H2
section
variable{X:Cx}{l:Expr}{tl:TE}{k0:Nat}{px gx:Str}{params:Arguments}{scope:Scope}{pp gp bp lpos kp p pos:Pos}{ix:Nat}{t0:Tok}{c P:Addr}{k1:Nat}{rp kp2:Pos}
theorem XS(hr:Room k0 X.A)(hg:Gl X "sorted")(hm:X.mg "sorted"=none)(hl:PE X l tl)(hcode:X.env.code=.ref c)(hc:PySem.W.codeHdIn X.K c P=true)(BM:Bm X.base X.mg)(hgx:X.mg gx=some (.int ix t0))
  (hdef:defaultsOf params X.env=([],[]):=by rfl)(hcl:closureFor scope X.env=pure []:=by rfl)
  (hb:∀(c':Addr)(pm ctv:Value)(x:Addr),bindArgs (PySem.W.kla_fn "<lambda>" (X.env.qual++"<lambda>") params (.Subscript (.Name px pp) (.Name gx gp) bp) scope [] pm (.ref c') ctv) ⟨[.ref x],[]⟩=pure [(px,.ref x)]:=by intro _ _ _ _;rfl)
  (kd:scope.kind=.function:=by rfl)(co:scope.isCoroutine=false:=by rfl)(gn:scope.isGenerator=false:=by rfl)(ncell:∀y∈scope.names,y.2≠.cell:=by decide +kernel)(lpx:scope.names.lookup px=some .local:=by rfl)(lgx:scope.names.lookup gx=some .globalImplicit:=by rfl)
  (d1:(px == ("__debug__":Str))=false:=by decide)(d2:(gx == ("__debug__":Str))=false:=by decide)(he:starEach [l] X.env=[(false,eval l X.env)]:=by rfl) :
  PE X (.Call (.Name "sorted" p) [l] [⟨some "key",.Lambda params (.Subscript (.Name px pp) (.Name gx gp) bp) scope lpos,kp⟩] pos) (Kd X.K P lpos (X.env.qual++"<lambda>") ix false tl):=by
 intro pins s σ H Q I h;refine cy (xX I hg hm bt_sorted ?_);refine dU (first:=[]) (by rw[he];rfl) rfl (evalArgs_kw2 rfl ?_ he);refine thn ((qA hl zx he) pos pins s σ H (fun vs H1=>match vs with
  |[x]=>∃a xs ks,x=.ref a/\SqL X.K H1 a xs/\xs.length<64/\ks.length=xs.length/\(∀(i:Nat) x k,xs[i]?=some x->ks[i]?=some k->∃p ws,x=V.ref p/\H1 p=some (.tup ws)/\ws[ix]?=some (.int k))/\TabOk H1 P lpos (X.env.qual++"<lambda>")/\
    ∀D out H2,SaT P H1 H2->TabOk H2 P lpos (X.env.qual++"<lambda>")->H1 D=none->H2 D=some (.lst out)->KOut false ks xs out->Q (.ref D) H2
  |_=>False) I h) fun us s1 hus=>?_
 obtain⟨vs,H1,I1,r1,q1⟩:=hus;obtain⟨x,rfl⟩:∃x,vs=[x]:=by
  cases vs with
  |nil=>exact q1.elim
  |cons x r=>
   cases r with
   |nil=>exact⟨x,rfl⟩
   |cons y r=>exact q1.elim
 obtain⟨u,rfl,ru⟩:=eW r1;obtain⟨a,xs,ks,rfl,hx,h64,hlen,items,tab,fin⟩:=q1;cases (show u=Value.ref a from ru);refine thn ((yi (kpos:=kp) (nm:=some "key") (KS hcode hc BM hdef hcl) KJ) pos pins s1 σ H1 (fun zs H2=>match zs with
   |[z]=>∃q c',z=.ref q/\SaT P H1 H2/\TabOk H2 P lpos (X.env.qual++"<lambda>")/\H2 q=some (vc q (X.env.qual++"<lambda>") params (.Subscript (.Name px pp) (.Name gx gp) bp) scope ((X.mg "__name__").getD .none) c')/\H2 c'=some (vd c' (X.env.qual++"<lambda>"))
   |_=>False) I1 ⟨tab,fun q c' H2 s2 t2 _ hq hc'=>⟨q,c',rfl,s2,t2,hq,hc'⟩⟩) fun ws s2 hws=>?_
 obtain⟨zs,H2,I2,rz,q2⟩:=hws;obtain⟨z,rfl⟩:∃z,zs=[z]:=by
  cases zs with
  |nil=>exact q2.elim
  |cons x r=>
   cases r with
   |nil=>exact⟨x,rfl⟩
   |cons y r=>exact q2.elim
 obtain⟨w,rfl,rw'⟩:=eW rz;obtain⟨q,c',rfl,s2',t2,hq,hc'⟩:=q2;cases (show w=Value.ref q from rw');show wpAny (model X.prog X.w) X.A (call (.builtin "sorted") [.ref a] [(Str.ofString "key",.ref q)]) (EP X pins σ Q) X.xe s2;refine Qb (b:=false) (kw:=[(Str.ofString "key",.ref q)]) I2 hr (s2'.seq hx) h64 hlen (fun i x k h1 h2=>?_) hq hc' hgx (hb c' _) kd co gn ncell lpx lgx d1 d2 (ksk_s1 _ _) (fun x=>ksk_l1 _ _) (fun x=>ksk_t1 q x) fun D out hD ko=>?_
 ·obtain⟨p,ws,e,hp,hw⟩:=items i x k h1 h2
  exact⟨p,ws,e,s2'.keep _ _ hp rfl,hw⟩
 ·exact fin D out _ (s2'.new hD _) (t2.mono (zm hD _)) (s2'.free hD) ql ko
theorem KP(hr:Room k0 X.A)(hg:Gl X "sorted")(hm:X.mg "sorted"=none)(hl:PE X l tl)(hcode:X.env.code=.ref c)(hc:PySem.W.codeHdIn X.K c P=true)(BM:Bm X.base X.mg)(hgx:X.mg gx=some (.int ix t0))
  (hdef:defaultsOf params X.env=([],[]):=by rfl)(hcl:closureFor scope X.env=pure []:=by rfl)
  (hb:∀(c':Addr)(pm ctv:Value)(x:Addr),bindArgs (PySem.W.kla_fn "<lambda>" (X.env.qual++"<lambda>") params (.Subscript (.Name px pp) (.Name gx gp) bp) scope [] pm (.ref c') ctv) ⟨[.ref x],[]⟩=pure [(px,.ref x)]:=by intro _ _ _ _;rfl)
  (kd:scope.kind=.function:=by rfl)(co:scope.isCoroutine=false:=by rfl)(gn:scope.isGenerator=false:=by rfl)(ncell:∀y∈scope.names,y.2≠.cell:=by decide +kernel)(lpx:scope.names.lookup px=some .local:=by rfl)(lgx:scope.names.lookup gx=some .globalImplicit:=by rfl)
  (d1:(px == ("__debug__":Str))=false:=by decide)(d2:(gx == ("__debug__":Str))=false:=by decide)(he:starEach [l] X.env=[(false,eval l X.env)]:=by rfl) :
  PE X (.Call (.Name "sorted" p) [l] [⟨some "key",.Lambda params (.Subscript (.Name px pp) (.Name gx gp) bp) scope lpos,kp⟩,⟨some "reverse",.Constant (.bool true) k1 rp,kp2⟩] pos) (Kd X.K P lpos (X.env.qual++"<lambda>") ix true tl):=by
 intro pins s σ H Q I h;refine cy (xX I hg hm bt_sorted ?_);refine dU (first:=[]) (by rw[he];rfl) rfl (evalArgs_kw2 rfl ?_ he);refine thn ((qA hl zx he) pos pins s σ H (fun vs H1=>match vs with
  |[x]=>∃a xs ks,x=.ref a/\SqL X.K H1 a xs/\xs.length<64/\ks.length=xs.length/\(∀(i:Nat) x k,xs[i]?=some x->ks[i]?=some k->∃p ws,x=V.ref p/\H1 p=some (.tup ws)/\ws[ix]?=some (.int k))/\TabOk H1 P lpos (X.env.qual++"<lambda>")/\
    ∀D out H2,SaT P H1 H2->TabOk H2 P lpos (X.env.qual++"<lambda>")->H1 D=none->H2 D=some (.lst out)->KOut true ks xs out->Q (.ref D) H2
  |_=>False) I h) fun us s1 hus=>?_
 obtain⟨vs,H1,I1,r1,q1⟩:=hus;obtain⟨x,rfl⟩:∃x,vs=[x]:=by
  cases vs with
  |nil=>exact q1.elim
  |cons x r=>
   cases r with
   |nil=>exact⟨x,rfl⟩
   |cons y r=>exact q1.elim
 obtain⟨u,rfl,ru⟩:=eW r1;obtain⟨a,xs,ks,rfl,hx,h64,hlen,items,tab,fin⟩:=q1;cases (show u=Value.ref a from ru);refine thn ((yi (kpos:=kp) (nm:=some "key") (KS hcode hc BM hdef hcl) (yi (kpos:=kp2) (nm:=some "reverse") kJ KJ)) pos pins s1 σ H1 (fun zs H2=>match zs with
   |[z,y]=>∃q c',y=.bl true/\z=.ref q/\SaT P H1 H2/\TabOk H2 P lpos (X.env.qual++"<lambda>")/\H2 q=some (vc q (X.env.qual++"<lambda>") params (.Subscript (.Name px pp) (.Name gx gp) bp) scope ((X.mg "__name__").getD .none) c')/\H2 c'=some (vd c' (X.env.qual++"<lambda>"))
   |_=>False) I1 ⟨tab,fun q c' H2 s2 t2 _ hq hc'=>⟨q,c',rfl,rfl,s2,t2,hq,hc'⟩⟩) fun ws s2 hws=>?_
 obtain⟨zs,H2,I2,rz,q2⟩:=hws;obtain⟨z,y,rfl⟩:∃z y,zs=[z,y]:=by
  cases zs with
  |nil=>exact q2.elim
  |cons x r=>
   cases r with
   |nil=>exact q2.elim
   |cons y r=>
    cases r with
    |nil=>exact⟨x,y,rfl⟩
    |cons y r=>exact q2.elim
 obtain⟨w,w2,rfl,rw',rw2⟩:=vals2 rz;obtain⟨q,c',rfl,rfl,s2',t2,hq,hc'⟩:=q2;cases (show w=Value.ref q from rw');cases (show w2=Value.bool true from rw2);show wpAny (model X.prog X.w) X.A (call (.builtin "sorted") [.ref a] [(Str.ofString "key",.ref q),(Str.ofString "reverse",.bool true)]) (EP X pins σ Q) X.xe s2;refine Qb (b:=true) (kw:=[(Str.ofString "key",.ref q),(Str.ofString "reverse",.bool true)]) I2 hr (s2'.seq hx) h64 hlen (fun i x k h1 h2=>?_) hq hc' hgx (hb c' _) kd co gn ncell lpx lgx d1 d2 (ksk_s2 _ _ _) (fun x=>ksk_l2 _ _ _) (fun x=>ksk_t2 q x true) fun D out hD ko=>?_
 ·obtain⟨p,ws,e,hp,hw⟩:=items i x k h1 h2
  exact⟨p,ws,e,s2'.keep _ _ hp rfl,hw⟩
 ·exact fin D out _ (s2'.new hD _) (t2.mono (zm hD _)) (s2'.free hD) ql ko
end
end X2
namespace X2
open PySem PySem.Spec PyProof.Rows L2 PySem.W
variable{ks:List (List Nat)}{k':List Nat}{vs:fM}{P:PySem.Fin->Shared->Prop}{X:Cx}{s:Shared}{as:fL}{ps:List (Str×Int)}{α:Type}
def runC{α:Type}(n:Nat)(lt:Nat->Nat->Bool):KasT α->Option α
 |.ret a=>some a
 |.ask i j k=>if i<n/\j<n then runC n lt (k (lt i j))else none
theorem Kr{α:Type}{n:Nat}{lt:Nat->Nat->Bool}{cmp:Nat->Nat->(Bool->Shared->Prop)->Shared->Prop}{s:Shared}(hc:∀i j C,i<n->j<n->C (lt i j) s->cmp i j C s){Q:α->Shared->Prop}:∀(t:KasT α)(a:α),runC n lt t=some a->Q a s->t.kasWp cmp Q s
 |.ret b,a,e,q=>by cases e;exact q
 |.ask i j k,a,e,q=>by
  unfold runC at e
  split at e
  ·rename_i h
   exact hc i j _ h.1 h.2 (Kr hc (k (lt i j)) a e q)
  ·cases e
def goodRun(n:Nat)(r:List Nat):Bool:=match runC n (fun i j=>decide (r.getD i 0<r.getD j 0)) (kas_sort n)with
 |some p=>p.toList.isPerm (List.range n) && (p.toList.map (fun i=>r.getD i 0) == List.range n)
 |none=>false
def lists(m:Nat):Nat->List (List Nat)
 |0=>[[]]
 |n+1=>(lists m n).flatMap fun l=>(List.range m).map fun i=>i::l
theorem Qr{m:Nat}:∀{l:List Nat},(∀i∈l,i<m)->l∈lists m l.length
 |[],_=>au.mpr rfl
 |i::l,h=>List.mem_flatMap.mpr ⟨l,Qr fun j hj=>h j (av _ hj),aC.mpr ⟨i,b9.mpr (h i (ar ..)),rfl⟩⟩
theorem good2:∀r∈lists 2 2,r.Nodup->goodRun 2 r=true:=by decide +kernel
theorem good3:∀r∈lists 3 3,r.Nodup->goodRun 3 r=true:=by decide +kernel
theorem qda:∀r∈lists 4 4,r.Nodup->goodRun 4 r=true:=by decide +kernel
theorem qc9:∀r∈lists 5 5,r.Nodup->goodRun 5 r=true:=by decide +kernel
theorem uo{r:List Nat}(h2:2<=r.length)(h5:r.length<=5)(hr:∀i∈r,i<r.length)(nd:r.Nodup):goodRun r.length r=true:=by
 have hm:=Qr hr;rcases(by omega:r.length=2\/r.length=3\/r.length=4\/r.length=5)with e|e|e|e <;> rw[e]at hm ⊢
 ·exact good2 r hm nd
 ·exact good3 r hm nd
 ·exact qda r hm nd
 ·exact qc9 r hm nd
theorem wB{α:Type}{n:Nat}{lt lt':Nat->Nat->Bool}(h:∀i j,i<n->j<n->lt i j=lt' i j):∀t:KasT α,runC n lt t=runC n lt' t
 |.ret a=>rfl
 |.ask i j k=>by
  unfold runC
  split
  ·rename_i q
   rw[h i j q.1 q.2];exact wB h _
  ·rfl
theorem tot{a b:List Nat}(h1:¬ a<b)(h2:¬ b<a):a=b:=dR (bL.mp h2) (bL.mp h1)
def rk(ks:List (List Nat))(k:List Nat):Nat:=(ks.filter fun x=>decide (x<k)).length
theorem qcm{k:List Nat}(h:k∈ks):rk ks k<ks.length:=by
 unfold rk;rw[cX];exact⟨k,h,by simp[bA]⟩
theorem yd{k:List Nat}(h:k∈ks)(hk:k<k'):rk ks k<rk ks k':=by
 unfold rk;have e:ks.filter (fun x=>decide (x<k))=(ks.filter (fun x=>decide (x<k'))).filter (fun x=>decide (x<k)):=by
  rw[List.filter_filter];apply List.filter_congr;intro x _
  by_cases q:x<k
  ·have:x<k':=eY q hk
   simp[q,this]
  ·simp[q]
 rw[e,cX];exact⟨k,aY.mpr ⟨h,by simpa using hk⟩,by simp[bA]⟩
theorem u0{k:List Nat}(h:k∈ks)(h':k'∈ks):rk ks k<rk ks k'↔k<k':=by
 refine⟨fun q=>?_,yd h⟩
 by_cases c:k<k'
 ·exact c
 ·by_cases c2:k'<k
  ·exact absurd (yd h' c2) (by omega)
  ·rw[tot c c2]at q
   omega
theorem Ki(h2:2<=ks.length)(h5:ks.length<=5)(nd:ks.Nodup) :
  ∃p:Array Nat,runC ks.length (fun i j=>decide (ks.getD i []<ks.getD j [])) (kas_sort ks.length)=some p/\p.toList.Perm (List.range ks.length)/\(p.toList.map (fun i=>ks.getD i [])).Pairwise (·<·):=by
 have lr:(ks.map (rk ks)).length=ks.length:=ab _;have gd:∀i,i<ks.length->∃k,k∈ks/\ks.getD i []=k/\(ks.map (rk ks)).getD i 0=rk ks k:=fun i hi=>by
  refine⟨ks[i],cj hi,by simp[hi],?_⟩;simp[hi]
 have g:=uo (r:=ks.map (rk ks)) (by rw[lr];exact h2) (by rw[lr];exact h5) (fun i hi=>by
  obtain⟨k,hk,rfl⟩:=aC.mp hi;rw[lr];exact qcm hk) (by
  rw[aJ]at nd ⊢;rw[bg];refine nd.imp_of_mem fun{a b} ha hb hne e=>hne ?_
  have c1:¬ a<b:=fun z=>absurd (yd ha z) (by omega)
  have c2:¬ b<a:=fun z=>absurd (yd hb z) (by omega)
  exact tot c1 c2)
 rw[lr]at g;have ec:∀i j,i<ks.length->j<ks.length->decide ((ks.map (rk ks)).getD i 0<(ks.map (rk ks)).getD j 0)=decide (ks.getD i []<ks.getD j []):=fun i j hi hj=>by
  obtain⟨k,mk,e1,e2⟩:=gd i hi;obtain⟨k',mk',e3,e4⟩:=gd j hj;rw[e1,e2,e3,e4];exact decide_eq_decide.mpr (u0 mk mk')
 unfold goodRun at g;rw[wB ec]at g
 split at g
 ·rename_i p hp
  rw[cx]at g;obtain⟨g1,g2⟩:=g;have pm:p.toList.Perm (List.range ks.length):=List.isPerm_iff.mp g1;refine⟨p,hp,pm,?_⟩;have g3:p.toList.map (fun i=>(ks.map (rk ks)).getD i 0)=List.range ks.length:=eq_of_beq g2;have pw:(p.toList.map (fun i=>(ks.map (rk ks)).getD i 0)).Pairwise (·<·):=by rw[g3];exact List.pairwise_lt_range
  rw[bg]at pw ⊢;refine pw.imp_of_mem fun{a b} ha hb q=>?_
  have la:=b9.mp (pm.mem_iff.mp ha);have lb:=b9.mp (pm.mem_iff.mp hb);have:=ec a b la lb;have t:decide ((ks.map (rk ks)).getD a 0<(ks.map (rk ks)).getD b 0)=true:=aO q;rw[this]at t;exact cF t
 ·cases g
section
variable{prog:Program}{w:World}{A:Around}{E:fJ}{s:Shared}
theorem yo{a:Addr}{n:Nat}{κ:SortKind}{lt:Nat->Nat->Bool}{p:Array Nat}(ho:s.heap.get? a=some (seqObj "list" vs.toArray n))(h2:2<=vs.length)(h64:vs.length<64)
  (hk:∀s':Shared,(∀b o,b≠a->s.heap.get? b=some o->s'.heap.get? b=some o)->∀(Q:SortKind->Shared->Prop)(E':fJ),Q κ s'->wpAny (model prog w) A (keyKind' vs.toArray) Q E' s')
  (hc:∀s':Shared,(∀b o,b≠a->s.heap.get? b=some o->s'.heap.get? b=some o)->∀i j C,i<vs.length->j<vs.length->C (lt i j) s'->kas_ask prog w A κ vs i j C s')
  (hp:runC vs.length lt (kas_sort vs.length)=some p)(pl:p.toList.length=vs.length)
  (h:P (.done (.ret .none)) { s with heap:=sortedHeap s.heap a vs (p.toList.map fun i=>vs.getD i Value.none).toArray }) :
  wpAny (model prog w) A (Builtin.«list.sort» ⟨[.ref a],[]⟩) P E s:=by
 have ha:a<s.heap.objs.size:=ao ho;have s1:=eB s.heap a (Obj.mapSeq fun _=>(#[]:fO));obtain⟨e1,ho1⟩:∃e1,(s.heap.update a (Obj.mapSeq fun _=>(#[]:fO))).get? a=some (seqObj "list" #[] e1):=⟨_,get?_update_seq ho fun _=>#[]⟩;have keep:∀b o,b≠a->s.heap.get? b=some o->(((s.heap.update a (Obj.mapSeq fun _=>(#[]:fO))).push (seqObj "tuple" vs.toArray 0)).push (seqObj "list" #[] 0)).get? b=some o:=fun b o nb e=>
  ae _ (ae _ ((s1.2 b nb).trans e))
 have ho3:(((s.heap.update a (Obj.mapSeq fun _=>(#[]:fO))).push (seqObj "tuple" vs.toArray 0)).push (seqObj "list" #[] 0)).get? a=some (seqObj "list" #[] e1):=ae _ (ae _ ho1);rw[list_sort_plain];refine af (listItems_at ho rfl ?_);refine af (listUpdate_at ho rfl ?_ (by rw[ah,bK];omega) (aV _));refine af (seqEpoch_at ho1 rfl ?_);refine af (wpAny_newTuple ?_ (by show vs.length<=_;rw[bK];omega));refine af (eZ ?_ (aV _));refine bQ ?_;show wpAny (model prog w) A _ P E { s with heap:=((s.heap.update a (Obj.mapSeq fun _=>(#[]:fO))).push (seqObj "tuple" vs.toArray 0)).push (seqObj "list" #[] 0) };dsimp only;have hn2:¬ vs.toArray.size<2:=by rw[ah];omega
 rw[aG hn2,aG hn2];refine af (hk { s with heap:=((s.heap.update a (Obj.mapSeq fun _=>(#[]:fO))).push (seqObj "tuple" vs.toArray 0)).push (seqObj "list" #[] 0) } keep _ _ ?_);have run:=kat_run (prog:=prog) (w:=w) (A:=A) (E:=E) (κ:=κ) (ks:=vs) (vs:=vs) (s:={ s with heap:=((s.heap.update a (Obj.mapSeq fun _=>(#[]:fO))).push (seqObj "tuple" vs.toArray 0)).push (seqObj "list" #[] 0) })
  (Q:=fun st' s'=>s'={ s with heap:=((s.heap.update a (Obj.mapSeq fun _=>(#[]:fO))).push (seqObj "tuple" vs.toArray 0)).push (seqObj "list" #[] 0) }/\arrOf st'=p.map (kas_item (vs.toArray.zip vs.toArray))/\failedOf st'=none)
  (G:=fun p' s'=>p'=p/\s'={ s with heap:=((s.heap.update a (Obj.mapSeq fun _=>(#[]:fO))).push (seqObj "tuple" vs.toArray 0)).push (seqObj "list" #[] 0) })
  rfl h2 h64 (fun p' st' s' _ a2 a3⟨e,e'⟩=>⟨e',by rw[a2,e],a3⟩) (Kr (hc { s with heap:=((s.heap.update a (Obj.mapSeq fun _=>(#[]:fO))).push (seqObj "tuple" vs.toArray 0)).push (seqObj "list" #[] 0) } keep) _ p hp ⟨rfl,rfl⟩)
 refine af (bf run ?_ fun _ _ e=>e);rintro⟨⟨⟩,st'⟩ s' ⟨rfl,har,hf⟩;dsimp only;have hout:=kat_snds (ks:=vs) (vs:=vs) rfl har;rw[hout];refine af (seqEpoch_at ho3 rfl ?_);refine af (listUpdate_at ho3 rfl ?_ (aV _) (by rw[ah,ab,pl,bK];omega));rw[hf];simp only[bne_self_eq_false,eN,fz];exact aw h
theorem xW{a:Addr}{n:Nat}(ho:s.heap.get? a=some (seqObj "list" vs.toArray n))(h2:vs.length<2)
  (h:P (.done (.ret .none)) { s with heap:=sortedHeap s.heap a vs vs.toArray }) :
  wpAny (model prog w) A (Builtin.«list.sort» ⟨[.ref a],[]⟩) P E s:=by
 have s1:=eB s.heap a (Obj.mapSeq fun _=>(#[]:fO));obtain⟨e1,ho1⟩:∃e1,(s.heap.update a (Obj.mapSeq fun _=>(#[]:fO))).get? a=some (seqObj "list" #[] e1):=⟨_,get?_update_seq ho fun _=>#[]⟩;have ho3:(((s.heap.update a (Obj.mapSeq fun _=>(#[]:fO))).push (seqObj "tuple" vs.toArray 0)).push (seqObj "list" #[] 0)).get? a=some (seqObj "list" #[] e1):=ae _ (ae _ ho1);rw[list_sort_plain];refine af (listItems_at ho rfl ?_);refine af (listUpdate_at ho rfl ?_ (by rw[ah,bK];omega) (aV _));refine af (seqEpoch_at ho1 rfl ?_);refine af (wpAny_newTuple ?_ (by show vs.length<=_;rw[bK];omega));refine af (eZ ?_ (aV _));refine bQ ?_;show wpAny (model prog w) A _ P E { s with heap:=((s.heap.update a (Obj.mapSeq fun _=>(#[]:fO))).push (seqObj "tuple" vs.toArray 0)).push (seqObj "list" #[] 0) };dsimp only;have hn2:vs.toArray.size<2:=by rw[ah];exact h2
 rw[aF hn2,aF hn2];refine af (aw ?_);rw[StateT.run_pure];refine af (aw ?_);dsimp only;have hout:(arrOf (SortSt.mk' general' (vs.toArray.zip vs.toArray) #[] 7 none)).map (·.2)=vs.toArray:=by
  show(vs.toArray.zip vs.toArray).map (·.2)=vs.toArray;apply Array.toList_inj.mp;rw[Array.toList_map,ksk_zip,eE,List.map_snd_zip (ak _)]
 rw[hout];refine af (seqEpoch_at ho3 rfl ?_);refine af (listUpdate_at ho3 rfl ?_ (aV _) (by rw[ah,bK];omega));show wpAny _ _ _ _ _ _;simp only[bne_self_eq_false,eN,fz];exact aw h
end
def JE(v d:Addr):HO:=.ext (fun h=>h.get? v=some { cls:=.type "dict_items",data:=.fields #[.ref d] })
theorem X_:MtR X "dict.items" (fun x xs H Q=>∃d kvs,x=.ref d/\xs=[]/\H d=some (.dK kvs)/\∀v,H v=none->Q (.ref v) (upd H v (JE v d))):=by
 intro pins s σ H x xs v us Q I rx rv h;obtain⟨d,kvs,rfl,rfl,hd,q⟩:=h;cases (show v=Value.ref d from rx);cases rv;obtain⟨_,nd,vs,r,da⟩:=JZ I.hok hd;refine call_meetsIn PySem.F.slot_dict_items da.typeIs PySem.F.entry_dict_items (PySem.F.args_dict_items_1 _) (meets_dict_items (zf X.prog X.w) d nd) ⟨⟨vs,da⟩,?_⟩;refine⟨.ref s.heap.objs.size,_,I.laid (t':=s.toks) (o:=JE s.heap.objs.size d) (fun b o e=>ae _ e) (ak _) ?_,rfl,q _ (I.hok.fresh (ak _))⟩;exact⟨aB _ rfl,⟨_,aB _ rfl⟩,fun h1 h2 e k=>k _ e⟩
theorem _root_.L2.Inv.laidMany{pins:fI}{σ:L2.St}{H H':Hp}{h':Heap}{t':Nat}(I:Inv X pins σ H s)(k:∀b u,s.heap.get? b=some u->h'.get? b=some u)(old:∀b u,s.heap.get? b=some u->H' b=H b)(new:∀b u,H' b=some u->s.heap.get? b=none->ObjOk X.prog X.w H' h' b u) :
  Inv X pins σ H' { s with heap:=h',toks:=t' }:=by
 have there:∀b u,H b=some u->H' b=some u:=fun b u e=>by
  obtain⟨o,q⟩:=j_ (I.hok b u e);rw[old b o q];exact e
 refine I.step (g':=s.gens) (d':=s.drawn) (ch:=[]) (fun _ z=>nomatch z) (fun b u _ _ _ e _=>k b u e) (fun b u _ _ _ e _=>⟨u.slots,k b u e⟩) (fun b u _ e n=>by rw[old b u e];exact n)
  (fun b u _ e=>⟨u,k b u e⟩) (fun b xs q=>there b _ q) (fun b u xs q=>there b _ q) (fun b ps q=>⟨#[],by rw[there b _ q];simp⟩) (fun m hm=>hm.keeps k) (fun b u e=>?_) I.bare
 cases q:s.heap.get? b with
 |none=>exact new b u e q
 |some o=>
  rw[old b o q]at e;exact(I.hok b u e).stay (fun c v _ z=>k c v z) (fun c z=>there c _ z) fun c xs z=>there c _ z
theorem jB{α β:Type}{R:α->β->Prop}:∀{xs:List α}{ys:List β}{i:Nat}{x:α},Paired R xs ys->xs[i]?=some x->∃y,ys[i]?=some y/\R x y
 |_,_,i,x,.nil,h=>by simp at h
 |_,_,0,x,.cons r t,h=>by simp at h;subst h;exact⟨_,rfl,r⟩
 |_,_,i+1,x,.cons r t,h=>by
  obtain⟨y,e,q⟩:=jB (i:=i) (x:=x) t (by simpa using h);exact⟨y,by simpa using e,q⟩
theorem Q9{a b:Str}(h:a.cps.toList=b.cps.toList):a=b:=by
 obtain⟨x⟩:=a;obtain⟨y⟩:=b;have:x=y:=Array.toList_inj.mp h;rw[this]
def toDK(ps:List (Str×Int)):List (Key×V):=ps.map fun p=>((Sum.inr p.1:Key),V.int p.2)
theorem JR(hd:as.Nodup):∀{i:Nat}{a:Addr}{o:Str×Int},as[i]?=some a->ps[i]?=some o->(as.zip ps).lookup a=some o:=by
 induction as generalizing ps with
 |nil=>intro i a o h;simp at h
 |cons b as ih=>
  intro i a o h1 h2;cases ps with
  |nil=>simp at h2
  |cons p ps=>
   rw[d6,aS];obtain⟨n1,n2⟩:=bE.mp hd;cases i with
   |zero=>
    simp at h1 h2;subst h1 h2;simp
   |succ i=>
    have h1':as[i]?=some a:=by simpa using h1
    have:(a == b)=false:=by
     have:a≠b:=fun z=>n1 (z▸ay h1')
     simpa using this
    rw[this];exact ih n2 h1' (by simpa using h2)
theorem vt{b:Addr}{o:Str×Int}:(as.zip ps).lookup b=some o->∃i:Nat,as[i]?=some b/\ps[i]?=some o:=by
 induction as generalizing ps with
 |nil=>intro h;simp at h
 |cons a as ih=>
  intro h;cases ps with
  |nil=>simp at h
  |cons p ps=>
   rw[d6,aS]at h;cases e:b == a with
   |true=>
    rw[e]at h;have eb:b=a:=by simpa using e
    subst eb;exact⟨0,rfl,by simpa using h⟩
   |false=>
    rw[e]at h;obtain⟨i,h1,h2⟩:=ih h;exact⟨i+1,by simpa using h1,by simpa using h2⟩
theorem getD_map{β:Type}(f:α->β)(l:List α)(d:α)(i:Nat)(h:i<l.length)(e:β):(l.map f).getD i e=f (l.getD i d):=by simp[h]
theorem range_getD(l:List α)(d:α):(List.range l.length).map (fun i=>l.getD i d)=l:=by
 apply List.ext_getElem
 ·simp
 ·intro i h1 h2
  simp[h2]
theorem Qa{prog:Program}{w:World}{A:Around}{E:fJ}{h1:Heap}{tk:Nat}(la:as.length=ps.length)(l5:ps.length<=5)(ndk:(ps.map (·.1)).Nodup)(info:∀(i:Nat) a o,as[i]?=some a->ps[i]?=some o->∃ob m t t',h1.get? a=some ob/\ob.cls=.type "tuple"/\ob.data=.seq #[.str o.1 t,.int o.2 t'] m)
  (fin:∀(p:List Nat)(out':fO),p.Perm (List.range ps.length)->(p.map (fun i=>ps.getD i ("",0))).Pairwise (fun a b=>a.1.cps.toList<b.1.cps.toList)->out'=(p.map fun i=>(as.map Value.ref).getD i Value.none).toArray->P (.done (.ret .none)) { s with heap:=sortedHeap (h1.push { cls:=.type "list",data:=.seq (as.map Value.ref).toArray }) h1.objs.size (as.map Value.ref) out',toks:=tk }) :
  wpAny (model prog w) A (Builtin.«list.sort» ⟨[.ref h1.objs.size],[]⟩) P E { s with heap:=h1.push { cls:=.type "list",data:=.seq (as.map Value.ref).toArray },toks:=tk }:=by
 have hB:(h1.push { cls:=.type "list",data:=.seq (as.map Value.ref).toArray }).get? h1.objs.size=some (seqObj "list" (as.map Value.ref).toArray 0):=aB _ rfl;have asl:∀(i:Nat) a,as[i]?=some a->a<h1.objs.size:=fun i a ha=>by
  have hi:i<ps.length:=by rw[<- la];exact(ai.mp ha).1
  obtain⟨ob,m,t,t',e1,_⟩:=info i a _ ha (aa hi);exact ao e1
 have lm:(as.map Value.ref).length=ps.length:=by rw[ab,la]
 by_cases h2:2<=ps.length
 ·have lk:(ps.map fun o=>o.1.cps.toList).length=ps.length:=ab _
  obtain⟨p,hp,pp,pw⟩:=Ki (ks:=ps.map fun o=>o.1.cps.toList) (by rw[lk];exact h2) (by rw[lk];exact l5) (by
   refine aJ.mpr (bg.mpr ?_);exact(bg.mp (aJ.mp ndk)).imp fun hne z=>hne (Q9 z))
  rw[lk]at hp pp;have gk:∀i,i<ps.length->(ps.map fun o=>o.1.cps.toList).getD i []=(ps.getD i ("",0)).1.cps.toList:=fun i hi=>getD_map _ ps ("",0) i hi []
  have at':∀i,i<ps.length->∃a ob m t t',(as.map Value.ref).getD i Value.none=.ref a/\as[i]?=some a/\h1.get? a=some ob/\ob.data=.seq #[.str (ps.getD i ("",0)).1 t,.int (ps.getD i ("",0)).2 t'] m:=fun i hi=>by
   have z1:as[i]?=some (as[i]'(by omega)):=aa _;have z2:ps[i]?=some (ps.getD i ("",0)):=by simp[hi]
   obtain⟨ob,m,t,t',z3,z4,z5⟩:=info i _ _ z1 z2;exact⟨as[i]'(by omega),ob,m,t,t',by simp[show i<as.length by omega],z1,z3,z5⟩
  refine yo (κ:=tuples' true) (lt:=fun i j=>decide ((ps.map fun o=>o.1.cps.toList).getD i []<(ps.map fun o=>o.1.cps.toList).getD j [])) (p:=p) hB (by rw[lm];exact h2) (by rw[lm];omega) ?_ ?_ (by rw[lm];exact hp) (by rw[lm,pp.length_eq,dH]) (fin p.toList _ pp ?_ rfl)
  ·intro s' kp Q' E' hq
   have tups:∀(n:Nat)(bs:fL)(os:List (Str×Int)),bs.length=os.length->(∀(i:Nat) a o,bs[i]?=some a->os[i]?=some o->∃ob m t t',s'.heap.get? a=some ob/\ob.cls=.type "tuple"/\ob.data=.seq #[.str o.1 t,.int o.2 t'] m)->∃fs,KatTups s'.heap (bs.map Value.ref) fs/\fs.length=bs.length/\∀f∈fs,∃x t,f=Value.str x t:=by
    intro _ bs
    induction bs with
    |nil=>
     intro os hl _;exact⟨[],.nil,rfl,fun f hf=>nomatch hf⟩
    |cons a bs ih=>
     intro os hl hh;cases os with
     |nil=>cases hl
     |cons o os=>
      obtain⟨ob,m,t,t',z,z2,z3⟩:=hh 0 a o rfl rfl;obtain⟨fs,k1,k2,k3⟩:=ih os (by simpa using hl) fun i a o z1 z2=>hh (i+1) a o (by simpa using z1) (by simpa using z2)
      refine⟨.str o.1 t::fs,KatTups.cons z z2 z3 rfl k1,by simp[k2],fun f hf=>?_⟩;rcases aj.mp hf with e|e
      ·exact⟨_,_,e⟩
      ·exact k3 f e
   obtain⟨fs,k1,k2,k3⟩:=tups 0 as ps la fun i a o z1 z2=>by
    obtain⟨ob,m,t,t',z,z3,z4⟩:=info i a o z1 z2;exact⟨ob,m,t,t',kp _ _ (aq (asl i a z1)) (ae _ z),z3,z4⟩
   refine kat_kind (T:=.type "str") k1 (by omega) (fun f hf=>?_) (by decide) (show Q' (tuples' (Value.type "str" != Value.type "tuple")) s' from(show(Value.type "str" != Value.type "tuple")=true by decide)▸hq);obtain⟨x,t,rfl⟩:=k3 f hf;exact Looks.of_pure rfl
  ·intro s' kp i j C hi hj hC
   rw[lm]at hi hj;obtain⟨a,oa,ma,t,t',e1,e2,e3,e4⟩:=at' i hi;obtain⟨b,ob,mb,u,u',f1,f2,f3,f4⟩:=at' j hj;unfold kas_ask;rw[e1,f1];have ga:=kp _ _ (aq (asl i a e2)) (ae _ e3);have gb:=kp _ _ (aq (asl j b f2)) (ae _ f3);rw[gk i hi,gk j hj]at hC;refine kat_lt ga e4 gb f4 ?_;show KatLex prog w _ true (decide ((2:Nat)<2)) C [(.str (ps.getD i ("",0)).1 t,.str (ps.getD j ("",0)).1 u),(.int (ps.getD i ("",0)).2 t',.int (ps.getD j ("",0)).2 u')] 0 s';refine kat_cons (SeqAt.EqAt.str_str _ _ _ _ _ _ _ _ ?_)
   by_cases hs:(ps.getD i (("":Str),(0:Int))).1=(ps.getD j (("":Str),(0:Int))).1
   ·have ij:i=j:=by
     have n:=bg.mp (aJ.mp ndk);rw[dq]at n;have g1:ps.getD i (("":Str),(0:Int))=ps[i]:=by simp[hi]
     have g2:ps.getD j (("":Str),(0:Int))=ps[j]:=by simp[hj]
     rw[g1,g2]at hs;rcases Nat.lt_trichotomy i j with z|z|z
     ·exact absurd hs (n i j hi hj z)
     ·exact z
     ·exact absurd hs.symm (n j i hj hi z)
    subst ij;rw[bR];refine kat_yes (kat_cons (SeqAt.EqAt.int_int _ _ _ _ _ _ _ _ ?_));rw[bR];refine kat_yes (kat_nil ?_);have:decide ((ps.getD i (("":Str),(0:Int))).1.cps.toList<(ps.getD i (("":Str),(0:Int))).1.cps.toList)=false:=by simp[bA]
    rw[this]at hC;exact hC
   ·have:((ps.getD i (("":Str),(0:Int))).1 == (ps.getD j (("":Str),(0:Int))).1)=false:=by simpa using hs
    rw[this];exact kat_no (oneLt_str hC)
  ·rw[bg]at pw ⊢
   refine pw.imp_of_mem fun{x y} hx hy hlt=>?_
   have lx:=b9.mp (pp.mem_iff.mp hx);have ly:=b9.mp (pp.mem_iff.mp hy);rw[gk x lx,gk y ly]at hlt;exact hlt
 ·refine xW hB (by rw[lm];omega) (fin (List.range ps.length) _ (List.Perm.refl _) ?_ ?_)
  ·rw[range_getD]
   match ps,h2 with
   |[],_=>exact .nil
   |[x],_=>exact List.pairwise_singleton _ _
   |x::y::r,h2=>exact absurd (by simp) h2
  ·have:=range_getD (as.map Value.ref) Value.none
   rw[lm]at this;rw[this]
theorem xu(hcm:X.calm=true):CallR X (.builtin "sorted") (fun xs H Q=>∃(v d:Addr)(ps:List (Str×Int)),xs=[.ref v]/\H v=some (JE v d)/\H d=some (.dK (toDK ps))/\ps.length<=5/\
  ∀(l:Addr)(out:List (Str×Int))(qs:fL)(H':Hp),Same H H'->H l=none->out.Perm ps->out.Pairwise (fun a b=>a.1.cps.toList<b.1.cps.toList)->H' l=some (.lst (qs.map V.ref))->qs.length=out.length->(∀(i:Nat) q(o:Str×Int),qs[i]?=some q->out[i]?=some o->H' q=some (.tup [.str o.1,.int o.2]))->(∀a∈qs,H a=none)->Q (.ref l) H'):=by
 intro pins s σ H xs us Q I r h;obtain⟨v,d,ps,rfl,hv,hd,l5,q⟩:=h;obtain⟨u,rfl,ru⟩:=eW r;cases (show u=Value.ref v from ru);obtain⟨hz,nd,vs,rkv,da⟩:=JZ I.hok hd;obtain⟨ep,dat⟩:=da.dictAt;have lvs:vs.length=ps.length:=by rw[<- cH rkv];exact ab _
 have hview:s.heap.IsItemsView v d:=⟨_,(I.hok v _ hv).1,rfl,rfl⟩;have ndk:(ps.map (·.1)).Nodup:=by
  obtain⟨_,_,_,_,_,_,_,_,n⟩:=da;have e:vs.map (·.1)=(ps.map (·.1)).map (Sum.inr:Str->Key):=by
   apply List.ext_getElem
   ·simp[lvs]
   ·intro i h1 h2
    have hi:i<ps.length:=by simpa using h2
    have hk:(toDK ps)[i]?=some (Sum.inr ps[i].1,V.int ps[i].2):=by unfold toDK;rw[ag,aa hi];rfl
    obtain⟨y,e1,e2,_⟩:=jB rkv hk;have hy:vs[i]'(by omega)=y:=by rw[aa (by omega)]at e1;exact bh e1
    simp only[List.getElem_map];rw[hy];exact e2.symm
  rw[e]at n;exact(bg.mp (aJ.mp n)).imp fun hne z=>hne (by rw[z])
 refine Calls.call_function_entry kind_sorted plain_sorted entry_sorted (args_sorted1 _) ?_;unfold Builtin.«sorted»;refine af (m:=checkCount "sorted" 1 1 _) (aw ?_);refine af (kdx_collect (A:=X.A.in1) (knd:=zf X.prog X.w) (kvs:=vs) (ep:=ep) (I.ok.hd hcm) hview dat (by rw[lvs,bK];omega) fun h1 tk as hk hl hG=>?_);have la:as.length=ps.length:=hl.trans lvs;refine af (eZ ?_ (by rw[ab,la,bK];omega));have hB:(h1.push { cls:=.type "list",data:=.seq (as.map Value.ref).toArray }).get? h1.objs.size=some (seqObj "list" (as.map Value.ref).toArray 0):=aB _ rfl;have info:∀(i:Nat) a o,as[i]?=some a->ps[i]?=some o->∃t t',h1.get? a=some { cls:=.type "tuple",data:=.seq #[.str o.1 t,.int o.2 t'] }:=fun i a o ha ho=>by
  obtain⟨key,k,x,e1,e2,e3⟩:=hG.pairs i a ha;have hkv:(toDK ps)[i]?=some (Sum.inr o.1,V.int o.2):=by unfold toDK;rw[ag,ho];rfl
  obtain⟨y,e4,e5,e6⟩:=jB rkv hkv;rw[e1]at e4;cases e4;cases (show Sum.inr o.1=k from e5);obtain⟨t',rfl⟩:=(show ∃t,x=Value.int o.2 t from e6);rcases zq (show QF (Sum.inr o.1) key=true from e2)with⟨_,_,z,_⟩|⟨y,t,z,rfl⟩
  ·cases z
  ·cases z
   exact⟨t,t',e3⟩
 have asn:as.Nodup:=aJ.mpr (hG.rise.imp fun h=>aq h);have asl:∀a∈as,a<h1.objs.size:=fun a ha=>hG.there ha
 have fin:∀(p:List Nat)(out':fO),p.Perm (List.range ps.length)->(p.map (fun i=>ps.getD i ("",0))).Pairwise (fun a b=>a.1.cps.toList<b.1.cps.toList)->out'=(p.map fun i=>(as.map Value.ref).getD i Value.none).toArray->
   EP X pins σ Q (.ref h1.objs.size) { s with heap:=sortedHeap (h1.push { cls:=.type "list",data:=.seq (as.map Value.ref).toArray }) h1.objs.size (as.map Value.ref) out',toks:=tk }:=by
  intro p out' pp pw eo;have pin:∀i∈p,i<ps.length:=fun i hi=>b9.mp (pp.mem_iff.mp hi)
  have plen:p.length=ps.length:=by rw[pp.length_eq,dH]
  let qs:=p.map fun i=>as.getD i 0
  have eo2:out'.toList=qs.map Value.ref:=by
   rw[eo,eE,cu];refine cM fun i hi=>?_
   have:=pin i hi;exact getD_map Value.ref as 0 i (by omega) _
  let H':Hp:=fun b=>if b=h1.objs.size then some (.lst (qs.map V.ref))else match(as.zip ps).lookup b with|some o=>some (.tup [.str o.1,.int o.2])|none=>H b
  have nB:s.heap.get? h1.objs.size=none:=by
   cases e:s.heap.get? h1.objs.size with
   |none=>rfl
   |some o=>exact absurd (ao (hk _ _ e)) (bH _)
  have nA:∀a∈as,s.heap.get? a=none:=fun a ha=>Heap.get?_none_of_le (bD (hG.above a ha))
  have szp:(h1.push { cls:=.type "list",data:=.seq (as.map Value.ref).toArray }).objs.size=h1.objs.size+1:=bZ ..;have keepG:∀b o,h1.get? b=some o->(sortedHeap (h1.push { cls:=.type "list",data:=.seq (as.map Value.ref).toArray }) h1.objs.size (as.map Value.ref) out').get? b=some o:=fun b o e=>
   (sortedHeap_old (aq (ao e)) (by rw[szp];exact cZ (ao e))).trans (ae _ e)
  have oldH:∀b u,s.heap.get? b=some u->H' b=H b:=fun b u e=>by
   have n1:b≠h1.objs.size:=fun z=>by rw[z,nB]at e;cases e
   show(if b=h1.objs.size then _ else _)=_;rw[aG n1];cases lk:(as.zip ps).lookup b with
   |none=>rfl
   |some o=>
    obtain⟨i,z1,_⟩:=vt lk;rw[nA b (ay z1)]at e;cases e
  have vr:∀l:fL,Vals (l.map V.ref) (l.map Value.ref):=fun l=>by
   induction l with
   |nil=>exact .nil
   |cons a l ih=>exact .cons rfl ih
  have HB:H' h1.objs.size=some (.lst (qs.map V.ref)):=aF rfl;have HT:∀(i:Nat) a o,as[i]?=some a->ps[i]?=some o->H' a=some (.tup [.str o.1,.int o.2]):=fun i a o z1 z2=>by
   have n1:a≠h1.objs.size:=aq (asl a (ay z1));show(if a=h1.objs.size then _ else _)=_;rw[aG n1,JR asn z1 z2]
  have new:∀b u,H' b=some u->s.heap.get? b=none->ObjOk X.prog X.w H' (sortedHeap (h1.push { cls:=.type "list",data:=.seq (as.map Value.ref).toArray }) h1.objs.size (as.map Value.ref) out') b u:=fun b u e nb=>by
   by_cases hb:b=h1.objs.size
   ·subst hb
    rw[HB]at e;cases e;obtain⟨e',he⟩:=sortedHeap_at (out:=out') hB;refine⟨by rw[ab,ab,plen,bK];omega,qs.map Value.ref,e',vr qs,?_⟩;rw[<- eo2,di];exact he
   ·have e':(match(as.zip ps).lookup b with|some o=>some (HO.tup [V.str o.1,V.int o.2])|none=>H b)=some u:=by
     have e2:(if b=h1.objs.size then some (HO.lst (qs.map V.ref))else match(as.zip ps).lookup b with|some o=>some (HO.tup [V.str o.1,V.int o.2])|none=>H b)=some u:=e;rw[aG hb]at e2;exact e2
    cases lk:(as.zip ps).lookup b with
    |none=>
     rw[lk]at e';obtain⟨o,z⟩:=j_ (I.hok b u e');rw[nb]at z;cases z
    |some o=>
     rw[lk]at e';cases e';obtain⟨i,z1,z2⟩:=vt lk;obtain⟨t,t',z3⟩:=info i b o z1 z2;exact⟨by show 2<=sizeLine;decide,[.str o.1 t,.int o.2 t'],.cons ⟨t,rfl⟩ (.cons ⟨t',rfl⟩ .nil),_,keepG _ _ z3,rfl,0,rfl⟩
  have sm:Same H H':=fun b u e=>by
   obtain⟨o,z⟩:=j_ (I.hok b u e);rw[oldH b o z];exact e
  refine⟨.ref h1.objs.size,H',I.laidMany (t':=tk) (fun b o e=>keepG b o (hk b o e)) oldH new,rfl,q h1.objs.size (p.map fun i=>ps.getD i ("",0)) qs H' sm (x_ I nB) ?_ pw HB (by rw[ab,ab]) (fun i a o z1 z2=>?_) (fun a ha=>?_)⟩
  ·have:=pp.map (fun i=>ps.getD i (("":Str),(0:Int)))
   rw[range_getD]at this;exact this
  ·rw[ag]at z1 z2
   cases e:p[i]? with
   |none=>rw[e]at z1;cases z1
   |some j=>
    rw[e]at z1 z2;have hj:=pin j (ay e);have z1':as.getD j 0=a:=bh z1;have z2':ps.getD j ("",0)=o:=bh z2;refine HT j a o ?_ ?_
    ·rw[<- z1'];simp[show j<as.length by omega]
    ·rw[<- z2'];simp[hj]
  ·obtain⟨j,hj,rfl⟩:=aC.mp ha
   have hj':=pin j hj;exact x_ I (nA _ (by simp[show j<as.length by omega]))
 refine af (bQ (ff slot_list_sort ⟨_,hB,rfl⟩ entry_list_sort ?body (args_list_sort _)));exact Qa la l5 ndk (fun i a o z1 z2=>let⟨t,t',z⟩:=info i a o z1 z2;⟨_,0,t,t',z,rfl,rfl⟩) fun p out' pp pw eo=>⟨_,rfl,aw ⟨_,rfl,fin p out' pp pw eo⟩⟩
end X2
namespace X2
open PySem PySem.Spec PyProof.Rows L2
variable{sp:Str->Int}{pre rds:List Rd}{qual st:Str}{m si:Int}{e:Rd}{ps:List (Str×Int)}{P c f:Addr}{fd:FuncData}{H H':Hp}{kvs:List (Key×V)}
theorem ZX:∀{ns:fP}{us:fM},Vals (ns.map V.str) us->StrsAre us ns
 |[],_,.nil=>.nil
 |x::r,_,.cons ⟨t,e⟩ q=>by subst e;exact .cons x t (ZX q)
inductive Reach(sp:Str->Int)(rds:List Rd)(st:Str)(si:Int):Rd->Prop
 |fst {d:Rd} (m:d∈rds) (e:d.a=st) (h:si<=d.l):Reach sp rds st si d
 |nxt {e d:Rd} (r:Reach sp rds st si e) (m:d∈rds) (h:hg sp e d=true):Reach sp rds st si d
theorem Reach.mem{d:Rd}(r:Reach sp rds st si d):d∈rds:=by cases r <;> assumption
theorem hg_iff{d:Rd}:hg sp e d=true↔e.b=d.a/\e.c+sp e.b<=d.l:=by unfold hg;exact aR
structure Good(sp:Str->Int)(rds:List Rd):Prop where
 lc:∀d∈rds,d.l<d.c
 s0:∀d∈rds,0<=sp d.b
theorem Reach.since(G:Good sp rds){d:Rd}(r:Reach sp rds st si d):si<=d.l:=by
 induction r with
 |fst m e h=>exact h
 |nxt r m h ih=>
  have:=G.lc _ r.mem;have:=G.s0 _ r.mem;have:=(hg_iff.mp h).2;omega
theorem qbq(G:Good sp rds){d:Rd}(he:e∈rds)(h:hg sp e d=true):e.l<d.l:=by
 have:=G.lc _ he;have:=G.s0 _ he;have:=(hg_iff.mp h).2;omega
def rdy(ps:List (Str×Int))(x:Str)(m:Int):Bool:=match ps.lookup x with|some z=>decide (z<=m)|none=>false
theorem rdy_iff{x:Str}:rdy ps x m=true↔∃z,ps.lookup x=some z/\z<=m:=by
 unfold rdy;cases ps.lookup x with
 |none=>simp
 |some z=>simp
theorem xB(ps:List (Str×Int))(x:Str):valV (toDK ps) (Sum.inr x:Key)=(ps.lookup x).map V.int:=by
 induction ps with
 |nil=>rfl
 |cons p r ih=>
  obtain⟨k,v⟩:=p;show valV (((Sum.inr k:Key),V.int v)::toDK r) (Sum.inr x)=_;rw[aS];unfold valV at ih ⊢;rw[aZ]
  by_cases e:k=x
  ·subst e
   simp
  ·have e1:¬ x=k:=fun z=>e z.symm
   have e2:(x == k)=false:=by simpa using e1
   simp only[e2,Sum.inr.injEq,e,decide_false];exact ih
def putS(ps:List (Str×Int))(x:Str)(m:Int):List (Str×Int):=if(ps.any fun p=>decide (p.1=x))=true then ps.map fun p=>if p.1=x then(p.1,m)else p else ps++[(x,m)]
theorem Qf(ps:List (Str×Int))(x:Str)(m:Int):putK (toDK ps) (Sum.inr x:Key) (V.int m)=toDK (putS ps x m):=by
 unfold putK putS;have e:((toDK ps).any fun kv=>decide (kv.1=(Sum.inr x:Key)))=(ps.any fun p=>decide (p.1=x)):=by
  unfold toDK;rw[fo];congr 1
  funext p
  show decide ((Sum.inr p.1:Key)=Sum.inr x)=_;exact W4 _ _
 rw[e]
 split
 ·unfold toDK
  rw[cu,cu];congr 1
  funext p
  show(if(Sum.inr p.1:Key)=Sum.inr x then _ else _)=_
  by_cases h:p.1=x
  ·have:(Sum.inr p.1:Key)=Sum.inr x:=by rw[h]
   rw[aF this];show _=(fun p:Str×Int=>((Sum.inr p.1:Key),V.int p.2)) (if p.1=x then(p.1,m)else p);rw[aF h]
  ·have:¬ (Sum.inr p.1:Key)=Sum.inr x:=fun z=>h (eV z)
   rw[aG this];show _=(fun p:Str×Int=>((Sum.inr p.1:Key),V.int p.2)) (if p.1=x then(p.1,m)else p);rw[aG h]
 ·unfold toDK
  rw[aN];rfl
theorem j8{x:Str}:(ps.any fun p=>decide (p.1=x))=(ps.lookup x).isSome:=by
 induction ps with
 |nil=>rfl
 |cons p r ih=>
  obtain⟨k,v⟩:=p;rw[cY,aS,ih]
  by_cases e:k=x
  ·subst e;simp
  ·have e1:¬ x=k:=fun z=>e z.symm
   have e2:(x == k)=false:=by simpa using e1
   simp[e2,e]
theorem jY{x y:Str}:(putS ps x m).lookup y=if y=x then some m else ps.lookup y:=by
 unfold putS
 split
 ·rename_i h
  rw[j8]at h
  induction ps with
  |nil=>cases h
  |cons p r ih=>
   obtain⟨k,v⟩:=p;rw[aA,aS]
   by_cases e:k=x
   ·subst e
    simp only[d4];rw[aS]
    by_cases ey:y=k
    ·subst ey;simp
    ·have e2:(y == k)=false:=by simpa using ey
     rw[e2,aG ey];simp only[]
     by_cases hr:(r.lookup k).isSome=true
     ·rw[ih hr,aG ey]
     ·clear ih
      have:(r.map fun p=>if p.1=k then(p.1,m)else p)=r:=by
       rw[<- j8]at hr;have hr':∀p∈r,¬ p.1=k:=fun p hp z=>hr (b7.mpr ⟨p,hp,by simpa using z⟩)
       calc r.map (fun p=>if p.1=k then(p.1,m)else p)=r.map id:=cM fun p hp=>aG (hr' p hp)
        _=r:=List.map_id r
      rw[this]
   ·have e1:¬ x=k:=fun z=>e z.symm
    have e3:(x == k)=false:=by simpa using e1
    rw[aS,e3]at h;simp only[e,fz];rw[aS]
    by_cases ey:y=k
    ·subst ey
     rw[aG e];simp
    ·have e2:(y == k)=false:=by simpa using ey
     rw[e2];simp only[];exact ih h
 ·rename_i h
  rw[j8]at h;have hn:ps.lookup x=none:=by cases q:ps.lookup x with|none=>rfl|some z=>rw[q]at h;exact absurd rfl h
  clear h
  induction ps with
  |nil=>
   rw[ft,aS]
   by_cases ey:y=x
   ·subst ey;simp
   ·have e2:(y == x)=false:=by simpa using ey
    rw[e2,aG ey]
  |cons p r ih=>
   obtain⟨k,v⟩:=p;rw[aS]at hn;rw[fh,aS,aS]
   by_cases e:x=k
   ·subst e;simp at hn
   ·have e3:(x == k)=false:=by simpa using e
    rw[e3]at hn
    by_cases ey:y=k
    ·subst ey
     have:¬ y=x:=fun z=>e z.symm
     simp[this]
    ·have e2:(y == k)=false:=by simpa using ey
     simp only[e2];exact ih hn
theorem yw{x:Str}(h:(ps.map Prod.fst).Nodup):((putS ps x m).map Prod.fst).Nodup:=by
 unfold putS
 split
 ·rw[cu]
  have:(Prod.fst ∘ fun p:Str×Int=>if p.1=x then(p.1,m)else p)=Prod.fst:=by
   funext p
   show(if p.1=x then(p.1,m)else p).1=p.1
   split <;> rfl
  rw[this];exact h
 ·rename_i q
  rw[aN,bY];refine⟨h,by simp,fun a ha b hb=>?_⟩;simp only[aA,dJ,au]at hb;subst hb;obtain⟨p,hp,rfl⟩:=aC.mp ha;exact fun z=>q (b7.mpr ⟨p,hp,by simpa using z⟩)
theorem mem_lookup(h:(ps.map Prod.fst).Nodup){x:Str}:(x,m)∈ps↔ps.lookup x=some m:=by
 induction ps with
 |nil=>simp
 |cons p r ih=>
  obtain⟨k,v⟩:=p;rw[aA,bE]at h;rw[aj,aS]
  by_cases e:x=k
  ·subst e
   simp only[bR,fE,true_and,dB];constructor
   ·rintro(q|q)
    ·exact q.symm
    ·exact absurd (aC.mpr ⟨_,q,rfl⟩) h.1
   ·intro q;exact .inl q.symm
  ·have e2:(x == k)=false:=by simpa using e
   simp only[e2];rw[<- ih h.2];constructor
   ·rintro(q|q)
    ·exact absurd (bC Prod.fst q) e
    ·exact q
   ·exact .inr
structure Soon(sp:Str->Int)(rds pre:List Rd)(st:Str)(si:Int)(ps:List (Str×Int)):Prop where
 nd:(ps.map Prod.fst).Nodup
 st0:rdy ps st si=true
 sound:∀x m,ps.lookup x=some m->(x=st/\m=si)\/∃e,Reach sp rds st si e/\e.b=x/\m=e.c+sp x
 closed:∀d∈pre,rdy ps d.a d.l=true->rdy ps d.b (d.c+sp d.b)=true
theorem Soon.nil:Soon sp rds [] st si [(st,si)]:=by
 refine⟨by simp,?_,fun x m h=>?_,(fun _ h=>nomatch h)⟩
 ·rw[rdy_iff];exact⟨si,by simp,fB _⟩
 ·rw[aS]at h
  by_cases e:x=st
  ·subst e
   simp at h;exact .inl ⟨rfl,h.symm⟩
  ·have e2:(x == st)=false:=by simpa using e
   rw[e2]at h;cases h
theorem Soon.skip{d:Rd}(S:Soon sp rds pre st si ps)(h:rdy ps d.a d.l=true->rdy ps d.b (d.c+sp d.b)=true):Soon sp rds (pre++[d]) st si ps:=
 ⟨S.nd,S.st0,S.sound,fun e he=>by
  rcases aQ.mp he with q|q
  ·exact S.closed e q
  ·rw[au.mp q];exact h⟩
theorem Soon.step{d:Rd}(G:Good sp rds)(S:Soon sp rds pre st si ps)(hd:d∈rds)(hp:∀e∈pre,e.l<=d.l)(h:rdy ps d.a d.l=true)(hn:rdy ps d.b (d.c+sp d.b)=false) :
  Soon sp rds (pre++[d]) st si (putS ps d.b (d.c+sp d.b)):=by
 have l1:=G.lc _ hd;have l2:=G.s0 _ hd;have mono:∀x m,rdy ps x m=true->rdy (putS ps d.b (d.c+sp d.b)) x m=true:=fun x m q=>by
  obtain⟨z,e,le⟩:=rdy_iff.mp q;rw[rdy_iff,jY]
  by_cases ex:x=d.b
  ·subst ex
   refine⟨_,aF rfl,?_⟩
   by_cases q:d.c+sp d.b<=m
   ·exact q
   ·exact absurd (rdy_iff.mpr (⟨z,e,by omega⟩:∃z,ps.lookup d.b=some z/\z<=d.c+sp d.b)) (by rw[hn];decide)
  ·rw[aG ex];exact⟨z,e,le⟩
 have self:rdy (putS ps d.b (d.c+sp d.b)) d.b (d.c+sp d.b)=true:=rdy_iff.mpr ⟨_,by rw[jY,aF rfl],fB _⟩;have back:∀x m,m<=d.l->rdy (putS ps d.b (d.c+sp d.b)) x m=true->rdy ps x m=true:=fun x m hm q=>by
  obtain⟨z,e,le⟩:=rdy_iff.mp q;rw[jY]at e
  by_cases ex:x=d.b
  ·rw[aF ex]at e
   cases e;omega
  ·rw[aG ex]at e
   exact rdy_iff.mpr ⟨z,e,le⟩
 refine⟨yw S.nd,mono _ _ S.st0,fun x m q=>?_,fun e he q=>?_⟩
 ·rw[jY]at q
  by_cases ex:x=d.b
  ·rw[aF ex]at q
   cases q;refine .inr ⟨d,?_,ex.symm,by rw[ex]⟩;obtain⟨z,e,le⟩:=rdy_iff.mp h;rcases S.sound _ _ e with⟨e1,e2⟩|⟨e',r,e1,e2⟩
   ·exact .fst hd e1 (by omega)
   ·exact .nxt r hd (hg_iff.mpr ⟨e1,by rw[e1];omega⟩)
  ·rw[aG ex]at q
   exact S.sound x m q
 ·rcases aQ.mp he with he|he
  ·exact mono _ _ (S.closed e he (back _ _ (hp e he) q))
  ·rw[au.mp he];exact self
theorem Soon.all(S:Soon sp rds pre st si ps)(hp:∀d∈rds,d∈pre){d:Rd}(r:Reach sp rds st si d):rdy ps d.b (d.c+sp d.b)=true:=by
 have up:∀x m n,rdy ps x m=true->m<=n->rdy ps x n=true:=fun x m n q le=>by
  obtain⟨z,e,l⟩:=rdy_iff.mp q;exact rdy_iff.mpr ⟨z,e,by omega⟩
 induction r with
 |fst m e h=>exact S.closed _ (hp _ m) (by rw[e];exact up _ _ _ S.st0 h)
 |nxt r m h ih=>
  obtain⟨h1,h2⟩:=hg_iff.mp h;exact S.closed _ (hp _ m) (by rw[<- h1];exact up _ _ _ ih h2)
def Least(sp:Str->Int)(rds:List Rd)(st:Str)(si:Int)(x:Str)(m:Int):Prop:=
 (x=st/\m=si)\/(x≠st/\(∃e,Reach sp rds st si e/\e.b=x/\m=e.c+sp x)/\∀e,Reach sp rds st si e->e.b=x->m<=e.c+sp x)
theorem Least.uniq{x:Str}{m':Int}(h:Least sp rds st si x m)(h':Least sp rds st si x m'):m=m':=by
 rcases h with⟨a,b⟩|⟨a,⟨e,r,eb,em⟩,c⟩ <;> rcases h' with⟨a',b'⟩|⟨a',⟨e',r',eb',em'⟩,c'⟩
 ·omega
 ·exact absurd a a'
 ·exact absurd a' a
 ·have:=c e' r' eb'
  have:=c' e r eb;omega
theorem Soon.least(G:Good sp rds)(S:Soon sp rds pre st si ps)(hp:∀d∈rds,d∈pre){x:Str}:(x,m)∈ps↔Least sp rds st si x m:=by
 rw[mem_lookup S.nd];have ge:∀e,Reach sp rds st si e->si<=e.c+sp e.b:=fun e r=>by
  have:=r.since G;have:=G.lc _ r.mem;have:=G.s0 _ r.mem;omega
 have fwd:∀{m},ps.lookup x=some m->Least sp rds st si x m:=fun{m} q=>by
  by_cases ex:x=st
  ·refine .inl ⟨ex,?_⟩
   obtain⟨z,e,le⟩:=rdy_iff.mp S.st0;rw[<- ex,q]at e;cases e;rcases S.sound x m q with⟨_,h⟩|⟨e,r,eb,em⟩
   ·exact h
   ·have:=ge e r
    rw[eb]at this;omega
  ·refine .inr ⟨ex,?_,fun e r eb=>?_⟩
   ·rcases S.sound x m q with⟨h,_⟩|h
    ·exact absurd h ex
    ·exact h
   ·obtain⟨z,h1,h2⟩:=rdy_iff.mp (S.all hp r)
    rw[eb,q]at h1;cases h1;rw[eb]at h2;exact h2
 refine⟨fwd,fun h=>?_⟩;cases q:ps.lookup x with
 |some z=>rw[(fwd q).uniq h]
 |none=>
  rcases h with⟨a,b⟩|⟨a,⟨e,r,eb,em⟩,c⟩
  ·obtain⟨z,e,le⟩:=rdy_iff.mp S.st0
   rw[<- a,q]at e;cases e
  ·obtain⟨z,h1,h2⟩:=rdy_iff.mp (S.all hp r)
   rw[eb,q]at h1;cases h1
theorem jE{P:Str->Int->Prop}:∀{as bs:List (Str×Int)},as.Pairwise (fun a b=>a.1.cps.toList<b.1.cps.toList)->bs.Pairwise (fun a b=>a.1.cps.toList<b.1.cps.toList)->(∀o,o∈as↔o∈bs)->as=bs
 |[],bs,_,_,h=>by
  cases bs with
  |nil=>rfl
  |cons b r=>exact absurd ((h b).mpr (ar ..)) (by simp)
 |a::as,bs,ha,hb,h=>by
  cases bs with
  |nil=>exact absurd ((h a).mp (ar ..)) (by simp)
  |cons b bs=>
   rw[bB]at ha hb;have irr:∀x:Str,¬ x.cps.toList<x.cps.toList:=fun x=>bA _
   have asym:∀x y:Str,x.cps.toList<y.cps.toList->¬ y.cps.toList<x.cps.toList:=fun x y q q'=>bA _ (eY q q')
   have eab:a=b:=by
    rcases aj.mp ((h a).mp (ar ..))with q|q
    ·exact q
    ·rcases aj.mp ((h b).mpr (ar ..))with q'|q'
     ·exact q'.symm
     ·exact absurd (ha.1 b q') (asym _ _ (hb.1 a q))
   subst eab;have:as=bs:=jE (P:=P) ha.2 hb.2 fun o=>by
    constructor
    ·intro q
     rcases aj.mp ((h o).mp (av _ q))with z|z
     ·subst z;exact absurd (ha.1 _ q) (irr _)
     ·exact z
    ·intro q
     rcases aj.mp ((h o).mpr (av _ q))with z|z
     ·subst z;exact absurd (hb.1 _ q) (irr _)
     ·exact z
   rw[this]
structure FunC(K:fH)(x qual:Str)(st:Stmt)(f:Addr)(fd:FuncData)(c:Addr):Prop where
 ex:∃(oc:Value)(od:fN)(kV doc pm:Value)(an:fN)(ct:Value)(osl:Array (Option Value)),
  fd=PySem.W.fnOf x qual (vg st) (jq st) (qp st) .none kV doc pm an (.ref c) ct/\K.lookup f=some ⟨oc,od,.func fd,osl⟩/\PySem.W.codeIn K (.ref c) qual=true
 kp:PySem.W.keepIn K (.ref f)=true
section
variable{P:Program}{w:World}{K:fH}{mg:fK}{base:Heap}
theorem FunC.ok{x:Str}{st:Stmt}{N ps:fP}{k:Nat}{sp:Sp}(F:FunC K x qual st f fd c)(S:FnScope N ps (qp st))(len:∀vs H Q E,sp vs H Q E->vs.length=ps.length)
  (hbody:∀(A:Around)(outer:List Env)(s:Shared)(H:Hp)(vs:List V)(Q:VK)(E:XK),Room k (A.deeper (envOfC qual (qp st) s.heap.objs.size f (.ref c)))->sp vs H Q E->
   ∃t,PSs (cxOf CX0 P w K mg base N qual (qp st) f (.ref c) A outer s H E).nox (jq st) t/\t { nx:=fun _ H'=>Q .non H',rt:=Q } (start N vs) H):FnOk P w K mg base CX0 (k+1) f fd ps sp:=by
 obtain⟨oc,od,kV,doc,pm,an,ct,osl,rfl,lk,hcd⟩:=F.ex;refine qbv lk hcd S len fun A outer s H vs Q E hr hsp=>?_
 obtain⟨t,h,q⟩:=hbody A outer s H vs Q E hr hsp;exact⟨t,h.nox,q⟩
theorem FunC.plain{x:Str}{st:Stmt}(F:FunC K x qual st f fd c):Fun K x qual st f fd:=by
 obtain⟨⟨oc,od,kV,doc,pm,an,ct,osl,e,lk,hcd⟩,kp⟩:=F;exact⟨⟨oc,od,kV,doc,pm,an,.ref c,ct,osl,e,lk,hcd⟩,kp⟩
theorem uq{x:Str}{st:Stmt}{oc:Value}{od an:fN}{osl:Array (Option Value)}{kV doc pm ct:Value}(l:K.lookup f=some ⟨oc,od,.func (PySem.W.fnOf x qual (vg st) (jq st) (qp st) .none kV doc pm an (.ref c) ct),osl⟩)
  (cc:PySem.W.codeIn K (.ref c) qual=true)(k:PySem.W.keepIn K (.ref f)=true):FunC K x qual st f (PySem.W.fnOf x qual (vg st) (jq st) (qp st) .none kV doc pm an (.ref c) ct) c:=⟨⟨oc,od,kV,doc,pm,an,ct,osl,rfl,l,cc⟩,k⟩
end
abbrev Rw(H:Hp)(kvs:List (Key×V))(xs:List V)(ds:List Rd):Prop:=Paired (RdAt H kvs) xs ds
theorem jX{α β:Type}{R:α->β->Prop}:∀{xs:List α}{ys:List β},Paired R xs ys->xs.length=ys.length
 |_,_,.nil=>rfl
 |_,_,.cons _ t=>by rw[bz,bz,jX t]
theorem vf{α β:Type}{R S:α->β->Prop}(h:∀a b,R a b->S a b):∀{xs:List α}{ys:List β},Paired R xs ys->Paired S xs ys
 |_,_,.nil=>.nil
 |_,_,.cons r t=>.cons (h _ _ r) (vf h t)
theorem vq{α β:Type}{R:α->β->Prop}:∀{xs:List α}{ys:List β}{i:Nat}{x:α},Paired R xs ys->xs[i]?=some x->∃y,ys[i]?=some y/\R x y:=jB
theorem JT{xs out:List V}{ds:List Rd}(h:Rw H kvs xs ds)(ko:KOut false (ds.map (·.l)) xs out):∃ds':List Rd,Rw H kvs out ds'/\ds'.Perm ds/\ds'.Pairwise (fun a b=>a.l<=b.l):=by
 obtain⟨ps,pm,rfl,pw⟩:=ko;have z:Paired (fun(d:Rd)(p:Int×V)=>p.1=d.l/\RdAt H kvs p.2 d) ds ((ds.map (·.l)).zip xs):=by
  clear pm pw
  induction h with
  |nil=>exact .nil
  |cons r t ih=>exact .cons ⟨rfl,r⟩ ih
 obtain⟨ds',h1,h2⟩:=kH pm z;refine⟨ds',?_,h2,?_⟩
 ·clear h2 z pw pm
  induction h1 with
  |nil=>exact .nil
  |cons r t ih=>exact .cons r.2 ih
 ·clear h2 z pm
  induction h1 with
  |nil=>exact .nil
  |@cons d p l1 l2 r t ih=>
   rw[bB]at pw ⊢;refine⟨fun e he=>?_,ih pw.2⟩;obtain⟨i,hi⟩:=aX.mp he;obtain⟨q,hq,r'⟩:=jB t hi;have:=pw.1 q (ay hq);rw[<- r.1,<- r'.1];simpa using this
def Sx(p:Addr)(H H':Hp):Prop:=∀b u,b≠p->H b=some u->H' b=some u
theorem Sx.refl{p:Addr}:Sx p H H:=fun _ _ _ h=>h
theorem Sx.put{p:Addr}(s:Sx p H H')(o:HO):Sx p H (upd H' p o):=fun b u n e=>(qk n).trans (s b u n e)
theorem TabOk.sx{p:Addr}(s:Sx p H H')(h:H p=some (.dK kvs)){pos:Pos}{lq:Str}(t:TabOk H P pos lq):TabOk H' P pos lq:=by
 obtain⟨ps,e,ht,q⟩:=t;refine⟨ps,s _ _ (Vf e h fun z=>nomatch z) e,ht,?_⟩;rcases q with q|⟨c',q,h'⟩
 ·exact .inl q
 ·exact .inr ⟨c',q,s _ _ (Vf h' h fun z=>nomatch z) h'⟩
theorem SaT.sx{p:Addr}{H0:Hp}(t:SaT P H0 H)(s:Sx p H H')(n:H0 p=none):SaT P H0 H':=⟨fun b u e k=>s _ _ (qQ e n) (t.keep b u e k),fun b ps e=>by
 obtain⟨m,q⟩:=t.tbl b ps e;exact⟨m,s _ _ (qQ e n) q⟩,fun b ps e k=>s _ _ (qQ e n) (t.oth b ps e k)⟩
theorem RdAt.sx{p:Addr}(s:Sx p H H'){kv:List (Key×V)}(h:H p=some (.dK kv)){x:V}{d:Rd}(r:RdAt H kvs x d):RdAt H' kvs x d:=by
 obtain⟨q,e,g,v⟩:=r;exact⟨q,e,s _ _ (Vf g h fun z=>nomatch z) g,v⟩
theorem RdAt.saT(s:SaT P H H'){x:V}{d:Rd}(r:RdAt H kvs x d):RdAt H' kvs x d:=by
 obtain⟨q,e,g,v⟩:=r;exact⟨q,e,s.keep _ _ g rfl,v⟩
def Q_:Sp:=fun vs H Q _=>∃(p:Addr)(ps:List (Str×Int))(x:Str)(m:Int),vs=[.ref p,.str x,.int m]/\H p=some (.dK (toDK ps))/\Q (.bl (rdy ps x m)) H
def lqS:Str:=(Str.ofString "soonest"++Str.ofString ".<locals>.")++"<lambda>"
def Kg(K:fH)(Pt:Addr)(lpS:Pos):Sp:=fun vs H Q _=>∃(pr ps:Addr)(xs:List V)(kvs:List (Key×V))(ds:List Rd)(ns:fP)(st:Str)(si:Int),vs=[.ref pr,.ref ps,.str st,.int si]/\H pr=some (.lst xs)/\H ps=some (.dK kvs)/\Rw H kvs xs ds/\xs.length<64/\Good (spn kvs) ds/\ns.length<=5/\st∈ns/\(∀d∈ds,d.b∈ns)/\TabOk H Pt lpS lqS/\
 ∀(r:Addr)(out:List (Str×Int))(qs:fL)(H':Hp),SaT Pt H H'->TabOk H' Pt lpS lqS->H r=none->out.Pairwise (fun a b=>a.1.cps.toList<b.1.cps.toList)->H' r=some (.lst (qs.map V.ref))->qs.length=out.length->(∀(i:Nat) q(o:Str×Int),qs[i]?=some q->out[i]?=some o->H' q=some (.tup [.str o.1,.int o.2]))->(∀q∈qs,H q=none)->
  (∀x m,(x,m)∈out↔Least (spn kvs) ds st si x m)->Q (.ref r) H'
theorem Soon.small(S:Soon sp rds pre st si ps){ns:fP}(h1:st∈ns)(h2:∀d∈rds,d.b∈ns):ps.length<=ns.length:=by
 have:=S.nd.length_le_of_subset (l₂:=ns) fun x hx=>by
  obtain⟨⟨k,m⟩,hp,rfl⟩:=aC.mp hx;rcases S.sound k m ((mem_lookup S.nd).mp hp)with⟨e,_⟩|⟨e,r,eb,_⟩
  ·show k∈ns
   rw[e];exact h1
  ·show k∈ns
   rw[<- eb];exact h2 _ r.mem
 rw[ab]at this;exact this
end X2
namespace M
open PySem PySem.Spec PyProof.Rows L2 X2
variable{e iter tg:Expr}{T:Hp->Prop}{fp0:Fp}{ob0:Nat->fN}{m:Bool}{pos:Pos}{f:Addr}{fd:FuncData}{N ps:fP}{es:fQ}{Ω α:Type}{P:Program}{w:World}{mg:fK}{base:Heap}{qual:Str}{st:Stmt}{c:Co}{X:Cx}{E:En}{O:List Nat}{K:fH}{v:V}
section
variable{W:Wo}{K:fH}{X:Cx}{E:En}{O O' O1 O2 OL:List Nat}{g:SS W}{b:W.BS}{σ:L2.St}{H H':Hp}{c c':Co}{fp fp':fL}{fr:Bool}{m m1 m2:Bool}{pos:Pos}{e a:Expr}{es:fQ}
variable{fa fb fe:SS W->R W D}{fs:SS W->R W (List D)}{ta tb:SS W->R W Bool}
def cI(ds:List D):SS W->R W (List D):=fun g=>.ok ds g.b
def tINC(X:Cx)(E:En)(O:List Nat)(P:SS W->(List D->Prop)->Prop):TI:=fun σ H Rr=>∃g c fp Ok,SR W X.K E O g σ H c fp/\P g Ok/\∀ds,Ok ds->tIC X E O (cI (W:=W) ds) g c fp σ H Rr
def tIN(X:Cx)(E:En)(O:List Nat)(P:SS W->(List D->Prop)->Prop):TI:=fun σ H Rr=>∃g c fp Ok,SR W X.K E O g σ H c fp/\P g Ok/\∀ds,Ok ds->tI X E O (cI (W:=W) ds) g c fp σ H Rr
theorem qcb{P:SS W->(List D->Prop)->Prop}(h:PI X tg iter (tIN X E O P)):PI X tg iter (tINC X E O P):=kE h fun σ H Rr⟨g,c,fp,Ok,S,hP,q⟩=>⟨g,c,fp,Ok,S,hP,fun ds ok=>(q ds ok).toI⟩
def Yt(X:Cx)(E:En)(fr:Bool)(OL O:List Nat)(P:SS W->(List D->Prop)->Prop)(p:D->SS W->Option (SS W))(f:SS W->Ou W):TS:=fun Dn σ H=>∃g c fp Ok,SR W X.K E O g σ H c fp/\P g Ok/\∀ds,Ok ds->tSx X E fr OL O (sFor (cI ds) p f) O g c fp Dn σ H
theorem KA{P:SS W->(List D->Prop)->Prop}{p:D->SS W->Option (SS W)}{body:List Stmt}{f:SS W->Ou W}(hp:PassesOwn (model X.prog X.w) X.A X.env X.xe)(hc:X.calm=true)(kp:v8 p)(hi:PI X tg iter (tIN X E O P))(hg:DG W E X O tg p O1)(hb:DSs W E fr O X O1 body f O)
  (hs:∀x,foldedSetIterable iter X.env x=pure x:=by intro _;rfl):PS X (.For tg iter body [] pos) (Yt X E fr OL O P p f):=
 zR (wF hp hc hi hg hb hs) fun Dn σ H⟨g,c,fp,Ok,S,hP,q⟩=>⟨g,c,fp,Ok,S,hP,fun ds ok=>W8 kp (q ds ok)⟩
def WN(X:Cx)(E:En)(fr:Bool)(OL O:List Nat)(P:SS W->(List D->Prop)->Prop)(i T:Nat)(ix:List Nat)(p:D->SS W->Option (SS W))(t:SS W->R W Bool)(f:SS W->R W D):TS:=fun D σ H=>∃g c fp Ok,SR W X.K E O g σ H c fp/\P g Ok/\∀ds,Ok ds->tSx X E fr OL O (sSet i (j6 T ix (cI ds) p t f)) (i::O) g c fp D σ H
theorem XI{elt:Expr}{ifs:fQ}{scope:Scope}{cl:List (Str×Addr)}{T caps:fP}{ix:List Nat}{P:SS W->(List D->Prop)->Prop}{p:D->SS W->Option (SS W)}{t:SS W->R W Bool}{f:SS W->R W D}{i:Nat}{y:Str}{spos py:Pos}(hN:X.N.Nodup)(hi':X.N[i]?=some y)(hx:Loc X.env.scope y)(Ok:CompOk X scope cl T caps ix)(hc:X.calm=true)(nd:ix.Nodup)(kp:v8 p)(hi:PI X tg iter (tINC X E O P))(hg:∀E C s H fp,DG W E (qz X scope cl (T++caps) C s H fp) (capO T.length ix O) tg p O1)(hsub:∀i∈capO T.length ix O,i∈O1)(hsup:∀i∈O1,i∈capO T.length ix O)
  (ht:∀E C s H fp,DTs W E (qz X scope cl (T++caps) C s H fp) O1 ifs t)(he:∀E C s H fp,DE W E true (qz X scope cl (T++caps) C s H fp) O1 elt f)(hs:∀x,foldedSetIterable iter X.env x=pure x:=by intro _;rfl)
  (hsw:swapsWith (.ListComp elt [⟨tg,iter,ifs,0⟩] scope pos) (some (.Name y py)) spos.line X.env=pure true:=by rfl)(hf:X.fn y=true\/X.env.scope.names.lookup y=some .local:=by first|exact .inl rfl|exact .inr rfl|assumption) :
  PS X (.Assign [.Name y py] (.ListComp elt [⟨tg,iter,ifs,0⟩] scope pos) spos) (WN X E fr OL O P i T.length ix p t f):=zR (yg hN hi' hx Ok hc hi (uE hg) (uD ht) (uF he) hs hsw hf) fun D σ H⟨g,c,fp,Ok,S,hP,q⟩=>⟨g,c,fp,Ok,S,hP,fun ds ok=>Jy nd kp hsub hsup ((q ds ok).bindO fun d b v H1 c1 fp1 F1 o1 nw q1=>q1.2 _ _ c1 fp1 (q1.1.setO o1 fun j e y hj hg hm hy hd=>by
   rintro rfl;obtain⟨z,hz,ow⟩:=S.own j e hj hg;cases hy.symm.trans hz;obtain⟨a,u,rfl,_⟩:=wH o1 hd;exact Zq ow hm rfl (nw hd a rfl)) (.refl _))⟩
theorem Z1{Dn:Ends}{f h:SS W->Ou W}(q:tSq X E fr OL O' Dn c (sSeq f h g)):tSq X E fr OL O1 { Dn with nx:=tS X E fr OL O1 h O' Dn } c (f g):=by
 unfold sSeq at q;cases e:f g with
 |nx g'=>rw[e]at q;exact fun σ' H' c' fp' S' l'=>⟨g',c',fp',S',q.mono l'⟩
 |rt d b=>rw[e]at q;exact q
 |bk g'=>rw[e]at q;exact q
 |ct g'=>rw[e]at q;exact q
 |ex x g'=>rw[e]at q;exact q
 |bad=>rw[e]at q;exact q
def ObV(K:fH)(H:Hp)(c:Co)(a:Addr):D->Prop
 |.lst ds=>∃xs,H a=some (.lst xs)/\Reps K c xs ds
 |.dic kvs=>∃ys:List (Key×V),H a=some (.dK ys)/\ys.map (·.1)=kvs.map (·.1)/\(kvs.map (·.1)).Nodup/\Reps K c (ys.map (·.2)) (kvs.map (·.2))
 |_=>False
abbrev Fp:=fL×Hp
structure BT(K:fH)(fp0:Fp)(ob0:Nat->fN)(tb:Nat->Option D)(H:Hp)(c:Co)(fp:fL):Prop where
 e:fp=fp0.1
 st:∀a∈fp0.1,H a=fp0.2 a
 ob:∀k a,ob0 k=some a->c.ob k=some a
 ct:∀k d,tb k=some d->∃a,ob0 k=some a/\a∈fp0.1/\ObV K H c a d
theorem hBT{tb:Nat->Option D}:HBb (BT K fp0 ob0 tb):=fun H c fp H' c' h hk le ho=>⟨h.e,fun a ha=>(hk a (by rw[h.e];exact ha)).trans (h.st a ha),fun k a e=>le.ob _ _ (h.ob k a e),fun k d e=>by
 obtain⟨a,h1,h2,h3⟩:=h.ct k d e;refine⟨a,h1,h2,?_⟩;have hh:=hk a (by rw[h.e];exact h2);cases d with
 |lst ds=>obtain⟨xs,h4,h5⟩:=h3;exact⟨xs,by rw[hh];exact h4,h5.mono le⟩
 |dic ds=>obtain⟨xs,h4,h5,h6,h7⟩:=h3;exact⟨xs,by rw[hh];exact h4,h5,h6,h7.mono le⟩
 |_=>exact h3.elim⟩
def ofOb(tb:Nat->Option D):D->Option D
 |.obj k=>tb k
 |d=>some d
end
section
variable{T:Hp->Prop}{hT:HTb T}{K:fH}{fp0:Fp}{ob0:Nat->fN}{tb:Nat->Option D}{X:Cx}{E:En}{O:List Nat}{H:Hp}{c:Co}{fp:fL}
theorem Vb{b:Unit}(S:SE (W1 T hT (BT K fp0 ob0 tb) hBT) E b H c fp){x:V}{d d':D}(r:Rep K (cm m H c fp) x d)(e:ofOb tb d=some d'):Rep K ⟨Hn H [],c.ob⟩ x d':=by
 have B:BT K fp0 ob0 tb H c fp:=S.br;have le0:Co.Le c ⟨Hn H [],c.ob⟩:=⟨S.core.trans hn_nil,fun _ _ e=>e⟩;have le1:Co.Le (cm m H c fp) ⟨Hn H [],c.ob⟩:=by
  cases m with
  |true=>exact le0
  |false=>exact⟨hn_nil,fun _ _ e=>e⟩
 by_cases hd:∃k,d=.obj k
 ·obtain⟨k,rfl⟩:=hd
  obtain⟨a,h1,h2,h3⟩:=B.ct k d' e;have ho:(cm m H c fp).ob k=some a:=by
   have:=B.ob k a h1;cases m with
   |true=>exact this
   |false=>exact this
  cases r with
  |obj e'=>
   cases ho.symm.trans e';cases d' with
   |lst ds=>obtain⟨xs,h4,h5⟩:=h3;exact .lst (Hn.mk h4 ax rfl) h5.l (h5.mono le0).r
   |dic ds=>
    obtain⟨ys,h4,h5,h6,h7⟩:=h3;exact .dic (Hn.mk h4 ax rfl) h5 h6 fun i p q g1 g2=>(h7.mono le0).r i _ _ (by rw[ag,g1];rfl) (by rw[ag,g2];rfl)
   |_=>exact h3.elim
 ·have e':d'=d:=by
   cases d with
   |obj k=>exact absurd ⟨k,rfl⟩ hd
   |_=>cases e;rfl
  subst e';exact r.mono le1
def opB(tb:Nat->Option D)(op:D->D->Option D)(x y:D):Option D:=(ofOb tb x).bind fun x=>(ofOb tb y).bind fun y=>op x y
theorem VS{fa fb:SS (W1 T hT (BT X.K fp0 ob0 tb) hBT)->R (W1 T hT (BT X.K fp0 ob0 tb) hBT) D}{m1 m2:Bool}{o:CmpOp}{r:R2}{op:D->D->Option D}{a b:Expr}(ho:OpR X (compareOp o) r)(hr:Op2 X r op)(ha:DE (W1 T hT (BT X.K fp0 ob0 tb) hBT) E m1 X O a fa)(hb:DE (W1 T hT (BT X.K fp0 ob0 tb) hBT) E m2 X O b fb)(hm:behindInMarks o b=false):DT (W1 T hT (BT X.K fp0 ob0 tb) hBT) E X O (.Compare a [o] [b] pos) (qCmp (opB tb op) fa fb):=
 yf (jl ho ha hb hm) fun σ H Q⟨g,c,fp,q⟩=>⟨g,c,fp,by
  unfold qCmp M.e2 at q;simp only[bind_assoc]at q;refine q.bind fun d b v H1 c1 fp1 S1 F1 r1 h1=>⟨_,c1,fp1,h1.bind fun d' b' v' H2 c2 fp2 S2 F2 r2 h2=>?_⟩
  obtain⟨S,h2⟩:=h2;unfold qF at h2;cases ez:opB tb op d d' with
  |none=>rw[ez]at h2;exact h2.elim
  |some z=>
   rw[ez]at h2;unfold opB at ez;cases e1:ofOb tb d with
   |none=>rw[e1]at ez;cases ez
   |some dx=>
    cases e2:ofOb tb d' with
    |none=>rw[e1,e2]at ez;cases ez
    |some dy=>
     rw[e1,e2]at ez;refine hr H2 ⟨Hn H2 [],c2.ob⟩ v v' dx dy z _ (show Same (Hn H2 []) H2 from Hn.same) (Vb S2.toSE (r1.mono F2.cm) e1) (Vb S2.toSE r2 e2) ez fun u hu=>?_
     cases z with
     |bl k=>cases hu;exact⟨k,rfl,h2 k H2 c2 fp2 S2 .refl rfl⟩
     |_=>exact h2.elim⟩
def xp(tb:Nat->Option D):List D->Option (List D)
 |[]=>some []
 |d::ds=>match ofOb tb d,xp tb ds with|some x,some xs=>some (x::xs)|_,_=>none
theorem Va{b:Unit}(S:SE (W1 T hT (BT K fp0 ob0 tb) hBT) E b H c fp){m:Bool}:∀{xs:List V}{ds ds':List D},Reps K (cm m H c fp) xs ds->xp tb ds=some ds'->Reps K ⟨Hn H [],c.ob⟩ xs ds'/\ds'.length=ds.length
 |xs,[],ds',r,e=>by cases e;rw[r.unnil];exact⟨.nil,rfl⟩
 |xs,d::ds,ds',r,e=>by
  obtain⟨x,t,rfl,r1,r2⟩:=r.uncons;unfold xp at e;cases e1:ofOb tb d with
  |none=>rw[e1]at e;cases e
  |some y=>
   cases e2:xp tb ds with
   |none=>rw[e1,e2]at e;cases e
   |some ys=>
    rw[e1,e2]at e;cases e;obtain⟨a,b⟩:=Va S r2 e2;exact⟨.cons (Vb S r1 e1) a,by simp[b]⟩
def QN{W:Wo}(tb:Nat->Option D)(n:Nat)(F:List D->Option D)(fs:SS W->R W (List D)):SS W->R W D:=qF fs fun ds=>eOpt (if ds.length=n then(xp tb ds).bind fun ds=>atO (F ds)else none)
theorem Wz{fr:Bool}{k n:Nat}{x:Str}{p:Pos}{F:List D->Option D}{fs:SS (W1 T hT (BT X.K fp0 ob0 tb) hBT)->R (W1 T hT (BT X.K fp0 ob0 tb) hBT) (List D)}(hr:Room k X.A)(hg:Gl X x)(hm:X.mg x=some (.ref f))(hk:PySem.W.keepIn X.K (.ref f)=true)(hb:Binds X.K fd ps [])
  (G:FnOk X.prog X.w X.K X.mg X.base CX0 k f fd ps (spP X.K T n fr F))(ha:DA (W1 T hT (BT X.K fp0 ob0 tb) hBT) E m X O (e::es) fs)(hd:(x == ("__debug__":Str))=false:=by decide)
  (hs:starEach (e::es) X.env=(false,eval e X.env)::starEach es X.env:=by rfl)(hplain:(backTo pos (starEach es X.env)).any (·.1)=false:=by rfl):DE (W1 T hT (BT X.K fp0 ob0 tb) hBT) E true X O (.Call (.Name x p) (e::es) [] pos) (QN tb n F fs):=
 qN (jH G hr hg hm hk hb .nil xN ha hd hs hplain) fun σ H Q⟨g,c,fp,q⟩=>⟨g,c,fp,q.bind fun ds b vs H c fp S1 F1 r1 h1=>by
  have S:=h1.1;obtain⟨d,e,k⟩:=h1.opt;rw[c9]
  split at e
  ·rename_i hl
   cases eo:xp tb ds with
   |none=>rw[eo]at e;cases e
   |some ds'=>
    rw[eo]at e;obtain⟨r2,l2⟩:=Va S.toSE r1 eo;simp only[dS]at e;unfold atO at e;cases eF:F ds' with
    |none=>rw[eF]at e;cases e
    |some d'=>
     rw[eF]at e;cases ea:isAt d' with
     |none=>simp only[dS,ea]at e;cases e
     |some va=>
      simp only[dS,ea]at e;cases e;refine⟨by rw[r1.l];exact hl,⟨Hn H [],c.ob⟩,ds',fun _ _ e=>e,S.tab,r2,d,eF,fun v H' c' f co tb r'=>?_⟩;have ev:v=va:=by
       cases fr with
       |false=>exact Qe ea r'
       |true=>
        cases d with
        |lst _=>cases ea
        |dic _=>cases ea
        |dit _=>cases ea
        |non=>exact Qe ea r'
        |bl _=>exact Qe ea r'
        |int _=>exact Qe ea r'
        |str _=>exact Qe ea r'
        |tup _=>cases ea
        |obj _=>cases ea
        |scr _=>cases ea
      subst ev;have keep:∀a u,H a=some u->isT u=false->H' a=some u:=fun a u e z=>(Hn.of (f.nn _ _ (Hn.mk e (ax) z))).1
      have F':FR H c fp H' c fp:=⟨.refl _,fun a u e=>by
       obtain⟨h1,h2,h3⟩:=Hn.of e;exact Hn.mk (keep a u h1 h3) h2 h3,fun _ _ q=>q,f.th⟩
      refine k v H' c fp (S.step (b:=()) F' ⟨S.core.trans F'.nn,hBT _ _ _ _ _ S.br (fun a ha=>?_) (.refl _) S.toSE.fpc,tb,fun a ha=>?_,S.fr0.trans F'⟩) F' (JD ea)
      ·obtain⟨u,e,z⟩:=S.fph a ha
       rw[keep a u e z,e]
      ·obtain⟨u,e,z⟩:=S.fph a ha
       exact⟨u,keep a u e z,z⟩
  ·cases e⟩
end
def spQ(K:fH)(T:Hp->Prop)(B:Hp->Co->fL->Prop)(n:Nat)(Pr:List D->Prop)(Rl:List D->D->Prop):Sp:=fun vs H Q _=>vs.length=n/\∃c ds fp,Same c.h (Hn H fp)/\B H c fp/\T H/\(∀a∈fp,∃u,H a=some u/\isT u=false)/\Reps K c vs ds/\Pr ds/\
 ∀d v H' c',Rl ds d->FR H c fp H' c' fp->Same c'.h (Hn H' fp)->B H' c' fp->T H'->(∀a∈fp,∃u,H' a=some u/\isT u=false)->Rep K c' v d->Q v H'
section
variable{T:Hp->Prop}{hT:HTb T}{B:Hp->Co->fL->Prop}{hB:HBb B}{K:fH}{O':List Nat}
theorem W_{x:Str}{k n:Nat}{body:Ω->SS (W1 T hT B hB)->Ou (W1 T hT B hB)}{Pr:List D->Prop}{Ok:List D->Ω->Prop}(fp0:fL)(hf0:∀H c fp,B H c fp->fp=fp0)(F:Fun K x qual st f fd)(Sc:FnScope N ps (qp st))(hn:n=ps.length)
  (h:∀(cdv:Value)(A:Around)(outer:List Env)(s:Shared)(H:Hp)(EX:XK)(E:En),Room k (A.deeper (envOfC qual (qp st) s.heap.objs.size f cdv))->PSs (cxOf CX0 P w K mg base N qual (qp st) f cdv A outer s H EX).nox (jq st) fun Dn σ H1=>∃ds c fp,SR (W1 T hT B hB) K E [] (zI N.length ds ()) σ H1 c fp/\Pr ds/\∀ω,Ok ds ω->tSq (cxOf CX0 P w K mg base N qual (qp st) f cdv A outer s H EX).nox E false [] O' Dn c (body ω (zI N.length ds ()))) :
  FnOk P w K mg base CX0 (k+1) f fd ps (spQ K T B n (fun ds=>Pr ds/\∀ω,Ok ds ω->∃d,jr N.length (body ω) ds=some d) (fun ds d=>∃ω,Ok ds ω/\jr N.length (body ω) ds=some d)):=by
 refine F.ok Sc (fun vs H Q EX q=>by rw[<- hn];exact q.1) fun cdv A outer s H vs Q EX hr q=>?_
 obtain⟨_,c,ds,fp,co,hb,tb,hfp,r,⟨pr,tot⟩,q⟩:=q;refine⟨_,h cdv A outer s H EX ⟨H,c,fp⟩ hr,ds,c,fp,wV ⟨co,hb,tb,hfp,.refl⟩ r,pr,fun ω ok=>?_⟩;obtain⟨d,e⟩:=tot ω ok;have e0:=e;have e1:=hf0 _ _ _ hb;unfold jr at e;cases eb:body ω (zI N.length ds ())with
 |rt d' b'=>
  rw[eb]at e;cases e;intro v H' c' fp' S' r';have e2:=hf0 _ _ _ (show B H' c' fp' from S'.br);have e3:fp'=fp:=by rw[e1,e2]
  subst e3;exact q d v H' c' ⟨ω,ok,e0⟩ S'.fr0 S'.core S'.br S'.tab S'.fph r'
 |nx g'=>
  rw[eb]at e;cases e;intro σ' H' c' fp' S' _;have e2:=hf0 _ _ _ (show B H' c' fp' from S'.br);have e3:fp'=fp:=by rw[e1,e2]
  subst e3;exact q .non .non H' c' ⟨ω,ok,e0⟩ S'.fr0 S'.core S'.br S'.tab S'.fph .non
 |ex x g'=>rw[eb]at e;cases e
 |bk g'=>rw[eb]at e;cases e
 |ct g'=>rw[eb]at e;cases e
 |bad=>rw[eb]at e;cases e
theorem ZH{cd:Addr}{x:Str}{k n:Nat}{body:Ω->SS (W1 T hT B hB)->Ou (W1 T hT B hB)}{Pr:List D->Prop}{Ok:List D->Ω->Prop}(fp0:fL)(hf0:∀H c fp,B H c fp->fp=fp0)(F:FunC K x qual st f fd cd)(Sc:FnScope N ps (qp st))(hn:n=ps.length)
  (h:∀(A:Around)(outer:List Env)(s:Shared)(H:Hp)(EX:XK)(E:En),Room k (A.deeper (envOfC qual (qp st) s.heap.objs.size f (.ref cd)))->PSs (cxOf CX0 P w K mg base N qual (qp st) f (.ref cd) A outer s H EX).nox (jq st) fun Dn σ H1=>∃ds c fp,SR (W1 T hT B hB) K E [] (zI N.length ds ()) σ H1 c fp/\Pr ds/\∀ω,Ok ds ω->tSq (cxOf CX0 P w K mg base N qual (qp st) f (.ref cd) A outer s H EX).nox E false [] O' Dn c (body ω (zI N.length ds ()))) :
  FnOk P w K mg base CX0 (k+1) f fd ps (spQ K T B n (fun ds=>Pr ds/\∀ω,Ok ds ω->∃d,jr N.length (body ω) ds=some d) (fun ds d=>∃ω,Ok ds ω/\jr N.length (body ω) ds=some d)):=by
 refine F.ok Sc (fun vs H Q EX q=>by rw[<- hn];exact q.1) fun A outer s H vs Q EX hr q=>?_
 obtain⟨_,c,ds,fp,co,hb,tb,hfp,r,⟨pr,tot⟩,q⟩:=q;refine⟨_,h A outer s H EX ⟨H,c,fp⟩ hr,ds,c,fp,wV ⟨co,hb,tb,hfp,.refl⟩ r,pr,fun ω ok=>?_⟩;obtain⟨d,e⟩:=tot ω ok;have e0:=e;have e1:=hf0 _ _ _ hb;unfold jr at e;cases eb:body ω (zI N.length ds ())with
 |rt d' b'=>
  rw[eb]at e;cases e;intro v H' c' fp' S' r';have e2:=hf0 _ _ _ (show B H' c' fp' from S'.br);have e3:fp'=fp:=by rw[e1,e2]
  subst e3;exact q d v H' c' ⟨ω,ok,e0⟩ S'.fr0 S'.core S'.br S'.tab S'.fph r'
 |nx g'=>
  rw[eb]at e;cases e;intro σ' H' c' fp' S' _;have e2:=hf0 _ _ _ (show B H' c' fp' from S'.br);have e3:fp'=fp:=by rw[e1,e2]
  subst e3;exact q .non .non H' c' ⟨ω,ok,e0⟩ S'.fr0 S'.core S'.br S'.tab S'.fph .non
 |ex x g'=>rw[eb]at e;cases e
 |bk g'=>rw[eb]at e;cases e
 |ct g'=>rw[eb]at e;cases e
 |bad=>rw[eb]at e;cases e
theorem qbu{x:Str}{k n:Nat}{body:SS (W1 T hT B hB)->Ou (W1 T hT B hB)}(fp0:fL)(hf0:∀H c fp,B H c fp->fp=fp0)(F:Fun K x qual st f fd)(Sc:FnScope N ps (qp st))(hn:n=ps.length)
  (h:∀(cdv:Value)(A:Around)(outer:List Env)(s:Shared)(H:Hp)(EX:XK)(E:En),Room k (A.deeper (envOfC qual (qp st) s.heap.objs.size f cdv))->DSs (W1 T hT B hB) E false [] (cxOf CX0 P w K mg base N qual (qp st) f cdv A outer s H EX).nox [] (jq st) body O') :
  FnOk P w K mg base CX0 (k+1) f fd ps (spQ K T B n (fun ds=>True/\∀_:Unit,True->∃d,jr N.length body ds=some d) (fun ds d=>∃_:Unit,True/\jr N.length body ds=some d)):=
 W_ (Ω:=Unit) (body:=fun _=>body) (Pr:=fun _=>True) (Ok:=fun _ _=>True) fp0 hf0 F Sc hn fun cdv A outer s H EX E hr=>jR (h cdv A outer s H EX E hr) fun Dn σ H1⟨ds,c,fp,S,_,q⟩=>⟨_,c,fp,S,q () trivial⟩
section
variable{X:Cx}{E:En}{O:List Nat}{x:Str}{f:Addr}{fd:FuncData}{ps:fP}{k n:Nat}{p pos:Pos}{e:Expr}{es:fQ}{fs:SS (W1 T hT B hB)->R (W1 T hT B hB) (List D)}{Pr:List D->Prop}{Rl:List D->D->Prop}
def PcN{W:Wo}(fs:SS W->R W (List D))(n:Nat)(Pr:List D->Prop)(Rl:List D->D->Prop):SS W->(List D->Prop)->Prop:=fun g Ok=>∃ds,fs g=.ok ds g.b/\ds.length=n/\Pr ds/\(∀d,Rl ds d->∃xs,d=.lst xs)/\∀xs,Rl ds (.lst xs)->Ok xs
theorem JA{ds:List D}{vs:List V}{g:SS (W1 T hT B hB)}{fp:fL}{σ:L2.St}{H:Hp}{Q:VK}(hl:ds.length=n)(r1:Reps X.K c vs ds)(S:SR (W1 T hT B hB) X.K E O g σ H c fp)(hp:Pr ds)(q:∀d,Rl ds d->∀v H' c',SR (W1 T hT B hB) X.K E O g σ H' c' fp->FR H c fp H' c' fp->Rep X.K c' v d->Q v H'):spQ X.K T B n Pr Rl (vs++[]) H Q E0:=by
 rw[c9];exact⟨by rw[r1.l];exact hl,c,ds,fp,S.core,S.br,S.tab,S.fph,r1,hp,fun d v H' c' hd f co hb ht hf r=>q d hd v H' c' (S.step (b:=()) f ⟨co,hb,ht,hf,S.fr0.trans f⟩) f r⟩
variable(hr:Room k X.A)(hg:Gl X x)(hm:X.mg x=some (.ref f))(hk:PySem.W.keepIn X.K (.ref f)=true)(hb:Binds X.K fd ps [])(hd:(x == ("__debug__":Str))=false:=by decide)
  (hs:starEach (e::es) X.env=(false,eval e X.env)::starEach es X.env:=by rfl)(hplain:(backTo pos (starEach es X.env)).any (·.1)=false:=by rfl)
include hr hg hm hk hb hd hs hplain
theorem WA{F:List D->Option D}(G:FnOk X.prog X.w X.K X.mg X.base CX0 k f fd ps (spQ X.K T B n (fun ds=>True/\∀_:Unit,True->∃d,F ds=some d) (fun ds d=>∃_:Unit,True/\F ds=some d)))(ha:DA (W1 T hT B hB) E true X O (e::es) fs):DE (W1 T hT B hB) E true X O (.Call (.Name x p) (e::es) [] pos) (zO n F fs):=
 qN (jH G hr hg hm hk hb .nil xN ha hd hs hplain) fun σ H Q⟨g,c,fp,q⟩=>⟨g,c,fp,q.bind fun ds b vs H1 c1 fp1 S1 F1 r1 h1=>by
  obtain⟨d,e,k⟩:=h1.opt
  split at e
  ·rename_i hl
   refine JA (g:=⟨g.v,b⟩) hl r1 h1.1 ⟨trivial,fun _ _=>⟨d,e⟩⟩ fun d' hd' v H' c' S' F' r'=>?_
   obtain⟨_,_,e'⟩:=hd';cases e.symm.trans e';exact k v H' c' fp1 S' F' r'
  ·cases e⟩
theorem XR(G:FnOk X.prog X.w X.K X.mg X.base CX0 k f fd ps (spQ X.K T B n Pr Rl))(ha:DA (W1 T hT B hB) E true X O (e::es) fs):PI X tg (.Call (.Name x p) (e::es) [] pos) (tIN (W:=W1 T hT B hB) X E O (PcN fs n Pr Rl)):=
 kE (jm (jH G hr hg hm hk hb .nil xN ha hd hs hplain)) fun σ H Rr⟨g,c,fp,Ok,S,⟨ds,ef,hn,hp,hl,hok⟩,q⟩=>by
  refine⟨g,c,fp,S,?_⟩;rw[ef];intro vs H1 c1 fp1 S1 F1 r1;have e2:fp1=fp1:=rfl;refine JA (g:=g) hn r1 S1 hp fun d hd' v H' c' S' F' r'=>?_
  obtain⟨xs,rfl⟩:=hl d hd';obtain⟨_,qq⟩:=q xs (hok xs hd');cases r' with
  |@lst a ys _ ex l r=>
   exact⟨a,rfl,⟨ys,SqL.of (S'.toSE.all (m:=true) _ _ ex)⟩,qq (Itl X.K a) H' c' fp1 S' (F1.trans F') (vm ex ⟨l,r⟩)⟩
end
end
def rdD(r:Rd):D:=.tup [.int r.n,.str r.a,.str r.b,.int r.l,.int r.c]
section
variable{K:fH}{c:Co}
theorem WW{x:V}{r:Rd}(h:Rep K c x (rdD r)):∃p ws,x=.ref p/\c.h p=some (.tup ws)/\ws[3]?=some (.int r.l):=by
 cases h with
 |@tup p ws _ e l rr=>
  have h3:3<ws.length:=by rw[l];simp
  have hw:ws[3]?=some ws[3]:=aa h3;have:=rr 3 _ (.int r.l) hw rfl;refine⟨p,ws,rfl,e,?_⟩;rw[hw];generalize ws[3]=z at this
  cases this;rfl
def RR(K:fH)(c:Co)(r:Rd)(p:Int×V):Prop:=p.1=r.l/\Rep K c p.2 (rdD r)
theorem YA:∀{rds:List Rd}{xs:List V},Reps K c xs (rds.map rdD)->Paired (RR K c) rds ((rds.map (·.l)).zip xs)
 |[],xs,h=>by rw[h.unnil];exact .nil
 |r::rds,xs,h=>by
  obtain⟨x,t,rfl,h1,h2⟩:=Reps.uncons (show Reps K c xs (rdD r::rds.map rdD)from h);exact .cons ⟨rfl,h1⟩ (YA h2)
theorem Zj:∀{rds:List Rd}{ps:List (Int×V)},Paired (RR K c) rds ps->Reps K c (ps.map Prod.snd) (rds.map rdD)
 |_,_,.nil=>.nil
 |_,_,.cons r t=>.cons r.2 (Zj t)
theorem Ks:∀{rds:List Rd}{ps:List (Int×V)},Paired (RR K c) rds ps->∀r∈rds,∃p∈ps,p.1=r.l
 |_,_,.nil,r,h=>nomatch h
 |_,_,.cons e t,r,h=>by
  rcases aj.mp h with z|z
  ·subst z;exact⟨_,ar ..,e.1⟩
  ·obtain⟨p,hp,e⟩:=Ks t r z
   exact⟨p,av _ hp,e⟩
theorem uZ:∀{rds:List Rd}{ps:List (Int×V)},Paired (RR K c) rds ps->ps.Pairwise (fun p q=>q.1<=p.1)->rds.Pairwise (fun a b=>b.l<=a.l)
 |_,_,.nil,_=>.nil
 |r::rds,p::ps,.cons e t,h=>by
  obtain⟨h1,h2⟩:=bB.mp h;refine bB.mpr ⟨fun b hb=>?_,uZ t h2⟩;obtain⟨q,hq,eq⟩:=Ks t b hb;have:=h1 q hq;rw[eq,e.1]at this;exact this
end
theorem V3{hT:HTb T}{tb:Nat->Option D}{k n:Nat}{x:Str}{p:Pos}{F:List D->Option D}{fs:SS (W1 T hT (BT X.K fp0 ob0 tb) hBT)->R (W1 T hT (BT X.K fp0 ob0 tb) hBT) (List D)}(hr:Room k X.A)(hg:Gl X x)(hm:X.mg x=some (.ref f))(hk:PySem.W.keepIn X.K (.ref f)=true)(hb:Binds X.K fd ps [])
  (G:FnOk X.prog X.w X.K X.mg X.base CX0 k f fd ps (spQ X.K T (BT X.K fp0 ob0 tb) n (fun ds=>True/\∀_:Unit,True->∃d,F ds=some d) (fun ds d=>∃_:Unit,True/\F ds=some d)))(ha:DA (W1 T hT (BT X.K fp0 ob0 tb) hBT) E true X O (e::es) fs)(hd:(x == ("__debug__":Str))=false:=by decide)
  (hs:starEach (e::es) X.env=(false,eval e X.env)::starEach es X.env:=by rfl)(hplain:(backTo pos (starEach es X.env)).any (·.1)=false:=by rfl):DE (W1 T hT (BT X.K fp0 ob0 tb) hBT) E true X O (.Call (.Name x p) (e::es) [] pos) (zO n F fs):=WA hr hg hm hk hb hd hs hplain G ha
theorem KL{hT:HTb T}{tb:Nat->Option D}{k n:Nat}{x:Str}{p:Pos}{Pr:List D->Prop}{Rl:List D->D->Prop}{fs:SS (W1 T hT (BT X.K fp0 ob0 tb) hBT)->R (W1 T hT (BT X.K fp0 ob0 tb) hBT) (List D)}(hr:Room k X.A)(hg:Gl X x)(hm:X.mg x=some (.ref f))(hk:PySem.W.keepIn X.K (.ref f)=true)(hb:Binds X.K fd ps [])
  (G:FnOk X.prog X.w X.K X.mg X.base CX0 k f fd ps (spQ X.K T (BT X.K fp0 ob0 tb) n Pr Rl))(ha:DA (W1 T hT (BT X.K fp0 ob0 tb) hBT) E true X O (e::es) fs)(hd:(x == ("__debug__":Str))=false:=by decide)
  (hs:starEach (e::es) X.env=(false,eval e X.env)::starEach es X.env:=by rfl)(hplain:(backTo pos (starEach es X.env)).any (·.1)=false:=by rfl):PI X tg (.Call (.Name x p) (e::es) [] pos) (tIN (W:=W1 T hT (BT X.K fp0 ob0 tb) hBT) X E O (PcN fs n Pr Rl)):=XR hr hg hm hk hb hd hs hplain G ha
theorem yz{u:HO}(h:isT u=false):isTb u=false:=by cases u <;> first|rfl|cases h
section
variable{T:Hp->Prop}{hT:HTb T}{fp0:Fp}{ob0:Nat->fN}{tb:Nat->Option D}{X:Cx}{E:En}{O:List Nat}
variable{l tg:Expr}{k0 i ko:Nat}{px gx:Str}{params:Arguments}{scope:Scope}{pp gp bp lpos kp p pos:Pos}{t0:Tok}{c P:Addr}{k1:Nat}{rp kp2:Pos}
theorem XO(hTT:∀H,T H->TabOk H P lpos (X.env.qual++"<lambda>"))(hTS:∀H H',T H->SaT P H H'->TabOk H' P lpos (X.env.qual++"<lambda>")->T H')(hr:Room k0 X.A)(hg:Gl X "sorted")(hm:X.mg "sorted"=none)(hl:PE X l (tVar i))(hi:i∉O)(hcode:X.env.code=.ref c)(hc:PySem.W.codeHdIn X.K c P=true)(BM:Bm X.base X.mg)(hgx:X.mg gx=some (.int (3:Nat) t0))
  (hdef:defaultsOf params X.env=([],[]):=by rfl)(hcl:closureFor scope X.env=pure []:=by rfl)
  (hb:∀(c':Addr)(pm ctv:Value)(x:Addr),bindArgs (PySem.W.kla_fn "<lambda>" (X.env.qual++"<lambda>") params (.Subscript (.Name px pp) (.Name gx gp) bp) scope [] pm (.ref c') ctv) ⟨[.ref x],[]⟩=pure [(px,.ref x)]:=by intro _ _ _ _;rfl)
  (kd:scope.kind=.function:=by rfl)(co:scope.isCoroutine=false:=by rfl)(gn:scope.isGenerator=false:=by rfl)(ncell:∀y∈scope.names,y.2≠.cell:=by decide +kernel)(lpx:scope.names.lookup px=some .local:=by rfl)(lgx:scope.names.lookup gx=some .globalImplicit:=by rfl)
  (d1:(px == ("__debug__":Str))=false:=by decide)(d2:(gx == ("__debug__":Str))=false:=by decide)(he:starEach [l] X.env=[(false,eval l X.env)]:=by rfl) :
  PI X tg (.Call (.Name "sorted" p) [l] [⟨some "key",.Lambda params (.Subscript (.Name px pp) (.Name gx gp) bp) scope lpos,kp⟩,⟨some "reverse",.Constant (.bool true) k1 rp,kp2⟩] pos) (tIN (W:=W1 T hT (BT X.K fp0 ob0 tb) hBT) X E O fun g Ok=>(g.v[i]?).join=some (.obj ko)/\∃rds:List Rd,tb ko=some (.lst (rds.map rdD))/\rds.length<64/\∀rds':List Rd,rds'.Perm rds->rds'.Pairwise (fun a b=>b.l<=a.l)->Ok (rds'.map rdD)):=
 kE (jm (KP hr hg hm hl hcode hc BM hgx hdef hcl hb kd co gn ncell lpx lgx d1 d2 he)) fun σ H Rr⟨g,cc,fp,Ok,S,⟨hgi,rds,hto,h64,hok⟩,q⟩=>by
  obtain⟨x,hx,rx⟩:=S.frz i (.obj ko) hi (join_some hgi);have B:BT X.K fp0 ob0 tb H cc fp:=S.br;obtain⟨a,ha1,ha2,ha3⟩:=B.ct ko _ hto;cases rx with
  |obj e'=>
   cases (B.ob ko a ha1).symm.trans e';obtain⟨xs,hxs,rs⟩:=ha3;have hcore:∀p u,cc.h p=some u->H p=some u:=fun p u e=>(Hn.of (S.core _ _ e)).1
   have lx:xs.length=rds.length:=by rw[rs.l,ab]
   refine⟨.ref a,hx,a,xs,rds.map (·.l),rfl,SqL.of hxs,by omega,by rw[ab,lx],fun j x k h1 h2=>?_,hTT H S.tab,fun Dn out H2 sat t2 hD hD2 ko'=>?_⟩
   ·rw[ag]at h2
    cases er:rds[j]? with
    |none=>rw[er]at h2;cases h2
    |some r=>
     rw[er]at h2;cases h2;have:=rs.r j x (rdD r) h1 (by rw[ag,er];rfl);obtain⟨p,ws,e1,e2,e3⟩:=WW this;exact⟨p,ws,e1,hcore _ _ e2,e3⟩
   ·obtain⟨ps,hperm,hout,hpw⟩:=ko'
    obtain⟨rds',pr,pe⟩:=kH hperm (YA rs);have rout:Reps X.K cc out (rds'.map rdD):=by rw[hout];exact Zj pr
    have pw:=uZ pr (by simpa using hpw);have F0:FR H cc fp H2 cc fp:=⟨.refl _,fun b u e=>by
     obtain⟨h1,h2,h3⟩:=Hn.of e;exact Hn.mk (sat.keep _ _ h1 (yz h3)) h2 h3,fun _ _ z=>z,fun b e=>sat.free e⟩
    have keepf:∀b∈fp,H2 b=H b:=fun b hb'=>by
     obtain⟨u,e1,e2⟩:=S.fph b hb';rw[e1];exact sat.keep _ _ e1 (yz e2)
    have S0:SE (W1 T hT (BT X.K fp0 ob0 tb) hBT) E () H2 cc fp:=⟨S.core.trans F0.nn,hBT _ _ _ _ _ S.br keepf (.refl _) S.toSE.fpc,hTS H H2 S.tab sat t2,fun b hb'=>by
     obtain⟨u,e1,e2⟩:=S.fph b hb';exact⟨u,by rw[keepf b hb'];exact e1,e2⟩,S.fr0.trans F0⟩
    obtain⟨hcD,hfD⟩:=S.toSE.free hD;have S1:=S0.give hD2 rfl hcD hfD (S.toSE.freeE hD);have F1:FR H cc fp H2 (cc.add Dn (.lst out)) fp:=⟨Co.add_le hcD,F0.nn,fun b hb' hc'=>by
     show upd cc.h Dn _ b=none;rw[qk ?_]
     ·exact hc'
     ·rintro rfl
      exact hb' (kh hD),F0.th⟩
    obtain⟨_,qq⟩:=q _ (hok rds' pe pw);exact⟨Dn,rfl,⟨out,SqL.of hD2⟩,qq (Itl X.K Dn) H2 _ fp (S.step (b:=()) F1 S1) F1 (vm ql (rout.mono (Co.add_le hcD)))⟩
end
theorem Rep.lst'{ds:List D}(r:Rep K c v (.lst ds)):∃a xs,v=.ref a/\c.h a=some (.lst xs)/\xs.length=ds.length/\∀(i:Nat) x d,xs[i]?=some x->ds[i]?=some d->Rep K c x d:=by
 cases r with|@lst a xs _ e l rr=>exact⟨a,xs,rfl,e,l,rr⟩
theorem Rep.dic'{kvs:List (Key×D)}(r:Rep K c v (.dic kvs)):∃a ys,v=.ref a/\c.h a=some (.dK ys)/\ys.map (·.1)=kvs.map (·.1)/\(kvs.map (·.1)).Nodup/\∀(i:Nat) p q,ys[i]?=some p->kvs[i]?=some q->Rep K c p.2 q.2:=by
 cases r with|@dic a ys _ e l nd rr=>exact⟨a,ys,rfl,e,l,nd,rr⟩
theorem Rep.tup'{ds:List D}(r:Rep K c v (.tup ds)):∃a xs,v=.ref a/\c.h a=some (.tup xs)/\xs.length=ds.length/\∀(i:Nat) x d,xs[i]?=some x->ds[i]?=some d->Rep K c x d:=by
 cases r with|@tup a xs _ e l rr=>exact⟨a,xs,rfl,e,l,rr⟩
theorem ln_s{n:Nat}{us:List α}(h:us.length=n+1):∃a t,us=a::t/\t.length=n:=by
 cases us with
 |nil=>cases h
 |cons a t=>exact⟨a,t,rfl,by simpa using h⟩
theorem ln1{us:List α}(h:us.length=1):∃a,us=[a]:=by
 obtain⟨a,t,rfl,k⟩:=ln_s h;exact⟨a,by rw[dQ k]⟩
theorem ln2{us:List α}(h:us.length=2):∃a b,us=[a,b]:=by
 obtain⟨a,t,rfl,k⟩:=ln_s h;obtain⟨b,rfl⟩:=ln1 k;exact⟨a,b,rfl⟩
theorem ln3{us:List α}(h:us.length=3):∃a b c,us=[a,b,c]:=by
 obtain⟨a,t,rfl,k⟩:=ln_s h;obtain⟨b,c,rfl⟩:=ln2 k;exact⟨a,b,c,rfl⟩
theorem ln4{us:List α}(h:us.length=4):∃a b c d,us=[a,b,c,d]:=by
 obtain⟨a,t,rfl,k⟩:=ln_s h;obtain⟨b,c,d,rfl⟩:=ln3 k;exact⟨a,b,c,d,rfl⟩
theorem ln5{us:List α}(h:us.length=5):∃a b c d e,us=[a,b,c,d,e]:=by
 obtain⟨a,t,rfl,k⟩:=ln_s h;obtain⟨b,c,d,e,rfl⟩:=ln4 k;exact⟨a,b,c,d,e,rfl⟩
theorem ln6{us:List α}(h:us.length=6):∃a b c d e f,us=[a,b,c,d,e,f]:=by
 obtain⟨a,t,rfl,k⟩:=ln_s h;obtain⟨b,c,d,e,f,rfl⟩:=ln5 k;exact⟨a,b,c,d,e,f,rfl⟩
theorem ln7{us:List α}(h:us.length=7):∃a b c d e f g,us=[a,b,c,d,e,f,g]:=by
 obtain⟨a,t,rfl,k⟩:=ln_s h;obtain⟨b,c,d,e,f,g,rfl⟩:=ln6 k;exact⟨a,b,c,d,e,f,g,rfl⟩
theorem FnOk.ex{k:Nat}{sp:α->Sp}(h:∀z,FnOk P w K mg base CX0 k f fd ps (sp z)):FnOk P w K mg base CX0 k f fd ps (fun vs H Q EX=>∃z,sp z vs H Q EX):=
 ⟨fun vs H Q E⟨z,q⟩=>(h z).len vs H Q E q,fun A outer s H args us vs Q E hr e b v⟨z,q⟩=>(h z).run A outer s H args us vs Q E hr e b v q⟩
def ZW(c:Co):Co:=⟨fun a=>match c.h a with|some (.tup xs)=>some (.tup xs)|_=>none,c.ob⟩
theorem Yp:Same (ZW c).h c.h:=fun a u e=>by
 have e:(match c.h a with|some (.tup xs)=>some (HO.tup xs)|_=>none)=some u:=e
 split at e
 ·rename_i xs hx
  cases e;exact hx
 ·cases e
theorem Yo{a:Addr}{xs:List V}(e:(ZW c).h a=some (.lst xs)):False:=by
 have e:(match c.h a with|some (.tup xs)=>some (HO.tup xs)|_=>none)=some (.lst xs):=e
 split at e <;> cases e
theorem Yn{x:V}{r:Rd}(h:Rep K c x (rdD r))(ob:Nat->fN):Rep K ⟨(ZW c).h,ob⟩ x (rdD r):=by
 cases h with
 |@tup p ws _ e l rr=>
  refine .tup (show(match c.h p with|some (.tup xs)=>some (HO.tup xs)|_=>none)=some (.tup ws) by rw[e]) l fun i x d h1 h2=>?_
  have:=rr i x d h1 h2
  match i,h2 with
  |0,h2=>cases h2;cases this;constructor
  |1,h2=>cases h2;cases this;constructor
  |2,h2=>cases h2;cases this;constructor
  |3,h2=>cases h2;cases this;constructor
  |4,h2=>cases h2;cases this;constructor
end M
namespace X2
open PySem PySem.Spec PyProof.Rows L2
variable{c:Nat}
def mark(f:Int)(n:Str):Option Nat:=if f=0 then n.cps.toList.head? else n.cps.toList.getLast?
theorem V5(x y:Str):(x++y).cps.toList=x.cps.toList++y.cps.toList:=by
 show(x.cps++y.cps).toList=_;exact Array.toList_append
theorem qcy{r:Str}:mark 0 (⟨#[c]⟩++r)=some c:=by
 unfold mark;rw[aF rfl,V5];rfl
theorem qcx{r:Str}:mark 1 (r++⟨#[c]⟩)=some c:=by
 unfold mark;rw[aG (by decide),V5];show(r.cps.toList++[c]).getLast?=some c;simp
theorem qcq{xs:List Nat}{i:Int}(h0:0<=i)(h1:i<xs.length):∃v,atI xs i=some v/\xs[i.toNat]?=some v:=by
 obtain⟨k,rfl⟩:=bI h0;have hk:k<xs.length:=by omega
 exact⟨xs[k],y3 (aa hk),aa hk⟩
theorem qb8:abc.cps.toList.Nodup:=by decide +kernel
def okZ(z:Int):Prop:=z=1\/z=3\/z=5\/z=7\/z=9\/z=11
theorem X9{ns:fP}{f z d1:Int}(hz:okZ z)(h5:ns.length<=5)(h:∀(t:Nat) x,ns[t]?=some x->mark f x=abc.cps.toList[((((0:Int)+(t:Int)) * z+d1) % 26).toNat]?):ns.Nodup:=by
 refine dq.mpr fun i j hi hj hij e=>?_
 have a:=h i _ (aa hi);have b:=h j _ (aa hj);rw[e,b]at a;have l1:=d7 (((0:Int)+(i:Int)) * z+d1) (show(26:Int)≠0 by decide);have l2:=cV (((0:Int)+(i:Int)) * z+d1) (show(0:Int)<26 by decide);have l3:=d7 (((0:Int)+(j:Int)) * z+d1) (show(26:Int)≠0 by decide);have l4:=cV (((0:Int)+(j:Int)) * z+d1) (show(0:Int)<26 by decide);have q:=(eT (i:=(((0+(j:Int)) * z+d1) % 26).toNat) (by rw[Xr];omega) qb8).mp a;rcases hz with rfl|rfl|rfl|rfl|rfl|rfl <;> omega
def pairD(o:Str×Int):Dt:=.tup [.str o.1,.int o.2]
structure PrsAt(H:Hp)(r:Addr)(out:List (Str×Int))(qs:fL):Prop where
 hr:H r=some (.lst (qs.map V.ref))
 len:qs.length=out.length
 at':∀(i:Nat) q(o:Str×Int),qs[i]?=some q->out[i]?=some o->H q=some (.tup [.str o.1,.int o.2])
theorem PrsAt.mono{H H':Hp}(s:Same H H'){r:Addr}{out:List (Str×Int)}{qs:fL}(p:PrsAt H r out qs):PrsAt H' r out qs:=⟨s _ _ p.hr,p.len,fun i q o h1 h2=>s _ _ (p.at' i q o h1 h2)⟩
def qbr(vs:fO)(c P:Addr):Bool:=(match(vs[11]?:Option Value)with|some (.ref P')=>P' == P|_=>false) &&
   (match vs.getD 18 .none with|.str _ _=>true|_=>false) && (match vs.getD 7 .none with|.int _ _=>true|_=>false) &&
   (match vs.getD 9 .none with|.bool _=>true|_=>false) && (match vs.getD 10 .none with|.int _ _=>true|_=>false) && c != P
theorem V_{K:fH}{c P:Addr}{dct:fN}{vs:fO}{sl:Array (Option Value)}(h:K.lookup c=some ⟨.type "code",dct,.fields vs,sl⟩)(e:qbr vs c P=true):PySem.W.codeHdIn K c P=true:=by
 unfold PySem.W.codeHdIn;rw[h];exact e
end X2
namespace M
open PySem PySem.Spec PyProof.Rows L2 X2
def Tt(Pt:Addr)(lp:Pos)(lq:Str)(H:Hp):Prop:=TabOk H Pt lp lq
theorem hTt{Pt:Addr}{lp:Pos}{lq:Str}:HTb (Tt Pt lp lq):=fun H H' h k=>by
 obtain⟨ps,e,ht,q⟩:=h;refine⟨ps,k _ _ e (fun _ h=>nomatch h) (fun _ h=>nomatch h) (fun _ h=>nomatch h),ht,?_⟩;rcases q with q|⟨c',q,h⟩
 ·exact .inl q
 ·exact .inr ⟨c',q,k _ _ h (fun _ h=>nomatch h) (fun _ h=>nomatch h) (fun _ h=>nomatch h)⟩
theorem uU{K:fH}{H:Hp}{a:Addr}{xs:List V}(h:SqL K H a xs):SqL K (Hn H []) a xs:=by
 rcases h with(h|⟨o,h⟩)|h
 ·exact .inl (.inl (Hn.mk h ax rfl))
 ·exact .inl (.inr ⟨o,Hn.mk h ax rfl⟩)
 ·exact .inr h
theorem xa{K:fH}{c:Co}:∀ns:fR,Reps K c (ns.map V.int) (ns.map D.int)
 |[]=>.nil
 |n::ns=>.cons (.int n) (xa ns)
theorem TabOk.oth{P Q:Addr}{lp:Pos}{lq:Str}{H H':Hp}(n:P≠Q)(s:SaT Q H H')(t:TabOk H P lp lq):TabOk H' P lp lq:=by
 obtain⟨ps,e,ht,q⟩:=t;refine⟨ps,s.oth _ _ e n,ht,?_⟩;rcases q with q|⟨c',q,h⟩
 ·exact .inl q
 ·exact .inr ⟨c',q,s.keep _ _ h rfl⟩
end M
namespace M
open PySem L2 X2
variable{z:Bool}{j lo si:Int}{α:Type}{ix:List Nat}{shared vs ys:fR}{e:Rd}{rds:List Rd}{T:Hp->Prop}{sp:Str->Int}{go st:Str}{found:List (Rd×Wt)}{K:fH}
section
variable(T:Hp->Prop)(hT:HTb T)
def kT:SS (W0 T hT)->Ou (W0 T hT):=
 (sRet (e2 subI (e2 subI (e2 ixD (eVar 1) (eC (.int 3))) (e2 ixD (eVar 0) (eC (.int 4)))) (e2 ixD (eVar 2) (e2 ixD (eVar 0) (eC (.int 2))))))
def jc:List D->Option D:=jr 3 (kT T hT)
def Xm:SS (W0 T hT)->Ou (W0 T hT):=
 (sRet (eAnd (e2 eqD (e2 ixD (eVar 1) (eC (.int 1))) (e2 ixD (eVar 0) (eC (.int 2)))) (e2 geI (zO 3 (jc T hT) (qf (eVar 0) (qf (eVar 1) (qf (eVar 2) aNil)))) (eC (.int 0)))))
def v9:List D->Option D:=jr 3 (Xm T hT)
def jP:SS (W0 T hT)->Ou (W0 T hT):=
 (sRet (eTup (qf (eC (.int 0)) (qf (eC (.int 0)) (qf (eVar 0) (qf (eC (.int 0)) (qf (eLst aNil) aNil)))))))
def zc:List D->Option D:=jr 1 (jP T hT)
def yX:SS (W0 T hT)->Ou (W0 T hT):=
 (sSeq (sSet 3 (e2 addD (e2 mulI (eC (.int 7)) (eVar 1)) (eC (.int 1))))
 (sSeq (sIf (qCmp ltI (eVar 1) (e1 lenD (eVar 0)))
 (sSet 3 (e2 ixD (eVar 0) (eVar 1)))
 (sIf (qCmp gtI (e1 lenD (eVar 0)) (eC (.int 0)))
 (sSet 3 (e2 addD (e2 addD (e2 modI (e2 ixD (eVar 0) (e2 modI (eVar 1) (e1 lenD (eVar 0)))) (eC (.int 999983))) (e2 mulI (e2 mulI (eVar 1) (eVar 1)) (eC (.int 97)))) (eC (.int 1))))
 sNil))
 (sSeq (sSet 4 (e2 addD (e2 addD (e2 modI (eVar 3) (eC (.int 999983))) (e2 mulI (eC (.int 31)) (eVar 1))) (eC (.int 5))))
 (sSeq (sSet 5 (eLst aNil))
 (sSeq (sIf (qCmp geI (eVar 3) (e2 powI (eC (.int 10)) (eC (.int 18))))
 (Qd (qAnd (qCmp gtI (eVar 3) (eC (.int 0))) (qCmp ltI (e1 lenD (eVar 5)) (eVar 2)))
 (sSeq (sApp 5 (e2 modI (eVar 3) (eC (.int 1013))))
 (sSet 3 (e2 wb (eVar 3) (eC (.int 1013))))))
 sNil)
 (sSeq (Qd (qCmp ltI (e1 lenD (eVar 5)) (eVar 2))
 (sSeq (sSet 6 (e2 addD (e1 lenD (eVar 5)) (eC (.int 1))))
 (sSeq (sSet 4 (e2 modI (e2 addD (e2 addD (e2 mulI (eVar 4) (eC (.int 48271))) (e2 mulI (e2 mulI (eVar 6) (eVar 6)) (eC (.int 6133)))) (eC (.int 17))) (eC (.int 2147483647))))
 (sApp 5 (e2 modI (e2 modI (e2 mulI (e2 modI (eVar 4) (eC (.int 65521))) (e2 addD (e2 modI (e2 wb (eVar 4) (eC (.int 65521))) (eC (.int 32749))) (eC (.int 1)))) (eC (.int 1000003))) (eC (.int 1013)))))))
 (sRet (eVar 5))))))))
def js:List D->Option D:=jr 7 (yX T hT)
def vh(F:List D->Option D):SS (W0 T hT)->Ou (W0 T hT):=
 (sSeq (sIf (qTru (e1 (isi2 "tuple" "list") (eVar 1)))
 (sSeq (sIf (qOr (qCmp neD (e1 (isi1 "tuple") (eVar 1)) (e1 (isi1 "tuple") (eVar 0))) (qCmp neD (e1 (isi1 "list") (eVar 1)) (e1 (isi1 "list") (eVar 0))))
 (sRet (eC (.bl false)))
 sNil)
 (sSeq (sIf (qCmp neD (e1 lenD (eVar 0)) (e1 lenD (eVar 1)))
 (sRet (eC (.bl false)))
 sNil)
 (sSeq (sFor (z9 (qf (e1 lenD (eVar 1)) aNil)) (ze 2)
 (sIf (qNot (qTru (zO 2 F (qf (e2 ixD (eVar 0) (eVar 2)) (qf (e2 ixD (eVar 1) (eVar 2)) aNil)))))
 (sRet (eC (.bl false)))
 sNil))
 (sRet (eC (.bl true))))))
 sNil)
 (sSeq (sIf (qCmp isND (eVar 1) (eC .non))
 (sRet (e2 isND (eVar 0) (eC .non)))
 sNil)
 (sSeq (sIf (qOr (qTru (e1 (isi1 "bool") (eVar 1))) (qTru (e1 (isi1 "bool") (eVar 0))))
 (sRet (eAnd (e1 (isi1 "bool") (eVar 1)) (eAnd (e1 (isi1 "bool") (eVar 0)) (e2 eqD (eVar 0) (eVar 1)))))
 sNil)
 (sSeq (sIf (qTru (e1 (isi1 "int") (eVar 1)))
 (sRet (eAnd (e1 (isi1 "int") (eVar 0)) (e2 eqD (eVar 0) (eVar 1))))
 sNil)
 (sRet (eAnd (e1 (isi1 "str") (eVar 0)) (e2 eqD (eVar 0) (eVar 1))))))))
def jW:Nat->List D->Option D
 |0=>fun _=>none
 |n+1=>jr 3 (vh T hT (jW n))
def yW:SS (W0 T hT)->Ou (W0 T hT):=
 (sSeq (sSet 2 (eC (.str "abcdefghijklmnopqrstuvwxyz")))
 (sSeq (sSet 3 (eLst aNil))
 (sSeq (sFor (z9 (qf (eVar 1) aNil)) (ze 4)
 (sSeq (sSet 5 (e2 ixD (eVar 2) (e2 modI (e2 addD (e2 mulI (eVar 4) (e2 ixD (eLst (qf (eC (.int 1)) (qf (eC (.int 3)) (qf (eC (.int 5)) (qf (eC (.int 7)) (qf (eC (.int 9)) (qf (eC (.int 11)) aNil))))))) (e2 modI (e2 ixD (eVar 0) (eC (.int 0))) (eC (.int 6))))) (e2 ixD (eVar 0) (eC (.int 1)))) (eC (.int 26)))))
 (sSeq (sSet 6 (VO (eC (.str "")) (j6 1 [0,2] (z9 (qf (e2 modI (e2 ixD (eVar 0) (e2 addD (eC (.int 4)) (eVar 4))) (eC (.int 12))) aNil)) (ze 0) qAll (e2 ixD (e2 addD (eVar 2) (eC (.str "0123456789"))) (e2 modI (e2 addD (e2 ixD (eVar 1) (eC (.int 2))) (e2 mulI (eVar 0) (e2 ixD (eVar 1) (eC (.int 3))))) (eC (.int 36)))))))
 (sApp 3 (e2 ixD (eLst (qf (e2 addD (eVar 5) (eVar 6)) (qf (e2 addD (eVar 6) (eVar 5)) aNil))) (e2 modI (e2 wb (e2 ixD (eVar 0) (eC (.int 0))) (eC (.int 6))) (eC (.int 2))))))))
 (sRet (eVar 3)))))
def kW:List D->Option D:=jr 7 (yW T hT)
def Xo:SS (W0 T hT)->Ou (W0 T hT):=
 (sRet (eAnd (e2 eqD (e2 ixD (eVar 0) (eC (.int 2))) (e2 ixD (eVar 1) (eC (.int 1)))) (e2 geI (e2 ixD (eVar 1) (eC (.int 3))) (e2 addD (e2 ixD (eVar 0) (eC (.int 4))) (e2 ixD (eVar 2) (e2 ixD (eVar 0) (eC (.int 2))))))))
def vj:List D->Option D:=jr 3 (Xo T hT)
end
section
variable{T:Hp->Prop}{hT:HTb T}{B:Hp->Co->fL->Prop}{hB:HBb B}{p:D->SS (W1 T hT B hB)->Option (SS (W1 T hT B hB))}{t:SS (W1 T hT B hB)->R (W1 T hT B hB) Bool}{f:SS (W1 T hT B hB)->R (W1 T hT B hB) D}{h:SS (W1 T hT B hB)->Ou (W1 T hT B hB)}
theorem W9{I:List D->SS (W1 T hT B hB)->Prop}:∀(ds done:List D)(g:SS (W1 T hT B hB)),I done g->(∀dn d g,(∃r,done++ds=dn++d::r)->I dn g->∃g1 g2,p d g=some g1/\h g1=.nx g2/\I (dn++[d]) g2)->∃g',forD p h ds g=.nx g'/\I (done++ds) g'
 |[],done,g,i,_=>⟨g,rfl,by simpa using i⟩
 |d::ds,done,g,i,st=>by
  obtain⟨g1,g2,e1,e2,i2⟩:=st done d g ⟨ds,rfl⟩ i;obtain⟨g',e3,i3⟩:=W9 ds (done++[d]) g2 i2 (fun dn d g h=>st dn d g (by simpa using h));refine⟨g',?_,by simpa using i3⟩;unfold forD;simp only[e1,e2,e3]
theorem yD{I:List D->SS (W1 T hT B hB)->Prop}{ds:List D}{g:SS (W1 T hT B hB)}(i:I [] g)(st:∀dn d g,(∃r,ds=dn++d::r)->I dn g->∃g1 g2,p d g=some g1/\h g1=.nx g2/\I (dn++[d]) g2):∃g',forD p h ds g=.nx g'/\I ds g':=by
 have:=W9 (p:=p) (h:=h) (I:=I) ds [] g i (by simpa using st);simpa using this
theorem ZS{I:Nat->SS (W1 T hT B hB)->Prop}{Post:SS (W1 T hT B hB)->Prop}(st:∀n g,I n g->(t g=.ok false ()/\Post g)\/(t g=.ok true ()/\∃g2 n',h g=.nx g2/\n'<n/\I n' g2)):∀(fuel n:Nat)(g:SS (W1 T hT B hB)),I n g->n<fuel->∃g',v_ t h fuel g=.nx g'/\Post g'
 |0,n,g,_,hl=>absurd hl (by omega)
 |fuel+1,n,g,i,hl=>by
  unfold v_;rcases st n g i with⟨e,pg⟩|⟨e,g2,n',e2,hn,i2⟩
  ·simp only[e]
   exact⟨_,rfl,pg⟩
  ·simp only[e]
   rw[show(⟨g.v,()⟩:SS (W1 T hT B hB))=g from rfl];simp only[e2];exact ZS st fuel n' g2 i2 (by omega)
theorem y7{I:Nat->SS (W1 T hT B hB)->Prop}{Post:SS (W1 T hT B hB)->Prop}{n:Nat}{g:SS (W1 T hT B hB)}(i:I n g)(hl:n<JY)(st:∀n g,I n g->(t g=.ok false ()/\Post g)\/(t g=.ok true ()/\∃g2 n',h g=.nx g2/\n'<n/\I n' g2)):∃g',Qd t h g=.nx g'/\Post g':=ZS st JY n g i hl
theorem qv{a b:SS (W1 T hT B hB)->Ou (W1 T hT B hB)}{g g':SS (W1 T hT B hB)}(e:a g=.nx g'):sSeq a b g=b g':=by unfold sSeq;rw[e]
theorem wA{a b:SS (W1 T hT B hB)->Ou (W1 T hT B hB)}{g:SS (W1 T hT B hB)}{d:D}(e:a g=.rt d ()):sSeq a b g=.rt d ():=by unfold sSeq;rw[e]
theorem qV{i:Nat}{g:SS (W1 T hT B hB)}{d:D}(e:f g=.ok d ()):sSet i f g=.nx ⟨g.v.set i (some d),()⟩:=by unfold sSet zZ;rw[e];rfl
theorem if_t{a b:SS (W1 T hT B hB)->Ou (W1 T hT B hB)}{g:SS (W1 T hT B hB)}(e:t g=.ok true ()):sIf t a b g=a g:=by unfold sIf zZ;rw[e];rfl
theorem if_f{a b:SS (W1 T hT B hB)->Ou (W1 T hT B hB)}{g:SS (W1 T hT B hB)}(e:t g=.ok false ()):sIf t a b g=b g:=by unfold sIf zZ;rw[e];rfl
theorem zH{n:Nat}{ds:List D}{d:D}(e:h (zI n ds ())=.rt d ()):jr n h ds=some d:=by unfold jr;rw[e]
theorem z6{g:SS (W1 T hT B hB)}{d:D}(e:f g=.ok d ()):sRet f g=.rt d ():=by unfold sRet zZ;rw[e]
theorem vb{i:Nat}{g:SS (W1 T hT B hB)}{ds:List D}{y:D}(hg:(g.v[i]?).join=some (.lst ds))(e:f g=.ok y ())(hl:ds.length<big):sApp i f g=.nx ⟨g.v.set i (some (.lst (ds++[y]))),()⟩:=by
 unfold sApp yb zZ sPut;simp only[hg,e,hl,d4];rfl
theorem wa{fi:SS (W1 T hT B hB)->R (W1 T hT B hB) (List D)}{ds:List D}{g g':SS (W1 T hT B hB)}(e:fi g=.ok ds ())(e2:forD p h ds g=.nx g'):sFor fi p h g=.nx g':=by unfold sFor zZ;rw[e];exact e2
theorem qa{i:Nat}{g:SS (W1 T hT B hB)}{d:D}(h:(g.v[i]?).join=some d):eVar i g=.ok d ():=by unfold eVar eOpt;rw[h];rfl
theorem c_ok{g:SS (W1 T hT B hB)}{d:D}:eC d g=.ok d ():=rfl
theorem zk{op:D->Option D}{fa:SS (W1 T hT B hB)->R (W1 T hT B hB) D}{g:SS (W1 T hT B hB)}{x z:D}(a:fa g=.ok x ())(o:op x=some z):e1 op fa g=.ok z ():=by
 unfold e1 qF eOpt;rw[a];simp only[o]
theorem qj{op:D->D->Option D}{fa fb:SS (W1 T hT B hB)->R (W1 T hT B hB) D}{g:SS (W1 T hT B hB)}{x y z:D}(a:fa g=.ok x ())(b:fb g=.ok y ())(o:op x y=some z):e2 op fa fb g=.ok z ():=by
 have b':fb ⟨g.v,()⟩=.ok y ():=b;unfold e2 qF eOpt;rw[a];simp only[b',o]
theorem q_ok{op:D->D->Option D}{fa fb:SS (W1 T hT B hB)->R (W1 T hT B hB) D}{g:SS (W1 T hT B hB)}{x y:D}(a:fa g=.ok x ())(b:fb g=.ok y ())(o:op x y=some (.bl z)):qCmp op fa fb g=.ok z ():=by
 unfold qCmp qF;rw[qj a b o];rfl
theorem zd{g:SS (W1 T hT B hB)}:aNil g=.ok [] ():=rfl
theorem qd{fa:SS (W1 T hT B hB)->R (W1 T hT B hB) D}{fs:SS (W1 T hT B hB)->R (W1 T hT B hB) (List D)}{g:SS (W1 T hT B hB)}{x:D}{xs:List D}(a:fa g=.ok x ())(b:fs g=.ok xs ()):qf fa fs g=.ok (x::xs) ():=by
 have b':fs ⟨g.v,()⟩=.ok xs ():=b;unfold qf qF eRet;rw[a];simp only[b']
theorem zt{n:Nat}{F:List D->Option D}{fs:SS (W1 T hT B hB)->R (W1 T hT B hB) (List D)}{g:SS (W1 T hT B hB)}{xs:List D}{z:D}(b:fs g=.ok xs ())(hl:xs.length=n)(o:F xs=some z):zO n F fs g=.ok z ():=by
 unfold zO qF eOpt;rw[b];simp only[hl,d4,o]
theorem kA{fs:SS (W1 T hT B hB)->R (W1 T hT B hB) (List D)}{g:SS (W1 T hT B hB)}{xs:List D}(b:fs g=.ok xs ())(hl:xs.length<=1000):eTup fs g=.ok (.tup xs) ():=by
 unfold eTup qF eOpt;rw[b];simp only[hl,d4]
theorem jM{fs:SS (W1 T hT B hB)->R (W1 T hT B hB) (List D)}{g:SS (W1 T hT B hB)}{xs:List D}(b:fs g=.ok xs ())(hl:xs.length<=1000):eLst fs g=.ok (.lst xs) ():=by
 unfold eLst qF eOpt;rw[b];simp only[hl,d4]
theorem J5{ta tb:SS (W1 T hT B hB)->R (W1 T hT B hB) Bool}{g:SS (W1 T hT B hB)}(a:ta g=.ok true ())(b:tb g=.ok z ()):qAnd ta tb g=.ok z ():=by
 have b':tb ⟨g.v,()⟩=.ok z ():=b;unfold qAnd qF;rw[a];exact b'
theorem WI{ta tb:SS (W1 T hT B hB)->R (W1 T hT B hB) Bool}{g:SS (W1 T hT B hB)}(a:ta g=.ok false ()):qAnd ta tb g=.ok false ():=by
 unfold qAnd qF;rw[a];rfl
theorem or_t{ta tb:SS (W1 T hT B hB)->R (W1 T hT B hB) Bool}{g:SS (W1 T hT B hB)}(a:ta g=.ok true ()):qOr ta tb g=.ok true ():=by
 unfold qOr qF;rw[a];rfl
theorem or_f{ta tb:SS (W1 T hT B hB)->R (W1 T hT B hB) Bool}{g:SS (W1 T hT B hB)}(a:ta g=.ok false ())(b:tb g=.ok z ()):qOr ta tb g=.ok z ():=by
 have b':tb ⟨g.v,()⟩=.ok z ():=b;unfold qOr qF;rw[a];exact b'
theorem xS{ta:SS (W1 T hT B hB)->R (W1 T hT B hB) Bool}{g:SS (W1 T hT B hB)}(a:ta g=.ok z ()):qNot ta g=.ok (!z) ():=by
 unfold qNot qF;rw[a];rfl
theorem zJ{fa:SS (W1 T hT B hB)->R (W1 T hT B hB) D}{g:SS (W1 T hT B hB)}{x:D}(a:fa g=.ok x ())(o:truD x=some z):qTru fa g=.ok z ():=by
 unfold qTru qF eOpt;rw[a];simp only[o]
theorem Km{fa:SS (W1 T hT B hB)->R (W1 T hT B hB) D}{g:SS (W1 T hT B hB)}{x:D}{xs:List D}(a:fa g=.ok x ())(o:Yy x=some xs):iSeq fa g=.ok xs ():=by
 unfold iSeq qF eOpt;rw[a];simp only[o]
theorem XE(h:-(2 ^ 62)<=j/\j<2 ^ 62):rng1 [.int j]=some (rngD 0 j.toNat):=aF h
theorem XD{n:Nat}(h:n<2 ^ 62):rng1 [.int (n:Int)]=some (rngD 0 n):=by
 have e:=XE (j:=(n:Int)) ⟨by omega,by omega⟩;rw[cB]at e;exact e
theorem qat{o:Option (List D)}{ds:List D}{g:SS (W1 T hT B hB)}(h:o=some ds):eOpt o g=.ok ds ():=by rw[h];rfl
theorem wC{fs:SS (W1 T hT B hB)->R (W1 T hT B hB) (List D)}{g:SS (W1 T hT B hB)}{n:Nat}(b:fs g=.ok [.int (n:Int)] ())(h:n<2 ^ 62):z9 fs g=.ok (rngD 0 n) ():=by
 have e:=qat (T:=T) (hT:=hT) (B:=B) (hB:=hB) (g:=⟨g.v,()⟩) (XD h);unfold z9 qF;rw[b];exact e
theorem ok_t{t:SS (W1 T hT B hB)->R (W1 T hT B hB) Bool}{g:SS (W1 T hT B hB)}{p:Prop}[Decidable p](a:t g=.ok (decide p) ())(h:p):t g=.ok true ():=by rw[a,aO h]
theorem ok_f{t:SS (W1 T hT B hB)->R (W1 T hT B hB) Bool}{g:SS (W1 T hT B hB)}{p:Prop}[Decidable p](a:t g=.ok (decide p) ())(h:¬ p):t g=.ok false ():=by rw[a,aP h]
theorem ok_c{t:SS (W1 T hT B hB)->R (W1 T hT B hB) α}{g:SS (W1 T hT B hB)}{x y:α}(a:t g=.ok x ())(h:x=y):t g=.ok y ():=by rw[a,h]
theorem vO{I:SS (W1 T hT B hB)->Prop}{Pd:D->D->Prop}:∀(ds:List D)(g:SS (W1 T hT B hB))(acc:List D),I g->(∀d∈ds,∀g,I g->∃g1,p d g=some g1/\I g1/\((t g1=.ok true ()/\∃y,f g1=.ok y ()/\Pd d y)\/t g1=.ok false ()))->acc.length+ds.length<=big->
  ∃ys,xt p t f ds g acc=.ok (acc++ys) ()/\ys.length<=ds.length/\∀y∈ys,∃d∈ds,Pd d y
 |[],g,acc,_,_,_=>⟨[],by rw[wm];simp;rfl,ak _,fun y hy=>(nomatch hy)⟩
 |d::ds,g,acc,i,st,hb=>by
  obtain⟨g1,e1,i1,e2⟩:=st d (ar ..) g i;have hb2:acc.length<big:=by simp at hb;omega
  have st':=fun d hd=>st d (av _ hd)
  rw[v6];rcases e2 with⟨e2,y,e3,py⟩|e2
  ·obtain⟨ys,e4,l4,p4⟩:=vO ds g1 (acc++[y]) i1 st' (by simp at hb ⊢;omega)
   refine⟨y::ys,?_,by simp;omega,fun z hz=>?_⟩
   ·simp only[e1,e2]
    rw[show(⟨g1.v,()⟩:SS (W1 T hT B hB))=g1 from rfl];simp only[e3,hb2,d4];rw[show(⟨g1.v,()⟩:SS (W1 T hT B hB))=g1 from rfl,e4];simp
   ·rcases aj.mp hz with rfl|hz
    ·exact⟨d,ar ..,py⟩
    ·obtain⟨d',h1,h2⟩:=p4 z hz
     exact⟨d',av _ h1,h2⟩
  ·obtain⟨ys,e4,l4,p4⟩:=vO ds g1 acc i1 st' (by simp at hb;omega)
   refine⟨ys,?_,by simp;omega,fun z hz=>?_⟩
   ·simp only[e1,e2]
    rw[show(⟨g1.v,()⟩:SS (W1 T hT B hB))=g1 from rfl,e4]
   ·obtain⟨d',h1,h2⟩:=p4 z hz
    exact⟨d',av _ h1,h2⟩
theorem WD{I:SS (W1 T hT B hB)->Prop}{Pd:D->D->Prop}{n:Nat}{fi:SS (W1 T hT B hB)->R (W1 T hT B hB) (List D)}{ds:List D}{g:SS (W1 T hT B hB)}(hi:fi g=.ok ds ())(i0:I (capD n ix g))(st:∀d∈ds,∀g,I g->∃g1,p d g=some g1/\I g1/\((t g1=.ok true ()/\∃y,f g1=.ok y ()/\Pd d y)\/t g1=.ok false ()))(hb:ds.length<=big) :
  ∃ys,j6 n ix fi p t f g=.ok (.lst ys) ()/\ys.length<=ds.length/\∀y∈ys,∃d∈ds,Pd d y:=by
 obtain⟨ys,e,l,q⟩:=vO ds (capD n ix g) [] i0 st (by simpa using hb);refine⟨ys,?_,l,q⟩;unfold j6 qF;simp only[hi];rw[show(⟨g.v,()⟩:SS (W1 T hT B hB))=g from rfl,e];simp
theorem ve{n:Nat}:(rngD lo n).length=n:=by unfold rngD;simp
theorem YC{n i:Nat}(h:i<n):(rngD lo n)[i]?=some (.int (lo+i)):=by
 unfold rngD;rw[ag,List.getElem?_range h];rfl
theorem YB{n:Nat}{d:D}(h:d∈rngD lo n):∃k:Nat,k<n/\d=.int (lo+k):=by
 unfold rngD at h;obtain⟨k,hk,rfl⟩:=aC.mp h;exact⟨k,b9.mp hk,rfl⟩
theorem yc{n:Nat}{dn r:List D}{d:D}(h:rngD 0 n=dn++d::r):d=.int (dn.length:Int)/\dn.length<n:=by
 have hl:dn.length<n:=by
  have:=bC List.length h;rw[ve]at this;simp at this;omega
 have e:=YC (lo:=0) hl;rw[h,aT (ak _),Nat.sub_self]at e;simp at e;exact⟨by rw[e],hl⟩
theorem QS{x y:α}{g:SS (W1 T hT B hB)}{fa:SS (W1 T hT B hB)->R (W1 T hT B hB) α}(h:fa g=.ok x ())(e:x=y):fa g=.ok y ():=by rw[h,e]
theorem Wj{fa fb:SS (W1 T hT B hB)->R (W1 T hT B hB) D}{g:SS (W1 T hT B hB)}{x:Str}{y z:D}(a:fa g=.ok (.str x) ())(b:fb g=.ok y ())(o:uc (.str x) y=some z):VO fa fb g=.ok z ():=by
 have b':fb ⟨g.v,()⟩=.ok y ():=b;unfold VO qF eOpt;rw[a];simp only[];rw[b'];simp only[o]
theorem u_{fa fb:SS (W1 T hT B hB)->R (W1 T hT B hB) D}{g:SS (W1 T hT B hB)}{ds:List D}{i:Int}(a:fa g=.ok (.lst ds) ())(b:fb g=.ok (.int i) ())(h:i=-1):eRev fa fb g=.ok (.lst ds.reverse) ():=by
 have b':fb ⟨g.v,()⟩=.ok (.int i) ():=b;unfold eRev qF eOpt;rw[a];simp only[b',h,d4]
theorem Vy{i:Nat}{fk fv:SS (W1 T hT B hB)->R (W1 T hT B hB) D}{g:SS (W1 T hT B hB)}{d k v z:D}(hv:fv g=.ok v ())(hg:(g.v[i]?).join=some d)(hk:fk g=.ok k ())(o:putO d k v=some z):JM i fk fv g=.nx ⟨g.v.set i (some z),()⟩:=by
 have hk':fk ⟨g.v,()⟩=.ok k ():=hk;unfold JM zZ yb sPut;rw[hv];simp only[hg,hk',o];rfl
theorem Yj{i:Nat}{op:D->D->Option D}{fv:SS (W1 T hT B hB)->R (W1 T hT B hB) D}{g:SS (W1 T hT B hB)}{d v z:D}(hv:fv g=.ok v ())(hg:(g.v[i]?).join=some d)(o:op d v=some z):sAug i op fv g=.nx ⟨g.v.set i (some z),()⟩:=by
 unfold sAug zZ yb sPut;simp only[hg];rw[hv];simp only[o];rfl
theorem Xp{fa:SS (W1 T hT B hB)->R (W1 T hT B hB) D}{g g':SS (W1 T hT B hB)}{d:D}(h:fa g=.ok d ())(hp:p d g=some g'):sAsg p fa g=.nx g':=by
 unfold sAsg zZ;rw[h];have hp':p d ⟨g.v,()⟩=some g':=hp;simp only[hp']
theorem yO{α:Type}{emb:α->D}{I:SS (W1 T hT B hB)->Prop}{sel:α->Bool}{out:α->D}:∀(xs:List α)(g:SS (W1 T hT B hB))(acc:List D),I g->(∀x∈xs,∀g,I g->∃g1,p (emb x) g=some g1/\I g1/\t g1=.ok (sel x) ()/\(sel x=true->f g1=.ok (out x) ()))->acc.length+xs.length<=big->
  xt p t f (xs.map emb) g acc=.ok (acc++(xs.filter sel).map out) ()
 |[],g,acc,_,_,_=>by rw[dJ,wm];simp;rfl
 |d::ds,g,acc,i,st,hb=>by
  obtain⟨g1,e1,i1,e2,e3⟩:=st d (ar ..) g i;have hb2:acc.length<big:=by simp at hb;omega
  have st':=fun d hd=>st d (av _ hd)
  rw[aA,v6];simp only[e1,e2];cases es:sel d with
  |true=>
   have e3:=e3 es;have eg:(⟨g1.v,()⟩:SS (W1 T hT B hB))=g1:=rfl;simp only[eg,e3,hb2,d4];rw[yO ds g1 (acc++[out d]) i1 st' (by simp at hb ⊢;omega)];simp[es]
  |false=>
   simp only[];rw[show(⟨g1.v,()⟩:SS (W1 T hT B hB))=g1 from rfl,yO ds g1 acc i1 st' (by simp at hb;omega)];simp[es]
theorem kR{emb:α->D}{I:SS (W1 T hT B hB)->Prop}{sel:α->Bool}{out:α->D}{n:Nat}{fi:SS (W1 T hT B hB)->R (W1 T hT B hB) (List D)}{xs:List α}{g:SS (W1 T hT B hB)}(hi:fi g=.ok (xs.map emb) ())(i0:I (capD n ix g))(st:∀x∈xs,∀g,I g->∃g1,p (emb x) g=some g1/\I g1/\t g1=.ok (sel x) ()/\(sel x=true->f g1=.ok (out x) ()))(hb:xs.length<=big) :
  j6 n ix fi p t f g=.ok (.lst ((xs.filter sel).map out)) ():=by
 unfold j6 qF;simp only[hi];rw[show(⟨g.v,()⟩:SS (W1 T hT B hB))=g from rfl,yO xs (capD n ix g) [] i0 st (by simpa using hb)];simp
theorem VL{α:Type}{emb:α->D}{I:List α->SS (W1 T hT B hB)->Prop}:∀(xs done:List α)(g:SS (W1 T hT B hB)),I done g->(∀dn x g,(∃r,done++xs=dn++x::r)->I dn g->∃g1 g2,p (emb x) g=some g1/\h g1=.nx g2/\I (dn++[x]) g2)->∃g',forD p h (xs.map emb) g=.nx g'/\I (done++xs) g'
 |[],done,g,i,_=>⟨g,rfl,by simpa using i⟩
 |d::ds,done,g,i,st=>by
  obtain⟨g1,g2,e1,e2,i2⟩:=st done d g ⟨ds,rfl⟩ i;obtain⟨g',e3,i3⟩:=VL ds (done++[d]) g2 i2 (fun dn d g h=>st dn d g (by simpa using h));refine⟨g',?_,by simpa using i3⟩;rw[aA];unfold forD;simp only[e1,e2,e3]
theorem yC{emb:α->D}{I:List α->SS (W1 T hT B hB)->Prop}{xs:List α}{g:SS (W1 T hT B hB)}(i:I [] g)(st:∀dn x g,(∃r,xs=dn++x::r)->I dn g->∃g1 g2,p (emb x) g=some g1/\h g1=.nx g2/\I (dn++[x]) g2):∃g',forD p h (xs.map emb) g=.nx g'/\I xs g':=by
 have:=VL (p:=p) (h:=h) (emb:=emb) (I:=I) xs [] g i (by simpa using st);simpa using this
theorem qa9{fa:SS (W1 T hT B hB)->R (W1 T hT B hB) D}{g:SS (W1 T hT B hB)}{xs:List D}(a:fa g=.ok (.lst xs) ()):iLst fa g=.ok xs ():=by
 unfold iLst qF eOpt;rw[a];rfl
end
theorem xT{i:Int}(h1:-(2 ^ 64)<i)(h2:i<2 ^ 64):mulI (.int i) (.int j)=some (.int (i * j)):=by
 exact aF (Or.inl ⟨h1,h2⟩)
theorem mul_r{i:Int}(h1:-(2 ^ 64)<j)(h2:j<2 ^ 64):mulI (.int i) (.int j)=some (.int (i * j)):=by
 exact aF (Or.inr ⟨h1,h2⟩)
theorem jo{i:Int}(h:0<j):modI (.int i) (.int j)=some (.int (i % j)):=aF h
theorem VM{i:Int}(h:0<j)(h2:j<1073741824):wb (.int i) (.int j)=some (.int (i / j)):=aF ⟨h,h2⟩
theorem pw18:powI (.int 10) (.int 18)=some (.int (10 ^ 18)):=rfl
theorem ju{i:Int}:addD (.int i) (.int j)=some (.int (i+j)):=rfl
theorem uS{i:Int}:subI (.int i) (.int j)=some (.int (i - j)):=rfl
theorem lt_i{i:Int}:ltI (.int i) (.int j)=some (.bl (decide (i<j))):=rfl
theorem le_i{i:Int}:leI (.int i) (.int j)=some (.bl (decide (i<=j))):=rfl
theorem gt_i{i:Int}:gtI (.int i) (.int j)=some (.bl (decide (j<i))):=rfl
theorem ge_i{i:Int}:geI (.int i) (.int j)=some (.bl (decide (j<=i))):=rfl
theorem Y9{ds:List D}:lenD (.lst ds)=some (.int ds.length):=rfl
theorem JS{ds:List D}:lenD (.scr ds)=some (.int ds.length):=rfl
theorem at_l{xs:List α}{i:Nat}:atI xs (i:Int)=xs[i]?:=by
 unfold atI ixN
 by_cases h:i<xs.length
 ·simp[h]
 ·simp[h]
theorem ix_l{ds:List D}{i:Nat}:ixD (.lst ds) (.int (i:Int))=ds[i]?:=at_l
theorem ix_s{ds:List D}{i:Nat}:ixD (.scr ds) (.int (i:Int))=ds[i]?:=at_l
theorem uf{ds:List D}{i:Int}(h:0<=i):ixD (.lst ds) (.int i)=ds[i.toNat]?:=by
 obtain⟨k,rfl⟩:=bI h;exact at_l
section
variable(T:Hp->Prop)(hT:HTb T)
def Drawn(vs:fR)(n:Nat):Prop:=vs.length=n/\∀v∈vs,0<=v/\v<1013
def isD(vs:fR):List D:=vs.map .int
theorem zS:(isD vs).length=vs.length:=ab ..
theorem yA{i:Nat}:(isD vs)[i]?=(vs[i]?).map .int:=ag ..
theorem Jm{v:Int}:isD vs++[.int v]=isD (vs++[v]):=by unfold isD;simp
theorem Ws(ins:fR)(at_ many:Nat)(h1:at_<100000)(h2:many<=1000):∃vs,js T hT [.scr (isD ins),.int at_,.int many]=some (.lst (isD vs))/\Drawn vs many:=by
 have ha1:-(2 ^ 64:Int)<(at_:Int):=by omega
 have ha2:(at_:Int)<2 ^ 64:=by omega
 unfold js yX;have m1:mulI (.int 7) (.int at_)=some (.int (7 * at_)):=xT (by decide) (by decide);have cell:∃c:Int,∀(r:SS (W0 T hT)->Ou (W0 T hT)),sSeq (sIf (qCmp ltI (eVar 1) (e1 lenD (eVar 0)))
   (sSet 3 (e2 ixD (eVar 0) (eVar 1)))
   (sIf (qCmp gtI (e1 lenD (eVar 0)) (eC (.int 0)))
   (sSet 3 (e2 addD (e2 addD (e2 modI (e2 ixD (eVar 0) (e2 modI (eVar 1) (e1 lenD (eVar 0)))) (eC (.int 999983))) (e2 mulI (e2 mulI (eVar 1) (eVar 1)) (eC (.int 97)))) (eC (.int 1))))
   sNil)) r ⟨[some (.scr (isD ins)),some (.int at_),some (.int many),some (.int (7 * at_+1)),none,none,none],()⟩=r ⟨[some (.scr (isD ins)),some (.int at_),some (.int many),some (.int c),none,none,none],()⟩:=by
  by_cases hl:at_<ins.length
  ·refine⟨ins[at_],fun r=>?_⟩
   have e1:(isD ins)[at_]?=some (.int ins[at_]):=by rw[yA,aa hl];rfl
   have e2:((at_:Int)<(isD ins).length):=by rw[zS];omega
   refine qv ?_;rw[if_t (ok_t (q_ok (qa rfl) (zk (qa rfl) JS) lt_i) e2)];exact(qV (d:=.int ins[at_]) (qj (qa rfl) (qa rfl) (ix_s.trans e1))).trans rfl
  ·have e2:¬ ((at_:Int)<(isD ins).length):=by rw[zS];omega
   by_cases hz:ins.length=0
   ·refine⟨7 * at_+1,fun r=>qv ?_⟩
    rw[if_f (ok_f (q_ok (qa rfl) (zk (qa rfl) JS) lt_i) e2)];rw[if_f (ok_f (q_ok (zk (qa rfl) JS) c_ok gt_i) (by rw[zS,hz];decide))];rfl
   ·have hp:(0:Int)<(isD ins).length:=by rw[zS];omega
    have hm:at_ % ins.length<ins.length:=Nat.mod_lt _ (by omega);have e3:((at_:Int) % ((isD ins).length:Int))=((at_ % ins.length:Nat):Int):=by rw[zS];rfl
    obtain⟨x,e4⟩:∃x:Int,(isD ins)[at_ % ins.length]?=some (.int x):=⟨ins[at_ % ins.length],by rw[yA,aa hm];rfl⟩;have m2:mulI (.int at_) (.int at_)=some (.int ((at_:Int) * at_)):=xT ha1 ha2;have m3:mulI (.int ((at_:Int) * at_)) (.int 97)=some (.int ((at_:Int) * at_ * 97)):=mul_r (by decide) (by decide);have m4:modI (.int x) (.int 999983)=some (.int (x % 999983)):=jo (by decide);obtain⟨y,hy⟩:∃y:Int,addD (.int (x % 999983+(at_:Int) * at_ * 97)) (.int 1)=some (.int y):=⟨_,rfl⟩;refine⟨y,fun r=>qv ?_⟩;rw[if_f (ok_f (q_ok (qa rfl) (zk (qa rfl) JS) lt_i) e2)];rw[if_t (ok_t (q_ok (zk (qa rfl) JS) c_ok gt_i) hp)];have q3:(M.e2 modI (M.e2 ixD (eVar 0) (M.e2 modI (eVar 1) (M.e1 lenD (eVar 0)))) (eC (.int 999983))) (⟨[some (.scr (isD ins)),some (.int at_),some (.int many),some (.int (7 * at_+1)),none,none,none],()⟩:SS (W0 T hT))=.ok (.int (x % 999983)) ():=qj (qj (qa rfl) (qj (qa rfl) (zk (qa rfl) JS) (jo hp)) (by rw[e3];exact ix_s.trans e4)) c_ok m4;have q4:(M.e2 mulI (M.e2 mulI (eVar 1) (eVar 1)) (eC (.int 97))) (⟨[some (.scr (isD ins)),some (.int at_),some (.int many),some (.int (7 * at_+1)),none,none,none],()⟩:SS (W0 T hT))=.ok (.int ((at_:Int) * at_ * 97)) ():=qj (qj (qa rfl) (qa rfl) m2) c_ok m3;have q5:=qj (qj q3 q4 ju) (c_ok (d:=.int 1)) hy;exact qV q5
 obtain⟨c,cell⟩:=cell;let S (c sd:Int) (vs:fR) (mk:Option D):SS (W0 T hT):=⟨[some (.scr (isD ins)),some (.int at_),some (.int many),some (.int c),some (.int sd),some (.lst (isD vs)),mk],()⟩;have mod1:∀x:Int,0<=x % 1013/\x % 1013<1013:=fun x=>⟨d7 _ (by decide),cV _ (by decide)⟩
 have snoc:∀{vs:fR}{n:Nat}(x:Int),Drawn vs n->Drawn (vs++[x % 1013]) (n+1):=fun x⟨a,b⟩=>⟨by simp[a],fun v hv=>by
  rcases aQ.mp hv with z|z
  ·exact b v z
  ·rw[au.mp z];exact mod1 x⟩
 have w1:∀sd:Int,∃(vs:fR)(c':Int),Drawn vs vs.length/\vs.length<=many/\sIf (qCmp geI (eVar 3) (e2 powI (eC (.int 10)) (eC (.int 18))))
   (Qd (qAnd (qCmp gtI (eVar 3) (eC (.int 0))) (qCmp ltI (e1 lenD (eVar 5)) (eVar 2)))
   (sSeq (sApp 5 (e2 modI (eVar 3) (eC (.int 1013))))
   (sSet 3 (e2 wb (eVar 3) (eC (.int 1013))))))
   sNil (S c sd [] none)=.nx (S c' sd vs none):=fun sd=>by
  have pw:=pw18;have tst:(qCmp geI (eVar 3) (e2 powI (eC (.int 10)) (eC (.int 18)))) (S c sd [] none)=.ok (decide ((10 ^ 18:Int)<=c)) ():=q_ok (qa rfl) (qj c_ok c_ok pw) ge_i
  by_cases hc:(10 ^ 18:Int)<=c
  ·rw[if_t (ok_t tst hc)]
   obtain⟨g',e,vs,c',h3,h4,rfl⟩:=y7 (T:=T) (hT:=hT) (B:=B0) (hB:=hB0) (t:=qAnd (qCmp gtI (eVar 3) (eC (.int 0))) (qCmp ltI (e1 lenD (eVar 5)) (eVar 2))) (h:=sSeq (sApp 5 (e2 modI (eVar 3) (eC (.int 1013)))) (sSet 3 (e2 wb (eVar 3) (eC (.int 1013)))))
    (I:=fun n g=>∃vs c',Drawn vs vs.length/\vs.length<=many/\n=many - vs.length/\g=S c' sd vs none) (Post:=fun g=>∃vs c',Drawn vs vs.length/\vs.length<=many/\g=S c' sd vs none) (n:=many) (g:=S c sd [] none) ⟨[],c,⟨rfl,fun v hv=>(nomatch hv)⟩,aV _,rfl,rfl⟩ (by unfold JY;omega) (by
     rintro n g ⟨vs,c',h3,h4,hn,rfl⟩;have t1:(qCmp gtI (eVar 3) (eC (.int 0))) (S c' sd vs none)=.ok (decide (0<c')) ():=q_ok (qa rfl) c_ok gt_i;have t2:(qCmp ltI (e1 lenD (eVar 5)) (eVar 2)) (S c' sd vs none)=.ok (decide (((isD vs).length:Int)<many)) ():=q_ok (zk (qa rfl) Y9) (qa rfl) lt_i
     by_cases hp:0<c'
     ·by_cases hl:vs.length<many
      ·right
       have hl2:((isD vs).length:Int)<many:=by rw[zS];omega
       refine⟨J5 (ok_t t1 hp) (ok_t t2 hl2),S (c' / 1013) sd (vs++[c' % 1013]) none,many - (vs.length+1),?_,by omega,vs++[c' % 1013],c' / 1013,?_,?_,?_,rfl⟩
       ·refine(qv (vb (ds:=isD vs) (y:=.int (c' % 1013)) rfl (qj (qa rfl) c_ok (jo (by decide))) (by rw[zS];unfold big;omega))).trans ?_
        rw[Jm];exact qV (d:=.int (c' / 1013)) (qj (qa rfl) c_ok (VM (by decide) (by decide)))
       ·have:=snoc c' h3;rw[aK];exact this
       ·simp;omega
       ·simp
      ·left
       have hl2:¬ ((isD vs).length:Int)<many:=by rw[zS];omega
       exact⟨J5 (ok_t t1 hp) (ok_f t2 hl2),vs,c',h3,h4,rfl⟩
     ·left
      exact⟨WI (ok_f t1 hp),vs,c',h3,h4,rfl⟩)
   exact⟨vs,c',h3,h4,e⟩
  ·refine⟨[],c,⟨rfl,fun v hv=>(nomatch hv)⟩,aV _,?_⟩
   rw[if_f (ok_f tst hc)];rfl
 obtain⟨vs1,c',d1,l1,w1⟩:=w1 (c % 999983+31 * at_+5);obtain⟨g',w2,vs,sd',mk,d2,rfl⟩:=y7 (T:=T) (hT:=hT) (B:=B0) (hB:=hB0) (t:=qCmp ltI (e1 lenD (eVar 5)) (eVar 2)) (h:=(sSeq (sSet 6 (e2 addD (e1 lenD (eVar 5)) (eC (.int 1))))
 (sSeq (sSet 4 (e2 modI (e2 addD (e2 addD (e2 mulI (eVar 4) (eC (.int 48271))) (e2 mulI (e2 mulI (eVar 6) (eVar 6)) (eC (.int 6133)))) (eC (.int 17))) (eC (.int 2147483647))))
 (sApp 5 (e2 modI (e2 modI (e2 mulI (e2 modI (eVar 4) (eC (.int 65521))) (e2 addD (e2 modI (e2 wb (eVar 4) (eC (.int 65521))) (eC (.int 32749))) (eC (.int 1)))) (eC (.int 1000003))) (eC (.int 1013)))))))
  (I:=fun n g=>∃vs sd mk,Drawn vs vs.length/\vs.length<=many/\n=many - vs.length/\g=S c' sd vs mk) (Post:=fun g=>∃vs sd mk,Drawn vs many/\g=S c' sd vs mk) (n:=many - vs1.length) (g:=S c' (c % 999983+31 * at_+5) vs1 none) ⟨vs1,_,none,d1,l1,rfl,rfl⟩ (by unfold JY;omega) (by
   rintro n g ⟨vs,sd,mk,h3,h4,hn,rfl⟩;have t2:(qCmp ltI (e1 lenD (eVar 5)) (eVar 2)) (S c' sd vs mk)=.ok (decide (((isD vs).length:Int)<many)) ():=q_ok (zk (qa rfl) Y9) (qa rfl) lt_i
   by_cases hl:vs.length<many
   ·right
    have hl2:((isD vs).length:Int)<many:=by rw[zS];omega
    have hv:(isD vs).length<=1000:=by rw[zS];omega
    obtain⟨k,hk⟩:∃k:Int,((isD vs).length:Int)+1=k:=⟨_,rfl⟩;have k1:-(2 ^ 64)<k:=by omega
    have k2:k<2 ^ 64:=by omega
    have a8:∀x y:Int,mulI (.int (x % 65521)) (.int y)=some (.int (x % 65521 * y)):=fun x y=>xT (by have:=d7 x (show(65521:Int)≠0 by decide);omega) (by have:=cV x (show(0:Int)<65521 by decide);omega)
    have p1:(e2 addD (e1 lenD (eVar 5)) (eC (.int 1))) (S c' sd vs mk)=.ok (.int k) ():=ok_c (qj (zk (qa rfl) Y9) c_ok ju) (by rw[hk]);obtain⟨sd2,p2⟩:∃sd2:Int,(e2 modI (e2 addD (e2 addD (e2 mulI (eVar 4) (eC (.int 48271))) (e2 mulI (e2 mulI (eVar 6) (eVar 6)) (eC (.int 6133)))) (eC (.int 17))) (eC (.int 2147483647))) (S c' sd vs (some (.int k)))=.ok (.int sd2) ():=⟨_,qj (qj (qj (qj (qa rfl) c_ok (mul_r (by decide) (by decide))) (qj (qj (qa rfl) (qa rfl) (xT k1 k2)) c_ok (mul_r (by decide) (by decide))) ju) c_ok ju) c_ok (jo (by decide))⟩;obtain⟨v,p3⟩:∃v:Int,(e2 modI (e2 modI (e2 mulI (e2 modI (eVar 4) (eC (.int 65521))) (e2 addD (e2 modI (e2 wb (eVar 4) (eC (.int 65521))) (eC (.int 32749))) (eC (.int 1)))) (eC (.int 1000003))) (eC (.int 1013))) (S c' sd2 vs (some (.int k)))=.ok (.int (v % 1013)) ():=⟨_,qj (qj (qj (qj (qa rfl) c_ok (jo (by decide))) (qj (qj (qj (qa rfl) c_ok (VM (by decide) (by decide))) c_ok (jo (by decide))) c_ok ju) (a8 _ _)) c_ok (jo (by decide))) c_ok (jo (by decide))⟩;refine⟨ok_t t2 hl2,S c' sd2 (vs++[v % 1013]) (some (.int k)),many - (vs.length+1),?_,by omega,_,_,_,?_,?_,?_,rfl⟩
    ·refine(qv (qV p1)).trans ?_
     refine(qv (qV p2)).trans ?_;refine(vb (ds:=isD vs) (y:=.int (v % 1013)) rfl p3 (by unfold big;omega)).trans ?_;rw[Jm];rfl
    ·have:=snoc v h3;rw[aK];exact this
    ·simp;omega
    ·simp
   ·left
    have hl2:¬ ((isD vs).length:Int)<many:=by rw[zS];omega
    have he:vs.length=many:=by omega
    exact⟨ok_f t2 hl2,vs,sd,mk,by rw[<- he];exact h3,rfl⟩)
 refine⟨vs,zH ?_,d2⟩;have s1:(e2 addD (e2 mulI (eC (.int 7)) (eVar 1)) (eC (.int 1))) (zI 7 [.scr (isD ins),.int at_,.int many] ():SS (W0 T hT))=.ok (.int (7 * at_+1)) ():=qj (qj c_ok (qa rfl) m1) c_ok ju;have s2:(e2 addD (e2 addD (e2 modI (eVar 3) (eC (.int 999983))) (e2 mulI (eC (.int 31)) (eVar 1))) (eC (.int 5))) (⟨[some (.scr (isD ins)),some (.int at_),some (.int many),some (.int c),none,none,none],()⟩:SS (W0 T hT))=.ok (.int (c % 999983+31 * at_+5)) ():=qj (qj (qj (qa rfl) c_ok (jo (by decide))) (qj c_ok (qa rfl) (xT (by decide) (by decide))) ju) c_ok ju;generalize 7 * (at_:Int)+1=c0 at s1 cell
 generalize c % 999983+31 * (at_:Int)+5=sd0 at s2 w1 w2
 refine(qv (qV s1)).trans ?_;refine(cell _).trans ?_;refine(qv (qV s2)).trans ?_;refine(qv (qV (d:=.lst []) (jM zd (by decide)))).trans ?_;refine(qv w1).trans ?_;refine(qv w2).trans ?_;exact z6 (qa rfl)
end
def gv(vs:fR)(i:Int):Int:=vs.getD i.toNat 0
theorem gv_b{n:Nat}(h:Drawn vs n)(i:Int):0<=gv vs i/\gv vs i<1013:=by
 unfold gv;rw[bJ];cases e:vs[i.toNat]? with
 |none=>exact⟨by decide,by decide⟩
 |some v=>exact h.2 v (ay e)
theorem dri{n:Nat}(h:Drawn vs n){i:Int}(h0:0<=i)(h1:i<n):ixD (.lst (isD vs)) (.int i)=some (.int (gv vs i)):=by
 rw[uf h0,yA];have hl:i.toNat<vs.length:=by rw[h.1];omega
 unfold gv;rw[bJ,aa hl];rfl
theorem YU(ms:fR){i:Int}(h0:0<=i)(h1:i<ms.length):∃m,m∈ms/\ixD (.lst (isD ms)) (.int i)=some (.int m):=by
 have hl:i.toNat<ms.length:=by omega
 refine⟨ms[i.toNat],cj hl,?_⟩;rw[uf h0,yA,aa hl];rfl
theorem qbj{z:Str}{n:Nat}(hz:z.cps.toList.length=n)(hn:n<=1000){i:Int}(h0:0<=i)(h1:i<n):∃c:Nat,ixD (.str z) (.int i)=some (.str ⟨#[c]⟩):=by
 obtain⟨v,hv⟩:=qcp (xs:=z.cps.toList) h0 (by omega);have hl:z.length<=1000000:=by show z.cps.size<=_;rw[<- bx,hz];omega
 exact⟨v,by show(if z.length<=1000000 then _ else _)=_;rw[aF hl,hv];rfl⟩
theorem uJ{x y:Str}(h:x.length+y.length<=1000000):addD (.str x) (.str y)=some (.str (x++y)):=aF h
theorem qc0:abc.length+("0123456789":Str).length<=1000000:=by decide +kernel
theorem jL{x:Int}(h:0<j):0<=x % j/\x % j<j:=⟨d7 _ (by omega),cV _ h⟩
theorem xC:∀{ys:List D},(∀y∈ys,∃c:Nat,y=.str ⟨#[c]⟩)->∃ts:fP,wq ys=some ts/\ts.length=ys.length/\∀t∈ts,t.length=1
 |[],_=>⟨[],rfl,rfl,fun t h=>(nomatch h)⟩
 |y::ys,h=>by
  obtain⟨ts,e,l,q⟩:=xC (ys:=ys) fun y hy=>h y (av _ hy)
  obtain⟨c,rfl⟩:=h y (ar ..);refine⟨⟨#[c]⟩::ts,?_,by simp[l],fun t ht=>?_⟩
  ·unfold wq
   rw[e]
  ·rcases aj.mp ht with rfl|ht
   ·rfl
   ·exact q t ht
section
variable(T:Hp->Prop)(hT:HTb T)
end
theorem kN(a b:Str):eqD (.str a) (.str b)=some (.bl (a == b)):=rfl
theorem ZI(a b:Int):eqD (.int a) (.int b)=some (.bl (a == b)):=rfl
theorem k9(r:Rd):ixD (rdD r) (.int 0)=some (.int r.n):=rfl
theorem QH(r:Rd):ixD (rdD r) (.int 1)=some (.str r.a):=rfl
theorem vJ(r:Rd):ixD (rdD r) (.int 2)=some (.str r.b):=rfl
theorem wK(r:Rd):ixD (rdD r) (.int 3)=some (.int r.l):=rfl
theorem QG(r:Rd):ixD (rdD r) (.int 4)=some (.int r.c):=rfl
theorem Vx(kvs:List (Key×D))(x:Str):ixD (.dic kvs) (.str x)=qJ kvs (.inr x):=rfl
structure Wk(sp:Str->Int)(kvs:List (Key×D))(rds:List Rd):Prop extends Good sp rds where
 sps:∀r∈rds,qJ kvs (.inr r.b)=some (.int (sp r.b))
section
variable(T:Hp->Prop)(hT:HTb T){sp:Str->Int}{kvs:List (Key×D)}{rds:List Rd}
theorem XA{d:Rd}(h:qJ kvs (.inr e.b)=some (.int (sp e.b))):jc T hT [rdD e,rdD d,.dic kvs]=some (.int (d.l - e.c - sp e.b)):=
 zH (z6 (qj (qj (qj (qa rfl) c_ok (wK d)) (qj (qa rfl) c_ok (QG e)) rfl) (qj (qa rfl) (qj (qa rfl) c_ok (vJ e)) ((Vx _ _).trans h)) rfl))
theorem Yl{fa fb:SS (W0 T hT)->R (W0 T hT) D}{g:SS (W0 T hT)}{x y:Bool}(a:fa g=.ok (.bl x) ())(b:fb g=.ok (.bl y) ()):eAnd fa fb g=.ok (.bl (x && y)) ():=by
 unfold eAnd qF;rw[a];cases x
 ·rfl
 ·exact b
theorem Wn{d:Rd}(h:qJ kvs (.inr e.b)=some (.int (sp e.b))):v9 T hT [rdD e,rdD d,.dic kvs]=some (.bl (hg sp e d)):=by
 have z:v9 T hT [rdD e,rdD d,.dic kvs]=some (.bl ((d.a == e.b) && decide (0<=d.l - e.c - sp e.b))):=zH (z6 (Yl T hT (qj (qj (qa rfl) c_ok (QH d)) (qj (qa rfl) c_ok (vJ e)) (kN _ _)) (qj (zt (qd (qa rfl) (qd (qa rfl) (qd (qa rfl) zd))) rfl (XA T hT h)) c_ok rfl)));rw[z];unfold hg
 by_cases h1:e.b=d.a
 ·simp[h1];omega
 ·have:¬ d.a=e.b:=fun z=>h1 z.symm
  simp[h1,this]
theorem Wd{d:Rd}(h:qJ kvs (.inr e.b)=some (.int (sp e.b))):vj T hT [rdD e,rdD d,.dic kvs]=some (.bl (hg sp e d)):=by
 have z:vj T hT [rdD e,rdD d,.dic kvs]=some (.bl ((e.b == d.a) && decide (e.c+sp e.b<=d.l))):=zH (z6 (Yl T hT (qj (qj (qa rfl) c_ok (vJ e)) (qj (qa rfl) c_ok (QH d)) (kN _ _)) (qj (qj (qa rfl) c_ok (wK d)) (qj (qj (qa rfl) c_ok (QG e)) (qj (qa rfl) (qj (qa rfl) c_ok (vJ e)) ((Vx _ _).trans h)) rfl) rfl)));rw[z];unfold hg
 by_cases h1:e.b=d.a <;> simp[h1]
end
theorem xV{p:Key×D}{kvs:List (Key×D)}{k:Key}:qJ (p::kvs) k=if p.1=k then some p.2 else qJ kvs k:=by
 unfold qJ;rw[aZ]
 by_cases h:p.1=k <;> simp[h]
theorem Wb{k:Key}:qJ ([]:List (Key×D)) k=none:=rfl
def spF(kvs:List (Key×D))(x:Str):Int:=match qJ kvs (.inr x)with|some (.int z)=>z|_=>0
structure SpOk(kvs:List (Key×D)):Prop where
 lk:∀x d,qJ kvs (.inr x)=some d->∃z:Int,d=.int z/\0<=z
 iv:∀q∈kvs,∃z,q.2=D.int z
theorem uV{kvs:List (Key×D)}(h:SpOk kvs){x:Str}(hs:(qJ kvs (.inr x)).isSome=true):qJ kvs (.inr x)=some (.int (spF kvs x))/\0<=spF kvs x:=by
 cases e:qJ kvs (.inr x)with
 |none=>rw[e]at hs;cases hs
 |some d=>
  obtain⟨z,rfl,hz⟩:=h.lk x d e;unfold spF;rw[e];exact⟨rfl,hz⟩
theorem YT(ns:fP){i:Int}(h0:0<=i)(h1:i<ns.length):∃x,x∈ns/\ixD (.lst (ns.map .str)) (.int i)=some (.str x):=by
 have hl:i.toNat<ns.length:=by omega
 refine⟨ns[i.toNat],cj hl,?_⟩;rw[uf h0,ag,aa hl];rfl
theorem pw20:powI (.int 10) (.int 20)=some (.int (10 ^ 20)):=rfl
theorem pw40:powI (.int 10) (.int 40)=some (.int (10 ^ 40)):=rfl
structure Made(ns:fP)(kvs:List (Key×D))(rds:List Rd):Prop where
 n2:2<=ns.length
 n5:ns.length<=5
 sk:SpOk kvs
 cov:∀x∈ns,(qJ kvs (.inr x)).isSome=true
 ra:∀r∈rds,r.a∈ns/\r.b∈ns/\r.l<r.c
 nn:(rds.map (·.n)).Nodup
theorem Made.wk{ns:fP}{kvs:List (Key×D)}(M:Made ns kvs rds):Wk (spF kvs) kvs rds:=⟨⟨fun d hd=>(M.ra d hd).2.2,fun d hd=>(uV M.sk (M.cov _ (M.ra d hd).2.1)).2⟩,fun r hr=>(uV M.sk (M.cov _ (M.ra r hr).2.1)).1⟩
section
variable(T:Hp->Prop)(hT:HTb T)
theorem yI(ins:fR)(a:Int)(h0:0<=a)(h1:a<100000){m:Int}(n:Nat)(hm:m=n)(hn:n<=1000):∃vs,js T hT [.scr (isD ins),.int a,.int m]=some (.lst (isD vs))/\Drawn vs n:=by
 obtain⟨k,rfl⟩:=bI h0;subst hm;exact Ws T hT ins k n (by omega) hn
end
theorem add_l{xs ys:List D}(h:xs.length+ys.length<=big):addD (.lst xs) (.lst ys)=some (.lst (xs++ys)):=aF h
section
variable(T:Hp->Prop)(hT:HTb T)
end
inductive SRow(sp:Str->Int)(rds:List Rd)(st:Str)(si:Int):List Rd->Rd->Prop
 |one {d:Rd} (m:d∈rds) (e:d.a=st) (h:si<=d.l):SRow sp rds st si [] d
 |snoc {p:List Rd} {e d:Rd} (r:SRow sp rds st si p e) (m:d∈rds) (h:hg sp e d=true):SRow sp rds st si (p++[e]) d
inductive Fr(sp:Str->Int)(rds:List Rd)(go:Str):Rd->List Rd->Prop
 |fin {d:Rd} (m:d∈rds) (e:d.b=go):Fr sp rds go d []
 |cons {d e:Rd} {l:List Rd} (m:d∈rds) (h:hg sp d e=true) (r:Fr sp rds go e l):Fr sp rds go d (e::l)
def AllW(sp:Str->Int)(rds:List Rd)(st go:Str)(si:Int)(l:List Rd):Prop:=(l=[]/\st=go)\/∃d t,l=d::t/\Fr sp rds go d t/\d.a=st/\si<=d.l
section
variable{sp:Str->Int}{rds:List Rd}{st go:Str}{si:Int}
theorem SRow.mem{p:List Rd}(r:SRow sp rds st si p e):e∈rds:=by cases r <;> assumption
theorem Fr.mem{d:Rd}{t:List Rd}(r:Fr sp rds go d t):d∈rds:=by cases r <;> assumption
theorem SRow.fr{p:List Rd}(r:SRow sp rds st si p e):∀{t:List Rd},Fr sp rds go e t->∃d t',p++e::t=d::t'/\Fr sp rds go d t'/\d.a=st/\si<=d.l:=by
 induction r with
 |one m e h=>intro t f;exact⟨_,t,rfl,f,e,h⟩
 |@snoc p e d r m h ih=>
  intro t f;obtain⟨d',t',h1,h2⟩:=ih (.cons r.mem h f);exact⟨d',t',by rw[<- h1];simp,h2⟩
theorem Fr.srow{d:Rd}{t:List Rd}(f:Fr sp rds go d t):∀{p:List Rd},SRow sp rds st si p d->∃p' e,SRow sp rds st si p' e/\e.b=go/\p'++[e]=p++d::t:=by
 induction f with
 |fin m e=>intro p r;exact⟨p,_,r,e,rfl⟩
 |@cons d e l m h r ih=>
  intro p r';obtain⟨p',e',h1,h2,h3⟩:=ih (SRow.snoc r' r.mem h);exact⟨p',e',h1,h2,by rw[h3];simp⟩
theorem y4{l:List Rd}(hl:l≠[]):AllW sp rds st go si l↔∃p e,SRow sp rds st si p e/\e.b=go/\l=p++[e]:=by
 constructor
 ·rintro(⟨rfl,_⟩|⟨d,t,rfl,f,h1,h2⟩)
  ·exact absurd rfl hl
  ·obtain⟨p',e,a,b,c⟩:=f.srow (SRow.one (si:=si) f.mem h1 h2)
   exact⟨p',e,a,b,by rw[c];rfl⟩
 ·rintro⟨p,e,r,hb,rfl⟩
  obtain⟨d,t,a,b,c⟩:=r.fr (.fin r.mem hb);exact .inr ⟨d,t,a,b,c⟩
end
section
variable(T:Hp->Prop)(hT:HTb T)
end
structure Wt where
 s:Int
 u:Int
 c:Int
 m:Int
 ns:fR
def Wt.key(w:Wt):fR:=w.s::w.u::w.c::w.m::w.ns
def wtD(w:Wt):D:=.tup [.int w.s,.int w.u,.int w.c,.int w.m,.lst (isD w.ns)]
theorem Wt.ext'{a b:Wt}(h:a.key=b.key):a=b:=by
 cases a;cases b;unfold Wt.key at h;simp at h;obtain⟨rfl,rfl,rfl,rfl,rfl⟩:=h;rfl
theorem Q7{n:Nat}:∀{xs ys:fR},xs.length=ys.length->allE (eqN (n+1)) (isD xs) (isD ys)=some (decide (xs=ys))
 |[],[],_=>rfl
 |x::xs,y::ys,h=>by
  have ih:=Q7 (n:=n) (xs:=xs) (ys:=ys) (by simpa using h);show(match eqN (n+1) (.int x) (.int y),allE (eqN (n+1)) (isD xs) (isD ys)with|some b,some r=>some (b && r)|_,_=>none)=_;rw[ih,show eqN (n+1) (.int x) (.int y)=some (x == y)from rfl]
  by_cases h1:x=y <;> by_cases h2:xs=ys <;> simp[h1,h2]
 |[],_::_,h=>by simp at h
 |_::_,[],h=>by simp at h
theorem Jp{n:Nat}{xs:fR}:eqN (n+2) (.lst (isD xs)) (.lst (isD ys))=some (decide (xs=ys)):=by
 show(if(isD xs).length=(isD ys).length then allE (eqN (n+1)) (isD xs) (isD ys)else some false)=_;rw[zS,zS]
 by_cases h:xs.length=ys.length
 ·rw[aF h,Q7 h]
 ·rw[aG h]
  have:¬ xs=ys:=fun z=>h (by rw[z])
  simp[this]
theorem xQ{n:Nat}:∀{xs ys:fR},ordL true (eqN (n+1)) (ordN true (n+1)) (isD xs) (isD ys)=some (decide (xs<ys))
 |[],[]=>rfl
 |[],y::ys=>rfl
 |x::xs,[]=>rfl
 |x::xs,y::ys=>by
  have ih:=xQ (n:=n) (xs:=xs) (ys:=ys);show(match eqN (n+1) (.int x) (.int y)with|some true=>ordL true (eqN (n+1)) (ordN true (n+1)) (isD xs) (isD ys)|some false=>ordN true (n+1) (.int x) (.int y)|none=>none)=_;rw[ih,show eqN (n+1) (.int x) (.int y)=some (x == y)from rfl,show ordN true (n+1) (.int x) (.int y)=some (decide (x<y))from rfl]
  by_cases h1:x=y
  ·subst h1
   simp[bw]
  ·have:(x == y)=false:=by simp[h1]
   rw[this];simp[bw,h1]
theorem j9{n:Nat}{x y:Int}{xs ys:List D}{b:Bool}(h:ordL true (eqN (n+1)) (ordN true (n+1)) xs ys=some b):ordL true (eqN (n+1)) (ordN true (n+1)) (.int x::xs) (.int y::ys)=some (if x=y then b else decide (x<y)):=by
 show(match eqN (n+1) (.int x) (.int y)with|some true=>ordL true (eqN (n+1)) (ordN true (n+1)) xs ys|some false=>ordN true (n+1) (.int x) (.int y)|none=>none)=_;rw[h,show eqN (n+1) (.int x) (.int y)=some (x == y)from rfl,show ordN true (n+1) (.int x) (.int y)=some (decide (x<y))from rfl]
 by_cases h1:x=y
 ·subst h1;simp
 ·have:(x == y)=false:=by simp[h1]
  rw[this];simp[h1]
theorem W2(a b:Wt):ordN true deep (wtD a) (wtD b)=some (decide (a.key<b.key)):=by
 show ordL true (eqN 29) (ordN true 29) [.int a.s,.int a.u,.int a.c,.int a.m,.lst (isD a.ns)] [.int b.s,.int b.u,.int b.c,.int b.m,.lst (isD b.ns)]=_;have h0:ordL true (eqN 29) (ordN true 29) [.lst (isD a.ns)] [.lst (isD b.ns)]=some (decide (a.ns<b.ns)):=by
  show(match eqN 29 (.lst (isD a.ns)) (.lst (isD b.ns))with|some true=>ordL true (eqN 29) (ordN true 29) [] []|some false=>ordN true 29 (.lst (isD a.ns)) (.lst (isD b.ns))|none=>none)=_;rw[show eqN 29 (.lst (isD a.ns)) (.lst (isD b.ns))=some (decide (a.ns=b.ns))from Jp,show ordN true 29 (.lst (isD a.ns)) (.lst (isD b.ns))=some (decide (a.ns<b.ns))from xQ (n:=27)]
  by_cases h:a.ns=b.ns
  ·rw[h]
   have:=bA b.ns;simp[this];rfl
  ·simp[h]
 rw[j9 (n:=28) (j9 (n:=28) (j9 (n:=28) (j9 (n:=28) h0)))];unfold Wt.key;congr 1;simp only[bw]
 by_cases h1:a.s=b.s <;> by_cases h2:a.u=b.u <;> by_cases h3:a.c=b.c <;> by_cases h4:a.m=b.m <;> simp[h1,h2,h3,h4]
theorem Xk(ws:List Wt):∀k,k<ws.length->∃j w,xv true (ws.map wtD) k=some j/\ws[j]?=some w/\j<=k/\∀i,i<=k->∀x,ws[i]?=some x->¬ x.key<w.key
 |0,h=>⟨0,ws[0],rfl,aa h,ak _,fun i hi x hx=>by
  have:i=0:=by omega
  subst this;rw[aa h]at hx;cases hx;exact bA _⟩
 |k+1,h=>by
  obtain⟨j,w,e,hj,lj,q⟩:=Xk ws k (by omega);have h1:(ws.map wtD)[k+1]?=some (wtD ws[k+1]):=by rw[ag,aa h];rfl
  have h2:(ws.map wtD)[j]?=some (wtD w):=by rw[ag,hj];rfl
  have e2:xv true (ws.map wtD) (k+1)=if ws[k+1].key<w.key then some (k+1)else some j:=by
   show(match xv true (ws.map wtD) k with|none=>none|some j=>match(ws.map wtD)[k+1]?,(ws.map wtD)[j]? with|some d,some e=>(match ordN true deep d e with|some true=>some (k+1)|some false=>some j|none=>none)|_,_=>none)=_;rw[e];simp only[];rw[h1,h2];simp only[];rw[W2]
   by_cases hk:ws[k+1].key<w.key <;> simp[hk]
  by_cases hk:ws[k+1].key<w.key
  ·rw[aF hk]at e2
   refine⟨k+1,ws[k+1],e2,aa h,ak _,fun i hi x hx=>?_⟩
   by_cases hi2:i=k+1
   ·subst hi2
    rw[aa h]at hx;cases hx;exact bA _
   ·exact fun z=>q i (by omega) x hx (eY z hk)
  ·rw[aG hk]at e2
   refine⟨j,w,e2,hj,by omega,fun i hi x hx=>?_⟩
   by_cases hi2:i=k+1
   ·subst hi2
    rw[aa h]at hx;cases hx;exact hk
   ·exact q i (by omega) x hx
theorem Vh{ws:List Wt}(h:ws≠[]):∃w,w∈ws/\minO true (.lst (ws.map wtD))=some (wtD w)/\∀x∈ws,¬ x.key<w.key:=by
 have hl:0<ws.length:=List.length_pos_iff.mpr h;obtain⟨j,w,e,hj,lj,q⟩:=Xk ws (ws.length - 1) (by omega);refine⟨w,ay hj,?_,fun x hx=>?_⟩
 ·show(if((ws.map wtD).all fun d=>(ws.map wtD).all fun e=>(ordN true deep d e).isSome)=true then minD true (ws.map wtD)else none)=_
  rw[aF]
  ·unfold minD
   rw[aG (by rw[List.isEmpty_iff];simpa using h),ab,e];show(ws.map wtD)[j]?=_;rw[ag,hj];rfl
  ·rw[bG]
   intro d hd;rw[bG];intro e he;obtain⟨a,_,rfl⟩:=aC.mp hd;obtain⟨b,_,rfl⟩:=aC.mp he;rw[W2];rfl
 ·obtain⟨i,hi⟩:=aX.mp hx
  have:=(ai.mp hi).1;exact q i (by omega) x hi
def zY(c:Int):Wt:=⟨0,0,c,0,[]⟩
def kr(kept shared:fR)(n:Int)(w:Wt):Wt:=⟨w.s - (if n∈shared then 1 else 0),w.u+(if n∈kept then 0 else 1),w.c,w.m+1,n::w.ns⟩
theorem ZT{kept:fR}{n:Int}{a b:Wt}:(kr kept shared n a).key<(kr kept shared n b).key↔a.key<b.key:=by
 unfold kr Wt.key;simp only[bw];generalize (if n∈shared then(1:Int)else 0)=x
 generalize (if n∈kept then(0:Int)else 1)=y
 have h1:a.s - x<b.s - x↔a.s<b.s:=by omega
 have h2:a.s - x=b.s - x↔a.s=b.s:=by omega
 have h3:a.u+y<b.u+y↔a.u<b.u:=by omega
 have h4:a.u+y=b.u+y↔a.u=b.u:=by omega
 have h5:a.m+1<b.m+1↔a.m<b.m:=by omega
 have h6:a.m+1=b.m+1↔a.m=b.m:=by omega
 rw[h1,h2,h3,h4,h5,h6];simp
def wRow(kept shared:fR):Rd->List Rd->Wt
 |d,[]=>kr kept shared d.n (zY d.c)
 |d,e::t=>kr kept shared d.n (wRow kept shared e t)
def wAll(kept shared:fR)(si:Int):List Rd->Wt
 |[]=>zY si
 |d::t=>wRow kept shared d t
def Wg(si:Int)(l:List Rd):Int:=match l.getLast? with|some d=>d.c|none=>si
def wLaw(kept shared:fR)(si:Int)(l:List Rd):Wt:=⟨0 - ((l.map (·.n)).filter (fun n=>decide (n∈shared))).length,((l.map (·.n)).filter (fun n=>decide (n∉kept))).length,Wg si l,l.length,l.map (·.n)⟩
theorem ZU{kept shared:fR}{si:Int}:∀{d:Rd}{t:List Rd},wRow kept shared d t=wLaw kept shared si (d::t)
 |d,[]=>by
  unfold wRow kr zY wLaw Wg
  by_cases h1:d.n∈shared <;> by_cases h2:d.n∈kept <;> simp[h1,h2]
 |d,e::t=>by
  unfold wRow;rw[ZU (si:=si) (d:=e) (t:=t)];unfold kr wLaw Wg
  by_cases h1:d.n∈shared <;> by_cases h2:d.n∈kept <;> simp[h1,h2] <;> omega
theorem Xx{kept:fR}(l:List Rd):wAll kept shared si l=wLaw kept shared si l:=by
 cases l with
 |nil=>rfl
 |cons d t=>exact ZU
def Best(kept shared:fR)(si:Int)(P:List Rd->Prop)(o:Option (fR)):Prop:=(o=none/\∀l,¬ P l)\/∃l,P l/\o=some (wAll kept shared si l).ns/\∀l',P l'->¬ (wAll kept shared si l').key<(wAll kept shared si l).key
theorem Best.uniq{kept:fR}{P:List Rd->Prop}{o o':Option (fR)}(h:Best kept shared si P o)(h':Best kept shared si P o'):o=o':=by
 rcases h with⟨rfl,h⟩|⟨l,hl,rfl,hm⟩
 ·rcases h' with⟨rfl,_⟩|⟨l',hl',_⟩
  ·rfl
  ·exact absurd hl' (h l')
 ·rcases h' with⟨_,h'⟩|⟨l',hl',rfl,hm'⟩
  ·exact absurd hl (h' l)
  ·have e:=Wt.ext' (dR (bL.mp (hm l' hl')) (bL.mp (hm' l hl)))
   rw[e]
theorem any_ints{n:Int}:∀{xs:fR},anyE (fun d=>eqN deep d (.int n)) (isD xs)=some (decide (n∈xs))
 |[]=>rfl
 |x::xs=>by
  have ih:=any_ints (n:=n) (xs:=xs);show anyE (fun d=>eqN deep d (.int n)) (.int x::isD xs)=_;unfold anyE;rw[show eqN deep (.int x) (.int n)=some (x == n)from rfl]
  by_cases h:x=n
  ·subst h;simp[ih]
  ·have h':¬ n=x:=fun z=>h z.symm
   have:(x == n)=false:=by simp[h]
   rw[this];simp[ih,h']
theorem VE{n:Int}{xs:fR}:inO (.int n) (.lst (isD xs))=some (.bl (decide (n∈xs))):=by
 show(anyE (fun d=>eqN deep d (.int n)) (isD xs)).map D.bl=_;rw[any_ints];rfl
theorem Ji{n:Int}{xs:fR}:ninO (.int n) (.lst (isD xs))=some (.bl (decide (n∉xs))):=by
 show(anyE (fun d=>eqN deep d (.int n)) (isD xs)).map (fun b=>D.bl (!b))=_;rw[any_ints]
 by_cases h:n∈xs <;> simp[h]
theorem qbi(w:Wt):ixD (wtD w) (.int 4)=some (.lst (isD w.ns)):=rfl
def optD:Option (fR)->D
 |none=>.non
 |some ns=>.lst (isD ns)
section
variable(T:Hp->Prop)(hT:HTb T)
theorem ZR(c:Int):zc T hT [.int c]=some (wtD (zY c)):=by
 refine zH ?_;unfold jP;exact z6 (kA (qd c_ok (qd c_ok (qd (qa rfl) (qd c_ok (qd (jM zd (aV _)) zd))))) (by simp))
end
abbrev WB(T:Hp->Prop)(hT:HTb T)(K:fH)(fp0:Fp)(ob0:Nat->fN)(tb:Nat->Option D):Wo:=W1 T hT (BT K fp0 ob0 tb) hBT
section
def kl(T:Hp->Prop)(hT:HTb T)(K:fH)(fp0:Fp)(ob0:Nat->fN)(tb:Nat->Option D):SS (WB T hT K fp0 ob0 tb)->Ou (WB T hT K fp0 ob0 tb):=
 (sSeq (sAsg (pTup 5 (z8 (ze 4) (z8 (ze 5) (z8 (ze 6) (z8 (ze 7) (z8 (ze 8) pNil)))))) (eVar 1))
 (sSeq (sIf (qCmp (opB tb inO) (eVar 0) (eVar 3))
 (sAug 4 subI (eC (.int 1)))
 sNil)
 (sSeq (sIf (qCmp (opB tb ninO) (eVar 0) (eVar 2))
 (sAug 5 addI (eC (.int 1)))
 sNil)
 (sRet (eTup (qf (eVar 4) (qf (eVar 5) (qf (eVar 6) (qf (e2 addD (eVar 7) (eC (.int 1))) (qf (e2 addD (eLst (qf (eVar 0) aNil)) (eVar 8)) aNil))))))))))
def zQ(T:Hp->Prop)(hT:HTb T)(K:fH)(fp0:Fp)(ob0:Nat->fN)(tb:Nat->Option D):List D->Option D:=jr 9 (kl T hT K fp0 ob0 tb)
def lpBR:Pos:=⟨22,34,22,57⟩
def lqBR:Str:=(Str.ofString "best_rows"++Str.ofString ".<locals>.")++"<lambda>"
def lpB(T:Hp->Prop)(hT:HTb T)(K:fH)(fp0:Fp)(ob0:Nat->fN)(tb:Nat->Option D):SS (WB T hT K fp0 ob0 tb)->Ou (WB T hT K fp0 ob0 tb):=
 (sSeq (sSet 7 (j6 2 [6,1] (iLst (eVar 5)) (pTup 2 (z8 (ze 0) (z8 (ze 1) pNil))) (qTru (QN tb 3 (v9 T hT) (qf (eVar 2) (qf (eVar 0) (qf (eVar 3) aNil))))) (eVar 1)))
 (sSeq (sIf (qCmp eqD (e2 ixD (eVar 6) (eC (.int 2))) (eVar 2))
 (sApp 7 (zO 1 (zc T hT) (qf (e2 ixD (eVar 6) (eC (.int 4))) aNil)))
 sNil)
 (sIf (qTru (eVar 7))
 (sApp 5 (eTup (qf (eVar 6) (qf (zO 4 (zQ T hT K fp0 ob0 tb) (qf (e2 ixD (eVar 6) (eC (.int 0))) (qf (e1 (minO true) (eVar 7)) (qf (eVar 3) (qf (eVar 4) aNil))))) aNil))))
 sNil)))
def kU(T:Hp->Prop)(hT:HTb T)(K:fH)(fp0:Fp)(ob0:Nat->fN)(tb:Nat->Option D)(ω:List Rd):SS (WB T hT K fp0 ob0 tb)->Ou (WB T hT K fp0 ob0 tb):=
 (sSeq (sSet 5 (eLst aNil))
 (sSeq (sFor (cI (ω.map rdD)) (ze 6) (lpB T hT K fp0 ob0 tb))
 (sRet (eVar 5))))
def qG(T:Hp->Prop)(hT:HTb T)(K:fH)(fp0:Fp)(ob0:Nat->fN)(tb:Nat->Option D)(ω:List Rd):List D->Option D:=jr 8 (kU T hT K fp0 ob0 tb ω)
def jQ(T:Hp->Prop)(hT:HTb T)(K:fH)(fp0:Fp)(ob0:Nat->fN)(tb:Nat->Option D)(ω:List D):SS (WB T hT K fp0 ob0 tb)->Ou (WB T hT K fp0 ob0 tb):=
 (sSeq (sSet 7 (j6 2 [4,2] (cI ω) (pTup 2 (z8 (ze 0) (z8 (ze 1) pNil))) (qAnd (qCmp eqD (e2 ixD (eVar 0) (eC (.int 1))) (eVar 3)) (qCmp geI (e2 ixD (eVar 0) (eC (.int 3))) (eVar 2))) (eVar 1)))
 (sSeq (sIf (qCmp eqD (eVar 2) (eVar 3))
 (sApp 7 (zO 1 (zc T hT) (qf (eVar 4) aNil)))
 sNil)
 (sSeq (sIf (qNot (qTru (eVar 7)))
 (sRet (eC .non))
 sNil)
 (sRet (e2 ixD (e1 (minO true) (eVar 7)) (eC (.int 4)))))))
def zu(T:Hp->Prop)(hT:HTb T)(K:fH)(fp0:Fp)(ob0:Nat->fN)(tb:Nat->Option D)(ω:List D):List D->Option D:=jr 8 (jQ T hT K fp0 ob0 tb ω)
def qT(T:Hp->Prop)(hT:HTb T)(K:fH)(fp0:Fp)(ob0:Nat->fN)(tb:Nat->Option D):SS (WB T hT K fp0 ob0 tb)->R (WB T hT K fp0 ob0 tb) (List D):=(qf (eVar 0) (qf (eVar 1) (qf (eVar 3) (qf (eVar 5) (qf (eVar 6) aNil)))))
end
section
variable(T:Hp->Prop)(hT:HTb T)(K:fH)(fp0:Fp)(ob0:Nat->fN)(tb:Nat->Option D)
theorem J7{kept:fR}(hk:tb 2=some (.lst (isD kept)))(hs:tb 3=some (.lst (isD shared)))(n:Int)(w:Wt)(hl:w.ns.length<=100000):zQ T hT K fp0 ob0 tb [.int n,wtD w,.obj 2,.obj 3]=some (wtD (kr kept shared n w)):=by
 refine zH ?_;unfold kl;have oi:opB tb inO (.int n) (.obj 3)=some (.bl (decide (n∈shared))):=by
  show(tb 3).bind (fun y=>inO (.int n) y)=_;rw[hs];exact VE
 have on:opB tb ninO (.int n) (.obj 2)=some (.bl (decide (n∉kept))):=by
  show(tb 2).bind (fun y=>ninO (.int n) y)=_;rw[hk];exact Ji
 let S (s u:Int):SS (WB T hT K fp0 ob0 tb):=⟨[some (.int n),some (wtD w),some (.obj 2),some (.obj 3),some (.int s),some (.int u),some (.int w.c),some (.int w.m),some (.lst (isD w.ns))],()⟩;have t1:∀s u,(qCmp (opB tb inO) (eVar 0) (eVar 3)) (S s u)=.ok (decide (n∈shared)) ():=fun s u=>q_ok (qa rfl) (qa rfl) oi
 have t2:∀s u,(qCmp (opB tb ninO) (eVar 0) (eVar 2)) (S s u)=.ok (decide (n∉kept)) ():=fun s u=>q_ok (qa rfl) (qa rfl) on
 have s1:sIf (qCmp (opB tb inO) (eVar 0) (eVar 3)) (sAug 4 subI (eC (.int 1))) sNil (S w.s w.u)=.nx (S (w.s - (if n∈shared then 1 else 0)) w.u):=by
  by_cases h:n∈shared
  ·rw[if_t (ok_t (t1 _ _) h),aF h]
   exact Yj (v:=.int 1) c_ok rfl rfl
  ·rw[if_f (ok_f (t1 _ _) h),aG h,Int.sub_zero]
   rfl
 have s2:∀s,sIf (qCmp (opB tb ninO) (eVar 0) (eVar 2)) (sAug 5 addI (eC (.int 1))) sNil (S s w.u)=.nx (S s (w.u+(if n∈kept then 0 else 1))):=fun s=>by
  by_cases h:n∈kept
  ·rw[if_f (ok_f (t2 _ _) (fun z=>z h)),aF h,Int.add_zero]
   rfl
  ·rw[if_t (ok_t (t2 _ _) h),aG h]
   exact Yj (v:=.int 1) c_ok rfl rfl
 refine(qv (Xp (g':=S w.s w.u) (qa rfl) rfl)).trans ?_;refine(qv s1).trans ?_;refine(qv (s2 _)).trans ?_;exact z6 (kA (qd (qa rfl) (qd (qa rfl) (qd (qa rfl) (qd (qj (qa rfl) c_ok ju) (qd (qj (jM (qd (qa rfl) zd) (by simp)) (qa rfl) (add_l (by rw[zS];simp;unfold big;omega))) zd))))) (by simp))
end
def prD(p:Rd×Wt):D:=.tup [rdD p.1,wtD p.2]
theorem WF{hT:HTb T}{B:Hp->Co->fL->Prop}{hB:HBb B}{tb:Nat->Option D}{n:Nat}{F:List D->Option D}{fs:SS (W1 T hT B hB)->R (W1 T hT B hB) (List D)}{g:SS (W1 T hT B hB)}{xs ys:List D}{z:D}{v:V}(b:fs g=.ok xs ())(hl:xs.length=n)(ho:xp tb xs=some ys)(o:F ys=some z)(h:isAt z=some v):QN tb n F fs g=.ok z ():=by
 unfold QN qF eOpt atO;rw[b];simp only[hl,d4,ho,o,dS,h]
def Lst(sp:Str->Int)(rds:List Rd)(go:Str)(kept shared:fR)(p:Rd×Wt):Prop:=(∃t,Fr sp rds go p.1 t/\wRow kept shared p.1 t=p.2)/\∀t,Fr sp rds go p.1 t->¬ (wRow kept shared p.1 t).key<p.2.key
theorem Wa{kept:fR}{d:Rd}{w0:Wt}(hd:d∈rds)(hf:∀p∈found,Lst sp rds go kept shared p)(hall:∀e t,hg sp d e=true->Fr sp rds go e t->∃w,(e,w)∈found)
  (hw:(∃p∈found,hg sp d p.1=true/\w0=p.2)\/(d.b=go/\w0=zY d.c))(hmin:(∀p∈found,hg sp d p.1=true->¬ p.2.key<w0.key)/\(d.b=go->¬ (zY d.c).key<w0.key)):Lst sp rds go kept shared (d,kr kept shared d.n w0):=by
 refine⟨?_,fun t f=>?_⟩
 ·rcases hw with⟨p,hp,hh,rfl⟩|⟨hb,rfl⟩
  ·obtain⟨⟨t,f,e⟩,_⟩:=hf p hp
   exact⟨p.1::t,.cons hd hh f,by show kr _ _ _ (wRow _ _ p.1 t)=_;rw[e]⟩
  ·exact⟨[],.fin hd hb,rfl⟩
 ·cases f with
  |fin m e=>
   show ¬ (kr kept shared d.n (zY d.c)).key<_;rw[ZT];exact hmin.2 e
  |@cons _ e l m h r=>
   show ¬ (kr kept shared d.n (wRow kept shared e l)).key<_;rw[ZT];obtain⟨w,hw'⟩:=hall e l h r;have h1:=(hf _ hw').2 l r;have h2:=hmin.1 _ hw' h;exact bL.mpr (d8 (bL.mp h2) (bL.mp h1))
section
variable(T:Hp->Prop)(hT:HTb T)(K:fH)(fp0:Fp)(ob0:Nat->fN)(tb:Nat->Option D)
theorem yV{kvs:List (Key×D)}{ω:List Rd}{kept:fR}(G:Wk sp kvs rds)(h64:rds.length<64)(h1:tb 1=some (.dic kvs))(hk:tb 2=some (.lst (isD kept)))(hs:tb 3=some (.lst (isD shared)))(hp:List.Perm ω rds)(hw:ω.Pairwise (fun a b=>b.l<=a.l)) :
  ∃found:List (Rd×Wt),qG T hT K fp0 ob0 tb ω [.obj 0,.obj 1,.str go,.obj 2,.obj 3]=some (.lst (found.map prD))/\(∀p∈found,p.1∈rds/\Lst sp rds go kept shared p)/\(∀e t,Fr sp rds go e t->∃w,(e,w)∈found)/\found.length<64:=by
 let S (found:List (Rd×Wt)) (r b:Option D):SS (WB T hT K fp0 ob0 tb):=⟨[some (.obj 0),some (.obj 1),some (.str go),some (.obj 2),some (.obj 3),some (.lst (found.map prD)),r,b],()⟩;have lω:ω.length=rds.length:=hp.length_eq;obtain⟨g',ef,found,r,b,fa,fc,fl,rfl⟩:=yC (T:=T) (hT:=hT) (B:=BT K fp0 ob0 tb) (hB:=hBT) (emb:=rdD) (p:=ze 6) (h:=lpB T hT K fp0 ob0 tb) (xs:=ω) (g:=S [] none none)
  (I:=fun dn g=>∃found r b,(∀p∈found,p.1∈rds/\Lst sp rds go kept shared p/\p.2.ns.length<=dn.length)/\(∀e∈dn,∀t,Fr sp rds go e t->∃w,(e,w)∈found)/\found.length<=dn.length/\g=S found r b) ⟨[],none,none,fun p hp=>(nomatch hp),fun e he=>(nomatch he),ak _,rfl⟩ (by
   rintro dn d g ⟨post,hpost⟩ ⟨found,r,b,fa,fc,fl,rfl⟩;have hdm:d∈rds:=hp.mem_iff.mp (by rw[hpost];simp);have hdl:dn.length<64:=by
    have:=bC List.length hpost;simp at this;omega
   have hall:∀e t,hg sp d e=true->Fr sp rds go e t->∃w,(e,w)∈found:=fun e t hh f=>by
    have hl:=qbq G.toGood hdm hh;have hem:e∈ω:=hp.mem_iff.mpr f.mem;rw[hpost]at hem hw;refine fc e ?_ t f;rcases aQ.mp hem with z|z
    ·exact z
    ·rcases aj.mp z with z|z
     ·subst z;omega
     ·have:=(bB.mp (dj.mp hw).2.1).1 e z
      omega
   have c1:=kR (T:=T) (hT:=hT) (B:=BT K fp0 ob0 tb) (hB:=hBT) (emb:=prD) (n:=2) (ix:=[6,1]) (fi:=iLst (eVar 5)) (p:=pTup 2 (z8 (ze 0) (z8 (ze 1) pNil))) (t:=qTru (QN tb 3 (v9 T hT) (qf (eVar 2) (qf (eVar 0) (qf (eVar 3) aNil))))) (f:=eVar 1) (xs:=found) (g:=S found (some (rdD d)) b)
    (I:=fun g=>∃y z,g=⟨[y,z,some (rdD d),some (.obj 1)],()⟩) (sel:=fun p=>hg sp d p.1) (out:=fun p=>wtD p.2) (qa9 (qa rfl)) ⟨none,none,rfl⟩ (by
     rintro p hp' g ⟨y,z,rfl⟩;have eh:=Wn T hT (e:=d) (d:=p.1) (G.sps _ hdm);refine⟨⟨[some (rdD p.1),some (wtD p.2),some (rdD d),some (.obj 1)],()⟩,rfl,⟨_,_,rfl⟩,zJ (WF (ys:=[rdD d,rdD p.1,.dic kvs]) (qd (qa rfl) (qd (qa rfl) (qd (qa rfl) zd))) rfl ?_ eh rfl) rfl,fun _=>qa rfl⟩;show(match ofOb tb (rdD d),xp tb [rdD p.1,.obj 1]with|some x,some xs=>some (x::xs)|_,_=>none)=_;have e3:xp tb [rdD p.1,.obj 1]=some [rdD p.1,.dic kvs]:=by
      show(match ofOb tb (rdD p.1),xp tb [.obj 1]with|some x,some xs=>some (x::xs)|_,_=>none)=_;have e4:xp tb [.obj 1]=some [.dic kvs]:=by
       show(match tb 1,xp tb []with|some x,some xs=>some (x::xs)|_,_=>none)=_;rw[h1];rfl
      rw[e4];rfl
     rw[e3];rfl) (by unfold big;omega)
   have ew:(found.filter fun p=>hg sp d p.1).map (fun p=>wtD p.2)=((found.filter fun p=>hg sp d p.1).map (·.2)).map wtD:=by rw[cu];rfl
   rw[ew]at c1;generalize hU:(found.filter fun p=>hg sp d p.1).map (·.2)=us at c1
   have lu:us.length<=found.length:=by rw[<- hU,ab];exact List.length_filter_le _ _
   have mu:∀w,w∈us↔∃p∈found,hg sp d p.1=true/\w=p.2:=fun w=>by
    rw[<- hU,aC];constructor
    ·rintro⟨p,hp',rfl⟩
     exact⟨p,(aY.mp hp').1,(aY.mp hp').2,rfl⟩
    ·rintro⟨p,h2,h3,rfl⟩
     exact⟨p,aY.mpr ⟨h2,h3⟩,rfl⟩
   obtain⟨ws,mw,s2⟩:∃ws:List Wt,(∀w,w∈ws↔w∈us\/(d.b=go/\w=zY d.c))/\sIf (qCmp eqD (e2 ixD (eVar 6) (eC (.int 2))) (eVar 2)) (sApp 7 (zO 1 (zc T hT) (qf (e2 ixD (eVar 6) (eC (.int 4))) aNil))) sNil (S found (some (rdD d)) (some (.lst (us.map wtD))))=.nx (S found (some (rdD d)) (some (.lst (ws.map wtD)))):=by
    have tq:(qCmp eqD (e2 ixD (eVar 6) (eC (.int 2))) (eVar 2)) (S found (some (rdD d)) (some (.lst (us.map wtD))))=.ok (d.b == go) ():=q_ok (qj (qa rfl) c_ok (vJ d)) (qa rfl) (kN _ _)
    by_cases hb:d.b=go
    ·rw[show(d.b == go)=true by simp[hb]]at tq
     refine⟨us++[zY d.c],fun w=>by simp[hb],(if_t tq).trans ((vb (ds:=us.map wtD) (y:=wtD (zY d.c)) rfl (zt (qd (qj (qa rfl) c_ok (QG d)) zd) rfl (ZR T hT d.c)) (by rw[ab];unfold big;omega)).trans ?_)⟩;have:us.map wtD++[wtD (zY d.c)]=(us++[zY d.c]).map wtD:=by simp
     rw[this];rfl
    ·rw[show(d.b == go)=false by simp[hb]]at tq
     exact⟨us,fun w=>by simp[hb],(if_f tq).trans rfl⟩
   have tq:qTru (eVar 7) (S found (some (rdD d)) (some (.lst (ws.map wtD))))=.ok (!(ws.map wtD).isEmpty) ():=zJ (qa rfl) rfl
   by_cases hne:ws=[]
   ·subst hne
    refine⟨S found (some (rdD d)) b,S found (some (rdD d)) (some (.lst [])),rfl,?_,found,_,_,fun p hp'=>⟨(fa p hp').1,(fa p hp').2.1,by have:=(fa p hp').2.2;simp;omega⟩,fun e he t f=>?_,by simp;omega,rfl⟩
    ·refine(qv (qV c1)).trans ?_
     refine(qv s2).trans ?_;exact(if_f tq).trans rfl
    ·rcases aQ.mp he with z|z
     ·exact fc e z t f
     ·cases au.mp z
      cases f with
      |fin m hb=>exact absurd ((mw _).mpr (.inr ⟨hb,rfl⟩)) (by simp)
      |@cons _ e' l m hh rr=>
       obtain⟨w,hw'⟩:=hall e' l hh rr;exact absurd ((mw w).mpr (.inl ((mu w).mpr ⟨_,hw',hh,rfl⟩))) (by simp)
   ·obtain⟨w0,hm0,em,hmin⟩:=Vh hne
    have tt:qTru (eVar 7) (S found (some (rdD d)) (some (.lst (ws.map wtD))))=.ok true ():=ok_c tq (by cases ws with|nil=>exact absurd rfl hne|cons a b=>rfl);have l0:w0.ns.length<=dn.length:=by
     rcases(mw w0).mp hm0 with z|⟨_,rfl⟩
     ·obtain⟨p,hp',_,rfl⟩:=(mu w0).mp z
      exact(fa p hp').2.2
     ·exact aV _
    have LS:Lst sp rds go kept shared (d,kr kept shared d.n w0):=Wa hdm (fun p hp'=>(fa p hp').2.1) hall (by
     rcases(mw w0).mp hm0 with z|z
     ·exact .inl ((mu w0).mp z)
     ·exact .inr z) ⟨fun p hp' hh=>hmin _ ((mw _).mpr (.inl ((mu _).mpr ⟨p,hp',hh,rfl⟩))),fun hb=>hmin _ ((mw _).mpr (.inr ⟨hb,rfl⟩))⟩
    refine⟨S found (some (rdD d)) b,S (found++[(d,kr kept shared d.n w0)]) (some (rdD d)) (some (.lst (ws.map wtD))),rfl,?_,found++[(d,kr kept shared d.n w0)],_,_,fun p hp'=>?_,fun e he t f=>?_,by simp;omega,rfl⟩
    ·refine(qv (qV c1)).trans ?_
     refine(qv s2).trans ?_;refine(if_t tt).trans ?_;refine(vb (ds:=found.map prD) (y:=prD (d,kr kept shared d.n w0)) rfl (kA (qd (qa rfl) (qd (zt (qd (qj (qa rfl) c_ok (k9 d)) (qd (zk (qa rfl) em) (qd (qa rfl) (qd (qa rfl) zd)))) rfl (J7 T hT K fp0 ob0 tb hk hs d.n w0 (by omega))) zd)) (by simp)) (by rw[ab];unfold big;omega)).trans ?_;have:found.map prD++[prD (d,kr kept shared d.n w0)]=(found++[(d,kr kept shared d.n w0)]).map prD:=by simp
     rw[this];rfl
    ·rcases aQ.mp hp' with z|z
     ·exact⟨(fa p z).1,(fa p z).2.1,by have:=(fa p z).2.2;simp;omega⟩
     ·cases au.mp z
      refine⟨hdm,LS,?_⟩;show(d.n::w0.ns).length<=_;simp;omega
    ·rcases aQ.mp he with z|z
     ·obtain⟨w,hw'⟩:=fc e z t f
      exact⟨w,aU _ hw'⟩
     ·cases au.mp z
      exact⟨_,az _ (au.mpr rfl)⟩)
 refine⟨found,zH ?_,fun p hp'=>⟨(fa p hp').1,(fa p hp').2.1⟩,fun e t f=>fc e (hp.mem_iff.mpr f.mem) t f,by omega⟩;unfold kU;refine(qv (qV (d:=.lst []) (jM zd (by decide)))).trans ?_;refine(qv (wa (ds:=ω.map rdD) rfl ef)).trans ?_;exact z6 (qa rfl)
theorem qbc{kept:fR}(fa:∀p∈found,p.1∈rds/\Lst sp rds go kept shared p)(fc:∀e t,Fr sp rds go e t->∃w,(e,w)∈found)(fl:found.length<64) :
  ∃o,zu T hT K fp0 ob0 tb (found.map prD) [.obj 0,.obj 1,.str st,.str go,.int si,.obj 2,.obj 3]=some (optD o)/\Best kept shared si (AllW sp rds st go si) o:=by
 let S (w:Option D):SS (WB T hT K fp0 ob0 tb):=⟨[some (.obj 0),some (.obj 1),some (.str st),some (.str go),some (.int si),some (.obj 2),some (.obj 3),w],()⟩;have c1:=kR (T:=T) (hT:=hT) (B:=BT K fp0 ob0 tb) (hB:=hBT) (emb:=prD) (n:=2) (ix:=[4,2]) (fi:=cI (found.map prD)) (p:=pTup 2 (z8 (ze 0) (z8 (ze 1) pNil))) (t:=qAnd (qCmp eqD (e2 ixD (eVar 0) (eC (.int 1))) (eVar 3)) (qCmp geI (e2 ixD (eVar 0) (eC (.int 3))) (eVar 2))) (f:=eVar 1) (xs:=found) (g:=S none)
  (I:=fun g=>∃y z,g=⟨[y,z,some (.int si),some (.str st)],()⟩) (sel:=fun p=>decide (p.1.a=st/\si<=p.1.l)) (out:=fun p=>wtD p.2) rfl ⟨none,none,rfl⟩ (by
   rintro p hp g ⟨y,z,rfl⟩;refine⟨⟨[some (rdD p.1),some (wtD p.2),some (.int si),some (.str st)],()⟩,rfl,⟨_,_,rfl⟩,?_,fun _=>qa rfl⟩;have t1:=q_ok (T:=T) (hT:=hT) (B:=BT K fp0 ob0 tb) (hB:=hBT) (g:=⟨[some (rdD p.1),some (wtD p.2),some (.int si),some (.str st)],()⟩) (fa:=e2 ixD (eVar 0) (eC (.int 1))) (fb:=eVar 3) (qj (qa rfl) c_ok (QH p.1)) (qa rfl) (kN _ _);have t2:=q_ok (T:=T) (hT:=hT) (B:=BT K fp0 ob0 tb) (hB:=hBT) (g:=⟨[some (rdD p.1),some (wtD p.2),some (.int si),some (.str st)],()⟩) (fa:=e2 ixD (eVar 0) (eC (.int 3))) (fb:=eVar 2) (qj (qa rfl) c_ok (wK p.1)) (qa rfl) ge_i
   by_cases h1:p.1.a=st
   ·rw[show(p.1.a == st)=true by simp[h1]]at t1
    exact ok_c (J5 t1 t2) (by simp[h1])
   ·rw[show(p.1.a == st)=false by simp[h1]]at t1
    exact ok_c (WI t1) (by simp[h1])) (by unfold big;omega)
 have ew:(found.filter fun p=>decide (p.1.a=st/\si<=p.1.l)).map (fun p=>wtD p.2)=((found.filter fun p=>decide (p.1.a=st/\si<=p.1.l)).map (·.2)).map wtD:=by rw[cu];rfl
 rw[ew]at c1;generalize hU:(found.filter fun p=>decide (p.1.a=st/\si<=p.1.l)).map (·.2)=us at c1
 have lu:us.length<=found.length:=by rw[<- hU,ab];exact List.length_filter_le _ _
 have mu:∀w,w∈us↔∃p∈found,(p.1.a=st/\si<=p.1.l)/\w=p.2:=fun w=>by
  rw[<- hU,aC];constructor
  ·rintro⟨p,hp',rfl⟩
   exact⟨p,(aY.mp hp').1,cF (aY.mp hp').2,rfl⟩
  ·rintro⟨p,h2,h3,rfl⟩
   exact⟨p,aY.mpr ⟨h2,aO h3⟩,rfl⟩
 obtain⟨ws,mw,s2⟩:∃ws:List Wt,(∀w,w∈ws↔w∈us\/(st=go/\w=zY si))/\sIf (qCmp eqD (eVar 2) (eVar 3)) (sApp 7 (zO 1 (zc T hT) (qf (eVar 4) aNil))) sNil (S (some (.lst (us.map wtD))))=.nx (S (some (.lst (ws.map wtD)))):=by
  have tq:(qCmp eqD (eVar 2) (eVar 3)) (S (some (.lst (us.map wtD))))=.ok (st == go) ():=q_ok (qa rfl) (qa rfl) (kN _ _)
  by_cases hb:st=go
  ·rw[show(st == go)=true by simp[hb]]at tq
   refine⟨us++[zY si],fun w=>by simp[hb],(if_t tq).trans ((vb (ds:=us.map wtD) (y:=wtD (zY si)) rfl (zt (qd (qa rfl) zd) rfl (ZR T hT si)) (by rw[ab];unfold big;omega)).trans ?_)⟩;have:us.map wtD++[wtD (zY si)]=(us++[zY si]).map wtD:=by simp
   rw[this];rfl
  ·rw[show(st == go)=false by simp[hb]]at tq
   exact⟨us,fun w=>by simp[hb],(if_f tq).trans rfl⟩
 have tq:qNot (qTru (eVar 7)) (S (some (.lst (ws.map wtD))))=.ok (!(!(ws.map wtD).isEmpty)) ():=xS (zJ (qa rfl) rfl);have low:∀l,AllW sp rds st go si l->∃w∈ws,¬ (wAll kept shared si l).key<w.key:=by
  rintro l (⟨rfl,e⟩|⟨d,t,rfl,f,h1,h2⟩)
  ·exact⟨zY si,(mw _).mpr (.inr ⟨e,rfl⟩),bA _⟩
  ·obtain⟨w,hw⟩:=fc d t f
   exact⟨w,(mw w).mpr (.inl ((mu w).mpr ⟨_,hw,⟨h1,h2⟩,rfl⟩)),(fa _ hw).2.2 t f⟩
 have way:∀w∈ws,∃l,AllW sp rds st go si l/\wAll kept shared si l=w:=by
  intro w hw;rcases(mw w).mp hw with z|⟨e,rfl⟩
  ·obtain⟨p,hp,⟨h1,h2⟩,rfl⟩:=(mu w).mp z
   obtain⟨⟨t,f,e⟩,_⟩:=(fa p hp).2;exact⟨p.1::t,.inr ⟨p.1,t,rfl,f,h1,h2⟩,e⟩
  ·exact⟨[],.inl ⟨rfl,e⟩,rfl⟩
 unfold zu jQ
 by_cases hne:ws=[]
 ·subst hne
  refine⟨none,zH ?_,.inl ⟨rfl,fun l hl=>by obtain⟨w,hw,_⟩:=low l hl;cases hw⟩⟩;refine(qv (qV c1)).trans ?_;refine(qv s2).trans ?_;exact wA ((if_t tq).trans (z6 c_ok))
 ·obtain⟨w0,hm0,em,hmin⟩:=Vh hne
  obtain⟨l0,hl0,e0⟩:=way w0 hm0;refine⟨some w0.ns,zH ?_,.inr ⟨l0,hl0,by rw[e0],fun l hl=>?_⟩⟩
  ·refine(qv (qV c1)).trans ?_
   refine(qv s2).trans ?_;have tf:qNot (qTru (eVar 7)) (S (some (.lst (ws.map wtD))))=.ok false ():=ok_c tq (by cases ws with|nil=>exact absurd rfl hne|cons a b=>rfl);refine(qv ((if_f tf).trans rfl)).trans ?_;exact z6 (qj (zk (qa rfl) em) c_ok (qbi _))
  ·obtain⟨w,hw,h1⟩:=low l hl
   rw[e0];exact bL.mpr (d8 (bL.mp (hmin w hw)) (bL.mp h1))
end
theorem xI{a b:Rd}(h:rdD a=rdD b):a=b:=by
 cases a;cases b;unfold rdD at h;simp at h;obtain⟨rfl,rfl,rfl,rfl,rfl⟩:=h;rfl
theorem map_inj{α:Type}{f:α->D}(hf:∀a b,f a=f b->a=b):∀{xs ys:List α},xs.map f=ys.map f->xs=ys
 |[],[],_=>rfl
 |[],_::_,h=>by simp at h
 |_::_,[],h=>by simp at h
 |x::xs,y::ys,h=>by
  simp only[aA,bP]at h;rw[hf _ _ h.1,map_inj hf h.2]
theorem VB{xs:fR}(h:isD xs=isD ys):xs=ys:=map_inj (fun a b e=>by cases e;rfl) h
def LcOk(ds:List D)(o:Option (fR)):Prop:=∃(rds:List Rd)(kvs:List (Key×D))(st go:Str)(si:Int)(kept shared:fR),ds=[.lst (rds.map rdD),.dic kvs,.str st,.str go,.int si,.lst (isD kept),.lst (isD shared)]/\Wk (spF kvs) kvs rds/\(∀q∈kvs,∃z,q.2=D.int z)/\rds.length<64/\Best kept shared si (AllW (spF kvs) rds st go si) o
theorem LcOk.uniq{ds:List D}{o o':Option (fR)}(h:LcOk ds o)(h':LcOk ds o'):o=o':=by
 obtain⟨rds,kvs,st,go,si,kept,shared,rfl,_,_,_,b⟩:=h;obtain⟨rds',kvs',st',go',si',kept',shared',e,_,_,_,b'⟩:=h';simp only[bP,D.lst.injEq,D.dic.injEq,D.str.injEq,D.int.injEq,fF]at e;obtain⟨e1,rfl,rfl,rfl,rfl,e2,e3⟩:=e;cases map_inj (fun _ _=>xI) e1;cases VB e2;cases VB e3;exact b.uniq b'
open Classical in
noncomputable def F_lc(ds:List D):Option D:=if h:∃o,LcOk ds o then some (optD h.choose)else none
theorem qc1{ds:List D}{o:Option (fR)}(h:LcOk ds o):F_lc ds=some (optD o):=by
 have hx:∃o,LcOk ds o:=⟨o,h⟩;unfold F_lc;rw[fG hx,hx.choose_spec.uniq h]
theorem qcv{ds:List D}{d:D}(h:F_lc ds=some d):∃o,LcOk ds o/\d=optD o:=by
 unfold F_lc at h
 split at h
 ·rename_i hx
  cases h;exact⟨_,hx.choose_spec,rfl⟩
 ·cases h
section
variable(T:Hp->Prop)(hT:HTb T)(K:fH)(fp0:Fp)(ob0:Nat->fN)(tb:Nat->Option D)(rds:List Rd)
def RBd(ds:List D)(d:D):Prop:=∃ω,(List.Perm ω rds/\ω.Pairwise (fun a b=>b.l<=a.l))/\qG T hT K fp0 ob0 tb ω ds=some d
def PRd(ds:List D):Prop:=ds[0]?=some (.obj 0)/\∀ω,(List.Perm ω rds/\ω.Pairwise (fun a b=>b.l<=a.l))->∃d,qG T hT K fp0 ob0 tb ω ds=some d
def OKLd(ds ω:List D):Prop:=∃as,qT T hT K fp0 ob0 tb (zI 8 ds ())=.ok as ()/\RBd T hT K fp0 ob0 tb rds as (.lst ω)
def PLd(ds:List D):Prop:=(∃as,qT T hT K fp0 ob0 tb (zI 8 ds ())=.ok as ()/\as.length=5/\PRd T hT K fp0 ob0 tb rds as/\∀d,RBd T hT K fp0 ob0 tb rds as d->∃xs,d=.lst xs)/\∀ω,OKLd T hT K fp0 ob0 tb rds ds ω->∃d,zu T hT K fp0 ob0 tb ω ds=some d
def RLd(ds:List D)(d:D):Prop:=∃ω,OKLd T hT K fp0 ob0 tb rds ds ω/\zu T hT K fp0 ob0 tb ω ds=some d
end
structure Zc where
 hb:Hp
 fp0:Fp
 ob0:Nat->fN
 tb:Nat->Option D
 rds:List Rd
 h0:tb 0=some (.lst (rds.map rdD))
 h64:rds.length<64
def Tz(T:Hp->Prop)(hb:Hp)(H:Hp):Prop:=T H/\∀a ps,hb a=some (.tbl ps)->∃ps',H a=some (.tbl ps')
theorem hTz(hT:HTb T)(hb:Hp):HTb (Tz T hb):=fun H H' h k=>⟨hT H H' h.1 k,fun a ps e=>by
 obtain⟨ps',e'⟩:=h.2 a ps e;exact⟨ps',k a _ e' (fun _ h=>nomatch h) (fun _ h=>nomatch h) (fun _ h=>nomatch h)⟩⟩
def Qu(st go:Str)(si:Int):List D:=[.obj 0,.obj 1,.str st,.str go,.int si,.obj 2,.obj 3]
section
variable{T:Hp->Prop}{hT:HTb T}{K:fH}{fp0:Fp}{ob0:Nat->fN}{tb:Nat->Option D}{rds:List Rd}
theorem qbb(st go:Str)(si:Int):qT T hT K fp0 ob0 tb (zI 8 (Qu st go si) ())=.ok [.obj 0,.obj 1,.str go,.obj 2,.obj 3] ():=rfl
theorem Vo{kvs:List (Key×D)}{kept:fR}(G:Wk (spF kvs) kvs rds)(h64:rds.length<64)(h1:tb 1=some (.dic kvs))(hk:tb 2=some (.lst (isD kept)))(hs:tb 3=some (.lst (isD shared))){ω:List D}(h:OKLd T hT K fp0 ob0 tb rds (Qu st go si) ω) :
  ∃o,zu T hT K fp0 ob0 tb ω (Qu st go si)=some (optD o)/\Best kept shared si (AllW (spF kvs) rds st go si) o:=by
 obtain⟨as,ea,ω1,⟨hp,hw⟩,e1⟩:=h;rw[qbb]at ea;cases ea;obtain⟨found,ef,fa,fc,fl⟩:=yV T hT K fp0 ob0 tb (go:=go) G h64 h1 hk hs hp hw;rw[ef]at e1;cases e1;exact qbc T hT K fp0 ob0 tb fa fc fl
theorem qba{kvs:List (Key×D)}{kept:fR}(G:Wk (spF kvs) kvs rds)(h64:rds.length<64)(h1:tb 1=some (.dic kvs))(hk:tb 2=some (.lst (isD kept)))(hs:tb 3=some (.lst (isD shared))):PLd T hT K fp0 ob0 tb rds (Qu st go si):=by
 refine⟨⟨_,qbb st go si,rfl,⟨rfl,fun ω⟨hp,hw⟩=>?_⟩,fun d⟨ω,⟨hp,hw⟩,e⟩=>?_⟩,fun ω h=>?_⟩
 ·obtain⟨found,ef,_⟩:=yV T hT K fp0 ob0 tb (go:=go) G h64 h1 hk hs hp hw
  exact⟨_,ef⟩
 ·obtain⟨found,ef,_⟩:=yV T hT K fp0 ob0 tb (go:=go) G h64 h1 hk hs hp hw
  rw[ef]at e;cases e;exact⟨_,rfl⟩
 ·obtain⟨o,e,_⟩:=Vo G h64 h1 hk hs h
  exact⟨_,e⟩
end
theorem xH{c:Co}(c':Co){xs:List V}{ns:fR}(l:xs.length=(isD ns).length)(r:∀(i:Nat) x d,xs[i]?=some x->(isD ns)[i]?=some d->Rep K c x d):Reps K c' xs (isD ns):=⟨l,fun i x d e1 e2=>by
 have z:=r i x d e1 e2;unfold isD at e2;rw[ag]at e2;cases hn:ns[i]? with
 |none=>rw[hn]at e2;cases e2
 |some n=>
  rw[hn]at e2;cases e2;cases z;exact .int n⟩
theorem Vp{P:Program}{w:World}{mg:fK}{base:Heap}{f:Addr}{fd:FuncData}{ps:fP}{k:Nat}(hT:HTb T){Pt:Addr}{lp:Pos}{lq:Str}(hTT:∀H,T H->TabOk H Pt lp lq)(hTS:∀H H',T H->SaT Pt H H'->TabOk H' Pt lp lq->T H')
  (h:∀(T':Hp->Prop)(hT':HTb T')(fp0:Fp)(ob0:Nat->fN)(tb:Nat->Option D)(rds:List Rd),(∀H,T' H->TabOk H Pt lp lq)->(∀H H',T' H->SaT Pt H H'->TabOk H' Pt lp lq->T' H')->tb 0=some (.lst (rds.map rdD))->rds.length<64->FnOk P w K mg base CX0 k f fd ps (spQ K T' (BT K fp0 ob0 tb) 7 (PLd T' hT' K fp0 ob0 tb rds) (RLd T' hT' K fp0 ob0 tb rds))) :
  FnOk P w K mg base CX0 k f fd ps (spP K T 7 true F_lc):=by
 refine(FnOk.ex (α:=Zc) (fun z=>h (Tz T z.hb) (hTz hT z.hb) z.fp0 z.ob0 z.tb z.rds (fun H t=>hTT H t.1) (fun H H' t s tk=>⟨hTS H H' t.1 s tk,fun a ps e=>by
  obtain⟨ps',e'⟩:=t.2 a ps e;obtain⟨m,e2⟩:=s.tbl a ps' e';exact⟨_,e2⟩⟩) z.h0 z.h64)).imp fun vs H Q EX q=>?_
 obtain⟨hl,c,ds,co,tt,rs,d,ed,q⟩:=q;obtain⟨o,lo,rfl⟩:=qcv ed;obtain⟨rds,kvs,st,go,si,kept,shared,rfl,wk,hz,h64,bs⟩:=lo;obtain⟨x0,t,rfl,r0,rs⟩:=rs.uncons;obtain⟨x1,t,rfl,r1,rs⟩:=rs.uncons;obtain⟨x2,t,rfl,r2,rs⟩:=rs.uncons;obtain⟨x3,t,rfl,r3,rs⟩:=rs.uncons;obtain⟨x4,t,rfl,r4,rs⟩:=rs.uncons;obtain⟨x5,t,rfl,r5,rs⟩:=rs.uncons;obtain⟨x6,t,rfl,r6,rs⟩:=rs.uncons;cases rs.unnil;obtain⟨a0,xs0,rfl,e0,l0,rr0⟩:=r0.lst';obtain⟨a1,ys1,rfl,e1,l1,nd1,rr1⟩:=r1.dic';obtain rfl:=zV r2;obtain rfl:=zV r3;obtain rfl:=zW r4;obtain⟨a5,xs5,rfl,e5,l5,rr5⟩:=r5.lst';obtain⟨a6,xs6,rfl,e6,l6,rr6⟩:=r6.lst';have g0:=Hn.of (co _ _ e0);have g1:=Hn.of (co _ _ e1);have g5:=Hn.of (co _ _ e5);have g6:=Hn.of (co _ _ e6);have hfp:∀a∈[a0,a1,a5,a6],∃u,H a=some u/\isT u=false/\∀ws,u≠.tup ws:=fun a ha=>by
  simp only[aj,ax,cK]at ha;rcases ha with rfl|rfl|rfl|rfl
  ·exact⟨_,g0.1,rfl,fun _ h=>nomatch h⟩
  ·exact⟨_,g1.1,rfl,fun _ h=>nomatch h⟩
  ·exact⟨_,g5.1,rfl,fun _ h=>nomatch h⟩
  ·exact⟨_,g6.1,rfl,fun _ h=>nomatch h⟩
 let ob0:Nat->fN:=fun k=>match k with|0=>some a0|1=>some a1|2=>some a5|3=>some a6|_=>none
 let tb:Nat->Option D:=fun k=>match k with|0=>some (.lst (rds.map rdD))|1=>some (.dic kvs)|2=>some (.lst (isD kept))|3=>some (.lst (isD shared))|_=>none
 let c0:Co:=⟨(ZW c).h,ob0⟩;have hco:Same c0.h (Hn H [a0,a1,a5,a6]):=fun a u e=>by
  have e2:=co a u (Yp a u e);obtain⟨h1,_,h3⟩:=Hn.of e2;refine Hn.mk h1 (fun ha=>?_) h3;obtain⟨u',e',_,hn⟩:=hfp a ha;cases h1.symm.trans e';have e:(match c.h a with|some (.tup xs)=>some (HO.tup xs)|_=>none)=some u:=e
  split at e
  ·cases e;exact hn _ rfl
  ·cases e
 refine⟨⟨H,([a0,a1,a5,a6],H),ob0,tb,rds,rfl,h64⟩,hl,c0,Qu st go si,[a0,a1,a5,a6],hco,⟨rfl,fun _ _=>rfl,fun _ _ e=>e,?ct⟩,⟨tt,fun a ps e=>⟨ps,e⟩⟩,fun a ha=>?fp,?reps,qba wk h64 rfl rfl rfl,?_⟩
 case fp=>
  obtain⟨u,h1,h2,_⟩:=hfp a ha;exact⟨u,h1,h2⟩
 case reps=>
  exact .cons (.obj rfl) (.cons (.obj rfl) (.cons (.str _) (.cons (.str _) (.cons (.int _) (.cons (.obj rfl) (.cons (.obj rfl) .nil))))))
 case ct=>
  intro k d e
  match k,e with
  |0,e=>
   cases e;refine⟨a0,rfl,by simp,xs0,g0.1,l0,fun i x d h1 h2=>?_⟩;have z:=rr0 i x d h1 h2;rw[ag]at h2;cases hn:rds[i]? with
   |none=>rw[hn]at h2;cases h2
   |some r=>rw[hn]at h2;cases h2;exact Yn z ob0
  |1,e=>
   cases e;refine⟨a1,rfl,by simp,ys1,g1.1,l1,nd1,by have:=bC List.length l1;simpa using this,fun i x d h1 h2=>?_⟩;rw[ag]at h1 h2;cases hn:kvs[i]? with
   |none=>rw[hn]at h2;cases h2
   |some p=>
    cases hm:ys1[i]? with
    |none=>rw[hm]at h1;cases h1
    |some y=>
     rw[hn]at h2;rw[hm]at h1;cases h2;cases h1;have z:=rr1 i y p hm hn;obtain⟨z',ez⟩:=hz p (ay hn);rw[ez]at z;show Rep K c0 y.2 p.2;rw[ez];generalize y.2=yv at z ⊢
     cases z;exact .int _
  |2,e=>cases e;exact⟨a5,rfl,by simp,xs5,g5.1,xH _ l5 rr5⟩
  |3,e=>cases e;exact⟨a6,rfl,by simp,xs6,g6.1,xH _ l6 rr6⟩
 ·intro d v H' c' ⟨ω,ok,e⟩ F co' bt' tt' hfp' rv
  obtain⟨o',e',b'⟩:=Vo (tb:=tb) wk h64 rfl rfl rfl ok;rw[e']at e;cases e;cases bs.uniq b';have nn:Same (Hn H []) (Hn H' []):=fun a u e=>by
   obtain⟨h1,_,h3⟩:=Hn.of e
   by_cases ha:a∈[a0,a1,a5,a6]
   ·exact Hn.mk ((bt'.st a ha).trans h1) ax h3
   ·obtain⟨h4,_,h5⟩:=Hn.of (F.nn a u (Hn.mk h1 ha h3))
    exact Hn.mk h4 ax h5
  refine q v H' c ⟨.refl _,nn,fun _ _ e=>e,F.th⟩ (co.trans nn) tt'.1 ?_;rw[aF rfl];cases o with
  |none=>
   have rv:Rep K c' v .non:=rv;cases rv;exact .non
  |some ns=>
   have rv:Rep K c' v (.lst (isD ns)):=rv;cases rv with
   |@lst a xs _ ea l r=>
    have hH:=Hn.of (co' _ _ ea);have hnone:H a=none:=by
     cases hh:H a with
     |none=>rfl
     |some u=>
      exfalso
      by_cases ht:isT u=true
      ·cases u with
       |tbl pz=>
        obtain⟨pz',e2⟩:=tt'.2 a pz hh;cases e2.symm.trans hH.1
       |_=>cases ht
      ·have hn:Hn H [a0,a1,a5,a6] a=some u:=Hn.mk hh hH.2.1 (by simpa using ht)
       cases hc:c0.h a with
       |none=>
        have:=F.out a (by rw[hn];exact Option.some_ne_none _) hc;rw[this]at ea;cases ea
       |some u'=>
        have:=F.le.h a u' hc;cases ea.symm.trans this;exact Yo hc
    have hcn:c.h a=none:=by
     cases hc:c.h a with
     |none=>rfl
     |some u=>
      have:=(Hn.of (co a u hc)).1;rw[hnone]at this;cases this
    exact⟨a,xs,rfl,hcn,ax,hnone,hH.1,xH _ l r⟩
end M
namespace M
open PySem PySem.Spec PyProof.Rows L2 X2
section
variable{X:Cx}{pins:fI}{σ:L2.St}{H:Hp}{s:Shared}{c:Co}
end
end M
namespace M
open PySem L2 X2
def PlN:Nat->D->Prop
 |0,_=>False
 |n+1,d=>match d with
  |.lst xs=>xs.length<2 ^ 60/\∀x∈xs,PlN n x
  |.tup xs=>xs.length<2 ^ 60/\∀x∈xs,PlN n x
  |.non=>True
  |.bl _=>True
  |.int _=>True
  |.str _=>True
  |_=>False
section
variable(T:Hp->Prop)(hT:HTb T)
theorem qa5(a:Bool):neD (.bl a) (.bl a)=some (.bl false):=by cases a <;> rfl
theorem ne_int(a:Int):neD (.int a) (.int a)=some (.bl false):=by
 show some (D.bl (!(a == a)))=_;rw[bR];rfl
theorem eq_int(a:Int):eqD (.int a) (.int a)=some (.bl true):=by
 show some (D.bl (a == a))=_;rw[bR]
theorem eq_str(a:Str):eqD (.str a) (.str a)=some (.bl true):=by
 show some (D.bl (a == a))=_;rw[bR]
theorem qdd(a:Bool):eqD (.bl a) (.bl a)=some (.bl true):=by
 show some (D.bl (a == a))=_;rw[bR]
theorem Q6{fa fb:SS (W0 T hT)->R (W0 T hT) D}{g:SS (W0 T hT)}{x:D}(a:fa g=.ok (.bl true) ())(b:fb g=.ok x ()):eAnd fa fb g=.ok x ():=by
 unfold eAnd qF;rw[a];exact b
theorem Z2{n:Nat}{d:D}{xs:List D}(hl:xs.length<2 ^ 60)(h1:isi2 "tuple" "list" d=some (.bl true)){bt bl:Bool}(h2:isi1 "tuple" d=some (.bl bt))(h3:isi1 "list" d=some (.bl bl))(h4:lenD d=some (.int xs.length))(h5:∀i,i<xs.length->∃x∈xs,ixD d (.int (i:Nat))=some x)(ih:∀x∈xs,jW T hT n [x,x]=some (.bl true)):jW T hT (n+1) [d,d]=some (.bl true):=by
 refine zH ?_;unfold vh;refine wA ?_;refine(if_t (zJ (zk (qa rfl) h1) rfl)).trans ?_;refine(qv ((if_f (or_f (q_ok (zk (qa rfl) h2) (zk (qa rfl) h2) (qa5 bt)) (q_ok (zk (qa rfl) h3) (zk (qa rfl) h3) (qa5 bl)))).trans rfl)).trans ?_;refine(qv ((if_f (q_ok (zk (qa rfl) h4) (zk (qa rfl) h4) (ne_int _))).trans rfl)).trans ?_;have h6:z9 (qf (M.e1 lenD (eVar 1)) aNil) (zI 3 [d,d] ():SS (W0 T hT))=.ok (rngD 0 xs.length) ():=wC (qd (zk (qa rfl) h4) zd) (by omega);obtain⟨g',e,o,rfl⟩:=yD (T:=T) (hT:=hT) (B:=B0) (hB:=hB0) (p:=(ze 2)) (h:=(sIf (qNot (qTru (zO 2 (jW T hT n) (qf (M.e2 ixD (eVar 0) (eVar 2)) (qf (M.e2 ixD (eVar 1) (eVar 2)) aNil))))) (sRet (eC (.bl false))) sNil)) (I:=fun _ g=>∃o,g=⟨[some d,some d,o],()⟩) (ds:=rngD 0 xs.length) (g:=zI 3 [d,d] ()) ⟨none,rfl⟩ fun dn y g⟨r,er⟩⟨o,eg⟩=>by
  subst eg;obtain⟨ey,hlt⟩:=yc er;subst ey;obtain⟨x,hx,ex⟩:=h5 dn.length hlt;refine⟨_,_,rfl,(if_f (xS (zJ (zt (qd (qj (qa rfl) (qa rfl) ex) (qd (qj (qa rfl) (qa rfl) ex) zd)) rfl (ih x hx)) rfl))).trans rfl,_,rfl⟩
 exact(qv (wa h6 e)).trans (z6 c_ok)
theorem qbl{xs:List D}{i:Nat}(h:i<xs.length)(hl:xs.length<2 ^ 60):ixD (.lst xs) (.int (i:Nat))=some xs[i]/\ixD (.tup xs) (.int (i:Nat))=some xs[i]:=by
 have e:xs[i]?=some xs[i]:=aa h;exact⟨ix_l.trans e,(at_l:atI xs (i:Int)=xs[i]?).trans e⟩
theorem xE:∀(n:Nat)(d:D),PlN n d->jW T hT n [d,d]=some (.bl true)
 |0,_,h=>h.elim
 |n+1,.lst xs,h=>Z2 T hT h.1 rfl rfl rfl rfl (fun i hi=>⟨xs[i],cj hi,(qbl hi h.1).1⟩) fun x hx=>xE n x (h.2 x hx)
 |n+1,.tup xs,h=>Z2 T hT h.1 rfl rfl rfl rfl (fun i hi=>⟨xs[i],cj hi,(qbl hi h.1).2⟩) fun x hx=>xE n x (h.2 x hx)
 |n+1,.non,_=>rfl
 |n+1,.bl b,_=>by
  refine zH ?_;unfold vh;refine aE (qv (aE (if_f (zJ (x:=.bl false) (zk (qa rfl) rfl) rfl)) rfl)) ?_;refine aE (qv (aE (if_f (q_ok (qa rfl) c_ok rfl)) rfl)) ?_;refine wA (aE (if_t (or_t (zJ (x:=.bl true) (zk (qa rfl) rfl) rfl))) ?_);exact z6 (Q6 T hT (zk (qa rfl) rfl) (Q6 T hT (zk (qa rfl) rfl) (qj (qa rfl) (qa rfl) (qdd b))))
 |n+1,.int b,_=>by
  refine zH ?_;unfold vh;refine aE (qv (aE (if_f (zJ (x:=.bl false) (zk (qa rfl) rfl) rfl)) rfl)) ?_;refine aE (qv (aE (if_f (q_ok (qa rfl) c_ok rfl)) rfl)) ?_;refine aE (qv (aE (if_f (or_f (zJ (x:=.bl false) (zk (qa rfl) rfl) rfl) (zJ (x:=.bl false) (zk (qa rfl) rfl) rfl))) rfl)) ?_;refine wA (aE (if_t (zJ (x:=.bl true) (zk (qa rfl) rfl) rfl)) ?_);exact z6 (Q6 T hT (zk (qa rfl) rfl) (qj (qa rfl) (qa rfl) (eq_int b)))
 |n+1,.str b,_=>by
  refine zH ?_;unfold vh;refine aE (qv (aE (if_f (zJ (x:=.bl false) (zk (qa rfl) rfl) rfl)) rfl)) ?_;refine aE (qv (aE (if_f (q_ok (qa rfl) c_ok rfl)) rfl)) ?_;refine aE (qv (aE (if_f (or_f (zJ (x:=.bl false) (zk (qa rfl) rfl) rfl) (zJ (x:=.bl false) (zk (qa rfl) rfl) rfl))) rfl)) ?_;refine aE (qv (aE (if_f (zJ (x:=.bl false) (zk (qa rfl) rfl) rfl)) rfl)) ?_;exact z6 (Q6 T hT (zk (qa rfl) rfl) (qj (qa rfl) (qa rfl) (eq_str b)))
end
theorem ut{P:Program}{w:World}{K:fH}{mg:fK}{base:Heap}{k n:Nat}{f:Addr}{fd:FuncData}{ps:fP}{fr:Bool}{T:Hp->Prop}:FnOk P w K mg base CX0 k f fd ps (spP K T n fr (fun _=>none)):=
 ⟨fun vs H Q E⟨_,_,_,_,_,_,_,e,_⟩=>(nomatch e),fun A outer s H args us vs Q E hr he hb hv⟨_,_,_,_,_,_,_,e,_⟩=>(nomatch e)⟩
end M
namespace X2
open PySem PySem.Spec PyProof.Rows L2
variable{X:Cx}{sp:Str->Int}{ds rds:List Rd}{go st:Str}{m si:Int}{acc l out ps:List (Str×Int)}{T caps ns:fP}{σ:L2.St}{H:Hp}{iter kx tg vx:Expr}{ifs:fQ}{scope:Scope}{pos:Pos}{pins:fI}{s:Shared}{cl:List (Str×Addr)}{ix:List Nat}{wi:TI}{g:TG}{tt:TT}{tk tv:TE}
theorem qb5:bootBuiltins "set"=some (.type "set"):=by decide +kernel
section
variable{prog:Program}{w:World}{A:Around}{R:Result->Shared->Prop}{I:Addr}{fp wr:fL}{G:Array GenState->Array GenState->Prop}{n:Nat}{P:Nat->Value->Prop}{St:Nat->Shared->Prop}
end
section
variable{prog:Program}{w:World}{A:Around}{E:fJ}{s:Shared}
end
def WK(p:Addr)(n:Nat):HO:=.ext (fun h=>∃o es ep t,h.get? p=some o/\o.ExactSet/\o.data=.set es ep t/\t.fits es.size=true/\es.size=n)
theorem ZO:CallR X (.builtin "len") (fun xs H Q=>∃(p:Addr)(n:Nat),xs=[.ref p]/\H p=some (WK p n)/\n<64/\Q (.int n) H):=by
 intro pins s σ H xs us Q I r h;obtain⟨p,n,rfl,hp,h64,q⟩:=h;obtain⟨u,rfl,ru⟩:=eW r;cases (show u=Value.ref p from ru);obtain⟨⟨o,es,ep,t,ho,hex,hd,hf,hn⟩,_,_⟩:=I.hok p _ hp;refine call_len_set ho hex hd hf (by rw[hn];omega) ?_;exact⟨.int n,H,I.tok _,⟨s.toks+1,by rw[hn]⟩,q⟩
theorem yB{x:Str}:∀{ns:fP},inV (V.str x) (ns.map V.str)=decide (x∈ns)
 |[]=>by simp[inV]
 |y::ns=>by
  have ih:=yB (x:=x) (ns:=ns);unfold inV at ih ⊢;rw[aA,cY,ih];show(y == x || decide (x∈ns))=_
  by_cases e:y=x
  ·subst e;simp
  ·have e':¬ x=y:=fun z=>e z.symm
   simp[e,e']
theorem vK:∀(ns:fP),(ns.map V.str).all yF=true
 |[]=>rfl
 |y::ns=>by rw[aA,eX,vK ns];rfl
theorem W3:∀{l:fR},l≠[]->∃m∈l,∀a∈l,m<=a
 |[],h=>absurd rfl h
 |[x],_=>⟨x,by simp,by simp⟩
 |x::y::l,_=>by
  obtain⟨m,hm,hl⟩:=W3 (l:=y::l) (by simp)
  by_cases h:x<=m
  ·refine⟨x,by simp,fun a ha=>?_⟩
   rcases aj.mp ha with q|q
   ·rw[q];exact fB _
   ·exact Int.le_trans h (hl a q)
  ·refine⟨m,av _ hm,fun a ha=>?_⟩
   rcases aj.mp ha with q|q
   ·rw[q];omega
   ·exact hl a q
open Classical in
theorem We{x:Str}{d:Rd}(r:Reach sp rds st si d)(hb:d.b=x):∃m,Least sp rds st si x m:=by
 by_cases ne:x=st
 ·exact⟨si,.inl ⟨ne,rfl⟩⟩
 ·let l:=(rds.filter fun e=>decide (Reach sp rds st si e/\e.b=x)).map fun e=>e.c+sp x
  have ml:∀v,v∈l↔∃e,(Reach sp rds st si e/\e.b=x)/\v=e.c+sp x:=fun v=>by
   constructor
   ·intro h
    obtain⟨e,he,rfl⟩:=aC.mp h;exact⟨e,by simpa using(aY.mp he).2,rfl⟩
   ·rintro⟨e,he,rfl⟩
    exact aC.mpr ⟨e,aY.mpr ⟨he.1.mem,by simpa using he⟩,rfl⟩
  have nl:l≠[]:=fun z=>by
   have:=(ml _).mpr ⟨d,⟨r,hb⟩,rfl⟩;rw[z]at this;cases this
  obtain⟨m,hm,le⟩:=W3 nl;obtain⟨e,he,em⟩:=(ml m).mp hm;exact⟨m,.inr ⟨ne,⟨e,he.1,he.2,em⟩,fun e r eb=>le _ ((ml _).mpr ⟨e,⟨r,eb⟩,rfl⟩)⟩⟩
theorem Zz{d:Rd}(h:Least sp rds st si d.a m)(hd:d∈rds)(hl:m<=d.l):Reach sp rds st si d:=by
 rcases h with⟨a,b⟩|⟨_,⟨e,r,eb,em⟩,_⟩
 ·exact .fst hd a (by omega)
 ·exact .nxt r hd (hg_iff.mpr ⟨eb,by rw[eb];omega⟩)
theorem least_le(G:Good sp rds){d:Rd}(r:Reach sp rds st si d)(h:Least sp rds st si d.b m):m<=d.c+sp d.b:=by
 rcases h with⟨a,b⟩|⟨_,_,c⟩
 ·have:=r.since G
  have:=G.lc _ r.mem;have:=G.s0 _ r.mem;omega
 ·exact c d r rfl
theorem WS(h:out.Pairwise (fun a b=>a.1.cps.toList<b.1.cps.toList))(hs:∀o∈out,o.1∈ns):out.length<=ns.length/\(out.map Prod.fst).Nodup:=by
 have nd:(out.map Prod.fst).Nodup:=by
  refine bg.mpr (h.imp fun{a b} q e=>?_);rw[e]at q;exact bA _ q
 have:=nd.length_le_of_subset (l₂:=ns) fun x hx=>by
  obtain⟨o,ho,rfl⟩:=aC.mp hx;exact hs o ho
 rw[ab]at this;exact⟨this,nd⟩
structure Paper(sp:Str->Int)(rds:List Rd)(st:Str)(si:Int)(ns:fP)(out:List (Str×Int)):Prop where
 pw:out.Pairwise (fun a b=>a.1.cps.toList<b.1.cps.toList)
 iff:∀x m,(x,m)∈out↔Least sp rds st si x m
 hst:st∈ns
 hds:∀d∈rds,d.b∈ns
 n5:ns.length<=5
theorem Paper.in'(p:Paper sp rds st si ns out):∀o∈out,o.1∈ns:=by
 rintro⟨x,m⟩ ho;rcases(p.iff x m).mp ho with⟨a,_⟩|⟨_,⟨e,re,eb,_⟩,_⟩
 ·show x∈ns;rw[a];exact p.hst
 ·show x∈ns;rw[<- eb];exact p.hds e re.mem
theorem Paper.len(p:Paper sp rds st si ns out):out.length<=5:=bj (WS p.pw p.in').1 p.n5
theorem Paper.nd(p:Paper sp rds st si ns out):(out.map Prod.fst).Nodup:=(WS p.pw p.in').2
theorem Paper.key(p:Paper sp rds st si ns out){x:Str}:x∈out.map Prod.fst↔∃m,Least sp rds st si x m:=by
 constructor
 ·intro h
  obtain⟨⟨y,m⟩,ho,rfl⟩:=aC.mp h;exact⟨m,(p.iff _ _).mp ho⟩
 ·rintro⟨m,h⟩
  exact aC.mpr ⟨(x,m),(p.iff _ _).mpr h,rfl⟩
def Kh(K:fH)(Pt:Addr)(lpS:Pos):Sp:=fun vs H Q _=>∃(pr ps:Addr)(xs:List V)(kvs:List (Key×V))(ds:List Rd)(ns:fP)(st go:Str)(si:Int),vs=[.ref pr,.ref ps,.str st,.str go,.int si]/\H pr=some (.lst xs)/\H ps=some (.dK kvs)/\Rw H kvs xs ds/\xs.length<64/\Good (spn kvs) ds/\ns.length<=5/\st∈ns/\(∀d∈ds,d.b∈ns)/\TabOk H Pt lpS lqS/\
 ∀(v:V)(H':Hp),SaT Pt H H'->TabOk H' Pt lpS lqS->(((∃m,Least (spn kvs) ds st si go m)/\v=.non)\/(¬ (∃m,Least (spn kvs) ds st si go m)/\∃(r:Addr)(out:List (Str×Int))(qs:fL),v=.ref r/\H r=none/\(∀q∈qs,H q=none)/\PrsAt H' r out qs/\Paper (spn kvs) ds st si ns out))->Q v H'
theorem Yr{P N:Hp->Prop}(h:P H):tAll σ H (fun b H5=>if b=true then P H5 else N H5):=by
 show if true=true then P H else N H
 rw[aF rfl];exact h
section
variable{prog:Program}{w:World}{A:Around}{E:fJ}{R:Result->Shared->Prop}{s:Shared}
theorem J3{it:Value}{D:Addr}{env:Env}(W:Nat->Shared->Prop)
  (turn:∀n s,W n s->wpAny (model prog w) A (pyNext it) (fun r s1=>match r with
   |none=>R (.ok .next) s1
   |some v=>wpAny (model prog w) A (letOwnedTupleGo tg it v) (fun _ s2=>wpAny (model prog w) A (assign tg env v) (fun _ s3=>
     wpAny (model prog w) A (forIn ifs true fun c r=>if r=true then do let ok <- isTrue c env (eval c env);pure (ForInStep.yield ok)else pure (ForInStep.yield r)) (fun ok s4=>
      if ok=true then wpAny (model prog w) A (eval kx env) (fun kv s5=>wpAny (model prog w) A (eval vx env) (fun vv s6=>
       wpAny (model prog w) A (dictSet D kv vv) (fun _ s7=>∃m,m<n/\W m s7) (fun _ _=>False) s6) (fun _ _=>False) s5) (fun _ _=>False) s4
      else ∃m,m<n/\W m s4) (fun _ _=>False) s3) (fun _ _=>False) s2) (fun _ _=>False) s1) (fun _ _=>False) s)
  (n:Nat)(h:W n s):codeAny (model prog w) A (.compLoop (.DictComp kx vx [⟨tg,iter,ifs,0⟩] scope pos) 0 it (.ref D) env) R s:=by
 have no:∀{α:Type}{t:Sem α}{Q:α->Shared->Prop}{E':fJ}{s:Shared},wpAny (model prog w) A t Q (fun _ _=>False) s->wpAny (model prog w) A t Q E' s:=fun q=>bf q (fun _ _ z=>z) fun _ _ z=>z.elim
 refine codeAny_loop rfl W (fun n s hW=>?_) n h;show wpAny _ A ((compTurn (.DictComp kx vx [⟨tg,iter,ifs,0⟩] scope pos) 0 it (.ref D) env).onRaise (fun x=>do noteFrame x env;theTreesLotGoes x)) _ _ s;refine wpAny_noted ?_;rw[compTurn_dict];refine af (d0 (af (no (bf (turn n s hW) (fun r s1 h1=>?_) fun _ _ z=>z))));cases r with
 |none=>exact aw h1
 |some v=>
  refine af (no (bf h1 (fun _ s2 h2=>?_) fun _ _ z=>z));refine af (no (bf h2 (fun _ s3 h3=>?_) fun _ _ z=>z));refine af (no (bf h3 (fun ok s4 h4=>?_) fun _ _ z=>z));cases ok with
  |true=>
   rw[aF rfl]at h4;rw[aF rfl];exact af (af (no (bf h4 (fun kv s5 h5=>af (bQ (no (bf h5 (fun vv s6 h6=>af (d0 (bQ (no (bf h6 (fun _ s7 h7=>aw ⟨rfl,h7⟩) fun _ _ z=>z))))) fun _ _ z=>z)))) fun _ _ z=>z)))
  |false=>
   rw[aG (by decide)]at h4;rw[aG (by decide)];exact aw ⟨rfl,h4⟩
end
theorem J2{A:Around}{E:fJ}{a:Addr}{kvs:List (Key×V)}{k:Key}{v:V}{u r:Value}{Q:Unit->Shared->Prop}(I:Inv X pins σ H s)(e:H a=some (.dK kvs))(hl:kvs.length<sizeLine)(ry:RelV (kV k) u)(rv:RelV v r)
  (h:∀s',Inv X pins σ (upd H a (.dK (putK kvs k v))) s'->Q () s'):wpAny (model X.prog X.w) A (dictSet a u r) Q E s:=by
 obtain⟨z,hd,vs,rel,dd⟩:=JZ I.hok e;have hz:vs.length<=sizeLine:=by rw[<- rel.length];exact z
 have hl':(putK kvs k v).length<=sizeLine:=by have:=kg kvs k v;omega
 refine wpAny_dictSet_pairs (hsz:=hz) (yx ry) dd fun h' dd' hs=>h _ ?_
 have he:∃q,h'.get? a=some q:=let⟨q,_,_,hq,_⟩:=dd';⟨q,hq⟩;exact yM I (by rw[e];exact True.intro) hs he (QP hl' hd (rel.put k rv) dd')
def WP(wi:TI)(g:TG)(tt:TT)(tk tv:TE)(T:fP)(ix:List Nat):TE:=fun σ H Q=>wi σ H fun J H1=>∀D,H1 D=none->∃W:Nat->Nat->L2.St->List (Key×V)->Hp->Prop,(∃m,W 0 m (σC T ix σ) [] (upd H1 D (.dK [])))/\
 ∀i m σ' xs H2,W i m σ' xs H2->H2 D=some (.dK xs)/\xs.length<sizeLine/\((J.stop i H2/\Q (.ref D) H2)\/
  (J.go i H2/\∀x H3,J.yld i H2 x H3->g x σ' H3 fun σ2 H4=>tt σ2 H4 fun b H5=>
   if b=true then tk σ2 H5 fun k H6=>tv σ2 H6 fun y H7=>∃kk:Key,k=kV kk/\H7 D=some (.dK xs)/\∃m',m'<m/\W (i+1) m' σ2 (putK xs kk y) (upd H7 D (.dK (putK xs kk y)))else ∃m',m'<m/\W (i+1) m' σ2 xs H5))
theorem V9{pos2:Pos}
  (O:CompOk X scope cl T caps ix)(hc:X.calm=true)(hi:PI X tg iter wi)(hg:∀C s H fp,PG (qz X scope cl (T++caps) C s H fp) tg g)(ht:∀C s H fp,PTs (qz X scope cl (T++caps) C s H fp) ifs tt)
  (hu:X.A.units+1<cLine)(hk:∀C s H fp,PE (qz X scope cl (T++caps) C s H fp) kx tk)(hv:∀C s H fp,PE (qz X scope cl (T++caps) C s H fp) vx tv)(hs:∀x,foldedSetIterable iter X.env x=pure x){Q:VK}{use:Option (Value->Sem Unit)}{QQ:fJ}(I:Inv X pins σ H s)(h:WP wi g tt tk tv T ix σ H Q)
  (fin:∀(D C:Addr)(H3:Hp)(s4:Shared)(m:fK),Inv X pins σ H3 s4->s4.heap.Ns C m->H3 C=none->C≠X.env.locals->X.s₀.heap.objs.size<=C->(∀x c,X.env.cells.lookup x=some c->c≠C)->(∀p∈X.pn++pins,p.1≠C)->Q (.ref D) H3->compPost (model X.prog X.w) X.A X.xe use QQ (.ref D) C (.ok .next) s4) :
  wpAny (model X.prog X.w) X.A (comprehension (.DictComp kx vx [⟨tg,iter,ifs,0⟩] scope pos) scope X.env pos2 newDict false (eval iter X.env) use) QQ X.xe s:=by
 refine dw (use:=use) rfl hs O.clos O.kind O.names (thn (hi pins s σ H _ I h) fun v s1 h1=>thn h1 fun itv s2 h2=>?_);obtain⟨it,fp,tn,J,H2,e,I2,T2,st2,f2,R2⟩:=h2;subst e;have hfp:∀b∈fp,FpOk X pins H2 b/\b<s2.heap.objs.size:=fun b hb=>⟨f2 b hb,by obtain⟨o,e,_⟩:=T2.obj _ _ st2 b hb;exact ao e⟩
 refine bX (c7 O.nocell (fun y hy=>absurd hy (by simp)) (fun h₁ hns hsb=>?_) O.kind);dsimp only at hns hsb ⊢;generalize hG:s2.heap.push { cls:=.type "dict",dict:=none,data:=.dict #[] }=G at hns hsb ⊢
 have hCz:s2.heap.objs.size<G.objs.size:=by rw[<- hG,bZ];exact bV _
 have old:∀b o,s2.heap.get? b=some o->h₁.get? b=some o:=fun b o e=>by
  have lt:=ao e;exact hsb.extBut b o (aq (bb lt hCz)) (ae _ (hG▸ae _ e))
 have hD:h₁.get? s2.heap.objs.size=some { cls:=.type "dict",dict:=none,data:=.dict #[] }:=hsb.extBut _ _ (aq hCz) (ae _ (hG▸aB _ rfl));have nD:H2 s2.heap.objs.size=none:=I2.hok.fresh (ak _);have nC:H2 G.objs.size=none:=I2.hok.fresh (bD hCz);obtain⟨W,⟨m0,w0⟩,turn⟩:=R2 s2.heap.objs.size nD;have J1:Inv X pins σ (upd H2 s2.heap.objs.size (.dK [])) { s2 with heap:=h₁,toks:=s2.toks+([]:List (Str×Value)).length }:=
  I2.laid (t':=s2.toks+([]:List (Str×Value)).length) old (ak _) (show ObjOk X.prog X.w _ h₁ _ (.dK [])from(yK (H:=upd H2 s2.heap.objs.size (.dK [])) s2.heap I2.big).stay (fun c v hc q=>have q':G.get? c=some v:=hG▸q;hsb.extBut c v (aq (ao q')) (ae _ q')) (fun c q=>q) fun c xs q=>q)
 have un:Un (frs X.stack) fp H2 (upd H2 s2.heap.objs.size (.dK [])) s2.heap h₁:=Un.laid old (ak _) nD;have hCn:(upd H2 s2.heap.objs.size (.dK [])) G.objs.size=none:=by rw[qk (aq hCz).symm];exact nC
 have K1:=v5 (s:={ s2 with heap:=h₁,toks:=s2.toks+([]:List (Str×Value)).length }) O I2 J1 un rfl hns (bD hCz) hCn hfp;have stat:∀{H':Hp},(∀b∈fp,H' b=none)->∀b∈fp,FpOk (qz X scope cl (T++caps) G.objs.size s2 H2 fp) [] H' b:=fun hn b hb=>
  ⟨hn b hb,aq (bb (hfp b hb).2 hCz),K1.ok.exfs b hb,.inl hb,fun x c e=>(K1.ok.exf b hb).2 x c e,fun p hp=>absurd (show p∈([]:fI)from hp) (by simp)⟩
 have start:∃(i:Nat)(σ':L2.St)(xs:List (Key×V))(H':Hp),Inv (qz X scope cl (T++caps) G.objs.size s2 H2 fp) [] σ' H' { s2 with heap:=h₁,toks:=s2.toks+([]:List (Str×Value)).length }/\tn i h₁/\(∀b∈fp,H' b=none)/\W i m0 σ' xs H':=
  ⟨0,_,[],_,K1,T2.keep _ _ _ st2 fun b _ o e=>old b o e,fun b hb=>by rw[qk (aq (hfp b hb).2)];exact(f2 b hb).1,w0⟩
 have loop:codeAny (model X.prog X.w) X.A (.compLoop (.DictComp kx vx [⟨tg,iter,ifs,0⟩] scope pos) 0 (.ref it) (.ref s2.heap.objs.size) (compEnvC scope cl G.objs.size X.env))
   (compPost (model X.prog X.w) X.A X.xe use QQ (.ref s2.heap.objs.size) G.objs.size) { s2 with heap:=h₁,toks:=s2.toks+([]:List (Str×Value)).length }:=by
  refine J3 (fun n s'=>∃(i:Nat)(σ':L2.St)(xs:List (Key×V))(H':Hp),Inv (qz X scope cl (T++caps) G.objs.size s2 H2 fp) [] σ' H' s'/\tn i s'.heap/\(∀b∈fp,H' b=none)/\W i n σ' xs H') ?_ m0 start;rintro n s3 ⟨i,σ3,xs,H3,I3,st3,fr3,w3⟩;obtain⟨hD3,hz3,tn3⟩:=turn i n σ3 xs H3 w3;rcases tn3 with⟨stop,qn⟩|⟨go,step⟩
  ·refine thn (T2.done (qz X scope cl (T++caps) G.objs.size s2 H2 fp) rfl rfl rfl hc i [] s3 σ3 H3 _ I3 (stat fr3) st3 stop) fun r s4⟨hr,I4⟩=>?_
   subst hr;obtain⟨m,hm,_⟩:=I4.loc;have B:Inv X pins σ H3 s4:=I2.call' I4.os I4.base I4.hok I4.bare fun b hb=>⟨(f2 b hb).2.2.2.1,(f2 b hb).2.1,(f2 b hb).2.2.2.2.1,(f2 b hb).2.2.2.2.2⟩
   refine fin s2.heap.objs.size G.objs.size H3 s4 m B hm I4.free ?_ (bD (c4 I2.sz hCz)) (fun x c e z=>?_) (fun p hp z=>?_) qn
   ·exact(aq (bb I2.lt hCz)).symm
   ·obtain⟨v,q⟩:=I2.cell x c e
    exact absurd z (aq (bb q.lt hCz))
   ·exact absurd z (aq (bb (ao (I2.pin p hp).1) hCz))
  ·refine thn (T2.item (qz X scope cl (T++caps) G.objs.size s2 H2 fp) rfl rfl rfl hc i [] s3 σ3 H3 _ I3 (stat fr3) st3 go) fun r s4⟨u,hr,h4⟩=>?_
   subst hr;refine thn h4 fun _ s5⟨x,H5,I5,r5,y5,st5,fr5⟩=>?_
   have I5':=I5.pinned (stat fr5) (T2.obj _ _ st5);have back:∀{σ7:L2.St}{H7:Hp}{s7:Shared},Inv (qz X scope cl (T++caps) G.objs.size s2 H2 fp) ([]++xL fp s5.heap) σ7 H7 s7->Inv (qz X scope cl (T++caps) G.objs.size s2 H2 fp) [] σ7 H7 s7/\tn (i+1) s7.heap/\∀b∈fp,H7 b=none:=fun{σ7 H7 s7} I7=>by
    refine⟨I7.unpinned,T2.keep _ _ _ st5 fun b hb o e=>(I7.pin (b,o) (az _ (az _ (zX hb e)))).1,fun b hb=>?_⟩;obtain⟨o,e,d⟩:=T2.obj _ _ st5 b hb;exact(I7.pin (b,o) (az _ (az _ (zX hb e)))).2.1
   refine thn (hg G.objs.size s2 H2 fp _ s5 σ3 H5 x u _ I5' r5 (step x H5 y5)) fun _ s6⟨σ6,H6,I6,q6⟩=>?_
   refine thn (ht G.objs.size s2 H2 fp _ s6 σ6 H6 _ I6 q6) fun ok s7⟨H7,I7,q7⟩=>?_
   cases ok with
   |true=>
    rw[aF rfl]at q7;rw[aF rfl];refine thn (hk G.objs.size s2 H2 fp _ s7 σ6 H7 _ I7 q7) fun kz s8⟨ky,H8,I8,rk,q8⟩=>?_
    refine thn (hv G.objs.size s2 H2 fp _ s8 σ6 H8 _ I8 q8) fun z s9⟨y,H9,I9,ry,kk,ek,hD9,m',hm',w9⟩=>?_
    subst ek;refine J2 (X:=qz X scope cl (T++caps) G.objs.size s2 H2 fp) I9 hD9 hz3 rk ry fun s10 I10=>?_
    obtain⟨a1,a2,a3⟩:=back I10;exact⟨m',hm',i+1,σ6,putK xs kk y,_,a1,a2,a3,w9⟩
   |false=>
    rw[aG (by decide)]at q7;rw[aG (by decide)];obtain⟨m',hm',w7⟩:=q7;obtain⟨a1,a2,a3⟩:=back I7;exact⟨m',hm',i+1,σ6,xs,H7,a1,a2,a3,w7⟩
 exact codeAny_compStart_dict loop (T2.self _ 0 _ _ _ (T2.keep _ _ _ st2 fun b _ o e=>old b o e) loop)
theorem XJ{spos py:Pos}{i:Nat}{y:Str}(hN:X.N.Nodup)(hi':X.N[i]?=some y)(hx:Loc X.env.scope y)
  (O:CompOk X scope cl T caps ix)(hc:X.calm=true)(hi:PI X tg iter wi)(hg:∀C s H fp,PG (qz X scope cl (T++caps) C s H fp) tg g)(ht:∀C s H fp,PTs (qz X scope cl (T++caps) C s H fp) ifs tt)
  (hu:X.A.units+1<cLine)(hk:∀C s H fp,PE (qz X scope cl (T++caps) C s H fp) kx tk)(hv:∀C s H fp,PE (qz X scope cl (T++caps) C s H fp) vx tv)(hs:∀x,foldedSetIterable iter X.env x=pure x:=by intro _;rfl)
  (hsw:swapsWith (.DictComp kx vx [⟨tg,iter,ifs,0⟩] scope pos) (some (.Name y py)) spos.line X.env=pure true:=by rfl)
  (hf:X.fn y=true\/X.env.scope.names.lookup y=some .local:=by first|exact .inl rfl|exact .inr rfl|assumption) :
  PS X (.Assign [.Name y py] (.DictComp kx vx [⟨tg,iter,ifs,0⟩] scope pos) spos) (tAsg (WP wi g tt tk tv T ix) (QL i)):=by
 intro pins s σ H D I h;rw[exec_Assign_Name_used _ _ _ _ hsw];refine af (d0 (af ?_));show wpAny _ X.A (do let _ <- comprehension (.DictComp kx vx [⟨tg,iter,ifs,0⟩] scope pos) scope X.env _ newDict false (eval iter X.env) (some (assign (.Name y py) X.env))) _ _ s;refine af (bf (V9 (QQ:=fun _ s'=>SP X pins D .next s') O hc hi hg ht hu hk hv hs I h ?_) (fun _ s' hq=>aw (aw hq)) fun _ _ e=>e);intro A C H3 s4 m B hm nC cL cs cc cp q;show wpAny _ _ (assign (.Name y py) X.env (.ref A)) _ _ _;refine eP (xD B hN hi' hx (v:=.ref A) rfl (fun s5 I5 hsb=>?_) hf);obtain⟨a,sb,ha⟩:=hsb;have ne:C≠a:=by
  rcases ha with z|z
  ·rw[z];exact cL
  ·exact(cc _ _ z).symm
 refine⟨m,hm.sameBut sb ne,fun h' hs'=>?_⟩;exact⟨_,H3,I5.turned (t':=s5.toks) (it:=C) (fun b o hb e=>hs'.extBut b o hb e) nC cL (.inr cs) cc cp,q⟩
def CWD(Pv:Nat->Addr->L2.St->List (Key×V)->Hp->Prop)(n i:Nat)(D:Addr)(σ:L2.St)(ys:List (Key×V))(H:Hp):Prop:=∃m',m'<n - i/\(m'=n - (i+1)/\i+1<=n/\Pv (i+1) D σ ys H)
theorem CWD.of{Pv:Nat->Addr->L2.St->List (Key×V)->Hp->Prop}{n i:Nat}{D:Addr}{ys:List (Key×V)}(h:i<n)(p:Pv (i+1) D σ ys H):CWD Pv n i D σ ys H:=⟨n - (i+1),by omega,rfl,h,p⟩
theorem V8{K:fH}{l:Addr}{xs:List V}{σ0:L2.St}{H1:Hp}{QD:Addr->Hp->Prop}(Pv:Nat->Addr->L2.St->List (Key×V)->Hp->Prop)
  (h0:∀D,H1 D=none->Pv 0 D σ0 [] (upd H1 D (.dK [])))
  (hl:∀i D σ ys H2,i<=xs.length->H1 D=none->Pv i D σ ys H2->SqL K H2 l xs/\H2 D=some (.dK ys)/\ys.length<sizeLine)
  (hs:∀i x D σ ys H2,xs[i]?=some x->i<xs.length->H1 D=none->Pv i D σ ys H2->g x σ H2 fun σ2 H4=>tAll σ2 H4 fun b H5=>if b=true then tk σ2 H5 fun k H6=>tv σ2 H6 fun y H7=>∃kk:Key,k=kV kk/\H7 D=some (.dK ys)/\CWD Pv xs.length i D σ2 (putK ys kk y) (upd H7 D (.dK (putK ys kk y)))else CWD Pv xs.length i D σ2 ys H5)
  (hd:∀D ys σ H2,H1 D=none->Pv xs.length D σ ys H2->QD D H2) :
  ∀D,H1 D=none->∃W:Nat->Nat->L2.St->List (Key×V)->Hp->Prop,(∃m,W 0 m σ0 [] (upd H1 D (.dK [])))/\
   ∀i m σ' ys H2,W i m σ' ys H2->H2 D=some (.dK ys)/\ys.length<sizeLine/\(((Itl K l).stop i H2/\QD D H2)\/
    ((Itl K l).go i H2/\∀x H3,(Itl K l).yld i H2 x H3->g x σ' H3 fun σ2 H4=>tAll σ2 H4 fun b H5=>
     if b=true then tk σ2 H5 fun k H6=>tv σ2 H6 fun y H7=>∃kk:Key,k=kV kk/\H7 D=some (.dK ys)/\∃m',m'<m/\W (i+1) m' σ2 (putK ys kk y) (upd H7 D (.dK (putK ys kk y)))else ∃m',m'<m/\W (i+1) m' σ2 ys H5)):=by
 intro D nD;refine⟨fun i m σ ys H=>m=xs.length - i/\i<=xs.length/\Pv i D σ ys H,⟨xs.length,by simp,aV _,h0 D nD⟩,?_⟩;rintro i m σ ys H2 ⟨rfl,hi,p⟩;obtain⟨q,hD,hz⟩:=hl i D σ ys H2 hi nD p;refine⟨hD,hz,?_⟩
 by_cases hlt:i<xs.length
 ·refine .inr ⟨⟨xs,xs[i],q,by simp[hlt]⟩,fun x H3 hy=>?_⟩
  obtain⟨rfl,hy⟩:=hy;exact hs i x D σ ys _ (hy xs q) hlt nD p
 ·have e:i=xs.length:=by omega
  subst e;exact .inl ⟨⟨xs,q,ak _⟩,hd D ys σ H2 nD p⟩
structure Bars(sp:Str->Int)(ds:List Rd)(st go:Str)(si:Int)(out:List (Str×Int)):Prop where
 nd:(out.map Prod.fst).Nodup
 ng:go∉out.map Prod.fst
 st0:rdy out st si=true
 cl:∀d∈ds,rdy out d.a d.l=true->rdy out d.b (d.c+sp d.b)=true
theorem WV{x:Str}{n:Int}(h:rdy ps x m=true)(le:m<=n):rdy ps x n=true:=by
 obtain⟨z,e,l⟩:=rdy_iff.mp h;exact rdy_iff.mpr ⟨z,e,by omega⟩
theorem Bars.all(B:Bars sp ds st go si out){d:Rd}(r:Reach sp ds st si d):rdy out d.b (d.c+sp d.b)=true:=by
 induction r with
 |fst m e h=>exact B.cl _ m (by rw[e];exact WV B.st0 h)
 |nxt r m h ih=>
  obtain⟨h1,h2⟩:=hg_iff.mp h;exact B.cl _ m (by rw[<- h1];exact WV ih h2)
theorem Zm{x:Str}(h:rdy ps x m=true):x∈ps.map Prod.fst:=by
 obtain⟨z,e,_⟩:=rdy_iff.mp h;have q:(ps.any fun p=>decide (p.1=x))=true:=by rw[j8,e];rfl
 obtain⟨p,hp,e'⟩:=b7.mp q;exact aC.mpr ⟨p,hp,by simpa using e'⟩
theorem Bars.none(B:Bars sp ds st go si out):¬ ∃m,Least sp ds st si go m:=by
 rintro⟨m,⟨a,_⟩|⟨_,⟨e,r,eb,_⟩,_⟩⟩
 ·exact B.ng (by rw[a];exact Zm B.st0)
 ·exact B.ng (by rw[<- eb];exact Zm (B.all r))
theorem Paper.bars(G:Good sp ds)(p:Paper sp ds st si ns out)(ng:¬ ∃m,Least sp ds st si go m):Bars sp ds st go si out:=by
 have look:∀x m,out.lookup x=some m↔Least sp ds st si x m:=fun x m=>by rw[<- mem_lookup p.nd];exact p.iff x m
 refine⟨p.nd,fun z=>ng (p.key.mp z),rdy_iff.mpr ⟨si,(look _ _).mpr (.inl ⟨rfl,rfl⟩),fB _⟩,fun d hd h=>?_⟩;obtain⟨z,e,le⟩:=rdy_iff.mp h;have r:=Zz ((look _ _).mp e) hd le;obtain⟨m,lm⟩:=We r rfl;exact rdy_iff.mpr ⟨m,(look _ _).mpr lm,least_le G r lm⟩
structure Made(l acc:List (Str×Int)):Prop where
 nd:(acc.map Prod.fst).Nodup
 key:∀x∈acc.map Prod.fst,x∈l.map Prod.fst
 all:(l.map Prod.fst).Nodup->acc=l
theorem Made.nil:Made [] []:=⟨f7,(fun _ h=>nomatch h),fun _=>rfl⟩
theorem Made.snoc{l acc:List (Str×Int)}{o:Str×Int}(M:Made l acc):Made (l++[o]) (putS acc o.1 o.2):=by
 refine⟨yw M.nd,fun x hx=>?_,fun hn=>?_⟩
 ·rw[aN,aQ]
  obtain⟨⟨k,v⟩,hp,rfl⟩:=aC.mp hx;have q:=(mem_lookup (yw M.nd)).mp hp;rw[jY]at q
  by_cases e:k=o.1
  ·exact .inr (by simp[e])
  ·rw[aG e]at q
   exact .inl (M.key k (aC.mpr ⟨(k,v),(mem_lookup M.nd).mpr q,rfl⟩))
 ·rw[aN,bY]at hn
  have e:=M.all hn.1;subst e;unfold putS;rw[aG];intro z;obtain⟨p,hp,e'⟩:=b7.mp z;have e2:p.1=o.1:=by simpa using e'
  exact hn.2.2 p.1 (aC.mpr ⟨p,hp,rfl⟩) o.1 (by simp) e2
theorem wc:∀{l:fP},¬ l.Nodup->∃m:fP,(∀x∈l,x∈m)/\m.length<l.length
 |[],h=>absurd f7 h
 |a::l,h=>by
  by_cases ha:a∈l
  ·exact⟨l,fun x hx=>by
    rcases aj.mp hx with q|q
    ·rw[q];exact ha
    ·exact q,bV _⟩
  ·have hl:¬ l.Nodup:=fun z=>h (bE.mpr ⟨ha,z⟩)
   obtain⟨m,h1,h2⟩:=wc hl;refine⟨a::m,fun x hx=>?_,by simp;exact h2⟩;rcases aj.mp hx with q|q
   ·rw[q];exact ar ..
   ·exact av _ (h1 x q)
theorem Made.short(M:Made l acc)(h:¬ (l.map Prod.fst).Nodup):acc.length<l.length:=by
 obtain⟨m,h1,h2⟩:=wc h;have:=M.nd.length_le_of_subset (l₂:=m) fun x hx=>h1 x (M.key x hx)
 rw[ab]at this h2;omega
def WR(K:fH):Sp:=fun vs H Q _=>∃(pr ps pp:Addr)(xs:List V)(kvs:List (Key×V))(ds:List Rd)(st go:Str)(si:Int)(out:List (Str×Int))(qs:fL),vs=[.ref pr,.ref ps,.str st,.str go,.int si,.ref pp]/\H pr=some (.lst xs)/\H ps=some (.dK kvs)/\Rw H kvs xs ds/\PrsAt H pp out qs/\out.length<=100/\
 ∀(b:Bool)(H':Hp),Same H H'->(b=true↔Bars (spn kvs) ds st go si out)->Q (.bl b) H'
theorem Made.len(M:Made l acc):acc.length<=l.length:=by
 have:=M.nd.length_le_of_subset (l₂:=l.map Prod.fst) M.key;rw[ab,ab]at this;exact this
theorem Wc{x:Str}:(valV (toDK out) (Sum.inr x:Key)).isSome=decide (x∈out.map Prod.fst):=by
 rw[xB,dF,<- j8,cW,aR,b7];constructor
 ·rintro⟨p,hp,e⟩
  exact aC.mpr ⟨p,hp,by simpa using e⟩
 ·intro h
  obtain⟨p,hp,e⟩:=aC.mp h;exact⟨p,hp,by simpa using e⟩
end X2
namespace M
open PySem L2 X2
variable{K:fH}{c:Co}{out:List (Str×Int)}{P:Program}{sp:Str->Int}{rds:List Rd}{go st:Str}{si:Int}{w:World}{mg:fK}{base:Heap}{Pt f:Addr}{fd:FuncData}{ps:fP}{T:Hp->Prop}{lp:Pos}
theorem jZ{K:fH}{c:Co}:∀{ys:List (Key×V)}{kvs:List (Key×D)},ys.map (·.1)=kvs.map (·.1)->(∀(i:Nat) p q,ys[i]?=some p->kvs[i]?=some q->Rep K c p.2 q.2)->(∀q∈kvs,∃z,q.2=D.int z)->∀k:Key,(valV ys k=none/\qJ kvs k=none)\/∃z,valV ys k=some (.int z)/\qJ kvs k=some (.int z)
 |[],[],_,_,_,k=>.inl ⟨rfl,rfl⟩
 |[],_::_,h,_,_,_=>by cases h
 |_::_,[],h,_,_,_=>by cases h
 |y::ys,q::kvs,h,r,hz,k=>by
  simp only[aA,bP]at h;have ih:=jZ h.2 (fun i p q a b=>r (i+1) p q (by simpa using a) (by simpa using b)) (fun q hq=>hz q (av _ hq)) k;unfold valV qJ at *;rw[aZ,aZ,h.1]
  by_cases hk:q.1=k
  ·have r0:=r 0 y q rfl rfl
   obtain⟨z,ez⟩:=hz q ar;rw[ez]at r0;rw[aO hk];refine .inr ⟨z,?_,?_⟩
   ·show some y.2=_
    generalize y.2=yv at r0
    cases r0;rfl
   ·show some q.2=_
    rw[ez]
  ·rw[aP hk]
   exact ih
theorem ZY{ys:List (Key×V)}{kvs:List (Key×D)}(l:ys.map (·.1)=kvs.map (·.1))(r:∀(i:Nat) p q,ys[i]?=some p->kvs[i]?=some q->Rep K c p.2 q.2)(hz:∀q∈kvs,∃z,q.2=D.int z):spn ys=spF kvs:=funext fun x=>by
 unfold spn spF;rcases jZ l r hz (Sum.inr x)with⟨e1,e2⟩|⟨z,e1,e2⟩
 ·rw[e1,e2]
 ·rw[e1,e2]
theorem Kq{K:fH}{c:Co}{H:Hp}(hs:Same c.h H){ys:List (Key×V)}:∀{xs:List V}{rds:List Rd},Reps K c xs (rds.map rdD)->(∀r∈rds,valV ys (Sum.inr r.b:Key)=some (.int (spn ys r.b)))->Rw H ys xs rds
 |xs,[],r,_=>by
  rw[r.unnil];exact .nil
 |xs,d::rds,r,h=>by
  obtain⟨x,t,rfl,r1,r2⟩:=r.uncons;refine .cons ?_ (Kq hs r2 fun r hr=>h r (av _ hr));obtain⟨p,ws,rfl,e,l,rr⟩:=r1.tup';obtain⟨w0,w1,w2,w3,w4,rfl⟩:=ln5 l;obtain rfl:=zW (rr 0 _ _ rfl rfl);obtain rfl:=zV (rr 1 _ _ rfl rfl);obtain rfl:=zV (rr 2 _ _ rfl rfl);obtain rfl:=zW (rr 3 _ _ rfl rfl);obtain rfl:=zW (rr 4 _ _ rfl rfl);exact⟨p,rfl,hs _ _ e,h d ar⟩
def prI(o:Str×Int):D:=.tup [.str o.1,.int o.2]
theorem KC{H:Hp}(hs:Same c.h H){xs:List V}{a:Addr}(e:c.h a=some (.lst xs))(r:Reps K c xs (out.map prI)):∃qs,PrsAt H a out qs:=by
 have key:∀{xs:List V}{out:List (Str×Int)},Reps K c xs (out.map prI)->∃qs:fL,xs=qs.map V.ref/\qs.length=out.length/\∀(i:Nat) q(o:Str×Int),qs[i]?=some q->out[i]?=some o->H q=some (.tup [.str o.1,.int o.2]):=by
  intro xs out
  induction out generalizing xs with
  |nil=>intro r;rw[r.unnil];exact⟨[],rfl,rfl,fun i q o h=>by simp at h⟩
  |cons o out ih=>
   intro r;obtain⟨x,t,rfl,r1,r2⟩:=r.uncons;obtain⟨qs,e1,e2,e3⟩:=ih r2;cases r1 with
   |@tup p ws _ e l rr=>
    match ws,l with
    |[w0,w1],_=>
     have z0:=rr 0 _ _ rfl rfl;have z1:=rr 1 _ _ rfl rfl;cases z0;cases z1;refine⟨p::qs,by rw[e1];rfl,by rw[bz,bz,e2],fun i q o' h1 h2=>?_⟩;cases i with
     |zero=>cases h1;cases h2;exact hs _ _ e
     |succ i=>exact e3 i q o' (by simpa using h1) (by simpa using h2)
 obtain⟨qs,e1,e2,e3⟩:=key r;exact⟨qs,by rw[<- e1];exact hs _ _ e,e2,e3⟩
def grow(c:Co)(H H':Hp):Co:=⟨fun a=>match c.h a with|some u=>some u|none=>(match H a with|none=>Hn H' [] a|some _=>none),c.ob⟩
section
variable{K:fH}{c:Co}{H H':Hp}
theorem VH(co:Same c.h (Hn H [])){a:Addr}{u:HO}(hn:H a=none)(e:H' a=some u)(ht:isT u=false):(grow c H H').h a=some u:=by
 show(match c.h a with|some u=>some u|none=>(match H a with|none=>Hn H' [] a|some _=>none))=some u;cases hc:c.h a with
 |none=>rw[hn];exact Hn.mk e ax ht
 |some v=>
  have:=(Hn.of (co a v hc)).1;rw[hn]at this;cases this
theorem x9(co:Same c.h (Hn H []))(nn:Same (Hn H []) (Hn H' []))(th:∀a,H' a=none->H a=none):FR H c [] H' (grow c H H') []/\Same (grow c H H').h (Hn H' []):=by
 refine⟨⟨⟨fun a u e=>?_,fun _ _ e=>e⟩,nn,fun a h1 h2=>?_,th⟩,fun a u e=>?_⟩
 ·show(match c.h a with|some u=>some u|none=>(match H a with|none=>Hn H' [] a|some _=>none))=some u
  rw[e]
 ·show(match c.h a with|some u=>some u|none=>(match H a with|none=>Hn H' [] a|some _=>none))=none
  rw[h2];cases hh:H a with
  |none=>exact absurd (kh hh) h1
  |some v=>rfl
 ·have e:(match c.h a with|some u=>some u|none=>(match H a with|none=>Hn H' [] a|some _=>none))=some u:=e
  cases hc:c.h a with
  |some v=>rw[hc]at e;cases e;exact nn a _ (co a _ hc)
  |none=>
   rw[hc]at e;cases hh:H a with
   |none=>rw[hh]at e;exact e
   |some v=>rw[hh]at e;cases e
theorem Z3{P:Addr}(s:SaT P H H'):Same (Hn H []) (Hn H' []):=fun a u e=>by
 obtain⟨h1,_,h3⟩:=Hn.of e;exact Hn.mk (s.keep a u h1 (by cases u <;> first|rfl|cases h3)) ax h3
theorem yh(co:Same c.h (Hn H [])){r:Addr}{qs:fL}(hr:H r=none)(hq:∀q∈qs,H q=none)(PO:PrsAt H' r out qs):Rep K (grow c H H') (.ref r) (.lst (out.map prI)):=by
 refine .lst (VH co hr PO.hr rfl) (by rw[ab,ab,PO.len]) fun i x d h1 h2=>?_
 rw[ag]at h1 h2;cases e1:qs[i]? with
 |none=>rw[e1]at h1;cases h1
 |some q=>
  cases e2:out[i]? with
  |none=>rw[e2]at h2;cases h2
  |some o=>
   rw[e1]at h1;rw[e2]at h2;cases h1;cases h2;refine .tup (VH co (hq q (ay e1)) (PO.at' i q o e1 e2) rfl) rfl fun j y d h3 h4=>?_
   match j,h3,h4 with
   |0,h3,h4=>cases h3;cases h4;exact .str _
   |1,h3,h4=>cases h3;cases h4;exact .int _
end
theorem Zb{sp:Str->Int}{rds:List Rd}{st:Str}{si:Int}(G:Good sp rds):∀(suf pre:List Rd)(ms:List (Str×Int)),(∀d∈suf,d∈rds)->(pre++suf).Pairwise (fun a b=>a.l<=b.l)->Soon sp rds pre st si ms->∃ms',Soon sp rds (pre++suf) st si ms'
 |[],pre,ms,_,_,S=>⟨ms,by rw[c9];exact S⟩
 |d::suf,pre,ms,hm,hp,S=>by
  have e:pre++d::suf=(pre++[d])++suf:=by simp
  have hb:∀e∈pre,e.l<=d.l:=fun e he=>(dj.mp hp).2.2 e he d ar
  have go:∀ms',Soon sp rds (pre++[d]) st si ms'->∃ms'',Soon sp rds (pre++d::suf) st si ms'':=fun ms' S'=>by
   rw[e]at hp ⊢;exact Zb G suf (pre++[d]) ms' (fun x hx=>hm x (av _ hx)) hp S'
  cases h1:rdy ms d.a d.l with
  |false=>exact go ms (S.skip fun z=>absurd z (by rw[h1];decide))
  |true=>
   cases h2:rdy ms d.b (d.c+sp d.b)with
   |true=>exact go ms (S.skip fun _=>h2)
   |false=>exact go _ (S.step G (hm d ar) hb h1 h2)
theorem XX{ns:fP}(G:Good sp rds)(hst:st∈ns)(hds:∀d∈rds,d.b∈ns)(n5:ns.length<=5):∃out,Paper sp rds st si ns out:=by
 have pw:=cq (le:=fun a b:Rd=>decide (a.l<=b.l)) (fun a b c h1 h2=>by simp at *;omega) (fun a b=>by simp;omega) rds;have pm:=cN rds (fun a b:Rd=>decide (a.l<=b.l));obtain⟨ms,S⟩:=Zb (st:=st) (si:=si) G (rds.mergeSort (fun a b:Rd=>decide (a.l<=b.l))) [] [(st,si)] (fun d hd=>pm.mem_iff.mp hd) (pw.imp fun h=>by simpa using h) Soon.nil;have pw2:=cq (le:=fun a b:Str×Int=>decide (a.1.cps.toList<=b.1.cps.toList)) (fun a b c h1 h2=>by simp only[decide_eq_true_eq]at *;exact d8 h1 h2) (fun a b=>by simp only[Bool.or_eq_true,decide_eq_true_eq];exact List.le_total _ _) ms;have pm2:=cN ms (fun a b:Str×Int=>decide (a.1.cps.toList<=b.1.cps.toList));refine⟨ms.mergeSort (fun a b:Str×Int=>decide (a.1.cps.toList<=b.1.cps.toList)),?_,fun x m=>?_,hst,hds,n5⟩
 ·have nd:(ms.mergeSort (fun a b:Str×Int=>decide (a.1.cps.toList<=b.1.cps.toList))).Pairwise (fun a b=>a.1≠b.1):=by
   have:=(pm2.map Prod.fst).nodup_iff.mpr S.nd;exact bg.mp (aJ.mp this)
  refine(pw2.and nd).imp fun{a b}⟨h1,h2⟩=>?_
  have h1:=cF h1
  by_cases h:a.1.cps.toList<b.1.cps.toList
  ·exact h
  ·exact absurd (Q9 (dR h1 h)) h2
 ·rw[pm2.mem_iff]
  exact S.least G fun d hd=>by rw[ft];exact pm.mem_iff.mpr hd
def NwOk(ds:List D)(d:D):Prop:=∃(rds:List Rd)(kvs:List (Key×D))(ns:fP)(st go:Str)(si:Int),ds=[.lst (rds.map rdD),.dic kvs,.str st,.str go,.int si]/\Wk (spF kvs) kvs rds/\(∀q∈kvs,∃z,q.2=D.int z)/\rds.length<64/\ns.length<=5/\st∈ns/\(∀d∈rds,d.b∈ns)/\(((∃m,Least (spF kvs) rds st si go m)/\d=.non)\/(¬ (∃m,Least (spF kvs) rds st si go m)/\∃out,Paper (spF kvs) rds st si ns out/\d=.lst (out.map prI)))
theorem NwOk.uniq{ds:List D}{d d':D}(h:NwOk ds d)(h':NwOk ds d'):d=d':=by
 obtain⟨rds,kvs,ns,st,go,si,rfl,_,_,_,_,_,_,h⟩:=h;obtain⟨rds',kvs',ns',st',go',si',e,_,_,_,_,_,_,h'⟩:=h';simp only[bP,D.lst.injEq,D.dic.injEq,D.str.injEq,D.int.injEq,fF]at e;obtain⟨e1,rfl,rfl,rfl,rfl⟩:=e;cases map_inj (fun _ _=>xI) e1;rcases h with⟨h1,rfl⟩|⟨h1,out,p,rfl⟩ <;> rcases h' with⟨h1',rfl⟩|⟨h1',out',p',rfl⟩
 ·rfl
 ·exact absurd h1 h1'
 ·exact absurd h1' h1
 ·rw[jE (P:=Least (spF kvs) rds st si) p.pw p'.pw fun o=>(p.iff o.1 o.2).trans (p'.iff o.1 o.2).symm]
open Classical in
noncomputable def F_nw(ds:List D):Option D:=if h:∃d,NwOk ds d then some h.choose else none
theorem qa1{ds:List D}{d:D}(h:NwOk ds d):F_nw ds=some d:=by
 have hx:∃d,NwOk ds d:=⟨d,h⟩;unfold F_nw;rw[fG hx,hx.choose_spec.uniq h]
theorem qcu{ds:List D}{d:D}(h:F_nw ds=some d):NwOk ds d:=by
 unfold F_nw at h
 split at h
 ·rename_i hx
  cases h;exact hx.choose_spec
 ·cases h
theorem Ve{k:Nat}(hTT:∀H,T H->TabOk H Pt lp lqS)(hTS:∀H H',T H->SaT Pt H H'->TabOk H' Pt lp lqS->T H')(h:FnOk P w K mg base CX0 k f fd ps (Kh K Pt lp)):FnOk P w K mg base CX0 k f fd ps (spP K T 5 false F_nw):=by
 refine h.imp fun vs H Q EX q=>?_
 obtain⟨hl,c,ds,co,tt,rs,d,ed,q⟩:=q;have no:=qcu ed;obtain⟨rds,kvs,ns,st,go,si,rfl,wk,hz,h64,n5,hst,hds,bs⟩:=no;obtain⟨x0,t,rfl,r0,rs⟩:=rs.uncons;obtain⟨x1,t,rfl,r1,rs⟩:=rs.uncons;obtain⟨x2,t,rfl,r2,rs⟩:=rs.uncons;obtain⟨x3,t,rfl,r3,rs⟩:=rs.uncons;obtain⟨x4,t,rfl,r4,rs⟩:=rs.uncons;cases rs.unnil;have hs:Same c.h H:=co.trans Hn.same;obtain⟨a0,xs0,rfl,e0,l0,rr0⟩:=r0.lst';obtain⟨a1,ys1,rfl,e1,l1,nd1,rr1⟩:=r1.dic';obtain rfl:=zV r2;obtain rfl:=zV r3;obtain rfl:=zW r4;have es:=ZY l1 rr1 hz;have hv:∀r∈rds,valV ys1 (Sum.inr r.b:Key)=some (.int (spn ys1 r.b)):=fun r hr=>by
  rcases jZ l1 rr1 hz (Sum.inr r.b)with⟨_,e2⟩|⟨z,e1,e2⟩
  ·rw[wk.sps r hr]at e2;cases e2
  ·rw[wk.sps r hr]at e2;cases e2;rw[es];exact e1
 refine⟨a0,a1,xs0,ys1,rds,ns,st,go,si,rfl,hs _ _ e0,hs _ _ e1,Kq hs ⟨l0,rr0⟩ hv,by rw[l0,ab];exact h64,by rw[es];exact wk.toGood,n5,hst,hds,hTT H tt,fun v H' s tab' hv'=>?_⟩;rw[es]at hv';obtain⟨fr,co'⟩:=x9 (H':=H') co (Z3 s) (fun a e=>s.free e);refine q v H' (grow c H H') fr co' (hTS H H' tt s tab') ?_;rw[aG (by decide)];rcases bs with⟨h1,rfl⟩|⟨h1,out,pp,rfl⟩ <;> rcases hv' with⟨h2,rfl⟩|⟨h2,r,out',qs,rfl,nr,nq,PO,pp'⟩
 ·exact .non
 ·exact absurd h1 h2
 ·exact absurd h2 h1
 ·rw[jE (P:=Least (spF kvs) rds st si) pp.pw pp'.pw fun o=>(pp.iff o.1 o.2).trans (pp'.iff o.1 o.2).symm]
  exact yh co nr nq PO
def BaOk(ds:List D)(b:Bool):Prop:=∃(rds:List Rd)(kvs:List (Key×D))(st go:Str)(si:Int)(out:List (Str×Int)),ds=[.lst (rds.map rdD),.dic kvs,.str st,.str go,.int si,.lst (out.map prI)]/\Wk (spF kvs) kvs rds/\(∀q∈kvs,∃z,q.2=D.int z)/\out.length<=100/\(b=true↔Bars (spF kvs) rds st go si out)
theorem YN{a b:Str×Int}(h:prI a=prI b):a=b:=by
 cases a;cases b;unfold prI at h;simp at h;obtain⟨rfl,rfl⟩:=h;rfl
theorem BaOk.uniq{ds:List D}{b b':Bool}(h:BaOk ds b)(h':BaOk ds b'):b=b':=by
 obtain⟨rds,kvs,st,go,si,out,rfl,_,_,_,h⟩:=h;obtain⟨rds',kvs',st',go',si',out',e,_,_,_,h'⟩:=h';simp only[bP,D.lst.injEq,D.dic.injEq,D.str.injEq,D.int.injEq,fF]at e;obtain⟨e1,rfl,rfl,rfl,rfl,e2⟩:=e;cases map_inj (fun _ _=>xI) e1;cases map_inj (fun _ _=>YN) e2;have:=h.trans h'.symm;cases b <;> cases b' <;> simp_all
open Classical in
noncomputable def F_ba(ds:List D):Option D:=if h:∃b,BaOk ds b then some (.bl h.choose)else none
theorem qb7{ds:List D}{b:Bool}(h:BaOk ds b):F_ba ds=some (.bl b):=by
 have hx:∃b,BaOk ds b:=⟨b,h⟩;unfold F_ba;rw[fG hx,hx.choose_spec.uniq h]
theorem qax{ds:List D}{d:D}(h:F_ba ds=some d):∃b,BaOk ds b/\d=.bl b:=by
 unfold F_ba at h
 split at h
 ·rename_i hx
  cases h;exact⟨_,hx.choose_spec,rfl⟩
 ·cases h
theorem Xl{k:Nat}(hT:HTb T)(h:FnOk P w K mg base CX0 k f fd ps (WR K)):FnOk P w K mg base CX0 k f fd ps (spP K T 6 false F_ba):=by
 refine h.imp fun vs H Q EX q=>?_
 obtain⟨hl,c,ds,co,tt,rs,d,ed,q⟩:=q;obtain⟨b,no,rfl⟩:=qax ed;obtain⟨rds,kvs,st,go,si,out,rfl,wk,hz,h100,bs⟩:=no;obtain⟨x0,t,rfl,r0,rs⟩:=rs.uncons;obtain⟨x1,t,rfl,r1,rs⟩:=rs.uncons;obtain⟨x2,t,rfl,r2,rs⟩:=rs.uncons;obtain⟨x3,t,rfl,r3,rs⟩:=rs.uncons;obtain⟨x4,t,rfl,r4,rs⟩:=rs.uncons;obtain⟨x5,t,rfl,r5,rs⟩:=rs.uncons;cases rs.unnil;have hs:Same c.h H:=co.trans Hn.same;obtain⟨a0,xs0,rfl,e0,l0,rr0⟩:=r0.lst';obtain⟨a1,ys1,rfl,e1,l1,nd1,rr1⟩:=r1.dic';obtain rfl:=zV r2;obtain rfl:=zV r3;obtain rfl:=zW r4;obtain⟨a5,xs5,rfl,e5,l5,rr5⟩:=r5.lst';have es:=ZY l1 rr1 hz;have hv:∀r∈rds,valV ys1 (Sum.inr r.b:Key)=some (.int (spn ys1 r.b)):=fun r hr=>by
  rcases jZ l1 rr1 hz (Sum.inr r.b)with⟨_,e2⟩|⟨z,e1,e2⟩
  ·rw[wk.sps r hr]at e2;cases e2
  ·rw[wk.sps r hr]at e2;cases e2;rw[es];exact e1
 obtain⟨qs,PO⟩:=KC hs e5 ⟨l5,rr5⟩;refine⟨a0,a1,a5,xs0,ys1,rds,st,go,si,out,qs,rfl,hs _ _ e0,hs _ _ e1,Kq hs ⟨l0,rr0⟩ hv,PO,h100,fun b' H' s hb=>?_⟩;rw[es]at hb;have sT:SaT 0 H H':=SaT.of s;obtain⟨fr,co'⟩:=x9 (H':=H') co (Z3 sT) (fun a e=>sT.free e);have eb:b'=b:=by
  have:=hb.trans bs.symm;cases b <;> cases b' <;> simp_all
 subst eb;exact q (.bl b') H' (grow c H H') fr co' (hT H H' tt fun a u e _ _ _=>s a u e) (by rw[aG (by decide)];exact .bl _)
theorem XF{e:Rd}(r:Reach sp rds st si e):∀t,Fr sp rds go e t->∃d t',Fr sp rds go d t'/\d.a=st/\si<=d.l:=by
 induction r with
 |fst m e h=>exact fun t f=>⟨_,t,f,e,h⟩
 |@nxt e d r m h ih=>exact fun t f=>ih (d::t) (.cons r.mem h f)
theorem Vm(h:∃m,Least sp rds st si go m):∃l,AllW sp rds st go si l:=by
 obtain⟨m,h|⟨_,⟨e,r,eb,_⟩,_⟩⟩:=h
 ·exact⟨[],.inl ⟨rfl,h.1.symm⟩⟩
 ·obtain⟨d,t,f,h1,h2⟩:=XF r [] (.fin r.mem eb)
  exact⟨d::t,.inr ⟨d,t,rfl,f,h1,h2⟩⟩
def top(i:Nat):Stmt:=PySem.Challenge.pw_wayhold_k42_whole_many_rides.main.body.getD i (.Pass ⟨0,0,0,0⟩)
abbrev jD:Stmt:=top 6
abbrev Zf:Stmt:=top 7
abbrev zU:Stmt:=top 10
abbrev ji:Stmt:=top 11
abbrev jC:Stmt:=top 12
abbrev kB:Stmt:=top 13
abbrev xF:Stmt:=top 15
abbrev w6:Stmt:=top 16
abbrev Ko:Stmt:=top 17
abbrev vR:Stmt:=top 18
abbrev ya:Stmt:=top 20
abbrev Zg:Stmt:=top 21
abbrev w_:Stmt:=top 22
abbrev Zh:Stmt:=top 23
abbrev Zi:Stmt:=top 24
abbrev kC:Stmt:=top 25
abbrev xG:Stmt:=top 26
abbrev vS:Stmt:=top 27
abbrev Yz:Stmt:=top 28
structure Txt(K:fH)(mg:fK)(qh q_ qi qu qg qr qB qK zA qw qI qZ qL za zb qP qC qS je:Addr):Prop where
 b_min:mg "min"=none
 b_sorted:mg "sorted"=none
 b_len:mg "len"=none
 b_isinstance:mg "isinstance"=none
 b_tuple:mg "tuple"=none
 b_list:mg "list"=none
 b_range:mg "range"=none
 b_bool:mg "bool"=none
 b_int:mg "int"=none
 b_str:mg "str"=none
 b_set:mg "set"=none
 b_dict:mg "dict"=none
 c_LEAVES:∃t,mg "LEAVES"=some (Value.int 3 t)
 c_COMES:∃t,mg "COMES"=some (Value.int 4 t)
 c_GOAL:∃t,mg "GOAL"=some (Value.int 2 t)
 c_START:∃t,mg "START"=some (Value.int 1 t)
 c_NUMBERS:∃t,mg "NUMBERS"=some (Value.int 4 t)
 c_NUMBER:∃t,mg "NUMBER"=some (Value.int 0 t)
 m_spare_between:mg "spare_between"=some (.ref qh)
 k_spare_between:PySem.W.keepIn K (.ref qh)=true
 m_hangs:mg "hangs"=some (.ref q_)
 k_hangs:PySem.W.keepIn K (.ref q_)=true
 m_least_change:mg "least_change"=some (.ref qi)
 k_least_change:PySem.W.keepIn K (.ref qi)=true
 m_best_rows:mg "best_rows"=some (.ref qu)
 k_best_rows:PySem.W.keepIn K (.ref qu)=true
 m_worth_of_none:mg "worth_of_none"=some (.ref qg)
 k_worth_of_none:PySem.W.keepIn K (.ref qg)=true
 m_worth_with:mg "worth_with"=some (.ref qr)
 k_worth_with:PySem.W.keepIn K (.ref qr)=true
 m_soonest:mg "soonest"=some (.ref qB)
 k_soonest:PySem.W.keepIn K (.ref qB)=true
 m_no_way:mg "no_way"=some (.ref qK)
 k_no_way:PySem.W.keepIn K (.ref qK)=true
 m_bars:mg "bars"=some (.ref zA)
 k_bars:PySem.W.keepIn K (.ref zA)=true
 m_ready_by:mg "ready_by"=some (.ref qw)
 k_ready_by:PySem.W.keepIn K (.ref qw)=true
 m_Ldraws:mg "_law_draws"=some (.ref qI)
 k_Ldraws:PySem.W.keepIn K (.ref qI)=true
 m_Lsame:mg "_law_same"=some (.ref qZ)
 k_Lsame:PySem.W.keepIn K (.ref qZ)=true
 m_Lnames:mg "_law_names"=some (.ref qL)
 k_Lnames:PySem.W.keepIn K (.ref qL)=true
 m_Lhang:mg "_law_hang"=some (.ref za)
 k_Lhang:PySem.W.keepIn K (.ref za)=true
 m_Lbars:mg "_law_bars"=some (.ref zb)
 k_Lbars:PySem.W.keepIn K (.ref zb)=true
 m_Lplan:mg "_law_plan"=some (.ref qP)
 k_Lplan:PySem.W.keepIn K (.ref qP)=true
 m_Lladder:mg "_law_ladder"=some (.ref qC)
 k_Lladder:PySem.W.keepIn K (.ref qC)=true
 m_Lsoon:mg "_law_soon"=some (.ref qS)
 k_Lsoon:PySem.W.keepIn K (.ref qS)=true
 m_law:mg "law"=some (.ref je)
 k_law:PySem.W.keepIn K (.ref je)=true
section
variable{P:Program}{w:World}{K:fH}{mg:fK}{base:Heap}{qh q_ qi qu qg qr qB qK zA qw qI qZ qL za zb qP qC qS je:Addr}{qU jw q9 zy qH zn zD z_ ki zr zN ja jb jz jA jy zP jx xi:FuncData}{T:Hp->Prop}{hT:HTb T}
variable{fp0:Fp}{ob0:Nat->fN}{tb:Nat->Option D}
theorem sc_worth_with:FnScope gK gG (qp kB):=⟨rfl,rfl,rfl,by decide +kernel,rfl,by decide +kernel,by decide +kernel⟩
theorem wu(Tx:Txt K mg qh q_ qi qu qg qr qB qK zA qw qI qZ qL za zb qP qC qS je)(Fu:Fun K "worth_with" "worth_with" kB qr zn):FnOk P w K mg base CX0 1 qr zn gG (spQ K T (BT K fp0 ob0 tb) 4 (fun ds=>True/\∀_:Unit,True->∃d,zQ T hT K fp0 ob0 tb ds=some d) (fun ds d=>∃_:Unit,True/\zQ T hT K fp0 ob0 tb ds=some d)):=by
 have z:=qbu (T:=T) (hT:=hT) (B:=BT K fp0 ob0 tb) (hB:=hBT) (P:=P) (w:=w) (K:=K) (mg:=mg) (base:=base) (k:=0) (n:=4) (N:=gK) (ps:=gG) (body:=kl T hT K fp0 ob0 tb) (O':=[]) fp0.1 (fun _ _ _ h=>h.e) Fu sc_worth_with rfl (fun cdv A outer s H EX E hr=>
  (qo (VW (vI (qO qm (qO qm (qO qm (qO qm (qO qm kM)))))) (qb (pv 1) (by decide)) (QR rfl (zo qm (qX (qx (i:=4) sc_worth_with.nd rfl (by trivial))) (zo qm (qX (qx (i:=5) sc_worth_with.nd rfl (by trivial))) (zo qm (qX (qx (i:=6) sc_worth_with.nd rfl (by trivial))) (zo qm (qX (qx (i:=7) sc_worth_with.nd rfl (by trivial))) (zo qm (qX (qx (i:=8) sc_worth_with.nd rfl (by trivial))) wf)))))))
  (qo (jf (VS (K3 (huR hr)) o_in (qb (pv 0) (by decide)) (qb (pv 3) (by decide)) rfl)
  (qy (Yc (i:=4) sc_worth_with.nd rfl (by trivial) (by decide) (de_c qe rfl) qbn qah))
  zg)
  (qo (jf (VS (Qn (huR hr)) qa0 (qb (pv 0) (by decide)) (qb (pv 2) (by decide)) rfl)
  (qy (Yc (i:=5) sc_worth_with.nd rfl (by trivial) (by decide) (de_c qe rfl) qbo qai))
  zg)
  (qy (zG (kP (qc (m:=true) (qb (pv 4) (by decide)) (qc (m:=true) (qb (pv 5) (by decide)) (qc (m:=true) (qb (pv 6) (by decide)) (qc (m:=true) (DO.de (zi (qb (pv 7) (by decide)) (de_c qe rfl))) (qc (m:=true) (DO.de (zi (DO.de (jN (qc (m:=true) (qb (pv 0) (by decide)) (qE (m:=true))))) (qb (pv 8) (by decide)))) (qE (m:=true))))))))))))))
 exact z
theorem sc_best_rows:FnScope fZ gB (qp ji):=⟨rfl,rfl,rfl,by decide +kernel,rfl,by decide +kernel,by decide +kernel⟩
theorem yn(Tx:Txt K mg qh q_ qi qu qg qr qB qK zA qw qI qZ qL za zb qP qC qS je){cd:Addr}{lp:Pos}(Fu:FunC K "best_rows" "best_rows" ji qu zy cd)(hc:PySem.W.codeHdIn K cd Pt=true)(BM:Bm base mg)(hto:tb 0=some (.lst (rds.map rdD)))(h64:rds.length<64)(hTT:∀H,T H->TabOk H Pt lpBR lqBR)(hTS:∀H H',T H->SaT Pt H H'->TabOk H' Pt lpBR lqBR->T H')(Ghangs:FnOk P w K mg base CX0 2 q_ jw fW (spP K T 3 false (v9 T hT)))(Bhangs:Binds K jw fW [])(Gworth_of_none:FnOk P w K mg base CX0 1 qg qH ["comes"] (spP K T 1 false (zc T hT)))(Bworth_of_none:Binds K qH ["comes"] [])(Gworth_with:FnOk P w K mg base CX0 1 qr zn gG (spQ K T (BT K fp0 ob0 tb) 4 (fun ds=>True/\∀_:Unit,True->∃d,zQ T hT K fp0 ob0 tb ds=some d) (fun ds d=>∃_:Unit,True/\zQ T hT K fp0 ob0 tb ds=some d)))(Bworth_with:Binds K zn gG []):FnOk P w K mg base CX0 3 qu zy gB (spQ K T (BT K fp0 ob0 tb) 5 (fun ds=>ds[0]?=some (.obj 0)/\∀ω,(List.Perm ω rds/\ω.Pairwise (fun a b=>b.l<=a.l))->∃d,qG T hT K fp0 ob0 tb ω ds=some d) (fun ds d=>∃ω,(List.Perm ω rds/\ω.Pairwise (fun a b=>b.l<=a.l))/\qG T hT K fp0 ob0 tb ω ds=some d)):=by
 obtain⟨t_GOAL,e_GOAL⟩:=Tx.c_GOAL;obtain⟨t_COMES,e_COMES⟩:=Tx.c_COMES;obtain⟨t_NUMBER,e_NUMBER⟩:=Tx.c_NUMBER;obtain⟨t_LEAVES,e_LEAVES⟩:=Tx.c_LEAVES;have z:=ZH (Ω:=List Rd) (T:=T) (hT:=hT) (B:=BT K fp0 ob0 tb) (hB:=hBT) (P:=P) (w:=w) (K:=K) (mg:=mg) (base:=base) (k:=2) (n:=5) (N:=fZ) (ps:=gB) (body:=kU T hT K fp0 ob0 tb) (O':=[]) (Pr:=fun ds=>ds[0]?=some (.obj 0)) (Ok:=fun _ ω=>List.Perm ω rds/\ω.Pairwise (fun a b=>b.l<=a.l)) fp0.1 (fun _ _ _ h=>h.e) Fu sc_best_rows rfl (fun A outer s H EX E hr=>by
  refine jR (qY (t:=tS (W:=WB T hT K fp0 ob0 tb) (cxOf CX0 P w K mg base fZ "best_rows" (qp ji) qu (.ref cd) A outer s H EX).nox E false [] [] (sSet 5 (eLst aNil)) [5])
   (DS.weak (O:=[]) (O1:=[]) (O2:=[5]) (kj (i:=5) sc_best_rows.nd rfl (by trivial) (jN (qE (m:=true)))) (by decide) (by decide))
   (qY (t:=Yt (W:=WB T hT K fp0 ob0 tb) (cxOf CX0 P w K mg base fZ "best_rows" (qp ji) qu (.ref cd) A outer s H EX).nox E false [] [5] (fun g Ok=>((g.v[0]?).join=some (.obj 0))/\∃rds:List Rd,tb 0=some (.lst (rds.map rdD))/\rds.length<64/\∀rds':List Rd,rds'.Perm rds->rds'.Pairwise (fun a b=>b.l<=a.l)->Ok (rds'.map rdD)) (ze 6) (lpB T hT K fp0 ob0 tb)) (KA b8 rfl qm ?SI (qX (qx (i:=6) sc_best_rows.nd rfl (by trivial)))
   (qo (DS.weak (O:=[5]) (O1:=[5]) (O2:=[5,7]) (xz (i:=7) sc_best_rows.nd rfl (by trivial) (T:=["after","worth"]) (caps:=["ride","spans"]) (ix:=[6,1]) (O1:=[]) (kn rfl (by rfl) (by decide +kernel) (by decide +kernel) rfl (by contradiction) (by rfl) (by contradiction)) rfl (by decide) (vI (qO qm (qO qm kM))) (uz (pv 5) (by decide)) (fun _ _ _ _ _=>(QR rfl (zo qm (qX (qx (i:=0) (by show(["after","worth","ride","spans"]:fP).Nodup;decide +kernel) rfl (by trivial))) (zo qm (qX (qx (i:=1) (by show(["after","worth","ride","spans"]:fP).Nodup;decide +kernel) rfl (by trivial))) wf)))) (by decide) (by decide) (fun _ _ _ _ _=>(wd (jV (Wz (hr.mono (by decide)) rfl Tx.m_hangs Tx.k_hangs Bhangs (G:=Ghangs) (ha:=(qc (m:=true) (qb (pv 2) (by decide)) (qc (m:=true) (qb (pv 0) (by decide)) (qc (m:=true) (qb (pv 3) (by decide)) (qE (m:=true)))))))))) (fun _ _ _ _ _=>(qb (pv 1) (by decide)))) (by decide) (by decide))
   (qo (jf (zE (jI (huR hr)) o_eq (qM (huR hr) (qb (pv 6) (by decide)) (de_c (jG (v:=.int 2) rfl e_GOAL ⟨_,rfl⟩) rfl)) (qb (pv 2) (by decide)) (qR _))
   (qy (k_ (pv 7) (by decide) (zT (hr.mono (by decide)) rfl Tx.m_worth_of_none Tx.k_worth_of_none Bworth_of_none (G:=Gworth_of_none) (ha:=(qc (m:=true) (qM (huR hr) (qb (pv 6) (by decide)) (de_c (jG (v:=.int 4) rfl e_COMES ⟨_,rfl⟩) rfl)) (qE (m:=true)))))))
   zg)
   (qy (jf (jV (kO (pv 7) (by decide)))
   (qy (DS.weak (O:=[5,7]) (O1:=[5]) (O2:=[5]) (k_ (pv 5) (by decide) (kP (qc (m:=true) (qb (pv 6) (by decide)) (qc (m:=true) (V3 (hr.mono (by decide)) rfl Tx.m_worth_with Tx.k_worth_with Bworth_with (G:=Gworth_with) (ha:=(qc (m:=true) (qM (huR hr) (qb (pv 6) (by decide)) (de_c (jG (v:=.int 0) rfl e_NUMBER ⟨_,rfl⟩) rfl)) (qc (m:=true) (Jw rfl (huR hr) rfl Tx.b_min (qb (pv 7) (by decide))) (qc (m:=true) (qb (pv 3) (by decide)) (qc (m:=true) (qb (pv 4) (by decide)) (qE (m:=true)))))))) (qE (m:=true)))))) (by decide) (by decide)))
   (DSs.weak (O:=[5,7]) (O1:=[5,7]) (O2:=[5]) zg (by decide) (by decide)))))))
   (u:=tS (W:=WB T hT K fp0 ob0 tb) (cxOf CX0 P w K mg base fZ "best_rows" (qp ji) qu (.ref cd) A outer s H EX).nox E false [] [5] (sRet (eVar 5)) []) (qy (DS.weak (O:=[5]) (O1:=[]) (O2:=[]) (O':=[]) (zG (qb (pv 5) (by decide))) (by decide) (by decide))))) ?fin
  case SI=>exact XO (ko:=0) (i:=0) (c:=cd) (P:=Pt) hTT hTS hr rfl Tx.b_sorted (pv 0) (by decide) rfl hc BM e_LEAVES
  case fin=>
   rintro Dn σ H1 ⟨ds,c,fp,S,pr,q⟩;refine⟨_,c,fp,S,?_⟩;intro σ' H' c' fp' S' le;refine⟨_,c',fp',fun xs=>∃ω:List Rd,xs=ω.map rdD/\List.Perm ω rds/\ω.Pairwise (fun a b=>b.l<=a.l),S',⟨?_,rds,hto,h64,fun ω h1 h2=>⟨ω,rfl,h1,h2⟩⟩,?_⟩
   ·cases ds with
    |nil=>cases pr
    |cons d ds=>cases pr;rfl
   ·rintro xs ⟨ω,rfl,h1,h2⟩
    exact⟨S',Z1 ((q ω ⟨h1,h2⟩).mono le)⟩)
 exact z
theorem sc_least_change:FnScope gA fX (qp zU):=⟨rfl,rfl,rfl,by decide +kernel,rfl,by decide +kernel,by decide +kernel⟩
theorem xo(Tx:Txt K mg qh q_ qi qu qg qr qB qK zA qw qI qZ qL za zb qP qC qS je)(Fu:Fun K "least_change" "least_change" zU qi q9)(Gbest_rows:FnOk P w K mg base CX0 3 qu zy gB (spQ K T (BT K fp0 ob0 tb) 5 (fun(ds:List D)=>ds[0]?=some (.obj 0)/\∀ω,(List.Perm ω rds/\ω.Pairwise (fun a b=>b.l<=a.l))->∃d,qG T hT K fp0 ob0 tb ω ds=some d) (fun(ds:List D)(d:D)=>∃ω,(List.Perm ω rds/\ω.Pairwise (fun a b=>b.l<=a.l))/\qG T hT K fp0 ob0 tb ω ds=some d)))(Bbest_rows:Binds K zy gB [])(Gworth_of_none:FnOk P w K mg base CX0 1 qg qH ["comes"] (spP K T 1 false (zc T hT)))(Bworth_of_none:Binds K qH ["comes"] []):FnOk P w K mg base CX0 4 qi q9 fX (spQ K T (BT K fp0 ob0 tb) 7 (fun ds=>(fun ds=>∃as,qT T hT K fp0 ob0 tb (zI 8 ds ())=.ok as ()/\as.length=5/\(fun(ds:List D)=>ds[0]?=some (.obj 0)/\∀ω,(List.Perm ω rds/\ω.Pairwise (fun a b=>b.l<=a.l))->∃d,qG T hT K fp0 ob0 tb ω ds=some d) as/\∀d,(fun(ds:List D)(d:D)=>∃ω,(List.Perm ω rds/\ω.Pairwise (fun a b=>b.l<=a.l))/\qG T hT K fp0 ob0 tb ω ds=some d) as d->∃xs,d=.lst xs) ds/\∀ω,(fun ds ω=>∃as,qT T hT K fp0 ob0 tb (zI 8 ds ())=.ok as ()/\(fun(ds:List D)(d:D)=>∃ω,(List.Perm ω rds/\ω.Pairwise (fun a b=>b.l<=a.l))/\qG T hT K fp0 ob0 tb ω ds=some d) as (.lst ω)) ds ω->∃d,zu T hT K fp0 ob0 tb ω ds=some d) (fun ds d=>∃ω,(fun ds ω=>∃as,qT T hT K fp0 ob0 tb (zI 8 ds ())=.ok as ()/\(fun(ds:List D)(d:D)=>∃ω,(List.Perm ω rds/\ω.Pairwise (fun a b=>b.l<=a.l))/\qG T hT K fp0 ob0 tb ω ds=some d) as (.lst ω)) ds ω/\zu T hT K fp0 ob0 tb ω ds=some d)):=by
 obtain⟨t_LEAVES,e_LEAVES⟩:=Tx.c_LEAVES;obtain⟨t_START,e_START⟩:=Tx.c_START;obtain⟨t_NUMBERS,e_NUMBERS⟩:=Tx.c_NUMBERS;have z:=W_ (Ω:=List D) (T:=T) (hT:=hT) (B:=BT K fp0 ob0 tb) (hB:=hBT) (P:=P) (w:=w) (K:=K) (mg:=mg) (base:=base) (k:=3) (n:=7) (N:=gA) (ps:=fX) (body:=jQ T hT K fp0 ob0 tb) (O':=[]) (Pr:=(fun ds=>∃as,qT T hT K fp0 ob0 tb (zI 8 ds ())=.ok as ()/\as.length=5/\(fun(ds:List D)=>ds[0]?=some (.obj 0)/\∀ω,(List.Perm ω rds/\ω.Pairwise (fun a b=>b.l<=a.l))->∃d,qG T hT K fp0 ob0 tb ω ds=some d) as/\∀d,(fun(ds:List D)(d:D)=>∃ω,(List.Perm ω rds/\ω.Pairwise (fun a b=>b.l<=a.l))/\qG T hT K fp0 ob0 tb ω ds=some d) as d->∃xs,d=.lst xs)) (Ok:=(fun ds ω=>∃as,qT T hT K fp0 ob0 tb (zI 8 ds ())=.ok as ()/\(fun(ds:List D)(d:D)=>∃ω,(List.Perm ω rds/\ω.Pairwise (fun a b=>b.l<=a.l))/\qG T hT K fp0 ob0 tb ω ds=some d) as (.lst ω))) fp0.1 (fun _ _ _ h=>h.e) Fu sc_least_change rfl (fun cdv A outer s H EX E hr=>by
  refine jR (qY (t:=WN (W:=WB T hT K fp0 ob0 tb) (cxOf CX0 P w K mg base gA "least_change" (qp zU) qi cdv A outer s H EX).nox E false [] [] (PcN (qT T hT K fp0 ob0 tb) 5 (fun(ds:List D)=>ds[0]?=some (.obj 0)/\∀ω,(List.Perm ω rds/\ω.Pairwise (fun a b=>b.l<=a.l))->∃d,qG T hT K fp0 ob0 tb ω ds=some d) (fun(ds:List D)(d:D)=>∃ω,(List.Perm ω rds/\ω.Pairwise (fun a b=>b.l<=a.l))/\qG T hT K fp0 ob0 tb ω ds=some d)) 7 2 [4,2] (pTup 2 (z8 (ze 0) (z8 (ze 1) pNil))) (qAnd (qCmp eqD (M.e2 ixD (eVar 0) (eC (.int 1))) (eVar 3)) (qCmp geI (M.e2 ixD (eVar 0) (eC (.int 3))) (eVar 2))) (eVar 1))
   (XI (i:=7) sc_least_change.nd rfl (by trivial) (T:=["ride","worth"]) (caps:=["since","start"]) (ix:=[4,2]) (O1:=[]) (kn rfl (by rfl) (by decide +kernel) (by decide +kernel) rfl (by contradiction) (by rfl) (by contradiction)) rfl (by decide) (vI (qO qm (qO qm kM))) ?HI (fun _ _ _ _ _=>(QR rfl (zo qm (qX (qx (i:=0) (by show(["ride","worth","since","start"]:fP).Nodup;decide +kernel) rfl (by trivial))) (zo qm (qX (qx (i:=1) (by show(["ride","worth","since","start"]:fP).Nodup;decide +kernel) rfl (by trivial))) wf)))) (by decide) (by decide) (fun _ _ _ _ _=>(wd (DW.dt (Jq (zE (jI (huR hr)) o_eq (qM (huR hr) (qb (pv 0) (by decide)) (de_c (jG (v:=.int 1) rfl e_START ⟨_,rfl⟩) rfl)) (qb (pv 3) (by decide)) (qR _)) (yH (zE K4 o_ge (qM (huR hr) (qb (pv 0) (by decide)) (de_c (jG (v:=.int 3) rfl e_LEAVES ⟨_,rfl⟩) rfl)) (qb (pv 2) (by decide)) (qR _))))))) (fun _ _ _ _ _=>(qb (pv 1) (by decide))))
   (u:=tS (W:=WB T hT K fp0 ob0 tb) (cxOf CX0 P w K mg base gA "least_change" (qp zU) qi cdv A outer s H EX).nox E false [] [7] (sSeq (sIf (qCmp eqD (eVar 2) (eVar 3))
(sApp 7 (zO 1 (zc T hT) (qf (eVar 4) aNil)))
sNil)
(sSeq (sIf (qNot (qTru (eVar 7)))
(sRet (eC .non))
sNil)
(sRet (e2 ixD (e1 (minO true) (eVar 7)) (eC (.int 4)))))) [])
   (qo (jf (zE (jI (huR hr)) o_eq (qb (pv 2) (by decide)) (qb (pv 3) (by decide)) (qR _))
   (qy (k_ (pv 7) (by decide) (zT (hr.mono (by decide)) rfl Tx.m_worth_of_none Tx.k_worth_of_none Bworth_of_none (G:=Gworth_of_none) (ha:=(qc (m:=true) (qb (pv 4) (by decide)) (qE (m:=true)))))))
   zg)
   (qo (jf (wM (jV (kO (pv 7) (by decide))))
   (qy (zG (de_c xb rfl)))
   zg)
   (qy (DS.weak (O:=[7]) (O1:=[]) (O2:=[]) (O':=[]) (zG (qM (huR hr) (Jw rfl (huR hr) rfl Tx.b_min (qb (pv 7) (by decide))) (de_c (jG (v:=.int 4) rfl e_NUMBERS ⟨_,rfl⟩) rfl))) (by decide) (by decide)))))) ?fin
  case HI=>
   refine qcb ?_;unfold qT;exact(KL (hr.mono (by decide)) rfl Tx.m_best_rows Tx.k_best_rows Bbest_rows (G:=Gbest_rows) (ha:=(qc (m:=true) (qb (pv 0) (by decide)) (qc (m:=true) (qb (pv 1) (by decide)) (qc (m:=true) (qb (pv 3) (by decide)) (qc (m:=true) (qb (pv 5) (by decide)) (qc (m:=true) (qb (pv 6) (by decide)) (qE (m:=true)))))))))
  case fin=>
   rintro Dn σ H1 ⟨ds,c,fp,S,⟨as,ea,la,pa,ha⟩,q⟩;exact⟨_,c,fp,fun xs=>(fun(ds:List D)(d:D)=>∃ω,(List.Perm ω rds/\ω.Pairwise (fun a b=>b.l<=a.l))/\qG T hT K fp0 ob0 tb ω ds=some d) as (.lst xs),S,⟨as,ea,la,pa,ha,fun xs h=>h⟩,fun xs h=>⟨S,Z1 (q xs ⟨as,ea,h⟩)⟩⟩)
 exact z
end
end M
namespace X2
open PySem PySem.Spec PyProof.Rows L2
variable{out:List (Str×Int)}
def wO(acc:fP)(x:Str):fP:=if x∈acc then acc else acc++[x]
def dd(l:fP):fP:=l.foldl wO []
theorem ZM(l:fP)(x:Str):dd (l++[x])=wO (dd l) x:=by unfold dd;rw[List.foldl_append];rfl
structure DdOk(l m:fP):Prop where
 nd:m.Nodup
 sub:∀x∈m,x∈l
 all:l.Nodup->m=l
 le:m.length<=l.length
theorem DdOk.snoc{l m:fP}{x:Str}(h:DdOk l m):DdOk (l++[x]) (wO m x):=by
 unfold wO
 by_cases e:x∈m
 ·rw[aF e]
  refine⟨h.nd,fun y hy=>aU _ (h.sub y hy),fun hn=>?_,by have:=h.le;simp;omega⟩;rw[bY]at hn;exact absurd rfl (hn.2.2 x (h.sub x e) x (by simp))
 ·rw[aG e]
  refine⟨?_,fun y hy=>?_,fun hn=>?_,by have:=h.le;simp;omega⟩
  ·rw[bY]
   refine⟨h.nd,by simp,fun a ha b hb=>?_⟩;rw[au.mp hb];exact fun z=>e (z▸ha)
  ·rcases aQ.mp hy with q|q
   ·exact aU _ (h.sub y q)
   ·exact az _ q
  ·rw[bY]at hn
   rw[h.all hn.1]
theorem ddOk(l:fP):DdOk l (dd l):=by
 have:∀n,DdOk (l.take n) (dd (l.take n)):=fun n=>by
  induction n with
  |zero=>rw[f9];exact⟨f7,(fun _ h=>nomatch h),fun _=>rfl,ak _⟩
  |succ n ih=>
   cases e:l[n]? with
   |none=>
    have:l.take (n+1)=l.take n:=by rw[List.take_succ,e];simp
    rw[this];exact ih
   |some x=>rw[dP e,ZM];exact ih.snoc
 have q:=this l.length;rw[cn]at q;exact q
theorem dd_len{l:fP}:(dd l).length=l.length↔l.Nodup:=by
 have h:=ddOk l;constructor
 ·intro e
  by_cases n:l.Nodup
  ·exact n
  ·obtain⟨m,h1,h2⟩:=wc n
   have:=h.nd.length_le_of_subset (l₂:=m) fun x hx=>h1 x (h.sub x hx)
   omega
 ·intro n;rw[h.all n]
section
variable{prog:Program}{w:World}{A:Around}{R:Result->Shared->Prop}{I:Addr}{fp wr:fL}{G:Array GenState->Array GenState->Prop}{n:Nat}{P:Nat->Value->Prop}{St:Nat->Shared->Prop}
theorem JL(W:WalksS prog w A.in1 I fp wr G n P St)(S:Addr)(hSf:S∉fp)(ts:fP)(hn:ts.length=n)(hval:∀i v,P i v->∃x t,ts[i]?=some x/\v=.str x t)(hb:n+1<scanBound) :
  ∀(k i:Nat)(s:Shared),n - i=k->i<=n->St i s->s.heap.SetOf (strKind prog w) S (fun k'=>(dd (ts.take i)).any (· == k')) (dd (ts.take i)).length->
   (∀s',Moved (S::wr) G s s'->s'.heap.SetOf (strKind prog w) S (fun k'=>(dd (ts.take n)).any (· == k')) (dd (ts.take n)).length->R (.ok (.ret .none)) s')->
   codeAny (model prog w) A (.builtin "set.update.loop" ⟨[.ref S,.ref I],[]⟩) R s:=by
 have hSw:S∉wr:=fun h=>hSf (W.sub _ h)
 have up:∀b∈wr,b∈S::wr:=fun b hb=>av _ hb
 intro k
 induction k with
 |zero=>
  intro i s hk hi hst hS hR;have e:i=n:=by omega
  subst e;refine bO F.entry_set_update_loop ?_;rw[bu d9 _];show wpAny _ A.in1 (pyNext (.ref I) >>= _) _ _ s;refine af (W.done s _ _ hst fun s' hm=>?_);show wpAny _ A.in1 (ret Value.none) _ _ s';refine aw (hR s' (hm.mono up) ?_);obtain⟨o,es,ep,t,ho,rest⟩:=hS;exact⟨o,es,ep,t,hm.heap S _ hSw ho,rest⟩
 |succ k ih=>
  intro i s hk hi hst hS hR;have lt:i<n:=by omega
  refine bO F.entry_set_update_loop ?_;rw[bu d9 _];show wpAny _ A.in1 (pyNext (.ref I) >>= _) _ _ s;refine af (W.item i s _ _ lt hst fun v s' hP hst' hm=>?_);obtain⟨x,t,hx,rfl⟩:=hval i v hP;have hS':s'.heap.SetOf (strKind prog w) S (fun k'=>(dd (ts.take i)).any (· == k')) (dd (ts.take i)).length:=by
   obtain⟨o,es,ep,tb,ho,rest⟩:=hS;exact⟨o,es,ep,tb,hm.heap S _ hSw ho,rest⟩
  have room:(dd (ts.take i)).length<=i:=by
   have:=(ddOk (ts.take i)).le;rw[bF]at this;omega
  show wpAny _ A.in1 (holding [Value.str x t] (setAdd S (.str x t)) >>= _) _ _ s';refine af (bQ ?_);unfold setAdd;refine bQ ?_;refine af ((strKind prog w).pyHash (k:=x) (strKind_is _ _ _ _) ?_);refine wpAny_setAddHashed_of (knd:=strKind prog w) (s:={ s' with toks:=s'.toks+1 }) (strKind_is _ _ _ _) rfl hS' (by omega) fun h' hsb hS2=>?_
  have hSi:h'.SetOf (strKind prog w) S (fun k'=>(dd (ts.take (i+1))).any (· == k')) (dd (ts.take (i+1))).length:=
   SetOf_congr hS2 (fun k'=>by
    rw[dP hx,ZM];unfold wO
    by_cases m:x∈dd (ts.take i)
    ·rw[aF m]
     by_cases e:k'=x
     ·subst e
      have:((dd (ts.take i)).any (· == k'))=true:=b7.mpr ⟨k',m,by simp⟩;simp[this]
     ·simp[e]
    ·rw[aG m,List.any_append]
     by_cases e:k'=x
     ·subst e;simp
     ·have e1:¬ x=k':=fun z=>e z.symm
      simp[e,e1]) (by
    rw[dP hx,ZM];unfold wO
    by_cases m:x∈dd (ts.take i)
    ·have:((dd (ts.take i)).any (· == x))=true:=b7.mpr ⟨x,m,by simp⟩
     rw[aF m];simp[this]
    ·have:((dd (ts.take i)).any (· == x))=false:=by
      rw[Bool.eq_false_iff];intro z;obtain⟨y,hy,e⟩:=b7.mp z;have e':y=x:=by simpa using e
      exact m (e'▸hy)
     rw[aG m];simp[this])
  refine aw ⟨cf d9 _,ih (i+1) _ (by omega) lt (W.frame _ s' _ _ hst' (fC _) fun b hb o e=>?_) hSi fun s'' hm'' hS''=>?_⟩
  ·rw[hsb.2 b (fun h:b=S=>hSf (by rw[<- h];exact hb))];exact e
  ·refine hR s'' (Moved.trans W.gtrans ((hm.mono up).then_heap (fC _) fun b o hb e=>?_) hm'') hS''
   rw[hsb.2 b (fun h:b=S=>hb (by rw[h];exact ar))];exact e
end
section
variable{prog:Program}{w:World}{A:Around}{E:fJ}{s:Shared}
theorem wX{l:Addr}{items:fO}{ts:fP}{Q:fJ}(hh:A.handled=none)(hl:s.heap.IsList l items)(hi:∀(i:Nat) v,items[i]?=some v->∃x t,ts[i]?=some x/\v=.str x t)(hn:ts.length=items.size)(hb:items.size+1<scanBound)
  (h:∀(h':Heap)(tk:Nat),h'.SetOf (strKind prog w) s.heap.objs.size (fun k'=>(dd (ts.take items.size)).any (· == k')) (dd (ts.take items.size)).length->(∀b o,b<s.heap.objs.size->s.heap.get? b=some o->h'.get? b=some o)->Q (.ref s.heap.objs.size) { s with heap:=h',toks:=tk }) :
  wpAny (model prog w) A (call (.type "set") [.ref l]) Q E s:=by
 obtain⟨c,tl,hmro⟩:=bU.mro;have hmade:=bU.made;have hsub:=bU.sub;refine wpAny_call (codeAny_of_tree ?_);show wpAny _ _ (callAny (.type "set") _) _ _ _;refine aw ⟨Code.quiet_builtin _ (by decide +kernel),bO PySem.F.entry_type_call ?_⟩;rw[Around.under_plain (weight_type_call_type "set" [.ref l] []) rfl];have h1:=bU.notType;have h2:=bU.canCreate;have hct:=PySem.F.typeCall_set_1 (.ref l)
 repeat (any_goals (first|assumption|wp_step))
 let fresh (led:Bool):Obj:={ cls:=.type "set",dict:=none,data:=.set #[] 0 (.fresh 0 0 led) };refine eL (code_set_new_1 (.ref l) (E:=E) (Q₁:=fun obj s₁=>∃led:Bool,obj=.ref s.heap.objs.size/\s₁={ s with heap:=s.heap.push { cls:=.type "set",dict:=none,data:=.set #[] 0 (.fresh 0 0 led) } }) fun led=>⟨led,rfl,rfl⟩) fun r s₁ hr=>?_
 cases r with
 |error e=>exact hr
 |ok fl=>
  cases fl with
  |ret obj=>
   obtain⟨led,rfl,rfl⟩:=hr;have hS:(s.heap.push { cls:=.type "set",dict:=none,data:=.set #[] 0 (.fresh 0 0 led) }).get? s.heap.objs.size=some { cls:=.type "set",dict:=none,data:=.set #[] 0 (.fresh 0 0 led) }:=aB _ rfl;have hT:Shared.TypeIs { s with heap:=s.heap.push { cls:=.type "set",dict:=none,data:=.set #[] 0 (.fresh 0 0 led) } } (.ref s.heap.objs.size) "set":=⟨_,hS,rfl⟩;have hli:=bU.init.lookup;have hbi:=bU.init.bind (.ref s.heap.objs.size)
   repeat (any_goals (first|assumption|wp_step))
   refine eL (codeAny_call_builtin (R:=wants (fun r s₂=>r=.none/\∃h' tk,s₂={ s with heap:=h',toks:=tk }/\
     h'.SetOf (strKind prog w) s.heap.objs.size (fun k'=>(dd (ts.take items.size)).any (· == k')) (dd (ts.take items.size)).length/\(∀b o,b<s.heap.objs.size->s.heap.get? b=some o->h'.get? b=some o)) E) bU.init.plain PySem.F.entry_set_init (check_set_init_1 hT ?_)) fun r₂ s₂ hr₂=>?_
   ·obtain⟨⟨ocls,odict,odata,oslots⟩,hol,hcl,nl,hdl⟩:=hl
    simp only at hcl hdl;subst hcl;subst hdl;have hol':(s.heap.push { cls:=.type "set",dict:=none,data:=.set #[] 0 (.fresh 0 0 led) }).get? l=some { cls:=.type "list",dict:=odict,data:=.seq items nl,slots:=oslots }:=ae _ hol;have hsls:=PySem.F.sub_list_set;have hslf:=PySem.F.sub_list_frozenset;have hne:(Value.type "list" == Value.type "dict")=false:=by decide
    have hl1:(s.heap.push { cls:=.type "set",dict:=none,data:=.set #[] 0 (.fresh 0 0 led) }).IsList l items:=⟨_,hol',rfl,nl,rfl⟩;unfold Builtin.«set.__init__» noKeywords Builtin.Frozenset.updateFrom;generalize hPI:pyIter=PI
    wp_walk
    subst hPI;refine dC hl1 (af (wpAny_runValue ?_));have hlS:l<s.heap.objs.size:=ao hol;have z3:A.in1.in1.in1.handled=none:=by simp[hh]
    have neI:l≠(s.heap.push { cls:=.type "set",dict:=none,data:=.set #[] 0 (.fresh 0 0 led) }).objs.size:=by
     rw[bZ];exact aq (cZ hlS)
    have nSf:s.heap.objs.size∉[(s.heap.push { cls:=.type "set",dict:=none,data:=.set #[] 0 (.fresh 0 0 led) }).objs.size,l]:=by
     rw[bZ];simp only[aj,au,ax,cK,not_or];exact⟨aq (bV _),fj hlS⟩
    refine JL ((Walks.list z3 _ l neI items).toS) s.heap.objs.size nSf ts hn hi hb (items.size - 0) 0 _ (by omega) (aV _) ⟨⟨_,aB _ rfl,rfl,rfl⟩,(hl1.push _)⟩ ?hS0 ?hR
    case hS0=>
     have hget:((s.heap.push { cls:=.type "set",dict:=none,data:=.set #[] 0 (.fresh 0 0 led) }).push { cls:=.type "list_iterator",data:=.fields #[.ref l,.int 0 0] }).get? s.heap.objs.size=some { cls:=.type "set",dict:=none,data:=.set #[] 0 (.fresh 0 0 led) }:=ae _ hS;exact SetOf_congr ((setObjOf_fresh (knd:=strKind prog w) led).setOf hget (by unfold scanBound;omega)) (fun _=>rfl) rfl
    case hR=>
     intro s' hm hS';obtain⟨h',g',d',tk',os'⟩:=s';have eg:g'=s.gens:=hm.gens;have ed:d'=s.drawn:=hm.drawn;have eo:os'=s.os:=hm.os;subst eg;subst ed;subst eo;show wpAny _ _ _ _ _ _;refine aw ?_;show wpAny _ _ (ret Value.none) _ _ _;refine aw ⟨rfl,h',tk',rfl,hS',fun b o hb e=>?_⟩;have hb2:b≠(s.heap.push { cls:=.type "set",dict:=none,data:=.set #[] 0 (.fresh 0 0 led) }).objs.size:=by
      rw[bZ];exact aq (cZ hb)
     exact hm.heap b o (by simp only[aj,au,ax,cK,not_or];exact⟨aq hb,hb2⟩) (ae _ (ae _ e))
   ·cases r₂ with
    |error e=>exact hr₂
    |ok fl₂=>
     cases fl₂ with
     |ret r=>
      obtain⟨rfl,h',tk,rfl,hS',hk'⟩:=hr₂
      repeat (any_goals (first|assumption|wp_step))
      exact h _ _ hS' hk'
     |_=>exact hr₂.elim
  |_=>exact hr.elim
end
theorem J4{X:Cx}(hcm:X.calm=true):CallR X (.type "set") (fun xs H Q=>∃(p:Addr)(ns:fP),xs=[.ref p]/\SqL X.K H p (ns.map V.str)/\ns.length<64/\∀v,H v=none->Q (.ref v) (upd H v (WK v (dd ns).length))):=by
 intro pins s σ H xs us Q I r h;obtain⟨p,ns,rfl,hp,h64,q⟩:=h;obtain⟨u,rfl,ru⟩:=eW r;cases (show u=Value.ref p from ru);obtain⟨its,rv,pl,hz⟩:=I.list hp;have lr:its.length=ns.length:=by rw[<- rv.length,ab]
 have sa:=ZX rv;refine wX (ts:=ns) (I.ok.hd hcm) pl.isList (fun i v hv=>?_) (by rw[ah,lr]) (by rw[ah,lr];unfold scanBound;omega) fun h' tk hS keep=>?_
 ·rw[List.getElem?_toArray]at hv
  clear pl rv hz hp q lr h64
  induction sa generalizing i with
  |nil=>simp at hv
  |cons x t hr ih=>
   cases i with
   |zero=>simp at hv;exact⟨x,t,rfl,hv.symm⟩
   |succ i=>simp only[List.getElem?_cons_succ]at hv ⊢;exact ih i hv
 ·refine⟨.ref s.heap.objs.size,_,I.laid (t':=tk) (a:=s.heap.objs.size) (o:=WK s.heap.objs.size (dd ns).length) (fun b o e=>keep b o (ao e) e) (ak _) ?_,rfl,q _ (I.hok.fresh (ak _))⟩
  obtain⟨o,es,ep,t,ho,hex,hd,_,_,_,hf,hn⟩:=hS;refine⟨⟨o,es,ep,t,ho,hex,hd,hf,by rw[hn,ah,lr,cn]⟩,⟨o,ho⟩,fun h1 h2⟨o,es,ep,t,e1,e2⟩ k=>⟨o,es,ep,t,k _ e1,e2⟩⟩
def ZZ:Sp:=fun vs H Q _=>∃(pr ps pp:Addr)(xs:List V)(kvs:List (Key×V))(ds:List Rd)(st go:Str)(si:Int)(out:List (Str×Int))(qs:fL),vs=[.ref pr,.ref ps,.str st,.str go,.int si,.ref pp]/\H pr=some (.lst xs)/\H ps=some (.dK kvs)/\Rw H kvs xs ds/\PrsAt H pp out qs/\out.length<=60/\
 ∀(b:Bool)(H':Hp),Same H H'->(b=true↔Bars (spn kvs) ds st go si out)->Q (.bl b) H'
theorem Z4(nd:(out.map Prod.fst).Nodup){x:Str}{m n:Int}(h:(x,m)∈out):rdy out x n=decide (m<=n):=by
 unfold rdy;rw[(mem_lookup nd).mp h]
theorem qaa(nd:(out.map Prod.fst).Nodup){x:Str}{n:Int}(h:∀m,(x,m)∉out):rdy out x n=false:=by
 unfold rdy;cases e:out.lookup x with
 |none=>rfl
 |some m=>exact absurd ((mem_lookup nd).mpr e) (h m)
end X2
namespace M
open PySem L2 X2
section
variable{P:Program}{w:World}{K:fH}{mg:fK}{base:Heap}{qh q_ qi qu qg qr qB qK zA qw qI qZ qL za zb qP qC qS je:Addr}{qU jw q9 zy qH zn zD z_ ki zr zN ja jb jz jA jy zP jx xi:FuncData}{T:Hp->Prop}{hT:HTb T}
variable{fp0:Fp}{ob0:Nat->fN}{tb:Nat->Option D}
def lpS:Pos:=⟨41,65,41,90⟩
section
variable{Pt:Addr}
theorem Ze:FnScope gF gF (qp vR):=⟨rfl,rfl,rfl,by decide +kernel,rfl,by decide +kernel,by decide +kernel⟩
theorem Zt(T:Txt K mg qh q_ qi qu qg qr qB qK zA qw qI qZ qL za zb qP qC qS je)(F:Fun K "ready_by" "ready_by" vR qw zr):FnOk P w K mg base CX0 1 qw zr gF Q_:=by
 refine F.ok Ze (fun vs H Q E h=>?_) (fun cdv A outer s H vs Q E hr h=>?_)
 ·obtain⟨p,ps,x,m,rfl,_⟩:=h
  rfl
 obtain⟨p,ps,x,m,rfl,hp,k⟩:=h;have hu:=VF hr;refine⟨_,
  (zC (jS (WY (qap (WZ hu (pv 1) (pv 0)) rfl) (WX (KW YZ (xM hu (pv 0) (pv 1) (fun _ _=>rfl)) (pv 2) (qR _)))))),?_⟩
 refine⟨_,rfl,_,rfl,p,_,rfl,DGet.k (k:=Sum.inr x) hp,?_⟩;cases e:ps.lookup x with
 |none=>
  have e1:valV (toDK ps) (Sum.inr x:Key)=none:=by rw[xB,e];rfl
  rw[e1];refine⟨_,rfl,?_⟩;refine iteN (by decide) ?_;have:rdy ps x m=false:=by unfold rdy;rw[e]
  rw[this]at k;exact k
 |some z=>
  have e1:valV (toDK ps) (Sum.inr x:Key)=some (.int z):=by rw[xB,e];rfl
  rw[e1];refine⟨_,rfl,?_⟩;refine iteP rfl ?_;have:rdy ps x m=decide (z<=m):=by unfold rdy;rw[e]
  rw[this]at k;exact⟨_,rfl,_,rfl,p,_,rfl,e1▸DGet.k (k:=Sum.inr x) hp,_,rfl,_,_,rfl,rfl,k⟩
theorem sc_soonest:FnScope ["rides","spans","start","since","ready","number","begins","ends","leaves","comes","moment"] gC (qp xF):=⟨rfl,rfl,rfl,by decide +kernel,rfl,by decide +kernel,by decide +kernel⟩
theorem JP(T:Txt K mg qh q_ qi qu qg qr qB qK zA qw qI qZ qL za zb qP qC qS je){c:Addr}(F:FunC K "soonest" "soonest" xF qB zD c)(hc:PySem.W.codeHdIn K c Pt=true)(BM:Bm base mg)(Gready_by:FnOk P w K mg base CX0 1 qw zr gF Q_)(Bready_by:Binds K zr gF []):FnOk P w K mg base CX0 2 qB zD gC (Kg K Pt lpS):=by
 obtain⟨t_LEAVES,e_LEAVES⟩:=T.c_LEAVES;refine F.ok sc_soonest (fun vs H Q E h=>?_) (fun A outer s H vs Q E hr h=>?_)
 ·obtain⟨pr,ps,xs,kvs,ds,ns,st,si,rfl,_⟩:=h
  rfl
 obtain⟨pr,ps,xs,kvs,ds,ns,st,si,rfl,hpr,hps,rw_,l64,G,n5,hst,hds,tab,k⟩:=h;have hu:=VF hr;refine⟨_,
  (qY (wE (i:=4) sc_soonest.nd rfl (by trivial) (KU (Ja (pv 2) (pv 3) KD) rfl rfl (by intro z;cases z) (by show 1<=15;decide)))
  (qY (wF b8 rfl (jm (XS (ix:=3) hr rfl T.b_sorted (pv 0) rfl hc BM e_LEAVES)) (Qi rfl (zj (qx (i:=5) sc_soonest.nd rfl (by trivial)) (zj (qx (i:=6) sc_soonest.nd rfl (by trivial)) (zj (qx (i:=7) sc_soonest.nd rfl (by trivial)) (zj (qx (i:=8) sc_soonest.nd rfl (by trivial)) (zj (qx (i:=9) sc_soonest.nd rfl (by trivial)) kF))))))
  (zC (xK (Qg (jH Gready_by hr rfl T.m_ready_by T.k_ready_by Bready_by .nil xN (qA (pv 4) (qA (pv 6) (qA (pv 8) zx)))))
  (qY (wE (i:=10) sc_soonest.nd rfl (by trivial) (KR Jf (pv 9) (xM hu (pv 1) (pv 7) (fun _ _=>rfl))))
  (zC (xK (Qh (Qg (jH Gready_by hr rfl T.m_ready_by T.k_ready_by Bready_by .nil xN (qA (pv 4) (qA (pv 7) (qA (pv 10) zx))))))
  (zC (KB hu (pv 4) (pv 7) (pv 10) rfl))
  jF)))
  jF)))
  (zC (jS (z7 (xu rfl) rfl T.b_sorted bt_sorted (qA (qaq PySem.F.plainAttrs_dict PySem.F.slot_dict_items PySem.F.type_dict_items X_ (pv 4)) zx)))))),?_⟩
 intro pd npd;refine⟨_,rfl,_,rfl,ql,[((Sum.inr st:Key),V.int si)],rfl,(by show 1<=15;decide),?_⟩;have e0:upd (upd H pd (.dK [])) pd (.dK (wI [] [((Sum.inr st:Key),V.int si)]))=upd H pd (.dK (toDK [(st,si)])):=by
  funext b
  by_cases hb:b=pd
  ·subst hb;rw[ql,ql];rfl
  ·rw[qk hb,qk hb,qk hb]
 rw[e0];have t1:=zm npd (.dK (toDK [(st,si)]));have lds:(ds.map (·.l)).length=xs.length:=by rw[ab,jX rw_]
 refine⟨_,rfl,pr,xs,ds.map (·.l),rfl,SqL.of (t1 _ _ hpr),l64,lds,?items,tab.mono t1,?_⟩
 case items=>
  intro i x kk hx hk;obtain⟨d,hd,q,e,g,_⟩:=vq rw_ hx;rw[ag,hd]at hk;cases hk;exact⟨q,_,e,t1 _ _ g,rfl⟩
 intro D out H2 s2 tab2 nD hD ko;obtain⟨ds',rw',pm,pw⟩:=JT (vf (fun _ _ r=>r.mono t1) rw_) ko;have rw2:Rw H2 kvs out ds':=vf (fun _ _ r=>r.saT s2) rw';have hpd2:H2 pd=some (.dK (toDK [(st,si)])):=s2.keep _ _ ql rfl;have hps2:H2 ps=some (.dK kvs):=s2.keep _ _ (t1 _ _ hps) rfl;have nps:ps≠pd:=qQ hps npd;have nDp:D≠pd:=Vf hD hpd2 fun z=>nomatch z
 have S02:SaT Pt H H2:=(SaT.of t1).trans s2;have pmem:∀d,d∈ds'↔d∈ds:=fun d=>pm.mem_iff
 refine⟨D,rfl,⟨_,SqL.of hD⟩,xy (xs:=out) (fun i σ H3=>∃(ms:List (Str×Int))(u1 u2 u3 u4 u5 u6:Option V),σ=[some (.ref pr),some (.ref ps),some (.str st),some (.int si),some (.ref pd),u1,u2,u3,u4,u5,u6]/\H3 pd=some (.dK (toDK ms))/\Sx pd H2 H3/\Soon (spn kvs) ds (ds'.take i) st si ms) ⟨[(st,si)],_,_,_,_,_,_,rfl,hpd2,Sx.refl,by rw[f9];exact Soon.nil⟩ ?_ ?_ ?_⟩
 ·rintro i σ H3 hi ⟨ms,u1,u2,u3,u4,u5,u6,rfl,hp3,sx,S⟩
  exact SqL.of (sx _ _ nDp hD)
 ·rintro i x σ H3 hx ⟨ms,u1,u2,u3,u4,u5,u6,rfl,hp3,sx,S⟩
  obtain⟨d,hd,r⟩:=vq rw2 hx;obtain⟨q,rfl,g,v⟩:=r.sx sx hpd2;have md:d∈ds:=(pmem d).mp (ay hd);have et:ds'.take (i+1)=ds'.take i++[d]:=dP hd;have before:∀e∈ds'.take i,e.l<=d.l:=fun e he=>by
   obtain⟨j,hj⟩:=aX.mp he;rw[eM]at hj
   split at hj
   ·rename_i hji
    obtain⟨hj1,rfl⟩:=ai.mp hj;obtain⟨hd1,rfl⟩:=ai.mp hd;exact dq.mp pw j i hj1 hd1 hji
   ·cases hj
  have len5:ms.length<=5:=bj (S.small hst hds) n5;refine⟨q,_,rfl,SqT.of g,rfl,_,_,rfl,_,_,rfl,_,_,rfl,_,_,rfl,_,_,rfl,rfl,?_⟩;refine⟨_,rfl,_,rfl,_,rfl,pd,ms,_,_,rfl,hp3,_,rfl,?_⟩;cases h1:rdy ms d.a d.l with
  |false=>
   refine iteN (by decide) ⟨ms,_,_,_,_,_,_,rfl,hp3,sx,?_⟩;rw[et];exact S.skip fun z=>absurd z (by rw[h1];decide)
  |true=>
   refine iteP rfl ?_;refine⟨_,rfl,_,rfl,_,rfl,ps,_,rfl,v▸DGet.k (k:=Sum.inr d.b) (sx _ _ nps hps2),_,_,rfl,rfl,?_⟩;refine⟨_,rfl,_,rfl,_,rfl,pd,ms,_,_,rfl,hp3,_,rfl,?_⟩;cases h2:rdy ms d.b (d.c+spn kvs d.b)with
   |true=>
    refine iteN (by decide) ⟨ms,_,_,_,_,_,_,rfl,hp3,sx,?_⟩;rw[et];exact S.skip fun _=>h2
   |false=>
    refine iteP rfl ⟨_,rfl,_,rfl,_,rfl,pd,_,rfl,DPut.k (k:=Sum.inr d.b) hp3 (jt (by rw[toDK,ab];omega)),?_⟩;rw[Qf];refine⟨_,_,_,_,_,_,_,rfl,ql,sx.put _,?_⟩;rw[et];exact S.step G md before h1 h2
 ·rintro σ H3 ⟨ms,u1,u2,u3,u4,u5,u6,rfl,hp3,sx,S⟩
  have ef:ds'.take out.length=ds':=by rw[jX rw2,cn]
  rw[ef]at S;have len5:ms.length<=5:=bj (S.small hst hds) n5;refine⟨_,rfl,.inr (.inr (.inl ⟨rfl,.inl ⟨_,hp3⟩⟩)),pd,_,rfl,rfl,hp3,fun v nv=>?_⟩;have tv:=zm nv (JE v pd);refine⟨v,pd,ms,rfl,ql,tv _ _ hp3,len5,fun l o qs H4 s4 nl opm opw hl lq its nq=>?_⟩;have S3:SaT Pt H H3:=S02.sx sx npd;have S4:SaT Pt H H4:=(S3.trans (SaT.of tv)).trans (SaT.of s4);have tab4:=((tab2.sx sx hpd2).mono tv).mono s4;exact k l o qs H4 S4 tab4 ((S3.trans (SaT.of tv)).free nl) opw hl lq its (fun a ha=>(S3.trans (SaT.of tv)).free (nq a ha)) fun x m=>by rw[opm.mem_iff];exact S.least G fun d hd=>(pmem d).mpr hd
theorem sc_no_way:FnScope g9 gH (qp w6):=⟨rfl,rfl,rfl,by decide +kernel,rfl,by decide +kernel,by decide +kernel⟩
theorem K5(T:Txt K mg qh q_ qi qu qg qr qB qK zA qw qI qZ qL za zb qP qC qS je)(F:Fun K "no_way" "no_way" w6 qK z_)(Gsoonest:FnOk P w K mg base CX0 2 qB zD gC (Kg K Pt lpS))(Bsoonest:Binds K zD gC []):FnOk P w K mg base CX0 3 qK z_ gH (Kh K Pt lpS):=by
 refine F.ok sc_no_way (fun vs H Q E h=>?_) (fun cdv A outer s H vs Q E hr h=>?_)
 ·obtain⟨pr,ps,xs,kvs,ds,ns,st,go,si,rfl,_⟩:=h
  rfl
 obtain⟨pr,ps,xs,kvs,ds,ns,st,go,si,rfl,hpr,hps,rw_,l64,G,n5,hst,hds,tab,k⟩:=h;have hu:=VF hr;refine⟨_,
  (qY (wE (i:=5) sc_no_way.nd rfl (by trivial) (jH Gsoonest hr rfl T.m_soonest T.k_soonest Bsoonest .nil xN (qA (pv 0) (qA (pv 1) (qA (pv 2) (qA (pv 4) zx))))))
  (qY (xK (jl Qo (pv 3) (Zp (T:=gM) (caps:=[]) (ix:=[]) (kn rfl (by rfl) (by decide +kernel) (by decide +kernel) rfl (by contradiction) (by rfl) (by contradiction)) rfl (jm (pv 5)) (fun _ _ _ _=>(yj (n:=2) K rfl rfl (zj (qx (i:=0) (by show(gM:fP).Nodup;decide +kernel) rfl (by trivial)) (zj (qx (i:=1) (by show(gM:fP).Nodup;decide +kernel) rfl (by trivial)) kF)))) (fun _ _ _ _=>xJ) (fun _ _ _ _=>(pv 0))) rfl)
  (zC (jS xb))
  jF)
  (zC (jS (pv 5))))),?_⟩
 refine⟨_,rfl,_,rfl,_,rfl,_,rfl,pr,ps,xs,kvs,ds,ns,st,si,rfl,hpr,hps,rw_,l64,G,n5,hst,hds,tab,fun r out qs H1 s1 tab1 nr opw hr1 lq its nq lst=>?_⟩;have PO:PrsAt H1 r out qs:=⟨hr1,lq,its⟩;have PP:Paper (spn kvs) ds st si ns out:=⟨opw,lst,hst,hds,n5⟩;have l5:=PP.len;refine⟨_,rfl,_,rfl,r,rfl,⟨_,SqL.of hr1⟩,wl (xs:=qs.map V.ref) (fun i D2 σ' ys H2=>∃(v1 v2:Option V),σ'=[v1,v2]/\ys=(((out.map Prod.fst).take i).map V.str)/\H2 D2=some (.lst ys)/\Same H1 H2) (fun D2 nD2=>⟨none,none,rfl,rfl,ql,zm nD2 _⟩) ?_ ?_ ?_⟩
 ·rintro i D2 σ' ys H2 hi nD2 ⟨v1,v2,rfl,rfl,hD,s2⟩
  exact⟨SqL.of (s2 _ _ hr1),hD,jt (by rw[ab,bF,ab];omega)⟩
 ·rintro i x D2 σ' ys H2 hx hlt nD2 ⟨v1,v2,rfl,rfl,hD,s2⟩
  rw[ag]at hx;cases hq:qs[i]? with
  |none=>rw[hq]at hx;cases hx
  |some q=>
  rw[hq]at hx;cases hx;have hil:i<out.length:=by rw[<- lq];exact(ai.mp hq).1
  have ho:out[i]?=some out[i]:=aa hil;have g:=s2 _ _ (its i q _ hq ho);have et:(out.map Prod.fst).take (i+1)=(out.map Prod.fst).take i++[out[i].1]:=dP (by rw[ag,ho];rfl);refine⟨q,_,rfl,SqT.of g,rfl,_,_,rfl,_,_,rfl,rfl,?_⟩;refine Yr ?_;refine⟨_,rfl,hD,CW.of hlt ⟨_,_,rfl,?_,ql,s2.put nD2 _⟩⟩;rw[et,aN];rfl
 ·rintro D2 ys σ' H2 nD2 ⟨v1,v2,rfl,rfl,hD,s2⟩
  have ef:(out.map Prod.fst).take (qs.map V.ref).length=out.map Prod.fst:=by
   rw[ab,lq];have:out.length=(out.map Prod.fst).length:=(ab _).symm;rw[this,cn]
  rw[ef]at hD;refine⟨D2,_,rfl,.inl (SqL.of hD),rfl,vK _,?_⟩;have S2:=s1.trans (SaT.of s2);have tab2:=tab1.mono s2;have ei:(if false=true then !inV (V.str go) ((out.map Prod.fst).map V.str)else inV (V.str go) ((out.map Prod.fst).map V.str))=decide (go∈out.map Prod.fst):=by
   rw[aG (by decide),yB]
  rw[ei];refine⟨_,rfl,?_⟩
  by_cases hg':go∈out.map Prod.fst
  ·exact iteP (aO hg') (k .non H2 S2 tab2 (.inl ⟨PP.key.mp hg',rfl⟩))
  ·exact iteN (by rw[aR];exact hg') ⟨_,rfl,k (.ref r) H2 S2 tab2 (.inr ⟨fun z=>hg' (PP.key.mpr z),r,out,qs,rfl,nr,nq,PO.mono s2,PP⟩)⟩
theorem sc_bars:FnScope ["rides","spans","start","goal","since","paper","moments","number","begins","ends","leaves","comes"] g9 (qp Ko):=⟨rfl,rfl,rfl,by decide +kernel,rfl,by decide +kernel,by decide +kernel⟩
theorem Y3(T:Txt K mg qh q_ qi qu qg qr qB qK zA qw qI qZ qL za zb qP qC qS je)(F:Fun K "bars" "bars" Ko zA ki)(Gready_by:FnOk P w K mg base CX0 1 qw zr gF Q_)(Bready_by:Binds K zr gF []):FnOk P w K mg base CX0 2 zA ki g9 (WR K):=by
 refine F.ok sc_bars (fun vs H Q E h=>?_) (fun cdv A outer s H vs Q E hr h=>?_)
 ·obtain⟨pr,ps,pp,xs,kvs,ds,st,go,si,out,qs,rfl,_⟩:=h
  rfl
 obtain⟨pr,ps,pp,xs,kvs,ds,st,go,si,out,qs,rfl,hpr,hps,rw_,PO,l100,k⟩:=h;have hu:=VF hr;refine⟨_,
  (qY (XJ (i:=6) sc_bars.nd rfl (by trivial) (T:=gM) (caps:=[]) (ix:=[]) (kn rfl (by rfl) (by decide +kernel) (by decide +kernel) rfl (by contradiction) (by rfl) (by contradiction)) rfl (jm (pv 5)) (fun _ _ _ _=>(yj (n:=2) K rfl rfl (zj (qx (i:=0) (by show(gM:fP).Nodup;decide +kernel) rfl (by trivial)) (zj (qx (i:=1) (by show(gM:fP).Nodup;decide +kernel) rfl (by trivial)) kF)))) (fun _ _ _ _=>xJ) hu (fun _ _ _ _=>(pv 0)) (fun _ _ _ _=>(pv 1)))
  (qY (xK (jl XZ (z7 QY rfl T.b_len JB (qA (pv 6) zx)) (z7 xj rfl T.b_len JB (qA (pv 5) zx)) (qR _))
  (zC (jS kJ))
  jF)
  (qY (xK (PW.pt (Kw (qae (WZ hu (pv 3) (pv 6))) (Z5 (Qh (Qg (jH Gready_by hr rfl T.m_ready_by T.k_ready_by Bready_by .nil xN (qA (pv 6) (qA (pv 2) (qA (pv 4) zx)))))))))
  (zC (jS kJ))
  jF)
  (qY (wF b8 rfl (jm (pv 0)) (Qi rfl (zj (qx (i:=7) sc_bars.nd rfl (by trivial)) (zj (qx (i:=8) sc_bars.nd rfl (by trivial)) (zj (qx (i:=9) sc_bars.nd rfl (by trivial)) (zj (qx (i:=10) sc_bars.nd rfl (by trivial)) (zj (qx (i:=11) sc_bars.nd rfl (by trivial)) kF))))))
  (zC (xK (PW.pt (Z6 (Qg (jH Gready_by hr rfl T.m_ready_by T.k_ready_by Bready_by .nil xN (qA (pv 6) (qA (pv 8) (qA (pv 10) zx))))) (ye (Qh (Qg (jH Gready_by hr rfl T.m_ready_by T.k_ready_by Bready_by .nil xN (qA (pv 6) (qA (pv 9) (qA (KR Jf (pv 11) (xM hu (pv 1) (pv 9) (fun _ _=>rfl))) zx)))))))))
  (zC (jS kJ))
  jF)))
  (zC (jS kJ)))))),?_⟩
 have lq:=PO.len;refine⟨_,rfl,pp,rfl,⟨_,SqL.of PO.hr⟩,V8 (xs:=qs.map V.ref) (fun i D2 σ' ys H2=>∃(v1 v2:Option V)(acc:List (Str×Int)),σ'=[v1,v2]/\ys=toDK acc/\H2 D2=some (.dK ys)/\Same H H2/\X2.Made (out.take i) acc) (fun D2 nD2=>⟨none,none,[],rfl,rfl,ql,zm nD2 _,by rw[f9];exact X2.Made.nil⟩) ?_ ?_ ?_⟩
 ·rintro i D2 σ' ys H2 hi nD2 ⟨v1,v2,acc,rfl,rfl,hD,s2,M⟩
  have ml:=M.len;exact⟨SqL.of (s2 _ _ PO.hr),hD,jt (by rw[toDK,ab];rw[bF]at ml;omega)⟩
 ·rintro i x D2 σ' ys H2 hx hlt nD2 ⟨v1,v2,acc,rfl,rfl,hD,s2,M⟩
  rw[ag]at hx;cases hq:qs[i]? with
  |none=>rw[hq]at hx;cases hx
  |some q=>
  rw[hq]at hx;cases hx;have hil:i<out.length:=by rw[<- lq];exact(ai.mp hq).1
  have ho:out[i]?=some out[i]:=aa hil;have g:=s2 _ _ (PO.at' i q _ hq ho);refine⟨q,_,rfl,SqT.of g,rfl,_,_,rfl,_,_,rfl,rfl,?_⟩;refine Yr ?_;refine⟨_,rfl,_,rfl,Sum.inr out[i].1,rfl,hD,CWD.of hlt ⟨_,_,putS acc out[i].1 out[i].2,rfl,Qf _ _ _,ql,s2.put nD2 _,?_⟩⟩;rw[dP ho];exact M.snoc
 ·rintro D2 ys σ' H2 nD2 ⟨v1,v2,acc,rfl,rfl,hD,s2,M⟩
  have ef:out.take (qs.map V.ref).length=out:=by rw[ab,lq,cn]
  rw[ef]at M;refine⟨_,rfl,D2,_,rfl,hD,_,rfl,pp,_,rfl,.inl (SqL.of (s2 _ _ PO.hr)),_,_,rfl,rfl,_,rfl,?_⟩
  by_cases nd:(out.map Prod.fst).Nodup
  ·have ea:=M.all nd
   subst ea;refine iteN (by rw[aR,toDK,ab,ab,lq];exact Int.lt_irrefl _) ?_;refine⟨_,rfl,_,rfl,D2,_,rfl,DGet.k (k:=Sum.inr go) hD,_,rfl,?_⟩;rw[Wc]
   by_cases hg':go∈acc.map Prod.fst
   ·exact iteP (aO hg') (k false H2 s2 ⟨(fun z=>nomatch z),fun B=>absurd hg' B.ng⟩)
   ·refine iteN (by rw[aR];exact hg') ?_
    refine⟨_,rfl,_,rfl,_,rfl,D2,acc,_,_,rfl,hD,_,rfl,?_⟩;cases h0:rdy acc st si with
    |false=>exact iteP rfl (k false H2 s2 ⟨(fun z=>nomatch z),fun B=>absurd B.st0 (by rw[h0];decide)⟩)
    |true=>
     refine iteN (by decide) ?_;refine⟨_,rfl,pr,rfl,⟨_,SqL.of (s2 _ _ hpr)⟩,xy (xs:=xs) (fun j σ H3=>∃(u1 u2 u3 u4 u5:Option V),σ=[some (.ref pr),some (.ref ps),some (.str st),some (.str go),some (.int si),some (.ref pp),some (.ref D2),u1,u2,u3,u4,u5]/\H3=H2/\∀jj,jj<j->∀d,ds[jj]?=some d->rdy acc d.a d.l=true->rdy acc d.b (d.c+spn kvs d.b)=true) ⟨_,_,_,_,_,rfl,rfl,fun jj h=>absurd h (cg _)⟩ ?_ ?_ ?_⟩
     ·rintro j σ H3 hj ⟨u1,u2,u3,u4,u5,rfl,rfl,cl⟩
      exact SqL.of (s2 _ _ hpr)
     ·rintro j x σ H3 hx ⟨u1,u2,u3,u4,u5,rfl,rfl,cl⟩
      obtain⟨d,hd,rdx⟩:=vq rw_ hx;have md:d∈ds:=ay hd;obtain⟨q,rfl,g,v⟩:=rdx.mono s2;have next:(rdy acc d.a d.l=true->rdy acc d.b (d.c+spn kvs d.b)=true)->∀jj,jj<j+1->∀d,ds[jj]?=some d->rdy acc d.a d.l=true->rdy acc d.b (d.c+spn kvs d.b)=true:=fun h jj hjj d' hd'=>by
       by_cases e:jj=j
       ·subst e
        rw[hd]at hd';cases hd';exact h
       ·exact cl jj (by omega) d' hd'
      refine⟨q,_,rfl,SqT.of g,rfl,_,_,rfl,_,_,rfl,_,_,rfl,_,_,rfl,_,_,rfl,rfl,?_⟩;refine⟨_,rfl,_,rfl,_,rfl,D2,acc,_,_,rfl,hD,_,rfl,?_⟩;cases h1:rdy acc d.a d.l with
      |false=>exact iteN (by decide) ⟨_,_,_,_,_,rfl,rfl,next fun z=>absurd z (by rw[h1];decide)⟩
      |true=>
       refine iteP rfl ?_;refine⟨_,rfl,_,rfl,_,rfl,_,rfl,_,rfl,ps,_,rfl,v▸DGet.k (k:=Sum.inr d.b) (s2 _ _ hps),_,_,rfl,rfl,D2,acc,_,_,rfl,hD,_,rfl,?_⟩;cases h2:rdy acc d.b (d.c+spn kvs d.b)with
       |false=>exact iteP rfl (k false H3 s2 ⟨(fun z=>nomatch z),fun B=>absurd (B.cl d md h1) (by rw[h2];decide)⟩)
       |true=>exact iteN (by decide) ⟨_,_,_,_,_,rfl,rfl,next fun _=>h2⟩
     ·rintro σ H3 ⟨u1,u2,u3,u4,u5,rfl,rfl,cl⟩
      refine k true H3 s2 ⟨fun _=>⟨nd,hg',h0,fun d hd=>?_⟩,fun _=>rfl⟩;obtain⟨j,hj⟩:=aX.mp hd;exact cl j (by rw[jX rw_];exact(ai.mp hj).1) d hj
  ·have sh:=M.short nd
   exact iteP (by rw[aR,toDK,ab,ab,lq];omega) (k false H2 s2 ⟨(fun z=>nomatch z),fun B=>absurd B.nd nd⟩)
theorem sc_Lbars:FnScope ["_law_rides","_law_spans","_law_start","_law_goal","_law_since","_law_paper","_law_sites","_law_place","_law_moment","_law_ride","_law_due"] fV (qp Zi):=⟨rfl,rfl,rfl,by decide +kernel,rfl,by decide +kernel,by decide +kernel⟩
theorem X5(T:Txt K mg qh q_ qi qu qg qr qB qK zA qw qI qZ qL za zb qP qC qS je)(F:Fun K "_law_bars" "_law_bars" Zi zb jA):FnOk P w K mg base CX0 1 zb jA fV ZZ:=by
 refine F.ok sc_Lbars (fun vs H Q E h=>?_) (fun cdv A outer s H vs Q E hr h=>?_)
 ·obtain⟨pr,ps,pp,xs,kvs,ds,st,go,si,out,qs,rfl,_⟩:=h
  rfl
 obtain⟨pr,ps,pp,xs,kvs,ds,st,go,si,out,qs,rfl,hpr,hps,rw_,PO,l60,k⟩:=h;have hu:=VF hr;refine⟨_,
  (qY (yg (i:=6) sc_Lbars.nd rfl (by trivial) (T:=["_law_place","_law_moment"]) (caps:=[]) (ix:=[]) (kn rfl (by rfl) (by decide +kernel) (by decide +kernel) rfl (by contradiction) (by rfl) (by contradiction)) rfl (jm (pv 5)) (fun _ _ _ _=>(yj (n:=2) K rfl rfl (zj (qx (i:=0) (by show(["_law_place","_law_moment"]:fP).Nodup;decide +kernel) rfl (by trivial)) (zj (qx (i:=1) (by show(["_law_place","_law_moment"]:fP).Nodup;decide +kernel) rfl (by trivial)) kF)))) (fun _ _ _ _=>xJ) (fun _ _ _ _=>(pv 0)))
  (qY (xK (PW.pt (Kw (jl qcs (z7 ZO rfl T.b_len JB (qA (kI (J4 rfl) rfl T.b_set qb5 (qA (pv 6) zx)) zx)) (z7 xj rfl T.b_len JB (qA (pv 6) zx)) (qR _)) (Kw (jl Qo (pv 3) (pv 6) rfl) (Z5 (jl Qm (pv 2) (pv 6) rfl)))))
  (zC (jS kJ))
  jF)
  (qY (wF b8 rfl (jm (pv 5)) (Qi rfl (zj (qx (i:=7) sc_Lbars.nd rfl (by trivial)) (zj (qx (i:=8) sc_Lbars.nd rfl (by trivial)) kF)))
  (qY (xK (PW.pt (Z6 (jl Y0 (pv 7) (pv 2) (qR _)) (ye (jl X0 (pv 8) (pv 4) (qR _)))))
  (zC (jS kJ))
  jF)
  (YI (R:=fun D σ H2=>∃(pD:Addr)(pl:Str)(mo:Int)(u9 u10:Option V),σ=[some (.ref pr),some (.ref ps),some (.str st),some (.str go),some (.int si),some (.ref pp),some (.ref pD),some (.str pl),some (.int mo),u9,u10]/\Same H H2/\(pl,mo)∈out/\(out.map Prod.fst).Nodup/\D.rt=Q/\∀(u9 u10:Option V)(H5:Hp),Same H H5->(∀d∈ds,d.a=pl->mo<=d.l->rdy out d.b (d.c+spn kvs d.b)=true)->D.nx [some (.ref pr),some (.ref ps),some (.str st),some (.str go),some (.int si),some (.ref pp),some (.ref pD),some (.str pl),some (.int mo),u9,u10] H5) (zC (wF b8 rfl (jm (pv 0)) (qx (i:=9) sc_Lbars.nd rfl (by trivial))
  (zC (xK (PW.pt (Z6 (jl Y0 (Qj ix_tup (pv 9) qe (fun _ _=>rfl)) (pv 7) (qR _)) (ye (jl YZ (pv 8) (Qj ix_tup (pv 9) qe (fun _ _=>rfl)) (qR _)))))
  (qY (yg (i:=10) sc_Lbars.nd rfl (by trivial) (T:=["_law_there","_law_ready"]) (caps:=["_law_ride"]) (ix:=[9]) (kn rfl (by rfl) (by decide +kernel) (by decide +kernel) rfl (by contradiction) (by rfl) (by contradiction)) rfl (jm (pv 5)) (fun _ _ _ _=>(yj (n:=2) K rfl rfl (zj (qx (i:=0) (by show(["_law_there","_law_ready","_law_ride"]:fP).Nodup;decide +kernel) rfl (by trivial)) (zj (qx (i:=1) (by show(["_law_there","_law_ready","_law_ride"]:fP).Nodup;decide +kernel) rfl (by trivial)) kF)))) (fun _ _ _ _=>(Kz (jl Y0 (pv 0) (Qj (ue K rfl) (pv 2) qe (fun _ _=>rfl)) (qR _)))) (fun _ _ _ _=>(pv 1)))
  (zC (xK (PW.pt (Kw (Qh (Z8 (pv 10) (fun _=>rfl))) (Z5 (jl X0 (Qj ix_list (pv 10) qe (fun _ _=>rfl)) (KR Jf (Qj ix_tup (pv 9) qe (fun _ _=>rfl)) (xM hu (pv 1) (Qj ix_tup (pv 9) qe (fun _ _=>rfl)) (fun _ _=>rfl))) (qR _)))))
  (zC (jS kJ))
  jF)))
  jF)))) ?c1)))
  (zC (jS kJ))))),?_⟩
 case c1=>
  rintro D σ H2 ⟨pD,pl,mo,u9,u10,rfl,s2,me,nd,hD,fin⟩;have lq:=PO.len;have kf:∀H5,Same H H5->¬ Bars (spn kvs) ds st go si out->D.rt (.bl false) H5:=fun H5 s5 nb=>by
   rw[hD];exact k false H5 s5 ⟨(fun z=>nomatch z),fun B=>absurd B nb⟩
  refine⟨_,rfl,pr,rfl,⟨_,SqL.of (s2 _ _ hpr)⟩,xy (xs:=xs) (fun j σ H3=>∃(u9 u10:Option V),σ=[some (.ref pr),some (.ref ps),some (.str st),some (.str go),some (.int si),some (.ref pp),some (.ref pD),some (.str pl),some (.int mo),u9,u10]/\Same H H3/\(∀jj,jj<j->∀d,ds[jj]?=some d->d.a=pl->mo<=d.l->rdy out d.b (d.c+spn kvs d.b)=true)) ⟨_,_,rfl,s2,fun jj h=>absurd h (cg _)⟩ ?_ ?_ ?_⟩
  ·rintro j σ H3 hj ⟨u9,u10,rfl,s3,cl⟩
   exact SqL.of (s3 _ _ hpr)
  ·rintro j x σ H3 hx ⟨u9,u10,rfl,s3,cl⟩
   obtain⟨d,hd,rdx⟩:=vq rw_ hx;have md:d∈ds:=ay hd;obtain⟨q,rfl,g,v⟩:=rdx.mono s3;have next:(d.a=pl->mo<=d.l->rdy out d.b (d.c+spn kvs d.b)=true)->(∀jj,jj<(j+1)->∀d,ds[jj]?=some d->d.a=pl->mo<=d.l->rdy out d.b (d.c+spn kvs d.b)=true):=fun h jj hjj d' hd'=>by
    by_cases e:jj=j
    ·subst e
     rw[hd]at hd';cases hd';exact h
    ·exact cl jj (by omega) d' hd'
   refine⟨_,rfl,_,_,_,_,rfl,rfl,SqT.of g,rfl,_,rfl,rfl,_,rfl,?_⟩
   by_cases ha:d.a=pl
   ·refine iteP (aO (bC V.str ha)) ⟨_,rfl,_,rfl,_,_,_,_,rfl,rfl,SqT.of g,rfl,_,_,rfl,rfl,_,rfl,?_⟩
    by_cases hl:mo<=d.l
    ·refine iteP (aO hl) ?_
     have ra:rdy out d.a d.l=true:=by rw[ha,Z4 nd me];exact aO hl
     refine⟨_,rfl,pp,rfl,⟨_,SqL.of (s3 _ _ PO.hr)⟩,wl (xs:=qs.map V.ref) (fun i D2 σ' ys H4=>∃(v1 v2:Option V)(cs:fR),σ'=[v1,v2,some (.ref q)]/\ys=cs.map V.int/\H4 D2=some (.lst ys)/\Same H3 H4/\cs.length<=i/\(∀c∈cs,(d.b,c)∈out)/\∀(kk:Nat)(o:Str×Int),kk<i->out[kk]?=some o->o.1=d.b->o.2∈cs) (fun D2 nD2=>⟨none,none,[],rfl,rfl,ql,zm nD2 _,ak _,(fun _ h=>nomatch h),fun kk o h=>absurd h (cg _)⟩) ?_ ?_ ?_⟩
     ·rintro i D2 σ' ys H4 hi nD2 ⟨v1,v2,cs,rfl,rfl,hD',s4,lc,snd,cpl⟩
      rw[ab]at hi;exact⟨SqL.of (s4 _ _ (s3 _ _ PO.hr)),hD',jt (by rw[ab];omega)⟩
     ·rintro i y D2 σ' ys H4 hy hlt nD2 ⟨v1,v2,cs,rfl,rfl,hD',s4,lc,snd,cpl⟩
      rw[ag]at hy;cases hq:qs[i]? with
      |none=>rw[hq]at hy;cases hy
      |some q2=>
      rw[hq]at hy;cases hy;have hil:i<out.length:=by rw[<- lq];exact(ai.mp hq).1
      have ho:out[i]?=some out[i]:=aa hil;have g2:=s4 _ _ (s3 _ _ (PO.at' i q2 _ hq ho));refine⟨q2,_,rfl,SqT.of g2,rfl,_,_,rfl,_,_,rfl,rfl,?_⟩;refine⟨_,rfl,_,rfl,_,_,_,_,rfl,rfl,SqT.of (s4 _ _ g),rfl,rfl,_,rfl,?_⟩
      by_cases hb:out[i].1=d.b
      ·refine iteP (aO (bC V.str hb)) ⟨_,rfl,hD',CW.of hlt ⟨_,_,cs++[out[i].2],rfl,by rw[aN];rfl,ql,s4.put nD2 _,by rw[aK,dN];omega,fun c hc=>?_,fun kk o hk hok hob=>?_⟩⟩
       ·rcases aQ.mp hc with z|z
        ·exact snd c z
        ·rw[au.mp z,<- hb]
         exact cj hil
       ·by_cases e:kk=i
        ·subst e
         rw[ho]at hok;cases hok;exact az _ (au.mpr rfl)
        ·exact aU _ (cpl kk o (by omega) hok hob)
      ·refine iteN (by rw[aR];exact fun z=>hb (V.str.inj z)) (CW.of hlt ⟨_,_,cs,rfl,rfl,hD',s4,by omega,snd,fun kk o hk hok hob=>?_⟩)
       by_cases e:kk=i
       ·subst e
        rw[ho]at hok;cases hok;exact absurd hob hb
       ·exact cpl kk o (by omega) hok hob
     ·rintro D2 ys σ' H4 nD2 ⟨v1,v2,cs,rfl,rfl,hD',s4,lc,snd,cpl⟩
      have cpl2:∀m,(d.b,m)∈out->m∈cs:=fun m hm=>by
       obtain⟨kk,hkk⟩:=aX.mp hm;exact cpl kk _ (by rw[ab,lq];exact(ai.mp hkk).1) hkk rfl
      have s34:=s3.trans s4;cases cs with
      |nil=>
       have nb:¬ Bars (spn kvs) ds st go si out:=fun B=>absurd (B.cl d md ra) (by rw[qaa nd fun m hm=>nomatch cpl2 m hm];decide)
       exact⟨_,rfl,false,.inl ⟨_,SqL.of hD',rfl⟩,iteP rfl (iteP rfl (kf _ s34 nb))⟩
      |cons c0 cs'=>
       have e0:rdy out d.b (d.c+spn kvs d.b)=decide (c0<=d.c+spn kvs d.b):=Z4 nd (snd c0 (by simp));refine⟨_,rfl,true,.inl ⟨_,SqL.of hD',rfl⟩,iteF ?_⟩;refine⟨_,rfl,_,_,_,_,rfl,rfl,SqL.of hD',(show atI (List.map V.int (c0::cs')) 0=some (V.int c0)from y3 (j:=0) rfl),_,rfl,_,_,_,_,rfl,rfl,SqT.of (s4 _ _ g),rfl,_,rfl,_,rfl,_,_,_,_,rfl,rfl,SqT.of (s4 _ _ g),rfl,ps,_,rfl,v▸DGet.k (k:=Sum.inr d.b) (s34 _ _ hps),_,_,rfl,rfl,_,_,rfl,rfl,_,rfl,?_⟩
       by_cases hc:d.c+spn kvs d.b<c0
       ·have nb:¬ Bars (spn kvs) ds st go si out:=fun B=>absurd (B.cl d md ra) (by rw[e0,aR];omega)
        exact iteP (aO hc) (kf _ s34 nb)
       ·exact iteN (by rw[aR];exact hc) ⟨_,_,rfl,s34,next fun _ _=>by rw[e0];exact aO (by omega)⟩
    ·exact iteN (by rw[aR];exact hl) ⟨_,_,rfl,s3,next fun _ z=>absurd z hl⟩
   ·exact iteN (by rw[aR];exact fun z=>ha (V.str.inj z)) ⟨_,_,rfl,s3,next fun z=>absurd z ha⟩
  ·rintro σ H3 ⟨u9,u10,rfl,s3,cl⟩
   refine fin u9 u10 H3 s3 fun d hd=>?_
   obtain⟨j,hj⟩:=aX.mp hd;exact cl j (by rw[jX rw_];exact(ai.mp hj).1) d hj
 have kf:∀H5,Same H H5->¬ Bars (spn kvs) ds st go si out->Q (.bl false) H5:=fun H5 s5 nb=>k false H5 s5 ⟨(fun z=>nomatch z),fun B=>absurd B nb⟩
 have lq:=PO.len;refine⟨_,rfl,pp,rfl,⟨_,SqL.of PO.hr⟩,wl (xs:=qs.map V.ref) (fun i D2 σ' ys H2=>∃(v1 v2:Option V),σ'=[v1,v2]/\ys=(((out.map Prod.fst).take i).map V.str)/\H2 D2=some (.lst ys)/\Same H H2) (fun D2 nD2=>⟨none,none,rfl,rfl,ql,zm nD2 _⟩) ?_ ?_ ?_⟩
 ·rintro i D2 σ' ys H2 hi nD2 ⟨v1,v2,rfl,rfl,hD,s2⟩
  exact⟨SqL.of (s2 _ _ PO.hr),hD,jt (by rw[ab,bF,ab];omega)⟩
 ·rintro i x D2 σ' ys H2 hx hlt nD2 ⟨v1,v2,rfl,rfl,hD,s2⟩
  rw[ag]at hx;cases hq:qs[i]? with
  |none=>rw[hq]at hx;cases hx
  |some q=>
  rw[hq]at hx;cases hx;have hil:i<out.length:=by rw[<- lq];exact(ai.mp hq).1
  have ho:out[i]?=some out[i]:=aa hil;have g:=s2 _ _ (PO.at' i q _ hq ho);have et:(out.map Prod.fst).take (i+1)=(out.map Prod.fst).take i++[out[i].1]:=dP (by rw[ag,ho];rfl);refine⟨q,_,rfl,SqT.of g,rfl,_,_,rfl,_,_,rfl,rfl,?_⟩;refine Yr ?_;refine⟨_,rfl,hD,CW.of hlt ⟨_,_,rfl,?_,ql,s2.put nD2 _⟩⟩;rw[et,aN];rfl
 ·rintro D2 ys σ' H2 nD2 ⟨v1,v2,rfl,rfl,hD,s2⟩
  have ef:(out.map Prod.fst).take (qs.map V.ref).length=out.map Prod.fst:=by
   rw[ab,lq];have:out.length=(out.map Prod.fst).length:=(ab _).symm;rw[this,cn]
  rw[ef]at hD;have lm:(out.map Prod.fst).length=out.length:=ab _;refine⟨_,rfl,D2,_,rfl,SqL.of hD,by omega,fun v nv=>?_⟩;have tv:=zm nv (WK v (dd (out.map Prod.fst)).length);have ddl:=(ddOk (out.map Prod.fst)).le;have hD':=tv _ _ hD;refine⟨v,_,rfl,ql,by omega,_,rfl,D2,_,rfl,.inl (SqL.of hD'),rfl,_,rfl,?_⟩;have s3:=s2.trans tv
  by_cases nd:(out.map Prod.fst).Nodup
  case neg=>
   have e1:(!decide (V.int (((dd (out.map Prod.fst)).length:Nat):Int)=V.int ((((out.map Prod.fst).map V.str).length:Nat):Int)))=true:=by
    rw[ab (f:=V.str)];have:¬ (dd (out.map Prod.fst)).length=(out.map Prod.fst).length:=fun z=>nd (dd_len.mp z)
    simp only[V.int.injEq,Bool.not_eq_true',cJ];omega
   exact iteP e1 (iteP rfl (kf _ s3 fun B=>nd B.nd))
  have e1:(!decide (V.int (((dd (out.map Prod.fst)).length:Nat):Int)=V.int ((((out.map Prod.fst).map V.str).length:Nat):Int)))=false:=by
   rw[ab (f:=V.str),dd_len.mpr nd];simp
  refine iteN (by rw[e1];decide) ?_;refine⟨_,rfl,_,rfl,D2,_,rfl,.inl (SqL.of hD'),rfl,vK _,_,rfl,?_⟩;have e2:(if false=true then !inV (V.str go) ((out.map Prod.fst).map V.str)else inV (V.str go) ((out.map Prod.fst).map V.str))=decide (go∈out.map Prod.fst):=by
   rw[aG (by decide),yB]
  rw[e2]
  by_cases hgo:go∈out.map Prod.fst
  case pos=>exact iteP (aO hgo) (iteP rfl (kf _ s3 fun B=>B.ng hgo))
  refine iteN (by rw[aR];exact hgo) ?_;refine⟨_,rfl,_,rfl,D2,_,rfl,.inl (SqL.of hD'),rfl,vK _,_,rfl,?_⟩;have e3:(if true=true then !inV (V.str st) ((out.map Prod.fst).map V.str)else inV (V.str st) ((out.map Prod.fst).map V.str))=!decide (st∈out.map Prod.fst):=by
   rw[aF rfl,yB]
  rw[e3]
  by_cases hst:st∈out.map Prod.fst
  case neg=>exact iteP (by rw[aP hst];rfl) (kf _ s3 fun B=>hst (Zm B.st0))
  refine iteN (by rw[aO hst];decide) ?_;refine⟨_,rfl,pp,rfl,⟨_,SqL.of (s3 _ _ PO.hr)⟩,xy (xs:=qs.map V.ref) (fun i σ H3=>∃(u7 u8 u9 u10:Option V),σ=[some (.ref pr),some (.ref ps),some (.str st),some (.str go),some (.int si),some (.ref pp),some (.ref D2),u7,u8,u9,u10]/\Same H H3/\(∀kk,kk<i->∀o,out[kk]?=some o->(o.1=st->o.2<=si)/\∀d∈ds,d.a=o.1->o.2<=d.l->rdy out d.b (d.c+spn kvs d.b)=true)) ⟨_,_,_,_,rfl,s3,fun kk h=>absurd h (cg _)⟩ ?_ ?_ ?_⟩
  ·rintro i σ H3 hi ⟨u7,u8,u9,u10,rfl,s4,okk⟩
   exact SqL.of (s4 _ _ PO.hr)
  ·rintro i x σ H3 hx ⟨u7,u8,u9,u10,rfl,s4,okk⟩
   rw[ag]at hx;cases hq:qs[i]? with
   |none=>rw[hq]at hx;cases hx
   |some q=>
   rw[hq]at hx;cases hx;have hil:i<out.length:=by rw[<- lq];exact(ai.mp hq).1
   have ho:out[i]?=some out[i]:=aa hil;have g:=s4 _ _ (PO.at' i q _ hq ho);have mo:(out[i].1,out[i].2)∈out:=cj hil;have next:(out[i].1=st->out[i].2<=si)->(∀d∈ds,d.a=out[i].1->out[i].2<=d.l->rdy out d.b (d.c+spn kvs d.b)=true)->(∀kk,kk<(i+1)->∀o,out[kk]?=some o->(o.1=st->o.2<=si)/\∀d∈ds,d.a=o.1->o.2<=d.l->rdy out d.b (d.c+spn kvs d.b)=true):=fun h1 h2 kk hkk o hok=>by
    by_cases e:kk=i
    ·subst e
     rw[ho]at hok;cases hok;exact⟨h1,h2⟩
    ·exact okk kk (by omega) o hok
   refine⟨q,_,rfl,SqT.of g,rfl,_,_,rfl,_,_,rfl,rfl,?_⟩;refine⟨_,rfl,_,rfl,rfl,_,rfl,?_⟩
   by_cases hs:out[i].1=st
   ·refine iteP (aO (bC V.str hs)) ⟨_,rfl,_,rfl,_,_,rfl,rfl,_,rfl,?_⟩
    by_cases hl:si<out[i].2
    ·refine iteP (aO hl) (kf _ s4 fun B=>absurd B.st0 ?_)
     rw[<- hs,Z4 nd mo,aR];omega
    ·exact iteN (by rw[aR];exact hl) ⟨D2,out[i].1,out[i].2,_,_,rfl,s4,mo,nd,rfl,fun u9 u10 H5 s5 h2=>⟨_,_,_,_,rfl,s5,next (fun _=>by omega) h2⟩⟩
   ·exact iteN (by rw[aR];exact fun z=>hs (V.str.inj z)) ⟨D2,out[i].1,out[i].2,_,_,rfl,s4,mo,nd,rfl,fun u9 u10 H5 s5 h2=>⟨_,_,_,_,rfl,s5,next (fun z=>absurd z hs) h2⟩⟩
  ·rintro σ H3 ⟨u7,u8,u9,u10,rfl,s4,okk⟩
   have okm:∀x m,(x,m)∈out->(x=st->m<=si)/\∀d∈ds,d.a=x->m<=d.l->rdy out d.b (d.c+spn kvs d.b)=true:=fun x m hm=>by
    obtain⟨kk,hkk⟩:=aX.mp hm;exact okk kk (by rw[ab,lq];exact(ai.mp hkk).1) _ hkk
   refine k true H3 s4 ⟨fun _=>⟨nd,hgo,?_,fun d hd hra=>?_⟩,fun _=>rfl⟩
   ·obtain⟨⟨x,m⟩,hm,e⟩:=aC.mp hst
    have e':x=st:=e;subst e';rw[Z4 nd hm];exact aO ((okm _ _ hm).1 rfl)
   ·obtain⟨z,e,lz⟩:=rdy_iff.mp hra
    exact(okm _ _ ((mem_lookup nd).mpr e)).2 d hd rfl lz
end
end
end M
namespace X2
open PySem PySem.Spec PyProof.Rows L2
variable{K:Type}
section
variable{prog:Program}{w:World}{A:Around}{E:fJ}{s:Shared}
theorem Vu{a:Addr}{o:Obj}{xs:fO}{k:Nat}{Q:Option Value->Shared->Prop}
  (hx:s.heap.get? a=some o)(hc:o.cls=.type "list")(hdat:o.data=.seq xs k)(hd:o.dict=none)(hA:A.handled=none)
  (h:∀h' tk,(∀b ob,s.heap.get? b=some ob->h'.get? b=some ob)->Q none { s with heap:=h',toks:=tk }) :
  wpAny (model prog w) A (getAttr? (.ref a) "keys") Q E s:=by
 obtain⟨c,dct,dat,sl⟩:=o;simp only at hc hdat hd;subst hc hdat hd;obtain⟨hp,g,d,tk,os⟩:=s;have hT:∀tk',(⟨hp,g,d,tk',os⟩:Shared).TypeIs (.ref a) "list":=fun _=>⟨_,hx,rfl⟩
 have hmiss:typeLookup (.type "list") "keys"=pure none:=am_miss_of_fast (by decide +kernel);have f1:=sub_AttributeError;have f3:=cG.lookup;have f4:=cG.bind (.ref a);have f5:=am_list_getattr_none;unfold getAttr? getAttrBy? getAttrBy
 repeat (any_goals (first|assumption|exact hT _|((with_reducible show wpAny _ _ (call (Value.builtin "list.__getattribute__") _ _) _ _ _);refine call_meets cG (hT _) am_entry_list_getattribute (PySem.F.args_list_getattribute_2 _ _) (meets_getattribute_miss_list a xs k sl "keys" _ hmiss (by decide +kernel) (by size_fits)) ⟨hx,hA,fun h' tk' e hx'=>?_⟩)|wp_step))
 obtain⟨t',u',he⟩:=hx'.there;show wpAny _ _ (getattributeRaised _ _ _ _ _ _ _) _ _ _;unfold getattributeRaised
 repeat (any_goals (first|assumption|wp_step))
 exact h h' tk' hx'.keeps
end
theorem QM:entryFor table "dict.update.loop"=some Builtin.«dict.update.loop»:=entryFor_of_tree (by kernel_rfl)
theorem vp:plainId "dict.update.loop"=true:=by decide +kernel
section
variable{prog:Program}{w:World}{A:Around}{R:Result->Shared->Prop}{I:Addr}{fp wr:fL}{G:Array GenState->Array GenState->Prop}{n:Nat}{St:Nat->Shared->Prop}
theorem J0[DecidableEq K](knd:KeyKind prog w K){P:Nat->Value->Prop}(W:WalksS prog w A.in1 I fp wr G n P St)(S:Addr)(hSf:S∉fp)(h0:Heap)(kvs:List (K×Value))(hn:kvs.length=n)(nd:(kvs.map (·.1)).Nodup)(hz:n<=sizeLine)
  (hval:∀i v,P i v->∃q k key x,v=.ref q/\kvs[i]?=some (k,x)/\knd.is k key=true/\q∉S::wr/\∃o m,h0.get? q=some o/\o.cls=.type "tuple"/\o.data=.seq #[key,x] m) :
  ∀(j i:Nat)(s:Shared),n - i=j->i<=n->St i s->s.heap.DictOf knd S (kvs.take i)->(∀b o,b∉S::wr->h0.get? b=some o->s.heap.get? b=some o)->
   (∀s',Moved (S::wr) G s s'->s'.heap.DictOf knd S kvs->R (.ok (.ret .none)) s')->
   codeAny (model prog w) A (.builtin "dict.update.loop" ⟨[.ref S,.ref I,rawInt i,.none],[]⟩) R s:=by
 have hSw:S∉wr:=fun h=>hSf (W.sub _ h)
 have up:∀b∈wr,b∈S::wr:=fun b hb=>av _ hb
 intro j
 induction j with
 |zero=>
  intro i s hk hi hst hS hkeep hR;have e:i=n:=by omega
  subst e;refine bO QM ?_;rw[bu vp _];show wpAny _ A.in1 (pyNext (.ref I) >>= _) _ _ s;refine af (W.done s _ _ hst fun s' hm=>?_);show wpAny _ A.in1 (Builtin.Dict.addKeywords S [] >>= _) _ _ s';refine af (aw ?_);refine aw (hR s' (hm.mono up) ?_);rw[<- hn,cn]at hS;obtain⟨o,es,ep,ho,rest⟩:=hS;exact⟨o,es,ep,hm.heap S _ hSw ho,rest⟩
 |succ j ih=>
  intro i s hk hi hst hS hkeep hR;have lt:i<n:=by omega
  refine bO QM ?_;rw[bu vp _];show wpAny _ A.in1 (pyNext (.ref I) >>= _) _ _ s;refine af (W.item i s _ _ lt hst fun v s' hP hst' hm=>?_);obtain⟨q,k,key,x,rfl,hx,hkey,hq,o,m,ho,hoc,hod⟩:=hval i v hP;have hS':s'.heap.DictOf knd S (kvs.take i):=by
   obtain⟨o,es,ep,ho,rest⟩:=hS;exact⟨o,es,ep,hm.heap S _ hSw ho,rest⟩
  have hkeep':∀b o,b∉S::wr->h0.get? b=some o->s'.heap.get? b=some o:=fun b o hb e=>hm.heap b o (fun z=>hb (up b z)) (hkeep b o hb e)
  have ht:=hkeep' q o hq ho;have new:k∉(kvs.take i).map (·.1):=fun z=>by
   rw[List.map_take]at z;obtain⟨j',hj⟩:=aX.mp z;rw[eM]at hj
   split at hj
   ·rename_i hji
    have e1:(kvs.map (·.1))[i]?=some k:=by rw[ag,hx];rfl
    have:=(eT (by rw[ab];omega) nd).mp (hj.trans e1.symm);omega
   ·cases hj
  have es:stored (kvs.take i) k x=kvs.take (i+1):=by
   unfold stored;rw[aG,dP hx];rw[b7];rintro⟨kv,hkv,he⟩;exact new (aC.mpr ⟨kv,hkv,cF he⟩)
  show wpAny _ A.in1 (holding [Value.ref q] _ >>= _) _ _ s';refine af (bQ (af ?_));refine dI ?_;unfold Builtin.Dict.pairItems;refine af (wpAny_typeOf (T:="tuple") ⟨o,ht,hoc⟩ ?_);rw[aF (by decide)];refine af (wpAny_seqItems ht hod (aw ?_));show wpAny _ A.in1 (holding [key,x] (dictSet S key x)) _ _ s';refine bQ (wpAny_dictSet_pairs hkey hS' (fun h' hD hsb=>?_) (by rw[bF];omega));rw[es]at hD;refine aw ⟨cf vp _,?_⟩;have ei:rawInt ((i:Int)+1)=rawInt ((i+1:Nat):Int):=by push_cast;rfl
  show codeAny _ _ (.builtin "dict.update.loop" ⟨[.ref S,.ref I,rawInt ((i:Int)+1),.none],[]⟩) _ _;rw[ei];refine ih (i+1) _ (by omega) lt (W.frame _ s' _ _ hst' (fC _) fun b hb o e=>?_) hD (fun b o hb e=>?_) fun s'' hm'' hS''=>?_
  ·rw[hsb.2 b (fun h:b=S=>hSf (by rw[<- h];exact hb))];exact e
  ·rw[hsb.2 b (fun h:b=S=>hb (by rw[h];exact ar))];exact hkeep' b o hb e
  ·refine hR s'' (Moved.trans W.gtrans ((hm.mono up).then_heap (fC _) fun b o hb e=>?_) hm'') hS''
   rw[hsb.2 b (fun h:b=S=>hb (by rw[h];exact ar))];exact e
end
section
variable{prog:Program}{w:World}{A:Around}{E:fJ}{s:Shared}
theorem yL[DecidableEq K]{knd:KeyKind prog w K}{l:Addr}{ol:Obj}{items:fO}{nl:Nat}{kvs:List (K×Value)}{Q:fJ}(hh:A.handled=none)(hol:s.heap.get? l=some ol)(hc:ol.cls=.type "list")(hd:ol.dict=none)(hdat:ol.data=.seq items nl)
  (hi:∀(i:Nat)(v:Value),items[i]?=some v->∃(q:Addr)(k:K)(key x:Value),v=Value.ref q/\kvs[i]?=some (k,x)/\knd.is k key=true/\∃o m,s.heap.get? q=some o/\o.cls=.type "tuple"/\o.data=.seq #[key,x] m)(hn:kvs.length=items.size)(nd:(kvs.map (·.1)).Nodup)(hz:items.size<=sizeLine)
  (h:∀h' tk,h'.DictOf knd s.heap.objs.size kvs->(∀b o,s.heap.get? b=some o->h'.get? b=some o)->Q (.ref s.heap.objs.size) { s with heap:=h',toks:=tk }) :
  wpAny (model prog w) A (call (.type "dict") [.ref l]) Q E s:=by
 refine callType_codes (Q₁:=fun obj s₁=>obj=.ref s.heap.objs.size/\s₁={ s with heap:=s.heap.push { cls:=.type "dict",data:=.dict #[] } }) F.kt_called_dict (F.kt_typeCall_dict_1 _) F.entry_dict_init (kt_code_dict_new _ ⟨rfl,rfl⟩) ?_;rintro obj s₁ ⟨rfl,rfl⟩;have hnew:(s.heap.push { cls:=.type "dict",data:=.dict #[] }).DictOf knd s.heap.objs.size []:=Heap.DictOf.new s.heap;have hol':(s.heap.push { cls:=.type "dict",data:=.dict #[] }).get? l=some ol:=ae _ hol;refine⟨hnew.typeIs,F.args_dict_init_2 _ _,?_⟩;unfold Builtin.«dict.__init__»;refine af ?_;unfold Builtin.Dict.selfAndRest;refine af (wpAny_notOrdered_dict hnew.typeIs ?_);show wpAny _ _ (pure (s.heap.objs.size,[Value.ref l])) _ _ _;refine aw ?_;show wpAny _ _ (Builtin.Dict.updateFrom "dict.__init__" s.heap.objs.size (.ref l) [] .none) _ _ _;unfold Builtin.Dict.updateFrom;refine af (wpAny_typeOf (T:="list") ⟨_,hol',hc⟩ ?_);rw[aF (by decide)];have z2:A.in1.in1.handled=none:=by simp[hh]
 refine af (Vu hol' hc hdat hd z2 fun h1 tk1 keep=>?_);rw[aF (by rfl)];have hl1:h1.IsList l items:=⟨ol,keep l ol hol',hc,nl,hdat⟩;refine af (wpAny_rule (af (dC hl1 (aw ⟨cf vp _,?_⟩))));have hlS:l<s.heap.objs.size:=ao hol;have hS1:s.heap.objs.size<h1.objs.size:=by
  obtain⟨o,es,ep,ho,_⟩:=hnew;exact ao (keep _ _ ho)
 have neI:l≠h1.objs.size:=aq (bb hlS hS1);have nSf:s.heap.objs.size∉[h1.objs.size,l]:=by
  simp only[aj,au,ax,cK,not_or];exact⟨aq hS1,fj hlS⟩
 have hD0:(h1.push { cls:=.type "list_iterator",data:=.fields #[.ref l,.int 0 0] }).DictOf knd s.heap.objs.size []:=by
  obtain⟨o,es,ep,ho,rest⟩:=hnew;exact⟨o,es,ep,ae _ (keep _ _ ho),rest⟩
 refine J0 (A:=A.in1) knd ((Walks.list z2 h1.objs.size l neI items).toS) s.heap.objs.size nSf s.heap kvs hn nd hz (fun i v hv=>?_) (items.size - 0) 0 _ (by omega) (aV _) ⟨⟨_,aB _ rfl,rfl,rfl⟩,(hl1.push _)⟩ hD0 (fun b o hb e=>ae _ (keep b o (ae _ e))) ?_
 ·obtain⟨q,k,key,x,e1,e2,e3,o,m,e4,e5,e6⟩:=hi i v hv
  refine⟨q,k,key,x,e1,e2,e3,?_,o,m,e4,e5,e6⟩;have hq:q<s.heap.objs.size:=ao e4;simp only[aj,au,ax,cK,not_or];exact⟨aq hq,aq (bb hq hS1)⟩
 ·intro s' hm hS'
  obtain⟨h',g',d',tk',os'⟩:=s';have eg:g'=s.gens:=hm.gens;have ed:d'=s.drawn:=hm.drawn;have eo:os'=s.os:=hm.os;subst eg;subst ed;subst eo;refine⟨rfl,h h' tk' hS' fun b o e=>?_⟩;have hb:b<s.heap.objs.size:=ao e;exact hm.heap b o (by simp only[aj,au,ax,cK,not_or];exact⟨aq hb,aq (bb hb hS1)⟩) (ae _ (keep b o (ae _ e)))
end
end X2
namespace M
open PySem PySem.Spec PyProof.Rows L2 X2
theorem wG{X:Cx}{pins:fI}{σ:L2.St}{H:Hp}{s:Shared}(I:Inv X pins σ H s):∀{xs:List V}{its:fM}{kvs:List (Key×V)},Vals xs its->xs.length=kvs.length->(∀(i:Nat) x p,xs[i]?=some x->kvs[i]?=some p->∃q,x=V.ref q/\H q=some (.tup [kV p.1,p.2]))->
  ∃vs:List (Key×Value),KV kvs vs/\∀(i:Nat)(v:Value),its[i]?=some v->∃(q:Addr)(k:Key)(key x:Value),v=Value.ref q/\vs[i]?=some (k,x)/\(zf X.prog X.w).is k key=true/\∃o m,s.heap.get? q=some o/\o.cls=.type "tuple"/\o.data=.seq #[key,x] m
 |_,_,[],.nil,_,_=>⟨[],.nil,fun i v h=>by simp at h⟩
 |_,_,_::_,.nil,h,_=>by simp at h
 |_,_,[],.cons _ _,h,_=>by simp at h
 |_,_,p::kvs,.cons (a:=x) (b:=u) r rs,h,hp=>by
  obtain⟨vs,hk,hv⟩:=wG I rs (by simpa using h) (fun i x q a b=>hp (i+1) x q (by simpa using a) (by simpa using b));obtain⟨q,e,hq⟩:=hp 0 _ _ rfl rfl;subst e;obtain⟨its2,r2,⟨o,e1,e2,m,e3⟩,_⟩:=I.tuple (SqT.of hq);cases r2 with
  |cons k1 t1=>
   cases t1 with
   |cons k2 t2=>
    cases t2;rename_i key x2;cases (show u=Value.ref q from r);refine⟨(p.1,x2)::vs,.cons ⟨rfl,k2⟩ hk,fun i v hi=>?_⟩;cases i with
    |zero=>
     cases hi;exact⟨q,p.1,key,x2,rfl,rfl,yx k1,o,m,e1,e2,e3⟩
    |succ i=>simpa using hv i v (by simpa using hi)
theorem wn{X:Cx}(hcm:X.calm=true):CallR X (.type "dict") (fun xs H Q=>∃(a:Addr)(ys:List V)(kvs:List (Key×V)),xs=[.ref a]/\H a=some (.lst ys)/\ys.length=kvs.length/\(∀(i:Nat) x p,ys[i]?=some x->kvs[i]?=some p->∃q,x=V.ref q/\H q=some (.tup [kV p.1,p.2]))/\(kvs.map (·.1)).Nodup/\∀p,H p=none->Q (.ref p) (upd H p (.dK kvs))):=by
 intro pins s σ H xs us Q I r h;obtain⟨a,ys,kvs,rfl,ha,hl,hp,nd,q⟩:=h;obtain⟨u,rfl,ru⟩:=eW r;cases (show u=Value.ref a from ru);obtain⟨hz,its,n,rv,el,e⟩:=I.lstM ha;obtain⟨vs,hk,hv⟩:=wG I rv hl hp;have lv:vs.length=its.toArray.size:=by rw[ah,<- el,hl];exact hk.length.symm
 have ndv:(vs.map (·.1)).Nodup:=by
  have e:vs.map (·.1)=kvs.map (·.1):=by
   clear lv hv nd q hp hl;unfold KV at hk
   induction hk with
   |nil=>rfl
   |cons a b ih=>rw[aA,aA,ih,a.1]
  rw[e];exact nd
 refine yL (knd:=zf X.prog X.w) (I.ok.hd hcm) e rfl rfl rfl (fun i v h=>hv i v (by simpa using h)) lv ndv (by rw[ah,<- el];exact hz) fun h' tk dd keep=>?_
 exact⟨.ref s.heap.objs.size,_,I.laid (a:=s.heap.objs.size) (o:=.dK kvs) (t':=tk) keep (ak _) (QP (by rw[<- hl];exact hz) (dr.mpr (bW (aq I.big))) hk dd),rfl,q _ (I.hok.fresh (ak _))⟩
def pairD:D->Option (Key×D)
 |.tup [k,v]=>(zL k).map fun k=>(k,v)
 |_=>none
def xO:List D->Option (List (Key×D))
 |[]=>some []
 |d::ds=>match pairD d,xO ds with|some p,some r=>some (p::r)|_,_=>none
def VY(d:D):Option D:=match d with
 |.lst ds=>(xO ds).bind fun kvs=>if(kvs.map (·.1)).Nodup then some (.dic kvs)else none
 |_=>none
theorem ua{K:fH}{c:Co}{x:V}{d:D}{k:Key}(r:Rep K c x d)(e:zL d=some k):x=kV k:=by
 cases d with
 |int i=>cases e;cases r;rfl
 |str i=>cases e;cases r;rfl
 |_=>cases e
theorem Qk{K:fH}{c:Co}{H:Hp}(hs:Same c.h H):∀{xs:List V}{ds:List D}{kvs:List (Key×D)},Reps K c xs ds->xO ds=some kvs->∃ys:List (Key×V),ys.map (·.1)=kvs.map (·.1)/\xs.length=ys.length/\(∀(i:Nat) x p,xs[i]?=some x->ys[i]?=some p->∃q,x=V.ref q/\H q=some (.tup [kV p.1,p.2]))/\Reps K c (ys.map (·.2)) (kvs.map (·.2))
 |xs,[],kvs,r,e=>by
  cases e;rw[r.unnil];exact⟨[],rfl,rfl,fun i x p h=>by simp at h,.nil⟩
 |xs,d::ds,kvs,r,e=>by
  obtain⟨x,t,rfl,r1,r2⟩:=r.uncons;unfold xO at e;cases e1:pairD d with
  |none=>rw[e1]at e;cases e
  |some p=>
   cases e2:xO ds with
   |none=>rw[e1,e2]at e;cases e
   |some rest=>
    rw[e1,e2]at e;cases e;obtain⟨ys,h1,h2,h3,h4⟩:=Qk hs r2 e2;cases r1 with
    |@tup q ws es ex l rr=>
     match es,l,e1 with
     |[dk,dv],l,e1=>
      match ws,l with
      |[wk,wv],_=>
       have z0:=rr 0 _ _ rfl rfl;have z1:=rr 1 _ _ rfl rfl;have e1:(zL dk).map (fun k=>(k,dv))=some p:=e1;cases ek:zL dk with
       |none=>rw[ek]at e1;cases e1
       |some k=>
        rw[ek]at e1;cases e1;have:=ua z0 ek;subst this;refine⟨(k,wv)::ys,by rw[aA,aA,h1],by rw[bz,bz,h2],fun i x p g1 g2=>?_,.cons z1 h4⟩;cases i with
        |zero=>cases g1;cases g2;exact⟨q,rfl,hs _ _ ex⟩
        |succ i=>exact h3 i x p (by simpa using g1) (by simpa using g2)
     |[],_,e1=>cases e1
     |[_],_,e1=>cases e1
     |_::_::_::_,_,e1=>cases e1
    |_=>cases e1
section
variable{W:Wo}{X:Cx}{E:En}{O:List Nat}{pos:Pos}{a:Expr}{fa:SS W->R W D}
theorem Wv{p:Pos}(hcm:X.calm=true)(hg:Gl X "dict")(hm:X.mg "dict"=none)(ha:DE W E true X O a fa)(hs:starEach [a] X.env=(false,eval a X.env)::starEach [] X.env:=by rfl):DO W E X O (.Call (.Name "dict" p) [a] [] pos) (e1 VY fa):=
 qN (kI (wn hcm) hg hm Xi (qA ha zx hs) (he:=hs)) fun σ H Q⟨g,c,fp,q⟩=>⟨g,c,fp,q.bind (rel:=Rep X.K) fun d b v H1 c1 fp1 S1 F1 r1 h1=>by
  obtain⟨z,ez,k⟩:=h1.opt;have r1:Rep X.K c1 v d:=r1;cases r1 with
  |@lst a0 xs ds ex l r=>
   have ez:(xO ds).bind (fun kvs=>if(kvs.map (·.1)).Nodup then some (D.dic kvs)else none)=some z:=ez;cases ep:xO ds with
   |none=>rw[ep]at ez;cases ez
   |some kvs=>
    rw[ep]at ez;have ez:(if(kvs.map (·.1)).Nodup then some (D.dic kvs)else none)=some z:=ez
    split at ez
    ·rename_i nd
     cases ez;have hs1:Same c1.h H1:=fun a u e=>S1.toSE.all (m:=true) _ _ e
     obtain⟨ys,k1,k2,k3,k4⟩:=Qk hs1 ⟨l,r⟩ ep;exact⟨_,_,ys,rfl,hs1 _ _ ex,k2,k3,by rw[k1];exact nd,fun q hq=>k _ _ c1 fp1 (S1.newO hq) (FR.newO hq _) ⟨q,_,rfl,(S1.toSE.free hq).1,(S1.toSE.free hq).2,S1.toSE.freeE hq,ql,k1,nd,k4⟩ fun _ z ez=>by cases ez;exact hq⟩
    ·cases ez
  |_=>cases ez⟩
end
section
variable{X:Cx}
end
end M
namespace M
open PySem L2 X2
section
variable(T:Hp->Prop)(hT:HTb T)
def lad1:SS (W0 T hT)->Ou (W0 T hT):=
 (sSeq (sSet 10 (zO 3 (js T hT) (qf (eVar 0) (qf (M.e2 addD (eC (.int 1)) (eVar 7)) (qf (eC (.int 8)) aNil))))) (sSeq (sSet 11 (M.e2 addD (M.e2 addD (eVar 3) (M.e2 mulI (eC (.int 10)) (eVar 7))) (M.e2 modI (M.e2 ixD (eVar 10) (M.e2 mulI (eC (.int 4)) (eVar 8))) (eC (.int 3))))) (sApp 5 (eTup (qf (M.e2 addD (M.e2 mulI (eC (.int 2)) (eVar 7)) (eVar 8)) (qf (M.e2 ixD (eVar 2) (M.e2 modI (eVar 7) (eC (.int 3)))) (qf (M.e2 ixD (eVar 2) (M.e2 modI (M.e2 addD (eVar 7) (eC (.int 1))) (eC (.int 3)))) (qf (eVar 11) (qf (M.e2 addD (M.e2 addD (eVar 11) (eC (.int 1))) (M.e2 modI (M.e2 ixD (eVar 10) (M.e2 addD (M.e2 mulI (eC (.int 4)) (eVar 8)) (eC (.int 1)))) (eC (.int 6)))) aNil)))))))))
def wo:SS (W0 T hT)->Ou (W0 T hT):=
 (sSeq (sSet 1 (zO 3 (js T hT) (qf (eVar 0) (qf (eC (.int 0)) (qf (eC (.int 20)) aNil))))) (sSeq (sSet 2 (zO 2 (kW T hT) (qf (eVar 1) (qf (eC (.int 3)) aNil)))) (sSeq (sSet 3 (M.e2 ixD (eLst (qf (eC (.int 0)) (qf (M.e2 subI (eC (.int 0)) (M.e2 powI (eC (.int 10)) (eC (.int 40)))) (qf (M.e2 powI (eC (.int 10)) (eC (.int 20))) (qf (M.e2 ixD (eVar 1) (eC (.int 16))) aNil))))) (M.e2 modI (M.e2 ixD (eVar 1) (eC (.int 17))) (eC (.int 4))))) (sSeq (sSet 4 (M.e1 VY (j6 1 [1,2] (z9 (qf (eC (.int 3)) aNil)) (ze 0) qAll (eTup (qf (M.e2 ixD (eVar 2) (eVar 0)) (qf (M.e2 modI (M.e2 ixD (eVar 1) (eVar 0)) (eC (.int 3))) aNil)))))) (sSeq (sSet 5 (eLst aNil)) (sSeq (sSet 6 (M.e2 addD (eC (.int 12)) (M.e2 modI (M.e2 ixD (eVar 1) (eC (.int 18))) (eC (.int 9))))) (sSeq (sFor (z9 (qf (eVar 6) aNil)) (ze 7) (sFor (z9 (qf (eC (.int 2)) aNil)) (ze 8) (lad1 T hT))) (sSeq (sIf (qCmp eqD (M.e2 modI (M.e2 ixD (eVar 1) (eC (.int 19))) (eC (.int 3))) (eC (.int 1))) (sSeq (sSet 9 (M.e2 modI (M.e2 ixD (eVar 1) (eC (.int 16))) (eVar 6))) (sSet 5 (M.e2 addD (vM (eVar 5) Zu (xR (M.e2 mulI (eC (.int 2)) (eVar 9)))) (vM (eVar 5) (xR (M.e2 addD (M.e2 mulI (eC (.int 2)) (eVar 9)) (eC (.int 2)))) Zu)))) sNil) (sSeq (sIf (qCmp eqD (M.e2 modI (M.e2 ixD (eVar 1) (eC (.int 19))) (eC (.int 2))) (eC (.int 1))) (sSet 5 (eRev (eVar 5) (M.e1 negI (eC (.int 1))))) sNil) (sRet (eTup (qf (eVar 2) (qf (eVar 4) (qf (eVar 5) (qf (M.e2 ixD (eVar 2) (eC (.int 0))) (qf (M.e2 ixD (eVar 2) (M.e2 modI (eVar 6) (eC (.int 3)))) (qf (M.e2 subI (eVar 3) (M.e2 modI (M.e2 ixD (eVar 1) (eC (.int 19))) (eC (.int 4)))) aNil)))))))))))))))))
def vQ:List D->Option D:=jr 12 (wo T hT)
end
section
variable{P:Program}{w:World}{K:fH}{mg:fK}{base:Heap}{qh q_ qi qu qg qr qB qK zA qw qI qZ qL za zb qP qC qS je:Addr}{qU jw q9 zy qH zn zD z_ ki zr zN ja jb jz jA jy zP jx xi:FuncData}{T:Hp->Prop}{hT:HTb T}
variable{fp0:Fp}{ob0:Nat->fN}{tb:Nat->Option D}
theorem sc_Ldraws:FnScope gJ g7 (qp ya):=⟨rfl,rfl,rfl,by decide +kernel,rfl,by decide +kernel,by decide +kernel⟩
theorem K7(Tx:Txt K mg qh q_ qi qu qg qr qB qK zA qw qI qZ qL za zb qP qC qS je)(Fu:Fun K "_law_draws" "_law_draws" ya qI zN):FnOk P w K mg base CX0 1 qI zN g7 (spP K T 3 true (js T hT)):=by
 have z:=yE (P:=P) (w:=w) (K:=K) (mg:=mg) (base:=base) (k:=0) (n:=3) (N:=gJ) (ps:=g7) (fr:=true) (body:=(yX T hT)) (O':=[]) Fu sc_Ldraws rfl (fun cdv A outer s H EX E hr=>
  (qo (zF (i:=3) sc_Ldraws.nd rfl (by trivial) (DO.de (zi (zh jv kZ (de_c qe rfl) (qb (pv 1) (by decide))) (de_c qe rfl))))
  (qo (jf (zE XZ o_lt (qb (pv 1) (by decide)) (vN rfl Tx.b_len (qb (pv 0) (by decide))) (qR _))
  (qy (zF (i:=3) sc_Ldraws.nd rfl (by trivial) (qM (huR hr) (qb (pv 0) (by decide)) (qb (pv 1) (by decide)))))
  (qy (jf (zE X0 o_gt (vN rfl Tx.b_len (qb (pv 0) (by decide))) (de_c qe rfl) (qR _))
  (qy (zF (i:=3) sc_Ldraws.nd rfl (by trivial) (DO.de (zi (DO.de (zi (zh zB jd (qM (huR hr) (qb (pv 0) (by decide)) (zh zB jd (qb (pv 1) (by decide)) (vN rfl Tx.b_len (qb (pv 0) (by decide))))) (de_c qe rfl)) (zh jv kZ (zh jv kZ (qb (pv 1) (by decide)) (qb (pv 1) (by decide))) (de_c qe rfl)))) (de_c qe rfl)))))
  zg)))
  (qo (zF (i:=4) sc_Ldraws.nd rfl (by trivial) (DO.de (zi (DO.de (zi (zh zB jd (qb (pv 3) (by decide)) (de_c qe rfl)) (zh jv kZ (de_c qe rfl) (qb (pv 1) (by decide))))) (de_c qe rfl))))
  (qo (DS.weak (O:=[]) (O1:=[]) (O2:=[5]) (kj (i:=5) sc_Ldraws.nd rfl (by trivial) (jN (qE (m:=true)))) (by decide) (by decide))
  (qo (jf (zE K4 o_ge (qb (pv 3) (by decide)) (zh K0 Y5 (de_c qe rfl) (de_c qe rfl)) (qR _))
  (qy (Jr b8 (DW.dt (Jq (zE X0 o_gt (qb (pv 3) (by decide)) (de_c qe rfl) (qR _)) (yH (zE XZ o_lt (vN rfl Tx.b_len (kO (pv 5) (by decide))) (qb (pv 2) (by decide)) (qR _)))))
  (qo (k_ (pv 5) (by decide) (zh zB jd (qb (pv 3) (by decide)) (de_c qe rfl)))
  (qy (DS.weak (O:=[5]) (O1:=[5]) (O2:=[5]) (zF (i:=3) sc_Ldraws.nd rfl (by trivial) (zh Zs Vd (qb (pv 3) (by decide)) (de_c qe rfl))) (by decide) (by decide))))))
  zg)
  (qo (Jr b8 (zE XZ o_lt (vN rfl Tx.b_len (kO (pv 5) (by decide))) (qb (pv 2) (by decide)) (qR _))
  (qo (DS.weak (O:=[5]) (O1:=[5]) (O2:=[5]) (zF (i:=6) sc_Ldraws.nd rfl (by trivial) (DO.de (zi (vN rfl Tx.b_len (kO (pv 5) (by decide))) (de_c qe rfl)))) (by decide) (by decide))
  (qo (DS.weak (O:=[5]) (O1:=[5]) (O2:=[5]) (zF (i:=4) sc_Ldraws.nd rfl (by trivial) (zh zB jd (DO.de (zi (DO.de (zi (zh jv kZ (qb (pv 4) (by decide)) (de_c qe rfl)) (zh jv kZ (zh jv kZ (qb (pv 6) (by decide)) (qb (pv 6) (by decide))) (de_c qe rfl)))) (de_c qe rfl))) (de_c qe rfl))) (by decide) (by decide))
  (qy (k_ (pv 5) (by decide) (zh zB jd (zh zB jd (zh jv kZ (zh zB jd (qb (pv 4) (by decide)) (de_c qe rfl)) (DO.de (zi (zh zB jd (zh Zs Vd (qb (pv 4) (by decide)) (de_c qe rfl)) (de_c qe rfl)) (de_c qe rfl)))) (de_c qe rfl)) (de_c qe rfl)))))))
  (qy (VT (pv 5) (by decide))))))))))
 exact z
theorem sc_Lsame:FnScope ["_law_found","_law_due","_law_k"] gE (qp Zg):=⟨rfl,rfl,rfl,by decide +kernel,rfl,by decide +kernel,by decide +kernel⟩
theorem X3{F:List D->Option D}{k0:Nat}(Tx:Txt K mg qh q_ qi qu qg qr qB qK zA qw qI qZ qL za zb qP qC qS je)(Fu:Fun K "_law_same" "_law_same" Zg qZ ja)(GLsame:FnOk P w K mg base CX0 k0 qZ ja gE (spP K T 2 false F))(BLsame:Binds K ja gE []):FnOk P w K mg base CX0 (k0+1) qZ ja gE (spP K T 2 false (jr 3 (vh T hT F))):=by
 have z:=yE (P:=P) (w:=w) (K:=K) (mg:=mg) (base:=base) (k:=k0) (n:=2) (N:=["_law_found","_law_due","_law_k"]) (ps:=gE) (fr:=false) (body:=(vh T hT F)) (O':=[]) Fu sc_Lsame rfl (fun cdv A outer s H EX E hr=>
  (qo (jf (jV (Wy rfl Tx.b_isinstance (jn (v:=.ty "tuple") rfl Tx.b_tuple yQ rfl) (jn (v:=.ty "list") rfl Tx.b_list yR rfl) (qb (pv 1) (by decide))))
  (qo (jf (DW.dt (uv (zE (K2 (huR hr)) o_ne (jO QJ rfl Tx.b_isinstance (jn (v:=.ty "tuple") rfl Tx.b_tuple yQ rfl) (qb (pv 1) (by decide))) (jO QJ rfl Tx.b_isinstance (jn (v:=.ty "tuple") rfl Tx.b_tuple yQ rfl) (qb (pv 0) (by decide))) (qR _)) (VQ (zE (K2 (huR hr)) o_ne (jO Jl rfl Tx.b_isinstance (jn (v:=.ty "list") rfl Tx.b_list yR rfl) (qb (pv 1) (by decide))) (jO Jl rfl Tx.b_isinstance (jn (v:=.ty "list") rfl Tx.b_list yR rfl) (qb (pv 0) (by decide))) (qR _)))))
  (qy (zG (de_c kJ rfl)))
  zg)
  (qo (jf (zE (K2 (huR hr)) o_ne (vN rfl Tx.b_len (qb (pv 0) (by decide))) (vN rfl Tx.b_len (qb (pv 1) (by decide))) (qR _))
  (qy (zG (de_c kJ rfl)))
  zg)
  (qo (QO b8 rfl qm (j7 rfl Tx.b_range (qc (m:=true) (vN rfl Tx.b_len (qb (pv 1) (by decide))) (qE (m:=true)))) (qX (qx (i:=2) sc_Lsame.nd rfl (by trivial)))
  (qy (jf (wM (jV (zT hr rfl Tx.m_Lsame Tx.k_Lsame BLsame (G:=GLsame) (ha:=(qc (m:=true) (qM (huR hr) (qb (pv 0) (by decide)) (qb (pv 2) (by decide))) (qc (m:=true) (qM (huR hr) (qb (pv 1) (by decide)) (qb (pv 2) (by decide))) (qE (m:=true))))))))
  (qy (zG (de_c kJ rfl)))
  zg)))
  (qy (zG (de_c kJ rfl))))))
  zg)
  (qo (jf (zE Je X6 (qb (pv 1) (by decide)) (de_c xb rfl) (qR _))
  (qy (zG (kQ Je X6 (qb (pv 0) (by decide)) (de_c xb rfl) (qR _))))
  zg)
  (qo (jf (DW.dt (uv (jV (jO xx rfl Tx.b_isinstance (jn (v:=.ty "bool") rfl Tx.b_bool yS rfl) (qb (pv 1) (by decide)))) (VQ (jV (jO xx rfl Tx.b_isinstance (jn (v:=.ty "bool") rfl Tx.b_bool yS rfl) (qb (pv 0) (by decide)))))))
  (qy (zG (wg (jO xx rfl Tx.b_isinstance (jn (v:=.ty "bool") rfl Tx.b_bool yS rfl) (qb (pv 1) (by decide))) (wg (jO xx rfl Tx.b_isinstance (jn (v:=.ty "bool") rfl Tx.b_bool yS rfl) (qb (pv 0) (by decide))) (wN (kQ (jI (huR hr)) o_eq (qb (pv 0) (by decide)) (qb (pv 1) (by decide)) (qR _)))))))
  zg)
  (qo (jf (jV (jO VA rfl Tx.b_isinstance (jn (v:=.ty "int") rfl Tx.b_int Xh rfl) (qb (pv 1) (by decide))))
  (qy (zG (wg (jO VA rfl Tx.b_isinstance (jn (v:=.ty "int") rfl Tx.b_int Xh rfl) (qb (pv 0) (by decide))) (wN (kQ (jI (huR hr)) o_eq (qb (pv 0) (by decide)) (qb (pv 1) (by decide)) (qR _))))))
  zg)
  (qy (zG (wg (jO uj rfl Tx.b_isinstance (jn (v:=.ty "str") rfl Tx.b_str qb4 rfl) (qb (pv 0) (by decide))) (wN (kQ (jI (huR hr)) o_eq (qb (pv 0) (by decide)) (qb (pv 1) (by decide)) (qR _)))))))))))
 exact z
theorem sc_Lnames:FnScope gI gL (qp w_):=⟨rfl,rfl,rfl,by decide +kernel,rfl,by decide +kernel,by decide +kernel⟩
theorem K6(Tx:Txt K mg qh q_ qi qu qg qr qB qK zA qw qI qZ qL za zb qP qC qS je)(Fu:Fun K "_law_names" "_law_names" w_ qL jb):FnOk P w K mg base CX0 1 qL jb gL (spP K T 2 true (kW T hT)):=by
 have z:=yE (P:=P) (w:=w) (K:=K) (mg:=mg) (base:=base) (k:=0) (n:=2) (N:=gI) (ps:=gL) (fr:=true) (body:=(yW T hT)) (O':=[]) Fu sc_Lnames rfl (fun cdv A outer s H EX E hr=>
  (qo (zF (i:=2) sc_Lnames.nd rfl (by trivial) (de_c KO rfl))
  (qo (DS.weak (O:=[]) (O1:=[]) (O2:=[3]) (kj (i:=3) sc_Lnames.nd rfl (by trivial) (jN (qE (m:=true)))) (by decide) (by decide))
  (qo (QO b8 rfl qm (j7 rfl Tx.b_range (qc (m:=true) (qb (pv 1) (by decide)) (qE (m:=true)))) (qX (qx (i:=4) sc_Lnames.nd rfl (by trivial)))
  (qo (DS.weak (O:=[3]) (O1:=[3]) (O2:=[3]) (zF (i:=5) sc_Lnames.nd rfl (by trivial) (qM (huR hr) (qb (pv 2) (by decide)) (zh zB jd (DO.de (zi (zh jv kZ (qb (pv 4) (by decide)) (qM (huR hr) (DO.de (jN (qc (m:=true) (de_c qe rfl) (qc (m:=true) (de_c qe rfl) (qc (m:=true) (de_c qe rfl) (qc (m:=true) (de_c qe rfl) (qc (m:=true) (de_c qe rfl) (qc (m:=true) (de_c qe rfl) (qE (m:=true)))))))))) (zh zB jd (qM (huR hr) (qb (pv 0) (by decide)) (de_c qe rfl)) (de_c qe rfl)))) (qM (huR hr) (qb (pv 0) (by decide)) (de_c qe rfl)))) (de_c qe rfl)))) (by decide) (by decide))
  (qo (DS.weak (O:=[3]) (O1:=[3]) (O2:=[3]) (zF (i:=6) sc_Lnames.nd rfl (by trivial) (uC (de_c KO rfl) (DO.de (VX (T:=["_law_j"]) (caps:=["_law_d","_law_letters"]) (ix:=[0,2]) (O1:=[]) (kn rfl (by rfl) (by decide +kernel) (by decide +kernel) rfl (by contradiction) (by rfl) (by contradiction)) rfl (by decide) qm (DI.toC (j7 rfl Tx.b_range (qc (m:=true) (zh zB jd (qM (huR hr) (qb (pv 0) (by decide)) (DO.de (zi (de_c qe rfl) (qb (pv 4) (by decide))))) (de_c qe rfl)) (qE (m:=true))))) (fun _ _ _ _ _=>(qX (qx (i:=0) (by show(["_law_j","_law_d","_law_letters"]:fP).Nodup;decide +kernel) rfl (by trivial)))) (by decide) (by decide) (fun _ _ _ _ _=>VR) (fun _ _ _ _ _=>(qM (huR hr) (DO.de (zi (qb (pv 2) (by decide)) (de_c KO rfl))) (zh zB jd (DO.de (zi (qM (huR hr) (qb (pv 1) (by decide)) (de_c qe rfl)) (zh jv kZ (qb (pv 0) (by decide)) (qM (huR hr) (qb (pv 1) (by decide)) (de_c qe rfl))))) (de_c qe rfl)))))))) (by decide) (by decide))
  (qy (k_ (pv 3) (by decide) (qM (huR hr) (DO.de (jN (qc (m:=true) (DO.de (zi (qb (pv 5) (by decide)) (qb (pv 6) (by decide)))) (qc (m:=true) (DO.de (zi (qb (pv 6) (by decide)) (qb (pv 5) (by decide)))) (qE (m:=true)))))) (zh zB jd (zh Zs Vd (qM (huR hr) (qb (pv 0) (by decide)) (de_c qe rfl)) (de_c qe rfl)) (de_c qe rfl))))))))
  (qy (VT (pv 3) (by decide)))))))
 exact z
theorem sc_Lladder:FnScope g8 ["_law_script"] (qp xG):=⟨rfl,rfl,rfl,by decide +kernel,rfl,by decide +kernel,by decide +kernel⟩
theorem JQ(Tx:Txt K mg qh q_ qi qu qg qr qB qK zA qw qI qZ qL za zb qP qC qS je)(Fu:Fun K "_law_ladder" "_law_ladder" xG qC zP)(GLdraws:FnOk P w K mg base CX0 1 qI zN g7 (spP K T 3 true (js T hT)))(BLdraws:Binds K zN g7 [])(GLnames:FnOk P w K mg base CX0 1 qL jb gL (spP K T 2 true (kW T hT)))(BLnames:Binds K jb gL []):FnOk P w K mg base CX0 2 qC zP ["_law_script"] (spP K T 1 false (vQ T hT)):=by
 have z:=yE (P:=P) (w:=w) (K:=K) (mg:=mg) (base:=base) (k:=1) (n:=1) (N:=g8) (ps:=["_law_script"]) (fr:=false) (body:=(wo T hT)) (O':=[]) Fu sc_Lladder rfl (fun cdv A outer s H EX E hr=>
  (qo (zF (i:=1) sc_Lladder.nd rfl (by trivial) (DO.de (vZ (hr.mono (by decide)) rfl Tx.m_Ldraws Tx.k_Ldraws BLdraws (G:=GLdraws) (ha:=(qc (m:=true) (qb (pv 0) (by decide)) (qc (m:=true) (de_c qe rfl) (qc (m:=true) (de_c qe rfl) (qE (m:=true)))))))))
  (qo (zF (i:=2) sc_Lladder.nd rfl (by trivial) (DO.de (vZ (hr.mono (by decide)) rfl Tx.m_Lnames Tx.k_Lnames BLnames (G:=GLnames) (ha:=(qc (m:=true) (qb (pv 1) (by decide)) (qc (m:=true) (de_c qe rfl) (qE (m:=true))))))))
  (qo (zF (i:=3) sc_Lladder.nd rfl (by trivial) (qM (huR hr) (DO.de (jN (qc (m:=true) (de_c qe rfl) (qc (m:=true) (zh Ql Vc (de_c qe rfl) (zh K0 Y5 (de_c qe rfl) (de_c qe rfl))) (qc (m:=true) (zh K0 Y5 (de_c qe rfl) (de_c qe rfl)) (qc (m:=true) (qM (huR hr) (qb (pv 1) (by decide)) (de_c qe rfl)) (qE (m:=true)))))))) (zh zB jd (qM (huR hr) (qb (pv 1) (by decide)) (de_c qe rfl)) (de_c qe rfl))))
  (qo (zF (i:=4) sc_Lladder.nd rfl (by trivial) (DO.de (Wv rfl rfl Tx.b_dict (DO.de (VX (T:=["_law_k"]) (caps:=["_law_d","_law_names_here"]) (ix:=[1,2]) (O1:=[]) (kn rfl (by rfl) (by decide +kernel) (by decide +kernel) rfl (by contradiction) (by rfl) (by contradiction)) rfl (by decide) qm (DI.toC (j7 rfl Tx.b_range (qc (m:=true) (de_c qe rfl) (qE (m:=true))))) (fun _ _ _ _ _=>(qX (qx (i:=0) (by show(["_law_k","_law_d","_law_names_here"]:fP).Nodup;decide +kernel) rfl (by trivial)))) (by decide) (by decide) (fun _ _ _ _ _=>VR) (fun _ _ _ _ _=>(kP (qc (m:=true) (qM (huR hr) (qb (pv 2) (by decide)) (qb (pv 0) (by decide))) (qc (m:=true) (zh zB jd (qM (huR hr) (qb (pv 1) (by decide)) (qb (pv 0) (by decide))) (de_c qe rfl)) (qE (m:=true)))))))))))
  (qo (DS.weak (O:=[]) (O1:=[]) (O2:=[5]) (kj (i:=5) sc_Lladder.nd rfl (by trivial) (jN (qE (m:=true)))) (by decide) (by decide))
  (qo (DS.weak (O:=[5]) (O1:=[5]) (O2:=[5]) (zF (i:=6) sc_Lladder.nd rfl (by trivial) (DO.de (zi (de_c qe rfl) (zh zB jd (qM (huR hr) (qb (pv 1) (by decide)) (de_c qe rfl)) (de_c qe rfl))))) (by decide) (by decide))
  (qo (QO b8 rfl qm (j7 rfl Tx.b_range (qc (m:=true) (qb (pv 6) (by decide)) (qE (m:=true)))) (qX (qx (i:=7) sc_Lladder.nd rfl (by trivial)))
  (qy (QO b8 rfl qm (j7 rfl Tx.b_range (qc (m:=true) (de_c qe rfl) (qE (m:=true)))) (qX (qx (i:=8) sc_Lladder.nd rfl (by trivial)))
  (qo (DS.weak (O:=[5]) (O1:=[5]) (O2:=[5]) (zF (i:=10) sc_Lladder.nd rfl (by trivial) (DO.de (vZ (hr.mono (by decide)) rfl Tx.m_Ldraws Tx.k_Ldraws BLdraws (G:=GLdraws) (ha:=(qc (m:=true) (qb (pv 0) (by decide)) (qc (m:=true) (DO.de (zi (de_c qe rfl) (qb (pv 7) (by decide)))) (qc (m:=true) (de_c qe rfl) (qE (m:=true))))))))) (by decide) (by decide))
  (qo (DS.weak (O:=[5]) (O1:=[5]) (O2:=[5]) (zF (i:=11) sc_Lladder.nd rfl (by trivial) (DO.de (zi (DO.de (zi (qb (pv 3) (by decide)) (zh jv kZ (de_c qe rfl) (qb (pv 7) (by decide))))) (zh zB jd (qM (huR hr) (qb (pv 10) (by decide)) (zh jv kZ (de_c qe rfl) (qb (pv 8) (by decide)))) (de_c qe rfl))))) (by decide) (by decide))
  (qy (k_ (pv 5) (by decide) (kP (qc (m:=true) (DO.de (zi (zh jv kZ (de_c qe rfl) (qb (pv 7) (by decide))) (qb (pv 8) (by decide)))) (qc (m:=true) (qM (huR hr) (qb (pv 2) (by decide)) (zh zB jd (qb (pv 7) (by decide)) (de_c qe rfl))) (qc (m:=true) (qM (huR hr) (qb (pv 2) (by decide)) (zh zB jd (DO.de (zi (qb (pv 7) (by decide)) (de_c qe rfl))) (de_c qe rfl))) (qc (m:=true) (qb (pv 11) (by decide)) (qc (m:=true) (DO.de (zi (DO.de (zi (qb (pv 11) (by decide)) (de_c qe rfl))) (zh zB jd (qM (huR hr) (qb (pv 10) (by decide)) (DO.de (zi (zh jv kZ (de_c qe rfl) (qb (pv 8) (by decide))) (de_c qe rfl)))) (de_c qe rfl)))) (qE (m:=true)))))))))))))))
  (qo (jf (zE (jI (huR hr)) o_eq (zh zB jd (qM (huR hr) (qb (pv 1) (by decide)) (de_c qe rfl)) (de_c qe rfl)) (de_c qe rfl) (qR _))
  (qo (DS.weak (O:=[5]) (O1:=[5]) (O2:=[5]) (zF (i:=9) sc_Lladder.nd rfl (by trivial) (zh zB jd (qM (huR hr) (qb (pv 1) (by decide)) (de_c qe rfl)) (qb (pv 6) (by decide)))) (by decide) (by decide))
  (qy (DS.weak (O:=[5]) (O1:=[]) (O2:=[5]) (DS.weak (O:=[]) (O1:=[]) (O2:=[5]) (kj (i:=5) sc_Lladder.nd rfl (by trivial) (zi (DO.de (Ju (qb (pv 5) (by decide)) Jt (Js (zh jv kZ (de_c qe rfl) (qb (pv 9) (by decide)))))) (DO.de (Ju (qb (pv 5) (by decide)) (Js (DO.de (zi (zh jv kZ (de_c qe rfl) (qb (pv 9) (by decide))) (de_c qe rfl)))) Jt)))) (by decide) (by decide)) (by decide) (by decide))))
  zg)
  (qo (jf (zE (jI (huR hr)) o_eq (zh zB jd (qM (huR hr) (qb (pv 1) (by decide)) (de_c qe rfl)) (de_c qe rfl)) (de_c qe rfl) (qR _))
  (qy (DS.weak (O:=[5]) (O1:=[]) (O2:=[5]) (DS.weak (O:=[]) (O1:=[]) (O2:=[5]) (kj (i:=5) sc_Lladder.nd rfl (by trivial) (qby (qb (pv 5) (by decide)) (qb0 (de_c qe rfl)) (fun o i=>Yu _ _ _ _ o i))) (by decide) (by decide)) (by decide) (by decide)))
  zg)
  (qy (DS.weak (O:=[5]) (O1:=[]) (O2:=[]) (O':=[]) (zG (kP (qc (m:=true) (qb (pv 2) (by decide)) (qc (m:=true) (qb (pv 4) (by decide)) (qc (m:=true) (qb (pv 5) (by decide)) (qc (m:=true) (qM (huR hr) (qb (pv 2) (by decide)) (de_c qe rfl)) (qc (m:=true) (qM (huR hr) (qb (pv 2) (by decide)) (zh zB jd (qb (pv 6) (by decide)) (de_c qe rfl))) (qc (m:=true) (zh Ql Vc (qb (pv 3) (by decide)) (zh zB jd (qM (huR hr) (qb (pv 1) (by decide)) (de_c qe rfl)) (de_c qe rfl))) (qE (m:=true)))))))))) (by decide) (by decide)))))))))))))
 exact z
theorem xm:FnScope fW fW (qp jD):=⟨rfl,rfl,rfl,by decide +kernel,rfl,by decide +kernel,by decide +kernel⟩
theorem xn(Tx:Txt K mg qh q_ qi qu qg qr qB qK zA qw qI qZ qL za zb qP qC qS je)(Fu:Fun K "spare_between" "spare_between" jD qh qU):FnOk P w K mg base CX0 1 qh qU fW (spP K T 3 false (jc T hT)):=by
 obtain⟨t_LEAVES,e_LEAVES⟩:=Tx.c_LEAVES;obtain⟨t_COMES,e_COMES⟩:=Tx.c_COMES;obtain⟨t_GOAL,e_GOAL⟩:=Tx.c_GOAL;have z:=yE (P:=P) (w:=w) (K:=K) (mg:=mg) (base:=base) (k:=0) (n:=3) (N:=fW) (ps:=fW) (fr:=false) (body:=(kT T hT)) (O':=[]) Fu xm rfl (fun cdv A outer s H EX E hr=>
  (qy (zG (zh Ql Vc (zh Ql Vc (qM (huR hr) (qb (pv 1) (by decide)) (de_c (jG (v:=.int 3) rfl e_LEAVES ⟨_,rfl⟩) rfl)) (qM (huR hr) (qb (pv 0) (by decide)) (de_c (jG (v:=.int 4) rfl e_COMES ⟨_,rfl⟩) rfl))) (qM (huR hr) (qb (pv 2) (by decide)) (qM (huR hr) (qb (pv 0) (by decide)) (de_c (jG (v:=.int 2) rfl e_GOAL ⟨_,rfl⟩) rfl)))))))
 exact z
theorem XB:FnScope fW fW (qp Zf):=⟨rfl,rfl,rfl,by decide +kernel,rfl,by decide +kernel,by decide +kernel⟩
theorem X1(Tx:Txt K mg qh q_ qi qu qg qr qB qK zA qw qI qZ qL za zb qP qC qS je)(Fu:Fun K "hangs" "hangs" Zf q_ jw)(Gspare_between:FnOk P w K mg base CX0 1 qh qU fW (spP K T 3 false (jc T hT)))(Bspare_between:Binds K qU fW []):FnOk P w K mg base CX0 2 q_ jw fW (spP K T 3 false (v9 T hT)):=by
 obtain⟨t_START,e_START⟩:=Tx.c_START;obtain⟨t_GOAL,e_GOAL⟩:=Tx.c_GOAL;have z:=yE (P:=P) (w:=w) (K:=K) (mg:=mg) (base:=base) (k:=1) (n:=3) (N:=fW) (ps:=fW) (fr:=false) (body:=(Xm T hT)) (O':=[]) Fu XB rfl (fun cdv A outer s H EX E hr=>
  (qy (zG (wg (kQ (jI (huR hr)) o_eq (qM (huR hr) (qb (pv 1) (by decide)) (de_c (jG (v:=.int 1) rfl e_START ⟨_,rfl⟩) rfl)) (qM (huR hr) (qb (pv 0) (by decide)) (de_c (jG (v:=.int 2) rfl e_GOAL ⟨_,rfl⟩) rfl)) (qR _)) (wN (kQ K4 o_ge (zT (hr.mono (by decide)) rfl Tx.m_spare_between Tx.k_spare_between Bspare_between (G:=Gspare_between) (ha:=(qc (m:=true) (qb (pv 0) (by decide)) (qc (m:=true) (qb (pv 1) (by decide)) (qc (m:=true) (qb (pv 2) (by decide)) (qE (m:=true))))))) (de_c qe rfl) (qR _)))))))
 exact z
theorem xl:FnScope ["comes"] ["comes"] (qp jC):=⟨rfl,rfl,rfl,by decide +kernel,rfl,by decide +kernel,by decide +kernel⟩
theorem km(Tx:Txt K mg qh q_ qi qu qg qr qB qK zA qw qI qZ qL za zb qP qC qS je)(Fu:Fun K "worth_of_none" "worth_of_none" jC qg qH):FnOk P w K mg base CX0 1 qg qH ["comes"] (spP K T 1 false (zc T hT)):=by
 have z:=yE (P:=P) (w:=w) (K:=K) (mg:=mg) (base:=base) (k:=0) (n:=1) (N:=["comes"]) (ps:=["comes"]) (fr:=false) (body:=(jP T hT)) (O':=[]) Fu xl rfl (fun cdv A outer s H EX E hr=>
  (qy (zG (kP (qc (m:=true) (de_c qe rfl) (qc (m:=true) (de_c qe rfl) (qc (m:=true) (qb (pv 0) (by decide)) (qc (m:=true) (de_c qe rfl) (qc (m:=true) (DO.de (jN (qE (m:=true)))) (qE (m:=true)))))))))))
 exact z
theorem XC:FnScope g4 g4 (qp Zh):=⟨rfl,rfl,rfl,by decide +kernel,rfl,by decide +kernel,by decide +kernel⟩
theorem X4(Tx:Txt K mg qh q_ qi qu qg qr qB qK zA qw qI qZ qL za zb qP qC qS je)(Fu:Fun K "_law_hang" "_law_hang" Zh za jz):FnOk P w K mg base CX0 1 za jz g4 (spP K T 3 false (vj T hT)):=by
 have z:=yE (P:=P) (w:=w) (K:=K) (mg:=mg) (base:=base) (k:=0) (n:=3) (N:=g4) (ps:=g4) (fr:=false) (body:=(Xo T hT)) (O':=[]) Fu XC rfl (fun cdv A outer s H EX E hr=>
  (qy (zG (wg (kQ (jI (huR hr)) o_eq (qM (huR hr) (qb (pv 0) (by decide)) (de_c qe rfl)) (qM (huR hr) (qb (pv 1) (by decide)) (de_c qe rfl)) (qR _)) (wN (kQ K4 o_ge (qM (huR hr) (qb (pv 1) (by decide)) (de_c qe rfl)) (DO.de (zi (qM (huR hr) (qb (pv 0) (by decide)) (de_c qe rfl)) (qM (huR hr) (qb (pv 2) (by decide)) (qM (huR hr) (qb (pv 0) (by decide)) (de_c qe rfl))))) (qR _)))))))
 exact z
end
end M
namespace X2
open PySem PySem.Spec PyProof.Rows L2
variable{s:Shared}{c':Addr}{lq px:Str}{ck ix:Nat}{params:Arguments}{scope:Scope}{pm:Value}{bp gp pp:Pos}
theorem Vs{prog:Program}{w:World}{A:Around}{q x:Addr}{ctv:Value}{mg:fK}{its:fO}{t:Tok}{k:Int}
  (hq:s.heap.get? q=some (PySem.W.kla_obj "<lambda>" lq params (.Subscript (.Name px pp) (.Constant (.int (ix:Nat)) ck gp) bp) scope [] pm c' ctv))(hc:s.heap.CodeRec (.ref c') lq)(hd:A.depth<recursionLimit)(lim:s.heap.NoLimit)(glob:s.heap.Ns mainGlobals mg)
  (ht:IsTup s.heap x its)(hk:its[ix]?=some (.int k t))(hz:its.size<=sizeLine)
  (hb:bindArgs (PySem.W.kla_fn "<lambda>" lq params (.Subscript (.Name px pp) (.Constant (.int (ix:Nat)) ck gp) bp) scope [] pm (.ref c') ctv) ⟨[.ref x],[]⟩=pure [(px,.ref x)])
  (kd:scope.kind=.function)(co:scope.isCoroutine=false)(gn:scope.isGenerator=false)(ncell:∀y∈scope.names,y.2≠.cell)(lpx:scope.names.lookup px=some .local)
  (d1:(px == ("__debug__":Str))=false) :
  wpAny (model prog w) A (call (.ref q) [.ref x]) (fun v s'=>∃h' tk t',s'={ s with heap:=h',toks:=tk }/\v=.int k t'/\∀b o,s.heap.get? b=some o->h'.get? b=some o) (fun _ _=>False) s:=by
 refine wpAny_call (PySem.W.kla_callFunE hd hq rfl co gn rfl hc ?_);rw[hb];refine aw (c7 ncell (fun y hy=>?_) (fun h₁ hns hsb=>⟨lim.fresh _ hsb,?_⟩) kd)
 ·rw[au.mp hy]
  exact lpx
 have hk₁:∀b o,s.heap.get? b=some o->h₁.get? b=some o:=fun b o e=>hsb.extBut b o (aq (ao e)) (ae _ e)
 refine PySem.W.kla_codeExpr ?_;have hix:ix<its.size:=by
  obtain⟨z,_⟩:=eJ.mp hk;exact z
 refine eQ (fw (dh kd lpx hns (show List.lookup px [(px,Value.ref x)].reverse=some (.ref x) by simp[List.lookup]) ?_) d1);refine wpAny_Constant_int ?_;have ht1:IsTup h₁ x its:=by
  obtain⟨o,e,r⟩:=ht;exact⟨o,hk₁ _ _ e,r⟩
 have hn:=xf;refine cQ (x:=.int k t) ht1.typeIs slot_tuple_getitem.lookup (getItem_tuple (j:=ix) ht1 (by omega) (by omega) ?_ hk ⟨rfl,?_⟩)
 ·unfold seqIndex?
  simp;omega
 ·exact⟨_,_,_,rfl,rfl,hk₁⟩
theorem JI{X:Cx}{pins:fI}{σ:L2.St}{H:Hp}{Q:VK}{a q:Addr}{xs:List V}{ks:fR}{b:Bool}{kw:List (Str×Value)}{k0:Nat}
  (I:Inv X pins σ H s)(hr:Room k0 X.A)(hx:SqL X.K H a xs)(h64:xs.length<64)(hlen:ks.length=xs.length)(items:∀(i:Nat) x k,xs[i]?=some x->ks[i]?=some k->∃p ws,x=V.ref p/\H p=some (.tup ws)/\ws[ix]?=some (.int k))
  (hq:H q=some (vc q lq params (.Subscript (.Name px pp) (.Constant (.int (ix:Nat)) ck gp) bp) scope pm c'))(hc:H c'=some (vd c' lq))
  (hb:∀ctv x,bindArgs (PySem.W.kla_fn "<lambda>" lq params (.Subscript (.Name px pp) (.Constant (.int (ix:Nat)) ck gp) bp) scope [] pm (.ref c') ctv) ⟨[.ref x],[]⟩=pure [(px,.ref x)])
  (kd:scope.kind=.function)(co:scope.isCoroutine=false)(gn:scope.isGenerator=false)(ncell:∀y∈scope.names,y.2≠.cell)(lpx:scope.names.lookup px=some .local)
  (d1:(px == ("__debug__":Str))=false)
  (ha1:argsOk "sorted" ⟨[.ref a],kw⟩)(ha2:∀x,argsOk "list.sort" ⟨[.ref x],kw⟩)(ht:∀x,Builtin.«list.sort» ⟨[.ref x],kw⟩=ksk_tree x (.ref q) b)
  (fin:∀D out,H D=none->KOut b ks xs out->Q (.ref D) (upd H D (.lst out))):wpAny (model X.prog X.w) X.A (call (.builtin "sorted") [.ref a] kw) (EP X pins σ Q) X.xe s:=by
 obtain⟨us,ru,pu,hz⟩:=I.list hx;obtain⟨m,hm,_⟩:=id I.loc;have lu:=ru.length;have nL:∀{b u},H b=some u->b≠X.env.locals:=fun e z=>by have:=I.free;rw[<- z,e]at this;cases this
 refine ksk_sorted (h₀:=Att.noObjs s.heap) (L:=X.env.locals) (m:=m) (news:=v7 (Att.noObjs s.heap) s.heap X.env.locals) (kz:=ks) (Att.fr_all hm) Jj pu.isList (by rw[hlen,lu]) (by rw[<- lu];exact h64) ha1 ha2 ht ?_ ?_
 ·intro i v k hv hk h tk own F' N'
  have get:∀b o,b≠X.env.locals->s.heap.get? b=some o->h.get? b=some o:=fun b o nb e=>(N' (b,o) (aU _ (jp nb (Att.noObjs_get _ _) e))).1
  have hi:i<xs.length:=by rw[lu];exact(ai.mp hv).1
  have hxi:xs[i]?=some xs[i]:=aa hi;obtain⟨u,hu,rv⟩:=ru.get hxi;rw[hv]at hu;cases hu;obtain⟨p,ws,ep,hp,hw⟩:=items i _ k hxi hk;rw[ep]at rv;cases (show v=Value.ref p from rv);obtain⟨its,r,pl,hz2⟩:=I.tuple (SqT.of (K:=X.K) hp);obtain⟨u,hu,⟨t,rfl⟩⟩:=r.get hw;obtain⟨⟨ctv,eq⟩,_⟩:=I.hok q _ hq;have cr:s.heap.CodeRec (.ref c') lq:=(I.hok c' _ hc).1;have keepB:∀b o,X.base.get? b=some o->h.get? b=some o:=fun b o e=>get b o (aq (aI (ao (I.ok.bs b o e).1) I.ok.above)) (I.bk b o e)
  have cr':h.CodeRec (.ref c') lq:=by
   obtain⟨c2,o,vs,t,z1,z2,z3,z4⟩:=cr;cases z1;exact⟨_,o,vs,t,rfl,get _ _ (nL hc) z2,z3,z4⟩
  have tp:IsTup h p its.toArray:=by
   obtain⟨o,e,r⟩:=pl;exact⟨o,get _ _ (nL hp) e,r⟩
  refine bf (Vs (s:={ s with heap:=h,toks:=tk }) (mg:=X.mg) (get _ _ (nL hq) eq) cr' (show X.A.in1.in1.depth<recursionLimit from hr.depth) (I.mod.nolimit.keeps keepB) (I.mod.glob.keeps keepB) tp (by simpa using hu) (by rw[ah,<- r.length];exact hz2) (hb ctv p) kd co gn ncell lpx d1) (fun v s' hh=>?_) fun _ _ z=>z
  obtain⟨h2,tk2,t2,e1,e2,kk⟩:=hh;exact⟨h2,tk2,t2,by rw[e1],e2,F'.kept kk,N'.grown kk⟩
 ·intro D h' tk out c F' N' hlt ko
  have kept:∀b o,b≠X.env.locals->s.heap.get? b=some o->h'.get? b=some o:=fun b o nb e=>(N' (b,o) (av _ (jp nb (Att.noObjs_get _ _) e))).1
  have hDn:=N' (D,seqObj "list" out c) (ar ..);have hD:s.heap.get? D=none:=by
   cases e:s.heap.get? D with
   |none=>rfl
   |some o=>exact absurd (hlt (D,o) (jp hDn.2.1 (Att.noObjs_get _ _) e)) (bH _)
  obtain⟨qs,hp,ho,hw⟩:=ko;obtain⟨ps,pr,pp'⟩:=kH hp (vU (ks:=ks) ru);have lps:ps.length=xs.length:=by rw[pp'.length_eq,eA];omega
  have vo:Vals (ps.map Prod.snd) out.toList:=by rw[ho];exact vV pr
  refine⟨.ref D,_,I.laidL (t':=tk) (o:=.lst (ps.map Prod.snd)) kept (fun m' hm'=>?_) hD ?_,rfl,fin D _ (x_ I hD) ⟨ps,pp',rfl,xP pr hw⟩⟩
  ·have em:m'=m:=funext fun x=>hm'.agree hm x
   rw[em];exact F'.ns
  ·exact⟨by rw[ab,lps];exact bD (jt (by omega)),out.toList,c,vo,by rw[di];exact hDn.1⟩
section
variable{X:Cx}{l:Expr}{tl:TE}{k0:Nat}{px:Str}{ck:Nat}{params:Arguments}{scope:Scope}{pp gp bp lpos kp p pos:Pos}{ix:Nat}{c P:Addr}
theorem KQ(hr:Room k0 X.A)(hg:Gl X "sorted")(hm:X.mg "sorted"=none)(hl:PE X l tl)(hcode:X.env.code=.ref c)(hc:PySem.W.codeHdIn X.K c P=true)(BM:Bm X.base X.mg)
  (hdef:defaultsOf params X.env=([],[]):=by rfl)(hcl:closureFor scope X.env=pure []:=by rfl)
  (hb:∀(c':Addr)(pm ctv:Value)(x:Addr),bindArgs (PySem.W.kla_fn "<lambda>" (X.env.qual++"<lambda>") params (.Subscript (.Name px pp) (.Constant (.int (ix:Nat)) ck gp) bp) scope [] pm (.ref c') ctv) ⟨[.ref x],[]⟩=pure [(px,.ref x)]:=by intro _ _ _ _;rfl)
  (kd:scope.kind=.function:=by rfl)(co:scope.isCoroutine=false:=by rfl)(gn:scope.isGenerator=false:=by rfl)(ncell:∀y∈scope.names,y.2≠.cell:=by decide +kernel)(lpx:scope.names.lookup px=some .local:=by rfl)
  (d1:(px == ("__debug__":Str))=false:=by decide)(he:starEach [l] X.env=[(false,eval l X.env)]:=by rfl) :
  PE X (.Call (.Name "sorted" p) [l] [⟨some "key",.Lambda params (.Subscript (.Name px pp) (.Constant (.int (ix:Nat)) ck gp) bp) scope lpos,kp⟩] pos) (Kd X.K P lpos (X.env.qual++"<lambda>") ix false tl):=by
 intro pins s σ H Q I h;refine cy (xX I hg hm bt_sorted ?_);refine dU (first:=[]) (by rw[he];rfl) rfl (evalArgs_kw2 rfl ?_ he);refine thn ((qA hl zx he) pos pins s σ H (fun vs H1=>match vs with
  |[x]=>∃a xs ks,x=.ref a/\SqL X.K H1 a xs/\xs.length<64/\ks.length=xs.length/\(∀(i:Nat) x k,xs[i]?=some x->ks[i]?=some k->∃p ws,x=V.ref p/\H1 p=some (.tup ws)/\ws[ix]?=some (.int k))/\TabOk H1 P lpos (X.env.qual++"<lambda>")/\
    ∀D out H2,SaT P H1 H2->TabOk H2 P lpos (X.env.qual++"<lambda>")->H1 D=none->H2 D=some (.lst out)->KOut false ks xs out->Q (.ref D) H2
  |_=>False) I h) fun us s1 hus=>?_
 obtain⟨vs,H1,I1,r1,q1⟩:=hus;obtain⟨x,rfl⟩:∃x,vs=[x]:=by
  cases vs with
  |nil=>exact q1.elim
  |cons x r=>
   cases r with
   |nil=>exact⟨x,rfl⟩
   |cons y r=>exact q1.elim
 obtain⟨u,rfl,ru⟩:=eW r1;obtain⟨a,xs,ks,rfl,hx,h64,hlen,items,tab,fin⟩:=q1;cases (show u=Value.ref a from ru);refine thn ((yi (kpos:=kp) (nm:=some "key") (KS hcode hc BM hdef hcl) KJ) pos pins s1 σ H1 (fun zs H2=>match zs with
   |[z]=>∃q c',z=.ref q/\SaT P H1 H2/\TabOk H2 P lpos (X.env.qual++"<lambda>")/\H2 q=some (vc q (X.env.qual++"<lambda>") params (.Subscript (.Name px pp) (.Constant (.int (ix:Nat)) ck gp) bp) scope ((X.mg "__name__").getD .none) c')/\H2 c'=some (vd c' (X.env.qual++"<lambda>"))
   |_=>False) I1 ⟨tab,fun q c' H2 s2 t2 _ hq hc'=>⟨q,c',rfl,s2,t2,hq,hc'⟩⟩) fun ws s2 hws=>?_
 obtain⟨zs,H2,I2,rz,q2⟩:=hws;obtain⟨z,rfl⟩:∃z,zs=[z]:=by
  cases zs with
  |nil=>exact q2.elim
  |cons x r=>
   cases r with
   |nil=>exact⟨x,rfl⟩
   |cons y r=>exact q2.elim
 obtain⟨w,rfl,rw'⟩:=eW rz;obtain⟨q,c',rfl,s2',t2,hq,hc'⟩:=q2;cases (show w=Value.ref q from rw');show wpAny (model X.prog X.w) X.A (call (.builtin "sorted") [.ref a] [(Str.ofString "key",.ref q)]) (EP X pins σ Q) X.xe s2;refine JI (b:=false) (kw:=[(Str.ofString "key",.ref q)]) I2 hr (s2'.seq hx) h64 hlen (fun i x k h1 h2=>?_) hq hc' (hb c' _) kd co gn ncell lpx d1 (ksk_s1 _ _) (fun x=>ksk_l1 _ _) (fun x=>ksk_t1 q x) fun D out hD ko=>?_
 ·obtain⟨p,ws,e,hp,hw⟩:=items i x k h1 h2
  exact⟨p,ws,e,s2'.keep _ _ hp rfl,hw⟩
 ·exact fin D out _ (s2'.new hD _) (t2.mono (zm hD _)) (s2'.free hD) ql ko
end
end X2
namespace M
open PySem PySem.Spec PyProof.Rows L2 X2
section
variable{W:Wo}{X:Cx}{E:En}{O O' OL:List Nat}{fr:Bool}{pos pos':Pos}{e tg:Expr}{i:Nat}{x:Str}
def cE(d:D):SS W->R W D:=fun g=>.ok d g.b
def tEN(X:Cx)(E:En)(O:List Nat)(P:SS W->(D->Prop)->Prop):TE:=fun σ H Q=>∃g c fp Ok,SR W X.K E O g σ H c fp/\P g Ok/\∀d,Ok d->tG X E (Rep X.K) true O (cE (W:=W) d) g c fp σ H Q
def uP(X:Cx)(E:En)(fr:Bool)(OL O:List Nat)(P:SS W->(D->Prop)->Prop)(i:Nat):TS:=fun Dn σ H=>∃g c fp Ok,SR W X.K E O g σ H c fp/\P g Ok/\∀d,Ok d->tSx X E fr OL O (sSet i (cE d)) (O.filter (·≠i)) g c fp Dn σ H
theorem YJ{P:SS W->(D->Prop)->Prop}(hN:X.N.Nodup)(hi:X.N[i]?=some x)(hx:Loc X.env.scope x)(he:PE X e (tEN X E O P))(hs:swapsWith e (some (.Name x pos')) pos.line X.env=pure false:=by rfl)(hf:X.fn x=true\/X.env.scope.names.lookup x=some .local:=by first|exact .inl rfl|exact .inr rfl|assumption) :
  PS X (.Assign [.Name x pos'] e pos) (uP X E fr OL O P i):=zR (wE hN hi hx he hs hf) fun D σ H⟨g,c,fp,Ok,S,hP,q⟩=>⟨g,c,fp,Ok,S,hP,fun d ok=>(q d ok).bind fun d b v H1 c1 fp1 F1 r1 q1=>q1.2 _ _ c1 fp1 (q1.1.set r1) (.refl _)⟩
theorem qak{P:SS W->(D->Prop)->Prop}(he:PE X e (tEN X E O P)):PI X tg e (tIN X E O fun g Ok=>P g fun d=>∃ds,d=.lst ds/\Ok ds):=
 kE (jm he) fun σ H Rr⟨g,c,fp,Ok,S,hP,q⟩=>⟨g,c,fp,_,S,hP,fun d⟨ds,e,ok⟩=>by
  subst e;obtain⟨_,qq⟩:=q ds ok;refine⟨S,fun v H' c' fp' S' F r=>?_⟩;have r:Rep X.K c' v (.lst ds):=r;cases r with
  |@lst a xs _ ex l rr=>exact⟨a,rfl,⟨xs,SqL.of (S'.toSE.all (m:=true) _ _ ex)⟩,qq (Itl X.K a) H' c' fp' S' F (vm ex ⟨l,rr⟩)⟩⟩
end
theorem WT{K:fH}{c:Co}:∀{rds:List Rd}{ps:List (Int×V)},Paired (RR K c) rds ps->ps.Pairwise (fun p q=>p.1<=q.1)->rds.Pairwise (fun a b=>a.l<=b.l)
 |_,_,.nil,_=>.nil
 |r::rds,p::ps,.cons e t,h=>by
  obtain⟨h1,h2⟩:=bB.mp h;refine bB.mpr ⟨fun b hb=>?_,WT t h2⟩;obtain⟨q,hq,eq⟩:=Ks t b hb;have:=h1 q hq;rw[eq,e.1]at this;exact this
section
variable{T:Hp->Prop}{hT:HTb T}{B:Hp->Co->fL->Prop}{hB:HBb B}{X:Cx}{E:En}{O:List Nat}
variable{l tg:Expr}{k0 i:Nat}{px:Str}{ck:Nat}{params:Arguments}{scope:Scope}{pp gp bp lpos kp p pos:Pos}{c P:Addr}
def PSrt(i:Nat)(W:Wo):SS W->(D->Prop)->Prop:=fun g Ok=>∃rds:List Rd,(g.v[i]?).join=some (.lst (rds.map rdD))/\rds.length<64/\∀rds':List Rd,rds'.Perm rds->rds'.Pairwise (fun a b=>a.l<=b.l)->Ok (.lst (rds'.map rdD))
theorem Jc(hTT:∀H,T H->TabOk H P lpos (X.env.qual++"<lambda>"))(hTS:∀H H',T H->SaT P H H'->TabOk H' P lpos (X.env.qual++"<lambda>")->T H')(hr:Room k0 X.A)(hg:Gl X "sorted")(hm:X.mg "sorted"=none)(hl:PE X l (tVar i))(hi:i∉O)(hcode:X.env.code=.ref c)(hc:PySem.W.codeHdIn X.K c P=true)(BM:Bm X.base X.mg)
  (hdef:defaultsOf params X.env=([],[]):=by rfl)(hcl:closureFor scope X.env=pure []:=by rfl)
  (hb:∀(c':Addr)(pm ctv:Value)(x:Addr),bindArgs (PySem.W.kla_fn "<lambda>" (X.env.qual++"<lambda>") params (.Subscript (.Name px pp) (.Constant (.int (3:Nat)) ck gp) bp) scope [] pm (.ref c') ctv) ⟨[.ref x],[]⟩=pure [(px,.ref x)]:=by intro _ _ _ _;rfl)
  (kd:scope.kind=.function:=by rfl)(co:scope.isCoroutine=false:=by rfl)(gn:scope.isGenerator=false:=by rfl)(ncell:∀y∈scope.names,y.2≠.cell:=by decide +kernel)(lpx:scope.names.lookup px=some .local:=by rfl)
  (d1:(px == ("__debug__":Str))=false:=by decide)(he:starEach [l] X.env=[(false,eval l X.env)]:=by rfl) :
  PE X (.Call (.Name "sorted" p) [l] [⟨some "key",.Lambda params (.Subscript (.Name px pp) (.Constant (.int (3:Nat)) ck gp) bp) scope lpos,kp⟩] pos) (tEN (W:=W1 T hT B hB) X E O (PSrt i _)):=
 qN (KQ hr hg hm hl hcode hc BM hdef hcl hb kd co gn ncell lpx d1 he) fun σ H Q⟨g,cc,fp,Ok,S,⟨rds,hgi,h64,hok⟩,q⟩=>by
  obtain⟨x,hx,rx⟩:=S.frz i _ hi (join_some hgi);have hcore:∀p u,cc.h p=some u->H p=some u:=fun p u e=>(Hn.of (S.core _ _ e)).1
  cases rx with
  |@lst a xs _ exs lxs rxs=>
   have hxs:=hcore _ _ exs;have rs:Reps X.K cc xs (rds.map rdD):=⟨lxs,rxs⟩;have lx:xs.length=rds.length:=by rw[rs.l,ab]
   refine⟨.ref a,hx,a,xs,rds.map (·.l),rfl,SqL.of hxs,by omega,by rw[ab,lx],fun j x k h1 h2=>?_,hTT H S.tab,fun Dn out H2 sat t2 hD hD2 ko'=>?_⟩
   ·rw[ag]at h2
    cases er:rds[j]? with
    |none=>rw[er]at h2;cases h2
    |some r=>
     rw[er]at h2;cases h2;have:=rs.r j x (rdD r) h1 (by rw[ag,er];rfl);obtain⟨p,ws,e1,e2,e3⟩:=WW this;exact⟨p,ws,e1,hcore _ _ e2,e3⟩
   ·obtain⟨ps,hperm,hout,hpw⟩:=ko'
    obtain⟨rds',pr,pe⟩:=kH hperm (YA rs);have rout:Reps X.K cc out (rds'.map rdD):=by rw[hout];exact Zj pr
    have pw:=WT pr (by simpa using hpw);have F0:FR H cc fp H2 cc fp:=⟨.refl _,fun b u e=>by
     obtain⟨h1,h2,h3⟩:=Hn.of e;exact Hn.mk (sat.keep _ _ h1 (yz h3)) h2 h3,fun _ _ z=>z,fun b e=>sat.free e⟩
    have keepf:∀b∈fp,H2 b=H b:=fun b hb'=>by
     obtain⟨u,e1,e2⟩:=S.fph b hb';rw[e1];exact sat.keep _ _ e1 (yz e2)
    have S0:SE (W1 T hT B hB) E () H2 cc fp:=⟨S.core.trans F0.nn,hB _ _ _ _ _ S.br keepf (.refl _) S.toSE.fpc,hTS H H2 S.tab sat t2,fun b hb'=>by
     obtain⟨u,e1,e2⟩:=S.fph b hb';exact⟨u,by rw[keepf b hb'];exact e1,e2⟩,S.fr0.trans F0⟩
    obtain⟨hcD,hfD⟩:=S.toSE.free hD;have S1:=S0.give hD2 rfl hcD hfD (S.toSE.freeE hD);have F1:FR H cc fp H2 (cc.add Dn (.lst out)) fp:=⟨Co.add_le hcD,F0.nn,fun b hb' hc'=>by
     show upd cc.h Dn _ b=none;rw[qk ?_]
     ·exact hc'
     ·rintro rfl
      exact hb' (kh hD),F0.th⟩
    obtain⟨_,qq⟩:=q _ (hok rds' pe pw);have rr2:=rout.mono (Co.add_le (u:=.lst out) hcD);exact qq (.ref Dn) H2 _ fp (S.step (b:=()) F1 S1) F1 (.lst ql rr2.l rr2.r)
end
end M
namespace X2
open PySem PySem.Spec PyProof.Rows L2 PySem.W
variable{X:Cx}{pins:fI}{σ:L2.St}{H:Hp}{s:Shared}{kvs:List (Key×V)}{P:Program}{w:World}{tg:Expr}
theorem Wl{a:Addr}{o:Obj}(I:Inv X pins σ H s)(ha:H a=some (.dK kvs))(ho:s.heap.get? a=some o):Inv X pins σ (upd H a (.frz o (.dK kvs))) s:=by
 have nn:∀b,H b=none->b≠a:=fun b e z=>by rw[z,ha]at e;cases e
 have ne:∀b u,H b=some u->(∀k,u≠.dK k)->b≠a:=fun b u e k z=>by rw[z,ha]at e;cases e;exact k _ rfl
 refine⟨I.ok,I.os,I.bare,⟨I.base.keep,I.base.slot,fun b o e n hx=>?_,I.base.there,fun b xs e=>?_,fun b o u e=>?_,fun b ps e=>?_⟩,I.loc,I.cell,?_,fun x c e=>?_,fun p hp=>?_,fun b u e=>?_,I.len⟩
 ·have q:=I.base.free b o e n hx
  rw[qk (nn b q)];exact q
 ·have q:=I.base.tups b xs e
  rw[qk (ne b _ q (fun _ z=>nomatch z))];exact q
 ·have q:=I.base.frzs b o u e
  rw[qk (ne b _ q (fun _ z=>nomatch z))];exact q
 ·obtain⟨more,q⟩:=I.base.tbls b ps e
  exact⟨more,by rw[qk (ne b _ q (fun _ z=>nomatch z))];exact q⟩
 ·rw[qk (nn _ I.free)];exact I.free
 ·rw[qk (nn _ (I.freeC x c e))];exact I.freeC x c e
 ·obtain⟨e1,e2,e3⟩:=I.pin p hp
  exact⟨e1,by rw[qk (nn _ e2)];exact e2,e3⟩
 ·by_cases hb:b=a
  ·subst hb
   rw[ql]at e;cases e;exact⟨ho,(I.hok b _ ha).stay (fun c v _ e1=>e1) (fun c q=>by rw[qk (ne c _ q (fun _ z=>nomatch z))];exact q) fun c xs q=>by rw[qk (ne c _ q (fun _ z=>nomatch z))];exact q⟩
  ·rw[qk hb]at e
   exact(I.hok b u e).stay (fun c v _ e1=>e1) (fun c q=>by rw[qk (ne c _ q (fun _ z=>nomatch z))];exact q) fun c xs q=>by rw[qk (ne c _ q (fun _ z=>nomatch z))];exact q
theorem VC{a:Addr}{o:Obj}(I:Inv X pins σ H s)(ha:H a=some (.frz o (.dK kvs)))(hb0:∀o u,X.H₀ a≠some (.frz o u)):Inv X pins σ (upd H a (.dK kvs)) s:=by
 have nn:∀b,H b=none->b≠a:=fun b e z=>by rw[z,ha]at e;cases e
 have ne:∀b u,H b=some u->(∀o k,u≠.frz o k)->b≠a:=fun b u e k z=>by rw[z,ha]at e;cases e;exact k _ _ rfl
 refine⟨I.ok,I.os,I.bare,⟨I.base.keep,I.base.slot,fun b o e n hx=>?_,I.base.there,fun b xs e=>?_,fun b o u e=>?_,fun b ps e=>?_⟩,I.loc,I.cell,?_,fun x c e=>?_,fun p hp=>?_,fun b u e=>?_,I.len⟩
 ·have q:=I.base.free b o e n hx
  rw[qk (nn b q)];exact q
 ·have q:=I.base.tups b xs e
  rw[qk (ne b _ q (fun _ _ z=>nomatch z))];exact q
 ·have q:=I.base.frzs b o u e
  rw[qk (fun z=>by rw[z]at e;exact hb0 _ _ e)];exact q
 ·obtain⟨more,q⟩:=I.base.tbls b ps e
  exact⟨more,by rw[qk (ne b _ q (fun _ _ z=>nomatch z))];exact q⟩
 ·rw[qk (nn _ I.free)];exact I.free
 ·rw[qk (nn _ (I.freeC x c e))];exact I.freeC x c e
 ·obtain⟨e1,e2,e3⟩:=I.pin p hp
  exact⟨e1,by rw[qk (nn _ e2)];exact e2,e3⟩
 ·by_cases hb:b=a
  ·subst hb
   rw[ql]at e;cases e;exact(I.hok b _ ha).2.stay (fun c v _ e1=>e1) (fun c q=>by rw[qk (ne c _ q (fun _ _ z=>nomatch z))];exact q) fun c xs q=>by rw[qk (ne c _ q (fun _ _ z=>nomatch z))];exact q
  ·rw[qk hb]at e
   exact(I.hok b u e).stay (fun c v _ e1=>e1) (fun c q=>by rw[qk (ne c _ q (fun _ _ z=>nomatch z))];exact q) fun c xs q=>by rw[qk (ne c _ q (fun _ _ z=>nomatch z))];exact q
def Itd(a:Addr)(ep n:Nat):It:=
 ⟨fun i H=>∃o kvs p es,H a=some (.frz o (.dK kvs))/\o.data=.dict es ep/\kvs.length=n/\kvs[i]?=some p,fun i H x H'=>H'=H/\∀o kvs,H a=some (.frz o (.dK kvs))->∃p,kvs[i]?=some p/\x=kV p.1,fun i H=>∃o kvs es,H a=some (.frz o (.dK kvs))/\o.data=.dict es ep/\kvs.length=n/\n<=i⟩
theorem qbh{k:Key}{u:Value}(h:(zf P w).is k u=true):RelV (kV k) u:=by
 rcases zq (show QF k u=true from h)with⟨i,t,rfl,rfl⟩|⟨x,t,rfl,rfl⟩
 ·exact⟨t,rfl⟩
 ·exact⟨t,rfl⟩
theorem W7{a:Addr}{o:Obj}{es:Array DictEntry}{ep:Nat}(I:Inv X pins σ H s)(ha:H a=some (.frz o (.dK kvs)))(hd:o.data=.dict es ep):∃vs,KV kvs vs/\s.heap.DictAt (zf X.prog X.w) a vs ep:=by
 obtain⟨e,_,_,vs,k,o',es',ep',e',c,d,r⟩:=I.hok a _ ha;rw[e]at e';cases e';rw[hd]at d;cases d;exact⟨vs,k,o,es,e,c,hd,r⟩
theorem Kb{K:fH}(a it:Addr)(ep n:Nat):Turn P w K tg (Itd a ep n) [it] it (fun i h=>h.IsKeyIter it a i n ep) where
 mem:=by simp
 obj:=fun i h st b hb=>by
  have e:b=it:=by simpa using hb
  subst e;obtain⟨o,e,c,d⟩:=st;exact⟨o,e,fun v z=>by rw[d]at z;cases z⟩
 keep:=fun i h h' st k=>st.at fun o e=>k it (by simp) o e
 item:=by
  intro X hP hw hK hc i pins s σ H E I hf st hg;subst hP hw hK;obtain⟨o,kvs,p,es,ha,hd,hn,hp⟩:=hg;obtain⟨vs,kv,da⟩:=W7 I ha hd;have lv:vs.length=n:=by rw[<- hn];exact(cH kv).symm
  obtain⟨y,hy,e1,e2⟩:=jB kv hp;obtain⟨k,v⟩:=y;obtain⟨f0,f1,f2,f3,f4,f5⟩:=hf it (by simp);subst lv;refine wpAny_pyNext_dict_item (knd:=zf X.prog X.w) st da hy fun key h' hk st' sb=>?_
  have I1:Inv X pins σ H { s with heap:=h' }:=I.turned (t':=s.toks) (fun b o hb e=>(sb.2 b hb).trans e) f0 f1 f3 f4 f5;obtain⟨oi,e,c,d⟩:=id st';have e1:p.1=k:=e1;refine⟨key,rfl,Wp (s:={ s with heap:=h' }) e c d (by decide) ⟨kV k,H,I1,qbh hk,⟨rfl,fun o' kvs' h2=>?_⟩,st',fun b hb=>(hf b hb).1⟩⟩;rw[ha]at h2;cases h2;exact⟨p,hp,by rw[e1]⟩
 done:=by
  intro X hP hw hK hc i pins s σ H E I hf st hg;subst hP hw hK;obtain⟨o,kvs,es,ha,hd,hn,hi⟩:=hg;obtain⟨vs,kv,da⟩:=W7 I ha hd;have lv:vs.length=n:=by rw[<- hn];exact(cH kv).symm
  obtain⟨f0,f1,f2,f3,f4,f5⟩:=hf it (by simp);subst lv;exact wpAny_pyNext_dict_end (knd:=zf X.prog X.w) (I.ok.hd hc) st da (List.getElem?_eq_none hi) fun h' eb=>⟨rfl,I.turned (t':=s.toks) (fun b o hb e=>eb b o hb e) f0 f1 f3 f4 f5⟩
 self:=fun _ _ _ _ _ st h=>wpAny_pyIter_keyiter st h
def W6(tl:TE):TI:=fun σ H R=>tl σ H fun x H1=>∃a kvs,x=.ref a/\H1 a=some (.dK kvs)/\∀o es ep,o.data=.dict es ep->R (Itd a ep kvs.length) (upd H1 a (.frz o (.dK kvs)))
theorem XQ{l:Expr}{tl:TE}(hl:PE X l tl):PI X tg l (W6 tl):=by
 intro pins s σ H R I h;refine thn (hl pins s σ H _ I h) fun v s1⟨x,H1,I1,r1,q1⟩=>?_
 obtain⟨a,kvs,e,ha,q⟩:=q1;subst e;cases r1;obtain⟨hz,nd,vs,rkv,da⟩:=JZ I1.hok ha;obtain⟨ep,dat⟩:=da.dictAt;refine wpAny_pyIter_dict (knd:=zf X.prog X.w) nd dat ?_;obtain⟨o,es,ho,_,hd,_⟩:=id dat;have I2:=(Wl I1 ha ho).kept (t':=s1.toks) (h':=s1.heap.push { cls:=.type "dict_keyiterator",data:=.fields #[.ref a,.int 0 0,.int vs.length 0,.int ep 0] }) fun b o e=>ae _ e
 have lv:vs.length=kvs.length:=(cH rkv).symm;refine⟨s1.heap.objs.size,[s1.heap.objs.size],_,_,_,rfl,I2,Kb a _ ep kvs.length,⟨_,aB _ rfl,rfl,by rw[lv];rfl⟩,fun b hb=>?_,q o es ep hd⟩;have e:b=s1.heap.objs.size:=by simpa using hb
 subst e;refine I1.fpOk (ak _) ?_;rw[qk (fj (ao ho))];exact I1.hok.fresh (ak _)
theorem YV{e:Expr}{t:TE}(h:PE X e t):PE X e (fun σ H Q=>∃a kvs,H a=some (.dK kvs)/\t σ H fun v H'=>(∃o,H' a=some (.frz o (.dK kvs)))/\Q v (upd H' a (.dK kvs))):=by
 intro pins s σ H Q I ⟨a,kvs,ha,q⟩;refine thn (h pins s σ H _ I q) fun v s1⟨x,H1,I1,r1,⟨o,e⟩,q1⟩=>?_
 refine⟨x,_,VC I1 e (fun o u z=>?_),r1,q1⟩;have:=I.base.frzs a o u z;rw[ha]at this;cases this
theorem QW:CallR X (.builtin "sorted") (fun xs H Q=>∃(p:Addr)(as:fL)(ps:List (Str×Int)),xs=[.ref p]/\SqL X.K H p (as.map V.ref)/\as.length=ps.length/\(∀(i:Nat) a(o:Str×Int),as[i]?=some a->ps[i]?=some o->H a=some (.tup [.str o.1,.int o.2]))/\(ps.map (·.1)).Nodup/\ps.length<=5/\
  ∀(l:Addr)(out:List (Str×Int))(qs:fL),H l=none->out.Perm ps->out.Pairwise (fun a b=>a.1.cps.toList<b.1.cps.toList)->qs.length=out.length->(∀(i:Nat) q(o:Str×Int),qs[i]?=some q->out[i]?=some o->H q=some (.tup [.str o.1,.int o.2]))->(∀q∈qs,q∈as)->Q (.ref l) (upd H l (.lst (qs.map V.ref)))):=by
 intro pins s σ H xs us Q I r h;obtain⟨v,as,ps,rfl,hv,la,hA,ndk,l5,q⟩:=h;obtain⟨u,rfl,ru⟩:=eW r;cases (show u=Value.ref v from ru);obtain⟨its,rv,pl,hz⟩:=I.list hv;have eits:its=as.map Value.ref:=by
  clear hv hz pl hA la q
  induction as generalizing its with
  |nil=>cases rv;rfl
  |cons a as ih=>
   cases rv with
   |cons k t=>
    rw[aA,ih _ t];cases (show _=Value.ref a from k);rfl
 subst eits;have info:∀(i:Nat) a o,as[i]?=some a->ps[i]?=some o->∃ob m t t',s.heap.get? a=some ob/\ob.cls=.type "tuple"/\ob.data=.seq #[.str o.1 t,.int o.2 t'] m:=fun i a o ha ho=>by
  obtain⟨its2,r2,⟨ob,e1,e2,m,e3⟩,_⟩:=I.tuple (SqT.of (hA i a o ha ho));cases r2 with
  |cons k1 t1=>
   cases t1 with
   |cons k2 t2=>
    cases t2;obtain⟨t,rfl⟩:=k1;obtain⟨t',rfl⟩:=k2;exact⟨ob,m,t,t',e1,e2,e3⟩
 refine Calls.call_function_entry kind_sorted plain_sorted entry_sorted (args_sorted1 _) ?_;unfold Builtin.«sorted»;refine af (m:=checkCount "sorted" 1 1 _) (aw ?_);refine af (collect_list pl.isList ?_);refine af (eZ ?_ (by rw[ab,la,bK];omega));generalize hh1:(s.heap.push (seqObj "list" #[] 0)).update s.heap.objs.size (Obj.mapSeq (·++(as.map Value.ref).toArray))=h1
 have hsz:h1.objs.size=s.heap.objs.size+1:=by rw[<- hh1,Heap.size_update,size_push']
 have hk:∀b o,s.heap.get? b=some o->h1.get? b=some o:=fun b o e=>by
  rw[<- hh1];have:=eB (s.heap.push (seqObj "list" #[] 0)) s.heap.objs.size (Obj.mapSeq (·++(as.map Value.ref).toArray));exact(this.2 b (aq (ao e))).trans (ae _ e)
 have hB:(h1.push { cls:=.type "list",data:=.seq (as.map Value.ref).toArray }).get? h1.objs.size=some (seqObj "list" (as.map Value.ref).toArray 0):=aB _ rfl;have fin:∀(p:List Nat)(out':fO),p.Perm (List.range ps.length)->(p.map (fun i=>ps.getD i ("",0))).Pairwise (fun a b=>a.1.cps.toList<b.1.cps.toList)->out'=(p.map fun i=>(as.map Value.ref).getD i Value.none).toArray->
   EP X pins σ Q (.ref h1.objs.size) { s with heap:=sortedHeap (h1.push { cls:=.type "list",data:=.seq (as.map Value.ref).toArray }) h1.objs.size (as.map Value.ref) out' }:=by
  intro p out' pp pw eo;have pin:∀i∈p,i<ps.length:=fun i hi=>b9.mp (pp.mem_iff.mp hi)
  have plen:p.length=ps.length:=by rw[pp.length_eq,dH]
  have eo2:out'.toList=(p.map fun i=>as.getD i 0).map Value.ref:=by
   rw[eo,eE,cu];refine cM fun i hi=>?_
   have:=pin i hi;exact getD_map Value.ref as 0 i (by omega) _
  have szp:(h1.push { cls:=.type "list",data:=.seq (as.map Value.ref).toArray }).objs.size=h1.objs.size+1:=bZ ..;have keepG:∀b o,h1.get? b=some o->(sortedHeap (h1.push { cls:=.type "list",data:=.seq (as.map Value.ref).toArray }) h1.objs.size (as.map Value.ref) out').get? b=some o:=fun b o e=>
   (sortedHeap_old (aq (ao e)) (by rw[szp];exact cZ (ao e))).trans (ae _ e)
  have vr:∀l:fL,Vals (l.map V.ref) (l.map Value.ref):=fun l=>by
   induction l with
   |nil=>exact .nil
   |cons a l ih=>exact .cons rfl ih
  refine⟨.ref h1.objs.size,_,I.laid (t':=s.toks) (a:=h1.objs.size) (o:=.lst ((p.map fun i=>as.getD i 0).map V.ref)) (fun b o e=>keepG b o (hk b o e)) (by omega) ?_,rfl,q _ (p.map fun i=>ps.getD i ("",0)) (p.map fun i=>as.getD i 0) (I.hok.fresh (by omega)) ?_ pw (by rw[ab,ab]) (fun i a o z1 z2=>?_) (fun a ha=>?_)⟩
  ·obtain⟨e',he⟩:=sortedHeap_at (out:=out') hB
   refine⟨by rw[ab,ab,plen,bK];omega,(p.map fun i=>as.getD i 0).map Value.ref,e',vr _,?_⟩;rw[<- eo2,di];exact he
  ·have:=pp.map (fun i=>ps.getD i (("":Str),(0:Int)))
   rw[range_getD]at this;exact this
  ·rw[ag]at z1 z2
   cases e:p[i]? with
   |none=>rw[e]at z1;cases z1
   |some j=>
    rw[e]at z1 z2;have hj:=pin j (ay e);have z1':as.getD j 0=a:=bh z1;have z2':ps.getD j ("",0)=o:=bh z2;refine hA j a o ?_ ?_
    ·rw[<- z1'];simp[show j<as.length by omega]
    ·rw[<- z2'];simp[hj]
  ·obtain⟨j,hj,rfl⟩:=aC.mp ha
   have hj':=pin j hj;simp[show j<as.length by omega]
 refine af (bQ (ff slot_list_sort ⟨_,hB,rfl⟩ entry_list_sort ?body (args_list_sort _)));exact Qa (tk:=s.toks) la l5 ndk (fun i a o z1 z2=>let⟨ob,m,t,t',e1,e2,e3⟩:=info i a o z1 z2;⟨ob,m,t,t',hk _ _ e1,e2,e3⟩) fun p out' pp pw eo=>⟨_,rfl,aw ⟨_,rfl,fin p out' pp pw eo⟩⟩
end X2
namespace M
open PySem L2 X2
variable{sp:Str->Int}{rds:List Rd}{go st:Str}{si:Int}
def SoOk(ds:List D)(d:D):Prop:=∃(rds:List Rd)(kvs:List (Key×D))(ns:fP)(st:Str)(si:Int),ds=[.lst (rds.map rdD),.dic kvs,.str st,.int si]/\Wk (spF kvs) kvs rds/\(∀q∈kvs,∃z,q.2=D.int z)/\rds.length<64/\∃out,Paper (spF kvs) rds st si ns out/\d=.lst (out.map prI)
theorem SoOk.uniq{ds:List D}{d d':D}(h:SoOk ds d)(h':SoOk ds d'):d=d':=by
 obtain⟨rds,kvs,ns,st,si,rfl,_,_,_,out,p,rfl⟩:=h;obtain⟨rds',kvs',ns',st',si',e,_,_,_,out',p',rfl⟩:=h';simp only[bP,D.lst.injEq,D.dic.injEq,D.str.injEq,D.int.injEq,fF]at e;obtain⟨e1,rfl,rfl,rfl⟩:=e;cases map_inj (fun _ _=>xI) e1;rw[jE (P:=Least (spF kvs) rds st si) p.pw p'.pw fun o=>(p.iff o.1 o.2).trans (p'.iff o.1 o.2).symm]
open Classical in
noncomputable def F_so(ds:List D):Option D:=if h:∃d,SoOk ds d then some h.choose else none
theorem qck{ds:List D}{d:D}(h:SoOk ds d):F_so ds=some d:=by
 have hx:∃d,SoOk ds d:=⟨d,h⟩;unfold F_so;rw[fG hx,hx.choose_spec.uniq h]
theorem qaw{ds:List D}{d:D}(h:F_so ds=some d):SoOk ds d:=by
 unfold F_so at h
 split at h
 ·rename_i hx
  cases h;exact hx.choose_spec
 ·cases h
theorem Kk{P:Program}{w:World}{K:fH}{mg:fK}{base:Heap}{f:Addr}{fd:FuncData}{ps:fP}{k:Nat}{T:Hp->Prop}{Pt:Addr}{lp:Pos}(hTT:∀H,T H->TabOk H Pt lp lqS)(hTS:∀H H',T H->SaT Pt H H'->TabOk H' Pt lp lqS->T H')(h:FnOk P w K mg base CX0 k f fd ps (Kg K Pt lp)):FnOk P w K mg base CX0 k f fd ps (spP K T 4 false F_so):=by
 refine h.imp fun vs H Q EX q=>?_
 obtain⟨hl,c,ds,co,tt,rs,d,ed,q⟩:=q;have no:=qaw ed;obtain⟨rds,kvs,ns,st,si,rfl,wk,hz,h64,out,pp,rfl⟩:=no;obtain⟨x0,t,rfl,r0,rs⟩:=rs.uncons;obtain⟨x1,t,rfl,r1,rs⟩:=rs.uncons;obtain⟨x2,t,rfl,r2,rs⟩:=rs.uncons;obtain⟨x4,t,rfl,r4,rs⟩:=rs.uncons;cases rs.unnil;have hs:Same c.h H:=co.trans Hn.same;obtain⟨a0,xs0,rfl,e0,l0,rr0⟩:=r0.lst';obtain⟨a1,ys1,rfl,e1,l1,nd1,rr1⟩:=r1.dic';obtain rfl:=zV r2;obtain rfl:=zW r4;have es:=ZY l1 rr1 hz;have hv:∀r∈rds,valV ys1 (Sum.inr r.b:Key)=some (.int (spn ys1 r.b)):=fun r hr=>by
  rcases jZ l1 rr1 hz (Sum.inr r.b)with⟨_,e2⟩|⟨z,e1,e2⟩
  ·rw[wk.sps r hr]at e2;cases e2
  ·rw[wk.sps r hr]at e2;cases e2;rw[es];exact e1
 refine⟨a0,a1,xs0,ys1,rds,ns,st,si,rfl,hs _ _ e0,hs _ _ e1,Kq hs ⟨l0,rr0⟩ hv,by rw[l0,ab];exact h64,by rw[es];exact wk.toGood,pp.n5,pp.hst,pp.hds,hTT H tt,fun r out' qs H' s tab' nr pw hr lq its nq iff=>?_⟩;rw[es]at iff;obtain⟨fr,co'⟩:=x9 (H':=H') co (Z3 s) (fun a e=>s.free e);refine q (.ref r) H' (grow c H H') fr co' (hTS H H' tt s tab') ?_;rw[aG (by decide),jE (P:=Least (spF kvs) rds st si) pp.pw pw fun o=>(pp.iff o.1 o.2).trans (iff o.1 o.2).symm];exact yh co nr nq ⟨hr,lq,its⟩
theorem Zl(G:Good sp rds){d:Rd}(r:Reach sp rds st si d):∃m,Least sp rds st si d.b m:=by
 have pw:=cq (le:=fun a b:Rd=>decide (a.l<=b.l)) (fun a b c h1 h2=>by simp at *;omega) (fun a b=>by simp;omega) rds;have pm:=cN rds (fun a b:Rd=>decide (a.l<=b.l));obtain⟨ms,S⟩:=Zb (st:=st) (si:=si) G (rds.mergeSort (fun a b:Rd=>decide (a.l<=b.l))) [] [(st,si)] (fun d hd=>pm.mem_iff.mp hd) (pw.imp fun h=>by simpa using h) Soon.nil;have hp:∀d∈rds,d∈[]++rds.mergeSort (fun a b:Rd=>decide (a.l<=b.l)):=fun d hd=>by rw[ft];exact pm.mem_iff.mpr hd
 obtain⟨z,e,_⟩:=rdy_iff.mp (S.all hp r);exact⟨z,(S.least G hp).mp ((mem_lookup S.nd).mpr e)⟩
theorem Wr{d:Rd}{t:List Rd}(f:Fr sp rds go d t):Reach sp rds st si d->∃e,Reach sp rds st si e/\e.b=go:=by
 induction f with
 |fin m e=>exact fun r=>⟨_,r,e⟩
 |@cons d e l m h fr ih=>
  intro r;refine ih (.nxt r ?_ h);cases fr with
  |fin m e=>exact m
  |cons m h r=>exact m
theorem J8(G:Good sp rds){l:List Rd}(h:AllW sp rds st go si l):∃m,Least sp rds st si go m:=by
 rcases h with⟨_,e⟩|⟨d,t,_,f,h1,h2⟩
 ·exact⟨si,.inl ⟨e.symm,rfl⟩⟩
 ·have hm:d∈rds:=by
   cases f with
   |fin m e=>exact m
   |cons m h r=>exact m
  obtain⟨e,r,eb⟩:=Wr f (.fst hm h1 h2);rw[<- eb];exact Zl G r
end M
namespace M
open PySem PySem.Spec PyProof.Rows L2 X2
variable{kvs:List (Key×V)}
abbrev tPr:TE:=tTup (Xy (tVar 0) (Xy (uR (tVar 1) (tVar 0)) tNil))
structure DW3(H:Hp)(a D:Addr)(kvs:List (Key×V))(o:Obj)(n:Nat)(σ:L2.St)(ys:List V)(H2:Hp)(qs:fL):Prop where
 eys:ys=qs.map V.ref
 len:qs.length=n
 eD:H2 D=some (.lst ys)
 ea:H2 a=some (.frz o (.dK kvs))
 tup:∀(i:Nat) q p,qs[i]?=some q->kvs[i]?=some p->H2 q=some (.tup [kV p.1,p.2])
 old:∀b u,H b=some u->b≠a->H2 b=some u
 new:∀q∈qs,H q=none/\q≠D
 st:∃v,σ=[v,some (.ref a)]
theorem uu(nd:(kvs.map (·.1)).Nodup){i:Nat}{p:Key×V}(h:kvs[i]?=some p):valV kvs p.1=some p.2:=by
 induction kvs generalizing i with
 |nil=>simp at h
 |cons q r ih=>
  rw[aA,bE]at nd;unfold valV at *;rw[aZ];cases i with
  |zero=>cases h;simp
  |succ i=>
   have h:r[i]?=some p:=by simpa using h
   have:q.1≠p.1:=fun z=>nd.1 (by rw[z];exact aC.mpr ⟨p,ay h,rfl⟩)
   rw[aP this];exact ih nd.2 h
theorem V7{σ:L2.St}{H:Hp}{Q:VK}{x:Str}{i:Nat}{a:Addr}(hi:σ[i]?=some (some (.ref a)))(ha:H a=some (.dK kvs))(nd:(kvs.map (·.1)).Nodup)(hz:kvs.length<1000)
  (k:∀(D:Addr)(qs:fL) o H',H D=none->H' D=some (.lst (qs.map V.ref))->qs.length=kvs.length->H' a=some (.frz o (.dK kvs))->(∀(i:Nat) q p,qs[i]?=some q->kvs[i]?=some p->H' q=some (.tup [kV p.1,p.2]))->(∀b u,H b=some u->b≠a->H' b=some u)->(∀q∈qs,H q=none/\q≠D)->Q (.ref D) H') :
  JH (W6 (tVar i)) (QL 0) tAll tPr [x] [i] σ H Q:=by
 refine⟨.ref a,hi,a,kvs,rfl,ha,fun o es ep hd D hD=>?_⟩;have nDa:D≠a:=fun z=>by rw[z,ql]at hD;cases hD
 rw[qk nDa]at hD;refine⟨fun n m σ' ys H2=>m=kvs.length - n/\n<=kvs.length/\∃qs,DW3 H a D kvs o n σ' ys H2 qs,⟨kvs.length,by omega,aV _,[],rfl,rfl,ql,by rw[qk (bW nDa),ql],fun i q p h=>by simp at h,fun b u e n=>?_,(fun q hq=>absurd hq ax),none,?_⟩,?_⟩
 ·rw[qk (fun z=>by rw[z,hD]at e;cases e),qk n]
  exact e
 ·show[none]++[(σ[i]?).join]=_
  rw[hi];rfl
 rintro n m σ' ys H2 ⟨rfl,hn,qs,w⟩;have lys:ys.length=n:=by rw[w.eys,ab,w.len]
 refine⟨w.eD,by rw[lys,bK];omega,?_⟩
 by_cases hlt:n<kvs.length
 ·refine .inr ⟨⟨o,kvs,kvs[n],es,w.ea,hd,rfl,aa hlt⟩,fun y H3⟨e3,hy⟩=>?_⟩
  subst e3;obtain⟨p,hp,rfl⟩:=hy o kvs w.ea;obtain⟨v,rfl⟩:=w.st;unfold QL tAll;dsimp only;rw[aF rfl];refine⟨kV p.1,rfl,.ref a,rfl,kV p.1,rfl,a,p.2,rfl,?_,?_⟩
  ·rw[<- uu nd hp]
   exact .inl ⟨kvs,p.1,.inr ⟨o,w.ea⟩,rfl,rfl⟩
  ·refine⟨by show 2<=sizeLine;decide,fun q hq=>?_⟩
   have nqD:q≠D:=fun z=>by rw[z,w.eD]at hq;cases hq
   have nqa:q≠a:=fun z=>by rw[z,w.ea]at hq;cases hq
   have nH:H q=none:=by
    cases e:H q with
    |none=>rfl
    |some u=>rw[w.old q u e nqa]at hq;cases hq
   refine⟨by rw[qk (bW nqD)];exact w.eD,kvs.length - (n+1),by omega,rfl,hlt,qs++[q],?_,by rw[aK,w.len];rfl,ql,?_,fun j q' p' h1 h2=>?_,fun b u e nb=>?_,fun q' hq'=>?_,_,rfl⟩
   ·rw[w.eys,aN];rfl
   ·rw[qk (bW nDa),qk (bW nqa)];exact w.ea
   ·by_cases hj:j<qs.length
    ·rw[aW hj]at h1
     have:=w.tup j q' p' h1 h2;have e1:q'≠D:=(w.new q' (ay h1)).2;have e2:q'≠q:=fun z=>by rw[z,hq]at this;cases this
     rw[qk e1,qk e2];exact this
    ·have ej:j=qs.length:=by
      have:j<(qs++[q]).length:=(ai.mp h1).1;simp at this;omega
     subst ej;have e1:q=q':=by simpa using h1
     rw[w.len,hp]at h2;cases h2;rw[<- e1,qk nqD,ql]
   ·rw[qk (fun z=>by rw[z,hD]at e;cases e),qk (fun z=>by rw[z,nH]at e;cases e)]
    exact w.old b u e nb
   ·rcases aQ.mp hq' with z|z
    ·exact w.new q' z
    ·rw[au.mp z];exact⟨nH,nqD⟩
 ·have e:n=kvs.length:=by omega
  subst e;refine .inl ⟨⟨o,kvs,es,w.ea,hd,rfl,ak _⟩,k D qs o H2 hD (by rw[w.eD,w.eys]) w.len w.ea w.tup w.old w.new⟩
def wt:List (Key×D)->Option (List (Str×Int))
 |[]=>some []
 |(.inr x,.int n)::r=>(wt r).map ((x,n)::·)
 |_=>none
open Classical in
noncomputable def srtP(ps:List (Str×Int)):Option D:=if h:∃out:List (Str×Int),out.Perm ps/\out.Pairwise (fun a b=>a.1.cps.toList<b.1.cps.toList)then some (.lst (h.choose.map prI))else none
noncomputable def Kj:D->Option D
 |.dic kvs=>(wt kvs).bind fun ps=>if ps.length<=5 then srtP ps else none
 |_=>none
theorem Xz{a b:List (Str×Int)}(p:a.Perm b)(h1:a.Pairwise (fun a b=>a.1.cps.toList<b.1.cps.toList))(h2:b.Pairwise (fun a b=>a.1.cps.toList<b.1.cps.toList)):a=b:=jE (P:=fun _ _=>True) h1 h2 fun o=>p.mem_iff
theorem WQ{ps out:List (Str×Int)}(h1:out.Perm ps)(h2:out.Pairwise (fun a b=>a.1.cps.toList<b.1.cps.toList)):srtP ps=some (.lst (out.map prI)):=by
 have hx:∃out:List (Str×Int),out.Perm ps/\out.Pairwise (fun a b=>a.1.cps.toList<b.1.cps.toList):=⟨out,h1,h2⟩;unfold srtP;rw[fG hx,Xz (hx.choose_spec.1.trans h1.symm) hx.choose_spec.2 h2]
theorem Z9{K:fH}{c:Co}:∀{ys:List (Key×V)}{kvs:List (Key×D)}{ps:List (Str×Int)},ys.map (·.1)=kvs.map (·.1)->Reps K c (ys.map (·.2)) (kvs.map (·.2))->wt kvs=some ps->ps.length=ys.length/\ps.map (fun o=>(Sum.inr o.1:Key))=ys.map (·.1)/\∀(i:Nat) p o,ys[i]?=some p->ps[i]?=some o->p=(Sum.inr o.1,V.int o.2)
 |[],[],ps,_,_,e=>by cases e;exact⟨rfl,rfl,fun i p o h=>by simp at h⟩
 |[],_::_,_,h,_,_=>by simp at h
 |_::_,[],_,h,_,_=>by simp at h
 |y::ys,q::kvs,ps,h,r,e=>by
  simp only[aA,bP]at h;rw[aA,aA]at r;obtain⟨x,t,ex,r1,r2⟩:=r.uncons;simp only[bP]at ex;obtain⟨rfl,rfl⟩:=ex
  match q,h,r1,e with
  |(.inr s,.int n),h,r1,e=>
   have e:(wt kvs).map ((s,n)::·)=some ps:=e;cases e2:wt kvs with
   |none=>rw[e2]at e;cases e
   |some ps'=>
    rw[e2]at e;cases e;obtain⟨k1,k2,k3⟩:=Z9 h.2 r2 e2;have hv:y.2=V.int n:=by
     have r1:Rep K c y.2 (.int n):=r1;generalize y.2=yv at r1
     cases r1;rfl
    refine⟨by simp[k1],by rw[aA,aA,k2,h.1],fun i p o h1 h2=>?_⟩;cases i with
    |zero=>
     cases h1;cases h2;exact Prod.ext h.1 hv
    |succ i=>exact k3 i p o (by simpa using h1) (by simpa using h2)
  |(.inl _,_),_,_,e=>cases e
  |(.inr _,.non),_,_,e=>cases e
  |(.inr _,.bl _),_,_,e=>cases e
  |(.inr _,.str _),_,_,e=>cases e
  |(.inr _,.tup _),_,_,e=>cases e
  |(.inr _,.lst _),_,_,e=>cases e
  |(.inr _,.dic _),_,_,e=>cases e
  |(.inr _,.dit _),_,_,e=>cases e
  |(.inr _,.obj _),_,_,e=>cases e
  |(.inr _,.scr _),_,_,e=>cases e
section
variable{T:Hp->Prop}{hT:HTb T}{X:Cx}{E:En}{O:List Nat}{i:Nat}{x:Str}{cl:List (Str×Addr)}{scope:Scope}{caps:fP}{ex ez ey it tg:Expr}{px:Pos}{p pos pt ps' cp:Pos}{x1:Nat}
theorem Wx(Ok:CompOk X scope cl [x] caps [i])(hcm:X.calm=true)(hu:X.A.units+1<cLine)(hg:Gl X "sorted")(hm:X.mg "sorted"=none)(hl:PE X it (tVar i))(hi:i∈O)
  (g0:∀C s H fp,PG (qz X scope cl ([x]++caps) C s H fp) tg (QL 0))(h0:∀C s H fp,PE (qz X scope cl ([x]++caps) C s H fp) ex (tVar 0))(h0':∀C s H fp,PE (qz X scope cl ([x]++caps) C s H fp) ez (tVar 0))(h1:∀C s H fp,PE (qz X scope cl ([x]++caps) C s H fp) ey (tVar 1))
  (ns:NoSl ez:=by intro _ _;rfl)(hs1:∀C s H fp,starEach [.Subscript ey ez ps'] (qz X scope cl ([x]++caps) C s H fp).env=(false,eval (.Subscript ey ez ps') (qz X scope cl ([x]++caps) C s H fp).env)::starEach [] (qz X scope cl ([x]++caps) C s H fp).env:=by intro _ _ _ _;rfl)
  (hs2:∀C s H fp,starEach [ex,.Subscript ey ez ps'] (qz X scope cl ([x]++caps) C s H fp).env=(false,eval ex (qz X scope cl ([x]++caps) C s H fp).env)::starEach [.Subscript ey ez ps'] (qz X scope cl ([x]++caps) C s H fp).env:=by intro _ _ _ _;rfl)
  (hf:∀x,foldedSetIterable it X.env x=pure x:=by intro _;rfl)
  (hs:starEach [.ListComp (.Tuple [ex,.Subscript ey ez ps'] x1 pt) [⟨tg,it,[],0⟩] scope cp] X.env=(false,eval (.ListComp (.Tuple [ex,.Subscript ey ez ps'] x1 pt) [⟨tg,it,[],0⟩] scope cp) X.env)::starEach [] X.env:=by rfl) :
  DE (W0 T hT) E true X O (.Call (.Name "sorted" p) [.ListComp (.Tuple [ex,.Subscript ey ez ps'] x1 pt) [⟨tg,it,[],0⟩] scope cp] [] pos) (e1 Kj (eVar i)):=
 qN (z7 QW hg hm X2.bt_sorted (qA (YV (Zp Ok hcm (XQ hl) g0 (fun _ _ _ _=>xJ) (fun C s H fp=>KN (qA (h0 C s H fp) (qA (xM hu (h1 C s H fp) (h0' C s H fp) ns) zx (hs1 C s H fp)) (hs2 C s H fp))) hf)) zx hs) (he:=hs)) fun σ H Q⟨g,c,fp,q⟩=>by
  obtain⟨d,hgi,q1⟩:=tG.var q;obtain⟨z,ez,k⟩:=q1.opt;obtain⟨v,hv,ov⟩:=q.1.own i d hi hgi
  match d,ez with
  |.dic kvs,ez=>
   obtain⟨a,ys,rfl,hc,hfp,hE,hh,l,nd,r⟩:=ov;have ez:(wt kvs).bind (fun ps=>if ps.length<=5 then srtP ps else none)=some z:=ez;cases e2:wt kvs with
   |none=>rw[e2]at ez;cases ez
   |some ps=>
    rw[e2]at ez;have ez:(if ps.length<=5 then srtP ps else none)=some z:=ez
    split at ez
    ·rename_i l5
     obtain⟨k1,k2,k3⟩:=Z9 l r e2;have ndp:(ps.map (·.1)).Nodup:=by
      rw[<- l,<- k2]at nd;exact(bg.mp (aJ.mp nd)).imp (fun hne z=>hne (by rw[z])) |> fun w=>aJ.mpr (bg.mpr w)
     refine⟨a,ys,hh,V7 hv hh (by rw[l];exact nd) (by omega) fun D qs o H' hD hD' lq ha' ht old new=>⟨⟨o,ha'⟩,?_⟩⟩;have nDa:D≠a:=fun z=>by rw[z,hh]at hD;cases hD
     have sm:Same H (upd H' a (.dK ys)):=fun b u e=>by
      by_cases hb:b=a
      ·subst hb;rw[hh]at e;cases e;exact ql
      ·rw[qk hb];exact old b u e hb
     have nq:∀q∈qs,q≠a:=fun q hq z=>by have:=(new q hq).1;rw[z,hh]at this;cases this
     refine⟨D,qs,ps,rfl,SqL.of (by rw[qk nDa];exact hD'),by rw[lq,k1],fun j b o' z1 z2=>?_,ndp,l5,fun m out qs' hm' pm pw lq' tq' sq'=>?_⟩
     ·have hj:j<ys.length:=by rw[<- k1];exact(ai.mp z2).1
      have z3:ys[j]?=some ys[j]:=aa hj;have:=ht j b _ z1 z3;rw[qk (nq b (ay z1)),this,k3 j _ o' z3 z2];rfl
     ·have ef:fp=[]:=q.1.br
      subst ef;rw[WQ pm pw]at ez;cases ez;have nH:∀b,(upd H' a (.dK ys)) b=none->H b=none:=fun b e=>sm.free e
      have sm2:Same H (upd (upd H' a (.dK ys)) m (.lst (qs'.map V.ref))):=sm.trans (zm hm' _);obtain⟨fr,co'⟩:=x9 (H':=upd (upd H' a (.dK ys)) m (.lst (qs'.map V.ref))) q.1.core (Hn.grow sm2) (fun a e=>sm2.free e);have S':SE (W0 T hT) E () (upd (upd H' a (.dK ys)) m (.lst (qs'.map V.ref))) (grow c H (upd (upd H' a (.dK ys)) m (.lst (qs'.map V.ref)))) []:=⟨co',rfl,hT _ _ q.1.tab (fun b u e _ _ _=>sm2 b u e),(fun a ha=>absurd ha ax),q.1.fr0.trans fr⟩;refine k _ _ _ _ (q.1.step (b:=()) fr S') fr (yh (qs:=qs') q.1.core (nH m hm') (fun q' hq'=>?_) ⟨ql,lq',fun j q' o' z1 z2=>?_⟩)
      ·exact(new q' (sq' q' hq')).1
      ·have:=tq' j q' o' z1 z2
       rw[qk (qQ this hm')];exact this
    ·cases ez
end
def Y8:D->D->Option D
 |.int i,.int j=>some (.int (if j<i then j else i))
 |_,_=>none
def intD:D->Option D
 |.bl k=>some (.int (if k then 1 else 0))
 |.int i=>some (.int i)
 |_=>none
def Yd:D->Option (List (Key×D))
 |.dic kvs=>some kvs
 |_=>none
def Wq(kvs:List (Key×D))(k x:D):Option D:=(zL k).map fun k=>(qJ kvs k).getD x
def uA(k v:D):Option D:=(zL k).map fun k=>.dic [(k,v)]
section
variable{W:Wo}{X:Cx}{E:En}{O:List Nat}{m m1 m2:Bool}{pos apos p:Pos}{a b e f:Expr}{fa fb:SS W->R W D}
theorem uB(hcm:X.calm=true)(hg:Gl X "min")(hm:X.mg "min"=none)(ha:DE W E m1 X O a fa)(hb:DE W E m2 X O b fb)(hs1:starEach [b] X.env=(false,eval b X.env)::starEach [] X.env:=by rfl)(hs:starEach [a,b] X.env=(false,eval a X.env)::starEach [b] X.env:=by rfl)(h4:((backTo pos (starEach [b] X.env)).any fun x=>x.fst)=false:=by rfl) :
  DE W E true X O (.Call (.Name "min" p) [a,b] [] pos) (e2 Y8 fa fb):=
 qN (z7 (Xc hcm) hg hm Xg (qA ha (qA hb zx hs1) hs) (he:=hs) (hpl:=h4)) fun σ H Q⟨g,c,fp,q⟩=>⟨g,c,fp,q.bind fun d b v H1 c1 fp1 S1 F1 r1 h1=>⟨_,c1,fp1,h1.bind fun d' b' v' H2 c2 fp2 S2 F2 r2 h2=>by
  obtain⟨z,ez,k⟩:=h2.opt;cases r1 <;> first|cases ez|skip
  cases r2 <;> first|cases ez|skip
  exact⟨_,_,rfl,k _ H2 c2 fp2 S2 .refl (.int _)⟩⟩⟩
theorem Yg(hg:Gl X "int")(hm:X.mg "int"=none)(ha:DE W E m X O a fa)(hs:starEach [a] X.env=(false,eval a X.env)::starEach [] X.env:=by rfl):DE W E true X O (.Call (.Name "int" p) [a] [] pos) (e1 intD fa):=
 qN (kI Xf hg hm Xh (qA ha zx hs) (he:=hs)) fun σ H Q⟨g,c,fp,q⟩=>⟨g,c,fp,q.bind fun d b v H1 c1 fp1 S1 F1 r1 h1=>by
  obtain⟨z,ez,k⟩:=h1.opt;cases r1 with
  |bl x=>cases ez;exact .inr ⟨_,rfl,k _ H1 c1 fp1 S1 .refl (.int _)⟩
  |int x=>cases ez;exact .inl ⟨_,rfl,k _ H1 c1 fp1 S1 .refl (.int _)⟩
  |_=>cases ez⟩
def ZJ(i:Nat)(fa fb:SS W->R W D):SS W->R W D:=qF (eVar i) fun d=>qF (eOpt (Yd d)) fun kvs=>qF fa fun k=>qF fb fun x=>eOpt (Wq kvs k x)
theorem V2{i:Nat}(hu:X.A.units+1<cLine)(ho:PE X a (tVar i))(hi:i∈O)(he:DE W E m1 X O e fa)(hf:DE W E true X O f fb)(mm:M2 X a "get" apos e f pos):DE W E true X O (.Call (.Attribute a "get" apos) [e,f] [] pos) (ZJ i fa fb):=
 qN (XW hu ho he hf mm) fun σ H Q⟨g,c,fp,q⟩=>by
  obtain⟨d,hg,q1⟩:=tG.var q;obtain⟨x,h1,h2⟩:=q.1.own i d hi hg
  match d,h2,q1 with
  |.dic kvs,h2,q1=>
   have q1:tG X E (Rep X.K) true O (qF fa fun k=>qF fb fun x=>eOpt (Wq kvs k x)) g c fp σ H Q:=q1;obtain⟨p0,ys,rfl,hc,hf',hE,hh,l,nd,rs⟩:=id h2;refine⟨.ref p0,h1,p0,rfl,.inl ⟨ys,.inl hh⟩,g,c,fp,q1.bind fun dk b1 vk H1 c1 fp1 S1 F1 r1 q2=>⟨_,c1,fp1,q2.bind (rel:=Rep X.K) fun dx b2 vx H2 c2 fp2 S2 F2 r2 q3=>?_⟩⟩;obtain⟨z,ez,k⟩:=q3.opt;have o2:=(h2.step F1).step F2;obtain⟨p1,ys',e1,_,_,_,hh2,l2,nd2,rs2⟩:=o2;cases e1;have ez:(zL dk).map (fun k=>(qJ kvs k).getD dx)=some z:=ez;cases hk:zL dk with
   |none=>rw[hk]at ez;cases ez
   |some kk=>
    rw[hk]at ez;cases ez;have g1:=DGet.k (k:=kk) hh2;rw[<- vT r1 hk]at g1;have r2:Rep X.K c2 vx dx:=r2;rcases vL (k:=kk) l2 (fun i p q h1 h2=>rs2.r i _ _ (by rw[ag,h1];rfl) (by rw[ag,h2];rfl))with⟨z1,z2⟩|⟨dv,u,z1,z2,z3⟩
    ·rw[z2]at g1
     refine⟨_,g1,k _ H2 c2 fp2 S2 .refl ?_⟩;show Rep X.K c2 vx ((qJ kvs kk).getD dx);rw[z1];exact r2
    ·rw[z2]at g1
     refine⟨_,g1,k _ H2 c2 fp2 S2 .refl ?_⟩;show Rep X.K c2 u ((qJ kvs kk).getD dx);rw[z1];exact z3
  |.non,_,q1=>exact q1.2.elim
  |.bl _,_,q1=>exact q1.2.elim
  |.int _,_,q1=>exact q1.2.elim
  |.str _,_,q1=>exact q1.2.elim
  |.tup _,_,q1=>exact q1.2.elim
  |.lst _,_,q1=>exact q1.2.elim
  |.dit _,_,q1=>exact q1.2.elim
  |.obj _,_,q1=>exact q1.2.elim
  |.scr _,_,q1=>exact q1.2.elim
def VP(i j:Nat):SS W->R W D:=qF (eVar i) fun k=>qF (eVar j) fun v=>eOpt (uA k v)
theorem Wu{i j:Nat}(hk:PE X a (tVar i))(hv:PE X b (tVar j))(hi:i∉O)(hj:j∉O):DO W E X O (.Dict [some a] [b] pos) (VP i j):=
 qN (KU (Ja hk hv KD) rfl rfl (by simp) (by simp)) fun σ H Q⟨g,c,fp,q⟩ p hp=>by
  have q':tO X E O (qF (eVar i) fun k=>qF (eVar j) fun v=>eOpt (uA k v)) g c fp σ H Q:=q;obtain⟨S,h⟩:=q';rw[yT]at h;cases e1:(g.v[i]?).join with
  |none=>rw[e1]at h;exact h.elim
  |some dk=>
   rw[e1]at h;dsimp only at h;rw[yT]at h;cases e2:(g.v[j]?).join with
   |none=>rw[e2]at h;exact h.elim
   |some dv=>
    rw[e2]at h;dsimp only at h;obtain⟨x,hx,rx⟩:=S.frz i dk hi (join_some e1);obtain⟨y,hy,ry⟩:=S.frz j dv hj (join_some e2);unfold uA at h;cases ek:zL dk with
    |none=>rw[ek]at h;exact h.elim
    |some kk=>
     rw[ek]at h;have hxk:=vT rx ek;refine⟨x,hx,y,hy,ql,[(kk,y)],by rw[hxk];rfl,by simp,?_⟩;rw[Ym];exact h _ _ c fp (S.newO hp) (FR.newO hp _) ⟨p,[(kk,y)],rfl,(S.toSE.free hp).1,(S.toSE.free hp).2,S.toSE.freeE hp,ql,rfl,by simp,.cons ry .nil⟩ fun _ a ea=>by cases ea;exact hp
end
end M
namespace M
open PySem L2 X2
section
variable(T:Hp->Prop)(hT:HTb T)
def lpSo:SS (W0 T hT)->Ou (W0 T hT):=
 (sIf (qCmp leI (ZJ 4 (e2 ixD (eVar 5) (eC (.int 1))) (e2 addD (e2 ixD (eVar 5) (eC (.int 3))) (eC (.int 1)))) (e2 ixD (eVar 5) (eC (.int 3))))
 (sSeq (sSet 6 (e2 addD (e2 ixD (eVar 5) (eC (.int 4))) (e2 ixD (eVar 1) (e2 ixD (eVar 5) (eC (.int 2))))))
 (JM 4 (e2 ixD (eVar 5) (eC (.int 2))) (e2 Y8 (ZJ 4 (e2 ixD (eVar 5) (eC (.int 2))) (eVar 6)) (eVar 6))))
 sNil)
noncomputable def yY(ω:List Rd):SS (W0 T hT)->Ou (W0 T hT):=
 (sSeq (sSet 4 (VP 2 3))
 (sSeq (sFor (cI (ω.map rdD)) (ze 5) (lpSo T hT))
 (sRet (e1 Kj (eVar 4)))))
noncomputable def kX(ω:List Rd):List D->Option D:=jr 7 (yY T hT ω)
def YM:SS (W0 T hT)->Ou (W0 T hT):=
 (sSet 7 qbx)
def YL:SS (W0 T hT)->Ou (W0 T hT):=
 (sSet 8 (eLst aNil))
def XM:SS (W0 T hT)->Ou (W0 T hT):=
 (sIf (qCmp eqD (eVar 2) (eVar 3))
 (sApp 8 (eTup (qf (eC (.int 0)) (qf (eC (.int 0)) (qf (eVar 4) (qf (eC (.int 0)) (qf (eLst aNil) aNil)))))))
 sNil)
def Kf:SS (W0 T hT)->Ou (W0 T hT):=(sIf (qAnd (qCmp eqD (M.e2 ixD (eVar 10) (eC (.int 1))) (eVar 2)) (qCmp geI (M.e2 ixD (eVar 10) (eC (.int 3))) (eVar 4))) (sApp 11 (eTup (qf (eC (.int 0)) (qf (eC (.int 0)) (qf (eC (.int 0)) (qf (eLst aNil) aNil)))))) sNil)
def Vk:SS (W0 T hT)->Ou (W0 T hT):=
 (sSeq (sSet 11 (j6 1 [7,10,1] (iSeq (eVar 9)) (ze 0) (qAnd (qCmp inO (M.e2 ixD (eVar 0) (eC (.int 0))) (eVar 1)) (qTru (zO 3 (vj T hT) (qf (eVar 0) (qf (eVar 2) (qf (eVar 3) aNil)))))) (M.e2 ixD (eVar 1) (M.e2 ixD (eVar 0) (eC (.int 0)))))) (sSeq (Kf T hT) (sIf (qTru (eVar 11)) (sSeq (sAsg (pTup 4 (z8 (ze 12) (z8 (ze 13) (z8 (ze 14) (z8 (ze 15) pNil))))) (M.e1 (minO true) (eVar 11))) (sSeq (sSet 12 (M.e2 subI (eVar 12) (M.e1 intD (M.e2 inO (M.e2 ixD (eVar 10) (eC (.int 0))) (eVar 6))))) (sSeq (sSet 13 (M.e2 addD (eVar 13) (M.e1 intD (M.e2 ninO (M.e2 ixD (eVar 10) (eC (.int 0))) (eVar 5))))) (sSeq (JM 7 (M.e2 ixD (eVar 10) (eC (.int 0))) (eTup (qf (eVar 12) (qf (eVar 13) (qf (M.e2 addD (eVar 14) (eC (.int 1))) (qf (M.e2 addD (eVar 15) (eLst (qf (M.e2 ixD (eVar 10) (eC (.int 0))) aNil))) aNil)))))) (sIf (qCmp eqD (M.e2 ixD (eVar 10) (eC (.int 2))) (eVar 3)) (sApp 8 (eTup (qf (eVar 12) (qf (eVar 13) (qf (M.e2 ixD (eVar 10) (eC (.int 4))) (qf (M.e2 addD (eVar 14) (eC (.int 1))) (qf (M.e2 addD (eVar 15) (eLst (qf (M.e2 ixD (eVar 10) (eC (.int 0))) aNil))) aNil))))))) sNil))))) sNil)))
def YD:SS (W0 T hT)->Ou (W0 T hT):=
 (sSeq (sFor (iSeq (eVar 9)) (ze 10) (Vk T hT)) (sSeq (sIf (qNot (qTru (eVar 8))) (sRet (eC .non)) sNil) (sRet (M.e2 ixD (M.e1 (minO true) (eVar 8)) (eC (.int 4))))))
def yZ(ω:List Rd):SS (W0 T hT)->Ou (W0 T hT):=sSeq (YM T hT) (sSeq (YL T hT) (sSeq (XM T hT) (sSeq (sSet 9 (cE (.lst (ω.map rdD)))) (YD T hT))))
def kY(ω:List Rd):List D->Option D:=jr 16 (yZ T hT ω)
end
end M
namespace M
open PySem PySem.Spec PyProof.Rows L2 X2
section
variable{W:Wo}{X:Cx}{E:En}{O O' O1 OL:List Nat}{g g':SS W}{c:Co}{fr:Bool}{i j:Nat}{f h:SS W->Ou W}{fe:SS W->R W D}{tq:SS W->R W Bool}
theorem wZ{Ω:Type}{Ok:Ω->Prop}{Dn:Ends}{h:Ω->SS W->Ou W}{t:L2.St->Hp->Prop}(ne:∃ω,Ok ω)(q:∀ω,Ok ω->tSq X E fr OL O' Dn c (sSeq f (h ω) g))
  (k:∀g' c' fp' σ' H',f g=.nx g'->SR W X.K E O1 g' σ' H' c' fp'->Co.Le c c'->(∀ω,Ok ω->tSq X E fr OL O' Dn c' (h ω g'))->t σ' H'):tSq X E fr OL O1 { Dn with nx:=t } c (f g):=by
 obtain⟨ω0,ok0⟩:=ne;have q0:=q ω0 ok0;unfold sSeq at q q0;cases e:f g with
 |nx g'=>
  intro σ' H' c' fp' S' l';refine k g' c' fp' σ' H' e S' l' fun ω ok=>?_
  have:=q ω ok;rw[e]at this;exact tSq.mono l' this
 |rt d b=>rw[e]at q0;exact q0
 |bk g'=>rw[e]at q0;exact q0
 |ct g'=>rw[e]at q0;exact q0
 |ex x g'=>rw[e]at q0;exact q0
 |bad=>rw[e]at q0;exact q0
theorem Z7{d:D}(n:j≠i):((put g i d).v[j]?)=g.v[j]?:=by
 show(g.v.set i (some d))[j]?=_;rw[aM (bW n)]
theorem wY(e:sSet i fe g=.nx g')(n:j≠i):g'.v[j]?=g.v[j]?:=by
 unfold sSet zZ at e;cases h:fe g with
 |ok d b=>rw[h]at e;cases e;exact Z7 n
 |exc x b=>rw[h]at e;cases e
 |bad=>rw[h]at e;cases e
theorem WH(e:sApp i fe g=.nx g')(n:j≠i):g'.v[j]?=g.v[j]?:=by
 unfold sApp yb at e;cases h:(g.v[i]?).join with
 |none=>rw[h]at e;cases e
 |some d=>
  rw[h]at e;cases d with
  |lst ds=>
   have e:zZ fe (fun y=>sPut i (if ds.length<big then some (.lst (ds++[y]))else none)) g=.nx g':=e;unfold zZ at e;cases h2:fe g with
   |ok d b=>
    rw[h2]at e;have e:sPut i (if ds.length<big then some (.lst (ds++[d]))else none) ⟨g.v,b⟩=.nx g':=e;unfold sPut at e
    split at e
    ·cases e;exact Z7 n
    ·cases e
   |exc x b=>rw[h2]at e;cases e
   |bad=>rw[h2]at e;cases e
  |_=>cases e
theorem um(e:sIf tq f h g=.nx g')(k1:∀g g':SS W,f g=.nx g'->g'.v[j]?=g.v[j]?)(k2:∀g g':SS W,h g=.nx g'->g'.v[j]?=g.v[j]?):g'.v[j]?=g.v[j]?:=by
 unfold sIf zZ at e;cases h1:tq g with
 |ok b s=>
  rw[h1]at e;cases b with
  |true=>exact k1 ⟨g.v,s⟩ g' e
  |false=>exact k2 ⟨g.v,s⟩ g' e
 |exc x b=>rw[h1]at e;cases e
 |bad=>rw[h1]at e;cases e
theorem X8(g g':SS W)(e:sNil g=.nx g'):g'.v[j]?=g.v[j]?:=by cases e;rfl
end
theorem yk(rds:List Rd):∃ω:List Rd,ω.Perm rds/\ω.Pairwise (fun a b=>a.l<=b.l):=
 ⟨rds.mergeSort (fun a b:Rd=>decide (a.l<=b.l)),cN rds _,(cq (le:=fun a b:Rd=>decide (a.l<=b.l)) (fun a b c h1 h2=>by simp at *;omega) (fun a b=>by simp;omega) rds).imp fun h=>by simpa using h⟩
end M
namespace M
open PySem L2 X2
variable{Pt cd f:Addr}{ns ps:fP}{sp:Str->Int}{l rds rds' ω:List Rd}{go st:Str}{si:Int}{shared vs:fR}{P:Program}{w:World}{K:fH}{mg:fK}{base:Heap}{fd:FuncData}{T:Hp->Prop}
section
variable{P:Program}{w:World}{K:fH}{mg:fK}{base:Heap}{qh q_ qi qu qg qr qB qK zA qw qI qZ qL za zb qP qC qS je:Addr}{qU jw q9 zy qH zn zD z_ ki zr zN ja jb jz jA jy zP jx xi:FuncData}{T:Hp->Prop}{hT:HTb T}
variable{fp0:Fp}{ob0:Nat->fN}{tb:Nat->Option D}
def kc:Pos:=⟨162,44,162,72⟩
def ka:Str:=(Str.ofString "_law_soon"++Str.ofString ".<locals>.")++"<lambda>"
theorem sc_Lsoon:FnScope fU f' (qp vS):=⟨rfl,rfl,rfl,by decide +kernel,rfl,by decide +kernel,by decide +kernel⟩
theorem K8(Tx:Txt K mg qh q_ qi qu qg qr qB qK zA qw qI qZ qL za zb qP qC qS je)(Fu:FunC K "_law_soon" "_law_soon" vS qS jx cd)(hc:PySem.W.codeHdIn K cd Pt=true)(BM:Bm base mg)(rds:List Rd)(h64:rds.length<64)(hTT:∀H,T H->TabOk H Pt kc ka)(hTS:∀H H',T H->SaT Pt H H'->TabOk H' Pt kc ka->T H'):FnOk P w K mg base CX0 1 qS jx f' (spQ K T B0 4 (fun ds=>ds[0]?=some (.lst (rds.map rdD))/\∀ω,(List.Perm ω rds/\ω.Pairwise (fun a b=>a.l<=b.l))->∃d,kX T hT ω ds=some d) (fun ds d=>∃ω,(List.Perm ω rds/\ω.Pairwise (fun a b=>a.l<=b.l))/\kX T hT ω ds=some d)):=by
 have z:=ZH (Ω:=List Rd) (T:=T) (hT:=hT) (B:=B0) (hB:=hB0) (P:=P) (w:=w) (K:=K) (mg:=mg) (base:=base) (k:=0) (n:=4) (N:=fU) (ps:=f') (body:=yY T hT) (O':=[]) (Pr:=fun ds=>ds[0]?=some (.lst (rds.map rdD))) (Ok:=fun _ ω=>(List.Perm ω rds/\ω.Pairwise (fun a b=>a.l<=b.l))) [] (fun _ _ _ h=>h) Fu sc_Lsoon rfl (fun A outer s H EX E hr=>by
  refine jR (qY (t:=tS (W:=(W0 T hT)) (cxOf CX0 P w K mg base fU "_law_soon" (qp vS) qS (.ref cd) A outer s H EX).nox E false [] [] (sSet 4 (VP 2 3)) [4])
   (DS.weak (O:=[]) (O1:=[]) (O2:=[4]) (kj (i:=4) sc_Lsoon.nd rfl (by trivial) (Wu (pv 2) (pv 3) (by decide) (by decide))) (by decide) (by decide))
   (qY (t:=Yt (W:=(W0 T hT)) (cxOf CX0 P w K mg base fU "_law_soon" (qp vS) qS (.ref cd) A outer s H EX).nox E false [] [4] (fun g Ok=>PSrt 0 (W0 T hT) g fun d=>∃ds,d=.lst ds/\Ok ds) (ze 5) (lpSo T hT)) (KA b8 rfl qm ?SI (qX (qx (i:=5) sc_Lsoon.nd rfl (by trivial)))
   (qy (jf (zE YZ o_le (V2 (huR hr) (pv 4) (by decide) (qM (huR hr) (qb (pv 5) (by decide)) (de_c qe rfl)) (DO.de (zi (qM (huR hr) (qb (pv 5) (by decide)) (de_c qe rfl)) (de_c qe rfl))) ⟨rfl,rfl,rfl,rfl⟩) (qM (huR hr) (qb (pv 5) (by decide)) (de_c qe rfl)) (qR _))
   (qo (DS.weak (O:=[4]) (O1:=[4]) (O2:=[4]) (zF (i:=6) sc_Lsoon.nd rfl (by trivial) (DO.de (zi (qM (huR hr) (qb (pv 5) (by decide)) (de_c qe rfl)) (qM (huR hr) (qb (pv 1) (by decide)) (qM (huR hr) (qb (pv 5) (by decide)) (de_c qe rfl)))))) (by decide) (by decide))
   (qy (VU (huR hr) (pv 4) (by decide) (qM (huR hr) (qb (pv 5) (by decide)) (de_c qe rfl)) (uB rfl rfl Tx.b_min (V2 (huR hr) (pv 4) (by decide) (qM (huR hr) (qb (pv 5) (by decide)) (de_c qe rfl)) (qb (pv 6) (by decide)) ⟨rfl,rfl,rfl,rfl⟩) (qb (pv 6) (by decide))))))
   zg)))
   (u:=tS (W:=(W0 T hT)) (cxOf CX0 P w K mg base fU "_law_soon" (qp vS) qS (.ref cd) A outer s H EX).nox E false [] [4] (sRet (e1 Kj (eVar 4))) []) (qy (zG (Wx (i:=4) (x:="_law_site") (caps:=["_law_found"]) (kn rfl (by rfl) (by decide +kernel) (by decide +kernel) rfl (by contradiction) (by rfl) (by contradiction)) rfl (huR hr) rfl Tx.b_sorted (pv 4) (by decide) (fun _ _ _ _=>qx (i:=0) (by show(["_law_site","_law_found"]:fP).Nodup;decide +kernel) rfl (by trivial)) (fun _ _ _ _=>pv 0) (fun _ _ _ _=>pv 0) (fun _ _ _ _=>pv 1)))))) ?fin
  case SI=>exact qak (Jc (i:=0) (c:=cd) (P:=Pt) hTT hTS hr rfl Tx.b_sorted (pv 0) (by decide) rfl hc BM)
  case fin=>
   rintro Dn σ H1 ⟨ds,c,fp,S,pr,q⟩;cases ds with
   |nil=>cases pr
   |cons d ds=>
   cases pr;obtain⟨ω0,k1,k2⟩:=yk rds;refine⟨_,c,fp,S,?_⟩;exact wZ (Ok:=fun ω=>(List.Perm ω rds/\ω.Pairwise (fun a b=>a.l<=b.l))) ⟨ω0,k1,k2⟩ (fun ω ok=>q ω ok) fun g' c' fp' σ' H' eg S' le q'=>⟨g',c',fp',fun xs=>∃ω:List Rd,xs=ω.map rdD/\(List.Perm ω rds/\ω.Pairwise (fun a b=>a.l<=b.l)),S',⟨rds,by rw[wY eg (by decide)];rfl,h64,fun ω h1 h2=>⟨_,rfl,ω,rfl,h1,h2⟩⟩,fun xs hx=>by
    obtain⟨ω,rfl,h1⟩:=hx;exact⟨S',Z1 (q' ω h1)⟩⟩)
 exact z
def ke:Pos:=⟨127,38,127,68⟩
def kb:Str:=(Str.ofString "_law_plan"++Str.ofString ".<locals>.")++"<lambda>"
theorem sc_Lplan:FnScope fS fT (qp kC):=⟨rfl,rfl,rfl,by decide +kernel,rfl,by decide +kernel,by decide +kernel⟩
theorem K9(Tx:Txt K mg qh q_ qi qu qg qr qB qK zA qw qI qZ qL za zb qP qC qS je)(Fu:FunC K "_law_plan" "_law_plan" kC qP jy cd)(hc:PySem.W.codeHdIn K cd Pt=true)(BM:Bm base mg)(rds:List Rd)(h64:rds.length<64)(GLhang:FnOk P w K mg base CX0 1 za jz g4 (spP K T 3 false (vj T hT)))(BLhang:Binds K jz g4 [])(hTT:∀H,T H->TabOk H Pt ke kb)(hTS:∀H H',T H->SaT Pt H H'->TabOk H' Pt ke kb->T H'):FnOk P w K mg base CX0 2 qP jy fT (spQ K T B0 7 (fun ds=>(fun ds=>ds[0]?=some (.lst (rds.map rdD))) ds/\∀ω,(List.Perm ω rds/\ω.Pairwise (fun a b=>a.l<=b.l))->∃d,kY T hT ω ds=some d) (fun ds d=>∃ω,(List.Perm ω rds/\ω.Pairwise (fun a b=>a.l<=b.l))/\kY T hT ω ds=some d)):=by
 have z:=ZH (Ω:=List Rd) (T:=T) (hT:=hT) (B:=B0) (hB:=hB0) (P:=P) (w:=w) (K:=K) (mg:=mg) (base:=base) (k:=1) (n:=7) (N:=fS) (ps:=fT) (body:=yZ T hT) (O':=[]) (Pr:=(fun ds=>ds[0]?=some (.lst (rds.map rdD)))) (Ok:=fun _ ω=>(List.Perm ω rds/\ω.Pairwise (fun a b=>a.l<=b.l))) [] (fun _ _ _ h=>h) Fu sc_Lplan rfl (fun A outer s H EX E hr=>by
  refine jR (qY (t:=tS (W:=(W0 T hT)) (cxOf CX0 P w K mg base fS "_law_plan" (qp kC) qP (.ref cd) A outer s H EX).nox E false [] [] (YM T hT) [7])
   (DS.weak (O:=[]) (O1:=[]) (O2:=[7]) (kj (i:=7) sc_Lplan.nd rfl (by trivial) (uw XU)) (by decide) (by decide))
   (qY (t:=tS (W:=(W0 T hT)) (cxOf CX0 P w K mg base fS "_law_plan" (qp kC) qP (.ref cd) A outer s H EX).nox E false [] [7] (YL T hT) [7,8])
   (DS.weak (O:=[7]) (O1:=[7]) (O2:=[7,8]) (kj (i:=8) sc_Lplan.nd rfl (by trivial) (jN (qE (m:=true)))) (by decide) (by decide))
   (qY (t:=tS (W:=(W0 T hT)) (cxOf CX0 P w K mg base fS "_law_plan" (qp kC) qP (.ref cd) A outer s H EX).nox E false [] [7,8] (XM T hT) [7,8])
   (jf (zE (jI (huR hr)) o_eq (qb (pv 2) (by decide)) (qb (pv 3) (by decide)) (qR _))
   (qy (k_ (pv 8) (by decide) (kP (qc (m:=true) (de_c qe rfl) (qc (m:=true) (de_c qe rfl) (qc (m:=true) (qb (pv 4) (by decide)) (qc (m:=true) (de_c qe rfl) (qc (m:=true) (DO.de (jN (qE (m:=true)))) (qE (m:=true))))))))))
   zg)
   (qY (t:=uP (W:=(W0 T hT)) (cxOf CX0 P w K mg base fS "_law_plan" (qp kC) qP (.ref cd) A outer s H EX).nox E false [] [7,8] (PSrt 0 (W0 T hT)) 9) (YJ (i:=9) sc_Lplan.nd rfl (by trivial) ?SI)
   (u:=tS (W:=(W0 T hT)) (cxOf CX0 P w K mg base fS "_law_plan" (qp kC) qP (.ref cd) A outer s H EX).nox E false [] [7,8] (YD T hT) [])
   (qo (QO b8 rfl qm (Jv (qb (pv 9) (by decide))) (qX (qx (i:=10) sc_Lplan.nd rfl (by trivial)))
   (qo (DS.weak (O:=[7,8]) (O1:=[7,8]) (O2:=[7,8,11]) (xz (i:=11) sc_Lplan.nd rfl (by trivial) (T:=["_law_one"]) (caps:=["_law_best","_law_ride","_law_spans"]) (ix:=[7,10,1]) (O1:=[1]) (kn rfl (by rfl) (by decide +kernel) (by decide +kernel) rfl (by contradiction) (by rfl) (by contradiction)) rfl (by decide) qm (DI.toC (Jv (qb (pv 9) (by decide)))) (fun _ _ _ _ _=>(qX (qx (i:=0) (by show(["_law_one","_law_best","_law_ride","_law_spans"]:fP).Nodup;decide +kernel) rfl (by trivial)))) (by decide) (by decide) (fun _ _ _ _ _=>(wd (DW.dt (Jq (zE (K3 (huR hr)) o_in (qM (huR hr) (qb (pv 0) (by decide)) (de_c qe rfl)) (kO (pv 1) (by decide)) rfl) (yH (jV (zT (hr.mono (by decide)) rfl Tx.m_Lhang Tx.k_Lhang BLhang (G:=GLhang) (ha:=(qc (m:=true) (qb (pv 0) (by decide)) (qc (m:=true) (qb (pv 2) (by decide)) (qc (m:=true) (qb (pv 3) (by decide)) (qE (m:=true))))))))))))) (fun _ _ _ _ _=>(qb1 (huR hr) (pv 1) (by decide) (qM (huR hr) (qb (pv 0) (by decide)) (de_c qe rfl))))) (by decide) (by decide))
   (qo (jf (DW.dt (Jq (zE (jI (huR hr)) o_eq (qM (huR hr) (qb (pv 10) (by decide)) (de_c qe rfl)) (qb (pv 2) (by decide)) (qR _)) (yH (zE K4 o_ge (qM (huR hr) (qb (pv 10) (by decide)) (de_c qe rfl)) (qb (pv 4) (by decide)) (qR _)))))
   (qy (k_ (pv 11) (by decide) (kP (qc (m:=true) (de_c qe rfl) (qc (m:=true) (de_c qe rfl) (qc (m:=true) (de_c qe rfl) (qc (m:=true) (DO.de (jN (qE (m:=true)))) (qE (m:=true)))))))))
   zg)
   (qy (jf (jV (kO (pv 11) (by decide)))
   (qo (DS.weak (O:=[7,8,11]) (O1:=[7,8]) (O2:=[7,8]) (DS.weak (O:=[7,8]) (O1:=[7,8]) (O2:=[7,8]) (VW (vI (qO qm (qO qm (qO qm (qO qm kM))))) (Jw rfl (huR hr) rfl Tx.b_min (qb (pv 11) (by decide))) (QR rfl (zo qm (qX (qx (i:=12) sc_Lplan.nd rfl (by trivial))) (zo qm (qX (qx (i:=13) sc_Lplan.nd rfl (by trivial))) (zo qm (qX (qx (i:=14) sc_Lplan.nd rfl (by trivial))) (zo qm (qX (qx (i:=15) sc_Lplan.nd rfl (by trivial))) wf)))))) (by decide) (by decide)) (by decide) (by decide))
   (qo (DS.weak (O:=[7,8]) (O1:=[7,8]) (O2:=[7,8]) (zF (i:=12) sc_Lplan.nd rfl (by trivial) (zh Ql Vc (qb (pv 12) (by decide)) (Yg rfl Tx.b_int (kQ (K3 (huR hr)) o_in (qM (huR hr) (qb (pv 10) (by decide)) (de_c qe rfl)) (qb (pv 6) (by decide)) rfl)))) (by decide) (by decide))
   (qo (DS.weak (O:=[7,8]) (O1:=[7,8]) (O2:=[7,8]) (zF (i:=13) sc_Lplan.nd rfl (by trivial) (DO.de (zi (qb (pv 13) (by decide)) (Yg rfl Tx.b_int (kQ (Qn (huR hr)) qa0 (qM (huR hr) (qb (pv 10) (by decide)) (de_c qe rfl)) (qb (pv 5) (by decide)) rfl))))) (by decide) (by decide))
   (qo (VU (huR hr) (pv 7) (by decide) (qM (huR hr) (qb (pv 10) (by decide)) (de_c qe rfl)) (kP (qc (m:=true) (qb (pv 12) (by decide)) (qc (m:=true) (qb (pv 13) (by decide)) (qc (m:=true) (DO.de (zi (qb (pv 14) (by decide)) (de_c qe rfl))) (qc (m:=true) (DO.de (zi (qb (pv 15) (by decide)) (DO.de (jN (qc (m:=true) (qM (huR hr) (qb (pv 10) (by decide)) (de_c qe rfl)) (qE (m:=true))))))) (qE (m:=true))))))))
   (qy (jf (zE (jI (huR hr)) o_eq (qM (huR hr) (qb (pv 10) (by decide)) (de_c qe rfl)) (qb (pv 3) (by decide)) (qR _))
   (qy (k_ (pv 8) (by decide) (kP (qc (m:=true) (qb (pv 12) (by decide)) (qc (m:=true) (qb (pv 13) (by decide)) (qc (m:=true) (qM (huR hr) (qb (pv 10) (by decide)) (de_c qe rfl)) (qc (m:=true) (DO.de (zi (qb (pv 14) (by decide)) (de_c qe rfl))) (qc (m:=true) (DO.de (zi (qb (pv 15) (by decide)) (DO.de (jN (qc (m:=true) (qM (huR hr) (qb (pv 10) (by decide)) (de_c qe rfl)) (qE (m:=true))))))) (qE (m:=true))))))))))
   zg))))))
   (DSs.weak (O:=[7,8,11]) (O1:=[7,8,11]) (O2:=[7,8]) zg (by decide) (by decide)))))))
   (qo (jf (wM (jV (kO (pv 8) (by decide))))
   (qy (zG (de_c xb rfl)))
   zg)
   (qy (DS.weak (O:=[7,8]) (O1:=[7]) (O2:=[]) (O':=[]) (zG (qM (huR hr) (Jw rfl (huR hr) rfl Tx.b_min (qb (pv 8) (by decide))) (de_c qe rfl))) (by decide) (by decide))))))))) ?fin
  case SI=>exact Jc (i:=0) (c:=cd) (P:=Pt) hTT hTS hr rfl Tx.b_sorted (pv 0) (by decide) rfl hc BM
  case fin=>
   rintro Dn σ H1 ⟨ds,c,fp,S,pr,q⟩;cases ds with
   |nil=>cases pr
   |cons d ds=>
   cases pr;have ne:∃ω,(List.Perm ω rds/\ω.Pairwise (fun a b=>a.l<=b.l)):=yk rds;refine⟨_,c,fp,S,?_⟩;exact wZ (Ok:=fun ω=>(List.Perm ω rds/\ω.Pairwise (fun a b=>a.l<=b.l))) ne (fun ω ok=>q ω ok) fun g1 c1 fp1 σ1 H1 e1 S1 l1 q1=>⟨g1,c1,fp1,S1,wZ ne q1 fun g2 c2 fp2 σ2 H2 e2 S2 l2 q2=>⟨g2,c2,fp2,S2,wZ ne q2 fun g3 c3 fp3 σ3 H3 e3 S3 l3 q3=>⟨g3,c3,fp3,fun d=>∃ω:List Rd,d=.lst (ω.map rdD)/\(List.Perm ω rds/\ω.Pairwise (fun a b=>a.l<=b.l)),S3,⟨rds,by rw[um e3 (fun _ _ e=>WH e (by decide)) X8,wY e2 (by decide),wY e1 (by decide)];rfl,h64,fun ω h1 h2=>⟨ω,rfl,h1,h2⟩⟩,fun d hd=>by
    obtain⟨ω,rfl,h1⟩:=hd;exact⟨S3,Z1 (q3 ω h1)⟩⟩⟩⟩)
 exact z
end
def dkS(ps:List (Str×Int)):List (Key×D):=ps.map fun o=>((Sum.inr o.1:Key),D.int o.2)
theorem ux(ps:List (Str×Int)):(dkS ps).length=ps.length:=ab _
theorem Jk:∀(ps:List (Str×Int))(x:Str),qJ (dkS ps) (.inr x)=(ps.lookup x).map D.int
 |[],x=>rfl
 |p::ps,x=>by
  have ih:=Jk ps x;unfold qJ dkS at *;rw[aA,aZ,aS]
  by_cases h:x=p.1
  ·subst h
   simp
  ·have h1:(x == p.1)=false:=by simpa using h
   have h2:¬ (Sum.inr p.1:Key)=Sum.inr x:=fun z=>h (eV z).symm
   rw[h1,aP h2];exact ih
theorem YG(ps:List (Str×Int))(x:Str)(m:Int):putD (dkS ps) (Sum.inr x:Key) (.int m)=dkS (putS ps x m):=by
 have e:((dkS ps).any fun kv=>decide (kv.1=(Sum.inr x:Key)))=(ps.any fun p=>decide (p.1=x)):=by
  unfold dkS;rw[fo];refine bC (fun f=>List.any ps f) (funext fun p=>?_);show decide ((Sum.inr p.1:Key)=Sum.inr x)=decide (p.1=x)
  by_cases h:p.1=x
  ·simp[h]
  ·have:¬ (Sum.inr p.1:Key)=Sum.inr x:=fun z=>h (eV z)
   rw[aP this,aP h]
 unfold putD putS;rw[e]
 split
 ·unfold dkS
  rw[cu,cu];refine cM fun p _=>?_
  show(if(Sum.inr p.1:Key)=Sum.inr x then((Sum.inr p.1:Key),D.int m)else(Sum.inr p.1,D.int p.2))=(Sum.inr (if p.1=x then(p.1,m)else p).1,D.int (if p.1=x then(p.1,m)else p).2)
  by_cases h:p.1=x
  ·rw[aF (by rw[h]),aF h]
  ·rw[aG (fun z=>h (eV z)),aG h]
 ·unfold dkS
  rw[aN];rfl
theorem Ky{ps:List (Str×Int)}(nd:(ps.map Prod.fst).Nodup){x:Str}{m:Int}(h:ps.lookup x=some m):putS ps x m=ps:=by
 have hm:=(mem_lookup nd).mpr h;unfold putS;rw[aF (b7.mpr ⟨(x,m),hm,by simp⟩)]
 conv=>rhs;rw[<- List.map_id ps]
 refine cM fun p hp=>?_
 by_cases e:p.1=x
 ·rw[aF e]
  have:ps.lookup p.1=some p.2:=(mem_lookup nd).mp hp;rw[e,h]at this;cases this;rfl
 ·rw[aG e]
  rfl
theorem Z_:∀ps:List (Str×Int),wt (dkS ps)=some ps
 |[]=>rfl
 |p::ps=>by
  show(wt (dkS ps)).map ((p.1,p.2)::·)=_;rw[Z_ ps];rfl
section
variable{T:Hp->Prop}{hT:HTb T}{B:Hp->Co->fL->Prop}{hB:HBb B}
theorem VJ{i:Nat}{fa fb:SS (W1 T hT B hB)->R (W1 T hT B hB) D}{g:SS (W1 T hT B hB)}{kvs:List (Key×D)}{k x z:D}(hg:(g.v[i]?).join=some (.dic kvs))(a:fa g=.ok k ())(b:fb g=.ok x ())(o:Wq kvs k x=some z):ZJ i fa fb g=.ok z ():=by
 have a':fa ⟨g.v,()⟩=.ok k ():=a;have b':fb ⟨g.v,()⟩=.ok x ():=b;unfold ZJ qF eVar eOpt;rw[hg];simp only[Yd];have a'':fa ⟨g.v,g.b⟩=.ok k ():=a;simp only[a''];simp only[b',o]
theorem Jo(ps:List (Str×Int))(x:Str)(m:Int):Wq (dkS ps) (.str x) (.int m)=some (.int ((ps.lookup x).getD m)):=by
 show some ((qJ (dkS ps) (.inr x)).getD (.int m))=_;rw[Jk];cases ps.lookup x <;> rfl
end
theorem Z0{pre:List Rd}{ps:List (Str×Int)}(S:Soon sp rds pre st si ps)(hst:st∈ns)(hds:∀d∈rds,d.b∈ns):ps.length<=ns.length:=by
 have h:ps.map Prod.fst ⊆ ns:=fun x hx=>by
  obtain⟨p,hp,rfl⟩:=aC.mp hx;rcases S.sound p.1 p.2 ((mem_lookup S.nd).mp hp)with⟨e,_⟩|⟨e,r,eb,_⟩
  ·rw[e];exact hst
  ·rw[<- eb];exact hds e r.mem
 have:=S.nd.length_le_of_subset h
 rwa [ab]at this
theorem uT(ps:List (Str×Int))(nd:(ps.map Prod.fst).Nodup):∃out:List (Str×Int),out.Perm ps/\out.Pairwise (fun a b=>a.1.cps.toList<b.1.cps.toList):=by
 have pw:=cq (le:=fun a b:Str×Int=>decide (a.1.cps.toList<=b.1.cps.toList)) (fun a b c h1 h2=>by simp at *;exact d8 h1 h2) (fun a b=>by simp;exact List.le_total ..) ps;have pm:=cN ps (fun a b:Str×Int=>decide (a.1.cps.toList<=b.1.cps.toList));refine⟨_,pm,?_⟩;have nd2:((ps.mergeSort (fun a b:Str×Int=>decide (a.1.cps.toList<=b.1.cps.toList))).map Prod.fst).Nodup:=(pm.map _).nodup_iff.mpr nd;have nd3:=bg.mp (aJ.mp nd2);refine(pw.and nd3).imp fun{a b} h=>?_
 have h1:a.1.cps.toList<=b.1.cps.toList:=by simpa using h.1
 by_cases z:a.1.cps.toList<b.1.cps.toList
 ·exact z
 ·exact absurd (Q9 (dR h1 (bL.mp z))) h.2
section
variable(T:Hp->Prop)(hT:HTb T)
theorem Yw{kvs:List (Key×D)}(G:Wk (spF kvs) kvs rds)(h64:rds.length<64)(hst:st∈ns)(hds:∀d∈rds,d.b∈ns)(n5:ns.length<=5)(hp:List.Perm ω rds)(hw:ω.Pairwise (fun a b=>a.l<=b.l)) :
  ∃out,Paper (spF kvs) rds st si ns out/\kX T hT ω [.lst (rds.map rdD),.dic kvs,.str st,.int si]=some (.lst (out.map prI)):=by
 let S (ps:List (Str×Int)) (r m:Option D):SS (W0 T hT):=⟨[some (.lst (rds.map rdD)),some (.dic kvs),some (.str st),some (.int si),some (.dic (dkS ps)),r,m],()⟩;obtain⟨g',ef,ps,r,m,SS',rfl⟩:=yC (T:=T) (hT:=hT) (B:=B0) (hB:=hB0) (emb:=rdD) (p:=ze 5) (h:=lpSo T hT) (xs:=ω) (g:=S [(st,si)] none none)
  (I:=fun dn g=>∃ps r m,Soon (spF kvs) rds dn st si ps/\g=S ps r m) ⟨_,none,none,Soon.nil,rfl⟩ (by
   rintro dn d g ⟨post,hpost⟩ ⟨ps,r,m,SS',rfl⟩;have hdm:d∈rds:=hp.mem_iff.mp (by rw[hpost];simp);have hle:∀e∈dn,e.l<=d.l:=fun e he=>by
    rw[hpost]at hw;exact(dj.mp hw).2.2 e he d ar
   have lp:=Z0 SS' hst hds;have lbig:(dkS ps).length<big:=by rw[ux];unfold big;omega
   have tq:(qCmp leI (ZJ 4 (M.e2 ixD (eVar 5) (eC (.int 1))) (M.e2 addD (M.e2 ixD (eVar 5) (eC (.int 3))) (eC (.int 1)))) (M.e2 ixD (eVar 5) (eC (.int 3)))) (S ps (some (rdD d)) m)=.ok (rdy ps d.a d.l) ():=by
    refine ok_c (q_ok (VJ rfl (qj (qa rfl) c_ok (QH d)) (qj (qj (qa rfl) c_ok (wK d)) c_ok ju) (Jo ps d.a (d.l+1))) (qj (qa rfl) c_ok (wK d)) le_i) ?_;unfold rdy;cases ps.lookup d.a with
    |none=>exact aP (by show ¬ d.l+1<=d.l;omega)
    |some z=>rfl
   cases hr:rdy ps d.a d.l with
   |false=>
    rw[hr]at tq;exact⟨S ps (some (rdD d)) m,S ps (some (rdD d)) m,rfl,(if_f tq).trans rfl,ps,_,_,SS'.skip (fun z=>by rw[hr]at z;cases z),rfl⟩
   |true=>
    rw[hr]at tq;have e1:(sSet 6 (M.e2 addD (M.e2 ixD (eVar 5) (eC (.int 4))) (M.e2 ixD (eVar 1) (M.e2 ixD (eVar 5) (eC (.int 2)))))) (S ps (some (rdD d)) m)=.nx (S ps (some (rdD d)) (some (.int (d.c+spF kvs d.b)))):=
     qV (qj (qj (qa rfl) c_ok (QG d)) (qj (qa rfl) (qj (qa rfl) c_ok (vJ d)) ((Vx _ _).trans (G.sps d hdm))) ju)
    generalize hv:(if d.c+spF kvs d.b<(ps.lookup d.b).getD (d.c+spF kvs d.b)then d.c+spF kvs d.b else(ps.lookup d.b).getD (d.c+spF kvs d.b))=v
    have e2:(JM 4 (M.e2 ixD (eVar 5) (eC (.int 2))) (M.e2 Y8 (ZJ 4 (M.e2 ixD (eVar 5) (eC (.int 2))) (eVar 6)) (eVar 6))) (S ps (some (rdD d)) (some (.int (d.c+spF kvs d.b))))=.nx (S (putS ps d.b v) (some (rdD d)) (some (.int (d.c+spF kvs d.b)))):=by
     refine(Vy (d:=.dic (dkS ps)) (k:=.str d.b) (v:=.int v) (z:=.dic (dkS (putS ps d.b v))) (qj (VJ rfl (qj (qa rfl) c_ok (vJ d)) (qa rfl) (Jo ps d.b (d.c+spF kvs d.b))) (qa rfl) ?_) rfl (qj (qa rfl) c_ok (vJ d)) ?_).trans rfl
     ·show some (D.int _)=_
      rw[<- hv]
     ·show(if(dkS ps).length<big then some (D.dic (putD (dkS ps) (Sum.inr d.b) (.int v)))else none)=_
      rw[aF lbig,YG]
    refine⟨S ps (some (rdD d)) m,S (putS ps d.b v) (some (rdD d)) (some (.int (d.c+spF kvs d.b))),rfl,(if_t tq).trans ((qv e1).trans e2),putS ps d.b v,_,_,?_,rfl⟩;cases hb:rdy ps d.b (d.c+spF kvs d.b)with
    |true=>
     obtain⟨z,ez,le⟩:=rdy_iff.mp hb;have:v=z:=by
      rw[<- hv,ez];show(if d.c+spF kvs d.b<z then _ else z)=z;rw[aG (by omega)]
     rw[this,Ky SS'.nd ez];exact SS'.skip fun _=>hb
    |false=>
     have:v=d.c+spF kvs d.b:=by
      rw[<- hv];unfold rdy at hb;cases hl:ps.lookup d.b with
      |none=>show(if _<d.c+spF kvs d.b then _ else d.c+spF kvs d.b)=_;rw[aG (by omega)]
      |some z=>
       rw[hl]at hb;have:¬ z<=d.c+spF kvs d.b:=by simpa using hb
       show(if _<z then _ else z)=_;rw[aF (by omega)]
     rw[this];exact SS'.step G.toGood hdm hle hr hb)
 have hall:∀d∈rds,d∈ω:=fun d hd=>hp.mem_iff.mpr hd
 obtain⟨out,po,pw⟩:=uT ps SS'.nd;refine⟨out,⟨pw,fun x z=>(po.mem_iff).trans (SS'.least G.toGood hall),hst,hds,n5⟩,zH ?_⟩;unfold yY;refine(qv (g':=S [(st,si)] none none) (qV (d:=.dic (dkS [(st,si)])) rfl)).trans ?_;refine(qv (wa (ds:=ω.map rdD) rfl ef)).trans ?_;refine z6 (zk (qa rfl) ?_);show(wt (dkS ps)).bind (fun ps=>if ps.length<=5 then srtP ps else none)=_;rw[Z_];show(if ps.length<=5 then srtP ps else none)=_;rw[aF (by have:=Z0 SS' hst hds;omega),WQ po pw]
end
structure Q4 where
 s:Int
 u:Int
 m:Int
 ns:fR
def Q4.key(w:Q4):fR:=w.s::w.u::w.m::w.ns
def qD(w:Q4):D:=.tup [.int w.s,.int w.u,.int w.m,.lst (isD w.ns)]
theorem qas(a b:Q4):ordN true deep (qD a) (qD b)=some (decide (a.key<b.key)):=by
 show ordL true (eqN 29) (ordN true 29) [.int a.s,.int a.u,.int a.m,.lst (isD a.ns)] [.int b.s,.int b.u,.int b.m,.lst (isD b.ns)]=_;have h0:ordL true (eqN 29) (ordN true 29) [.lst (isD a.ns)] [.lst (isD b.ns)]=some (decide (a.ns<b.ns)):=by
  show(match eqN 29 (.lst (isD a.ns)) (.lst (isD b.ns))with|some true=>ordL true (eqN 29) (ordN true 29) [] []|some false=>ordN true 29 (.lst (isD a.ns)) (.lst (isD b.ns))|none=>none)=_;rw[show eqN 29 (.lst (isD a.ns)) (.lst (isD b.ns))=some (decide (a.ns=b.ns))from Jp,show ordN true 29 (.lst (isD a.ns)) (.lst (isD b.ns))=some (decide (a.ns<b.ns))from xQ (n:=27)]
  by_cases h:a.ns=b.ns
  ·rw[h]
   have:=bA b.ns;simp[this];rfl
  ·simp[h]
 rw[j9 (n:=28) (j9 (n:=28) (j9 (n:=28) h0))];unfold Q4.key;congr 1;simp only[bw]
 by_cases h1:a.s=b.s <;> by_cases h2:a.u=b.u <;> by_cases h4:a.m=b.m <;> simp[h1,h2,h4]
theorem Yh(ws:List Q4):∀k,k<ws.length->∃j w,xv true (ws.map qD) k=some j/\ws[j]?=some w/\j<=k/\∀i,i<=k->∀x,ws[i]?=some x->¬ x.key<w.key
 |0,h=>⟨0,ws[0],rfl,aa h,ak _,fun i hi x hx=>by
  have:i=0:=by omega
  subst this;rw[aa h]at hx;cases hx;exact bA _⟩
 |k+1,h=>by
  obtain⟨j,w,e,hj,lj,q⟩:=Yh ws k (by omega);have h1:(ws.map qD)[k+1]?=some (qD ws[k+1]):=by rw[ag,aa h];rfl
  have h2:(ws.map qD)[j]?=some (qD w):=by rw[ag,hj];rfl
  have e2:xv true (ws.map qD) (k+1)=if ws[k+1].key<w.key then some (k+1)else some j:=by
   show(match xv true (ws.map qD) k with|none=>none|some j=>match(ws.map qD)[k+1]?,(ws.map qD)[j]? with|some d,some e=>(match ordN true deep d e with|some true=>some (k+1)|some false=>some j|none=>none)|_,_=>none)=_;rw[e];simp only[];rw[h1,h2];simp only[];rw[qas]
   by_cases hk:ws[k+1].key<w.key <;> simp[hk]
  by_cases hk:ws[k+1].key<w.key
  ·rw[aF hk]at e2
   refine⟨k+1,ws[k+1],e2,aa h,ak _,fun i hi x hx=>?_⟩
   by_cases hi2:i=k+1
   ·subst hi2
    rw[aa h]at hx;cases hx;exact bA _
   ·exact fun z=>q i (by omega) x hx (eY z hk)
  ·rw[aG hk]at e2
   refine⟨j,w,e2,hj,by omega,fun i hi x hx=>?_⟩
   by_cases hi2:i=k+1
   ·subst hi2
    rw[aa h]at hx;cases hx;exact hk
   ·exact q i (by omega) x hx
theorem qcw{ws:List Q4}(h:ws≠[]):∃w,w∈ws/\minO true (.lst (ws.map qD))=some (qD w)/\∀x∈ws,¬ x.key<w.key:=by
 have hl:0<ws.length:=List.length_pos_iff.mpr h;obtain⟨j,w,e,hj,lj,q⟩:=Yh ws (ws.length - 1) (by omega);refine⟨w,ay hj,?_,fun x hx=>?_⟩
 ·show(if((ws.map qD).all fun d=>(ws.map qD).all fun e=>(ordN true deep d e).isSome)=true then minD true (ws.map qD)else none)=_
  rw[aF]
  ·unfold minD
   rw[aG (by rw[List.isEmpty_iff];simpa using h),ab,e];show(ws.map qD)[j]?=_;rw[ag,hj];rfl
  ·rw[bG]
   intro d hd;rw[bG];intro e he;obtain⟨a,_,rfl⟩:=aC.mp hd;obtain⟨b,_,rfl⟩:=aC.mp he;rw[qas];rfl
 ·obtain⟨i,hi⟩:=aX.mp hx
  have:=(ai.mp hi).1;exact q i (by omega) x hi
def q4(kept shared:fR)(l:List Rd):Q4:=⟨0 - ((l.map (·.n)).filter (fun n=>decide (n∈shared))).length,((l.map (·.n)).filter (fun n=>decide (n∉kept))).length,l.length,l.map (·.n)⟩
def qAdd(kept shared:fR)(n:Int)(q:Q4):Q4:=⟨q.s - (if n∈shared then 1 else 0),q.u+(if n∈kept then 0 else 1),q.m+1,q.ns++[n]⟩
theorem Zn{kept:fR}{d:Rd}:q4 kept shared (l++[d])=qAdd kept shared d.n (q4 kept shared l):=by
 unfold q4 qAdd
 by_cases h1:d.n∈shared <;> by_cases h2:d.n∈kept <;> simp[h1,h2,List.filter_append] <;> omega
theorem Yk{n:Int}:∀{xs ys:fR},xs.length=ys.length->(xs++[n]<ys++[n]↔xs<ys)
 |[],[],_=>by simp[bA]
 |[],_::_,h=>by simp at h
 |_::_,[],h=>by simp at h
 |x::xs,y::ys,h=>by
  have ih:=Yk (n:=n) (xs:=xs) (ys:=ys) (by simpa using h);rw[fh,fh,bw,bw,ih]
theorem YF{kept:fR}{n:Int}{a b:Q4}(ha:a.m=a.ns.length)(hb:b.m=b.ns.length):(qAdd kept shared n a).key<(qAdd kept shared n b).key↔a.key<b.key:=by
 unfold qAdd Q4.key;simp only[bw];generalize (if n∈shared then(1:Int)else 0)=x
 generalize (if n∈kept then(0:Int)else 1)=y
 have h1:a.s - x<b.s - x↔a.s<b.s:=by omega
 have h2:a.s - x=b.s - x↔a.s=b.s:=by omega
 have h3:a.u+y<b.u+y↔a.u<b.u:=by omega
 have h4:a.u+y=b.u+y↔a.u=b.u:=by omega
 have h5:a.m+1<b.m+1↔a.m<b.m:=by omega
 have h6:a.m+1=b.m+1↔a.m=b.m:=by omega
 rw[h1,h2,h3,h4,h5,h6]
 by_cases hm:a.m=b.m
 ·rw[Yk (by omega)]
 ·simp[hm]
def qW(c:Int)(q:Q4):Wt:=⟨q.s,q.u,c,q.m,q.ns⟩
theorem qcn{c:Int}{a b:Q4}:(qW c a).key<(qW c b).key↔a.key<b.key:=by
 unfold qW Wt.key Q4.key;simp only[bw];simp
theorem WL{kept:fR}{p:List Rd}{e:Rd}:wAll kept shared si (p++[e])=qW e.c (q4 kept shared (p++[e])):=by
 rw[Xx];unfold wLaw q4 qW Wg;simp
def LstF(sp:Str->Int)(rds:List Rd)(st:Str)(si:Int)(kept shared:fR)(p:Rd×Q4):Prop:=(∃t,SRow sp rds st si t p.1/\q4 kept shared (t++[p.1])=p.2)/\∀t,SRow sp rds st si t p.1->¬ (q4 kept shared (t++[p.1])).key<p.2.key
theorem Ku{kept:fR}:(q4 kept shared l).m=(q4 kept shared l).ns.length:=by unfold q4;simp
theorem Vj{kept:fR}{d:Rd}{found:List (Rd×Q4)}{w0:Q4}(hd:d∈rds)(hf:∀p∈found,LstF sp rds st si kept shared p)(hall:∀e t,hg sp e d=true->SRow sp rds st si t e->∃w,(e,w)∈found)
  (hw:(∃p∈found,hg sp p.1 d=true/\w0=p.2)\/((d.a=st/\si<=d.l)/\w0=q4 kept shared []))(hmin:(∀p∈found,hg sp p.1 d=true->¬ p.2.key<w0.key)/\((d.a=st/\si<=d.l)->¬ (q4 kept shared []).key<w0.key)):LstF sp rds st si kept shared (d,qAdd kept shared d.n w0)/\w0.m=w0.ns.length:=by
 have l0:w0.m=w0.ns.length:=by
  rcases hw with⟨p,hp,_,rfl⟩|⟨_,rfl⟩
  ·obtain⟨⟨t,_,e⟩,_⟩:=hf p hp
   rw[<- e];exact Ku
  ·exact Ku
 refine⟨⟨?_,fun t f=>?_⟩,l0⟩
 ·rcases hw with⟨p,hp,hh,rfl⟩|⟨⟨h1,h2⟩,rfl⟩
  ·obtain⟨⟨t,f,e⟩,_⟩:=hf p hp
   exact⟨t++[p.1],.snoc f hd hh,by show q4 _ _ (t++[p.1]++[d])=_;rw[Zn,e]⟩
  ·exact⟨[],.one hd h1 h2,Zn⟩
 ·show ¬ (q4 kept shared (t++[d])).key<_
  rw[Zn,YF Ku l0];cases f with
  |one m e h=>exact hmin.2 ⟨e,h⟩
  |@snoc p e d r m h=>
   obtain⟨w,hw'⟩:=hall e p h r;have h1:=(hf _ hw').2 p r;have h2:=hmin.1 _ hw' h;exact bL.mpr (d8 (bL.mp h2) (bL.mp h1))
def dkQ(b:List (Rd×Q4)):List (Key×D):=b.map fun p=>((Sum.inl p.1.n:Key),qD p.2)
theorem uy(b:List (Rd×Q4)):(dkQ b).length=b.length:=ab _
theorem vA:∀{b:List (Rd×Q4)}{n:Int},(∀p∈b,p.1.n≠n)->qJ (dkQ b) (.inl n)=none
 |[],n,_=>rfl
 |p::b,n,h=>by
  have ih:=vA (b:=b) (n:=n) fun q hq=>h q (av _ hq)
  unfold qJ dkQ at *;rw[aA,aZ];have h2:¬ (Sum.inl p.1.n:Key)=Sum.inl n:=fun z=>h p ar (fA z)
  rw[aP h2];exact ih
theorem vB:∀{b:List (Rd×Q4)}{p:Rd×Q4},(b.map (·.1.n)).Nodup->p∈b->qJ (dkQ b) (.inl p.1.n)=some (qD p.2)
 |[],p,_,h=>nomatch h
 |q::b,p,nd,h=>by
  rw[aA,bE]at nd;unfold qJ dkQ;rw[aA,aZ]
  by_cases e:q.1.n=p.1.n
  ·rcases aj.mp h with z|z
   ·subst z;simp
   ·exact absurd (aC.mpr ⟨p,z,e.symm⟩) nd.1
  ·have h2:¬ (Sum.inl q.1.n:Key)=Sum.inl p.1.n:=fun z=>e (fA z)
   rw[aP h2];rcases aj.mp h with z|z
   ·subst z;exact absurd rfl e
   ·exact vB nd.2 z
theorem YH{b:List (Rd×Q4)}{d:Rd}{q:Q4}(h:∀p∈b,p.1.n≠d.n):putD (dkQ b) (Sum.inl d.n:Key) (qD q)=dkQ (b++[(d,q)]):=by
 unfold putD;rw[aG ?_]
 ·unfold dkQ
  rw[aN];rfl
 ·intro z
  obtain⟨kv,h1,h2⟩:=b7.mp z;unfold dkQ at h1;obtain⟨p,hp,rfl⟩:=aC.mp h1;exact h p hp (fA (cF h2))
theorem qbp{n:Int}{kvs:List (Key×D)}:inO (.int n) (.dic kvs)=some (.bl (qJ kvs (.inl n)).isSome):=rfl
theorem uh(kvs:List (Key×D))(n:Int):ixD (.dic kvs) (.int n)=qJ kvs (.inl n):=rfl
theorem qc2(h:(rds.map (·.n)).Nodup){a b:Rd}(ha:a∈rds)(hb:b∈rds)(e:a.n=b.n):a=b:=by
 induction rds with
 |nil=>cases ha
 |cons r rds ih=>
  rw[aA,bE]at h;rcases aj.mp ha with x|x <;> rcases aj.mp hb with y|y
  ·rw[x,y]
  ·subst x;exact absurd (aC.mpr ⟨b,y,e.symm⟩) h.1
  ·subst y;exact absurd (aC.mpr ⟨a,x,e⟩) h.1
  ·exact ih h.2 x y
section
variable(T:Hp->Prop)(hT:HTb T)
theorem KH{kvs:List (Key×D)}{kept:fR}{f0:List Wt}(G:Wk sp kvs rds)(h64:rds.length<64)(hn:(rds.map (·.n)).Nodup)(hp:List.Perm ω rds)(hw:ω.Pairwise (fun a b=>a.l<=b.l))(hf0:∀w,w∈f0↔(st=go/\w=zY si))(lf0:f0.length<=1) :
  ∃(best:List (Rd×Q4))(found:List Wt)(g':SS (W0 T hT)),forD (ze 10) (Vk T hT) (ω.map rdD) ⟨[some (.lst (rds.map rdD)),some (.dic kvs),some (.str st),some (.str go),some (.int si),some (.lst (isD kept)),some (.lst (isD shared)),some (.dic (dkQ [])),some (.lst (f0.map wtD)),some (.lst (ω.map rdD)),none,none,none,none,none,none],()⟩=.nx g'/\(g'.v[8]?).join=some (.lst (found.map wtD))/\
   (∀p∈best,p.1∈rds/\LstF sp rds st si kept shared p)/\(∀e t,SRow sp rds st si t e->∃w,(e,w)∈best)/\(∀w,w∈found↔(st=go/\w=zY si)\/∃p∈best,p.1.b=go/\w=qW p.1.c p.2)/\∀p∈best,p.2.ns.length<=64:=by
 let S (best:List (Rd×Q4)) (found:List Wt) (r a b c d e:Option D):SS (W0 T hT):=⟨[some (.lst (rds.map rdD)),some (.dic kvs),some (.str st),some (.str go),some (.int si),some (.lst (isD kept)),some (.lst (isD shared)),some (.dic (dkQ best)),some (.lst (found.map wtD)),some (.lst (ω.map rdD)),r,a,b,c,d,e],()⟩;have lω:ω.length=rds.length:=hp.length_eq;have nω:(ω.map (·.n)).Nodup:=(hp.map _).nodup_iff.mpr hn;obtain⟨g',ef,best,found,r,a,b,c,d,e,ba,bd,bc,bl,fi,fl,rfl⟩:=yC (T:=T) (hT:=hT) (B:=B0) (hB:=hB0) (emb:=rdD) (p:=ze 10) (h:=Vk T hT) (xs:=ω) (g:=S [] f0 none none none none none none)
  (I:=fun dn g=>∃best found r a b c d e,(∀p∈best,p.1∈dn/\LstF sp rds st si kept shared p/\p.2.ns.length<=dn.length)/\(best.map (·.1.n)).Nodup/\(∀e∈dn,∀t,SRow sp rds st si t e->∃w,(e,w)∈best)/\best.length<=dn.length/\(∀w,w∈found↔(st=go/\w=zY si)\/∃p∈best,p.1.b=go/\w=qW p.1.c p.2)/\found.length<=dn.length+1/\g=S best found r a b c d e)
  ⟨[],f0,none,none,none,none,none,none,fun p hp=>(nomatch hp),by simp,fun e he=>(nomatch he),ak _,fun w=>by rw[hf0];simp,by simpa using lf0,rfl⟩ (by
   rintro dn d g ⟨post,hpost⟩ ⟨best,found,r,a,b,c,dd,e,ba,bd,bc,bl,fi,fl,rfl⟩;have hdm:d∈rds:=hp.mem_iff.mp (by rw[hpost];simp);have dns:∀x∈dn,x∈rds:=fun x hx=>hp.mem_iff.mp (by rw[hpost];simp[hx])
   have hdl:dn.length<64:=by
    have:=bC List.length hpost;simp at this;omega
   have hnew:∀p∈best,p.1.n≠d.n:=fun p hp' z=>by
    rw[hpost,aN,aA,bY]at nω;exact nω.2.2 p.1.n (aC.mpr ⟨_,(ba p hp').1,rfl⟩) d.n ar z
   have hall:∀e t,hg sp e d=true->SRow sp rds st si t e->∃w,(e,w)∈best:=fun e t hh f=>by
    have hl:=qbq G.toGood f.mem hh;have hem:e∈ω:=hp.mem_iff.mpr f.mem;rw[hpost]at hem hw;refine bc e ?_ t f;rcases aQ.mp hem with z|z
    ·exact z
    ·rcases aj.mp z with z|z
     ·subst z;omega
     ·have:=(bB.mp (dj.mp hw).2.1).1 e z
      omega
   have inb:∀x∈ω,(qJ (dkQ best) (.inl x.n)).isSome=true->∃q,(x,q)∈best/\qJ (dkQ best) (.inl x.n)=some (qD q):=fun x hx hs=>by
    by_cases hx2:∃p∈best,p.1.n=x.n
    ·obtain⟨p,hp',e⟩:=hx2
     have:=qc2 hn (dns _ (ba p hp').1) (hp.mem_iff.mp hx) e;subst this;exact⟨p.2,hp',vB bd hp'⟩
    ·rw[vA (fun p hp' z=>hx2 ⟨p,hp',z⟩)]at hs
     cases hs
   let out:Rd->D:=fun x=>(qJ (dkQ best) (.inl x.n)).getD .non
   let sel:Rd->Bool:=fun x=>(qJ (dkQ best) (.inl x.n)).isSome && hg sp x d
   have c1:=kR (T:=T) (hT:=hT) (B:=B0) (hB:=hB0) (emb:=rdD) (n:=1) (ix:=[7,10,1]) (fi:=iSeq (eVar 9)) (p:=ze 0) (t:=(qAnd (qCmp inO (M.e2 ixD (eVar 0) (eC (.int 0))) (eVar 1)) (qTru (zO 3 (vj T hT) (qf (eVar 0) (qf (eVar 2) (qf (eVar 3) aNil))))))) (f:=(M.e2 ixD (eVar 1) (M.e2 ixD (eVar 0) (eC (.int 0))))) (xs:=ω) (g:=S best found (some (rdD d)) a b c dd e)
    (I:=fun g=>∃y,g=⟨[y,some (.dic (dkQ best)),some (rdD d),some (.dic kvs)],()⟩) (sel:=sel) (out:=out) (Km (qa rfl) rfl) ⟨none,rfl⟩ (by
     rintro x hx g ⟨y,rfl⟩;have hxm:=hp.mem_iff.mp hx;have eh:=Wd T hT (e:=x) (d:=d) (G.sps _ hxm);have tq:(qCmp inO (M.e2 ixD (eVar 0) (eC (.int 0))) (eVar 1)) (⟨[some (rdD x),some (.dic (dkQ best)),some (rdD d),some (.dic kvs)],()⟩:SS (W0 T hT))=.ok (qJ (dkQ best) (.inl x.n)).isSome ():=q_ok (qj (qa rfl) c_ok (k9 x)) (qa rfl) qbp;have th:(qTru (zO 3 (vj T hT) (qf (eVar 0) (qf (eVar 2) (qf (eVar 3) aNil))))) (⟨[some (rdD x),some (.dic (dkQ best)),some (rdD d),some (.dic kvs)],()⟩:SS (W0 T hT))=.ok (hg sp x d) ():=zJ (zt (qd (qa rfl) (qd (qa rfl) (qd (qa rfl) zd))) rfl eh) rfl;refine⟨⟨[some (rdD x),some (.dic (dkQ best)),some (rdD d),some (.dic kvs)],()⟩,rfl,⟨_,rfl⟩,?_,fun hs=>?_⟩
     ·show _=(R.ok ((qJ (dkQ best) (.inl x.n)).isSome && hg sp x d) ():R (W0 T hT) Bool)
      cases hl:(qJ (dkQ best) (.inl x.n)).isSome with
      |true=>rw[hl]at tq;rw[Bool.true_and];exact J5 tq th
      |false=>rw[hl]at tq;rw[Bool.false_and];exact WI tq
     ·have hs':(qJ (dkQ best) (.inl x.n)).isSome=true:=by
       have:((qJ (dkQ best) (.inl x.n)).isSome && hg sp x d)=true:=hs;rw[cx]at this;exact this.1
      obtain⟨q,_,eq⟩:=inb x hx hs';refine qj (qa rfl) (qj (qa rfl) c_ok (k9 x)) ?_;rw[uh];show _=some ((qJ (dkQ best) (.inl x.n)).getD .non);rw[eq];rfl) (by unfold big;omega)
   have ew:∃us:List Q4,(ω.filter sel).map out=us.map qD/\us.length<=ω.length/\∀w,w∈us↔∃p∈best,hg sp p.1 d=true/\w=p.2:=by
    have key:∀l:List Rd,(∀x∈l,x∈ω)->∃us:List Q4,(l.filter sel).map out=us.map qD/\us.length<=l.length/\∀w,w∈us↔∃p∈best,p.1∈l/\hg sp p.1 d=true/\w=p.2:=by
     intro l
     induction l with
     |nil=>intro _;exact⟨[],rfl,ak _,fun w=>by simp⟩
     |cons x l ih=>
      intro hl;obtain⟨us,e1,l1,m1⟩:=ih fun y hy=>hl y (av _ hy)
      have hxω:=hl x ar;cases hs:sel x with
      |false=>
       refine⟨us,by rw[List.filter_cons_of_neg (by rw[hs];decide)];exact e1,by simp;omega,fun w=>(m1 w).trans ⟨fun⟨p,h1,h2,h3⟩=>⟨p,h1,av _ h2,h3⟩,fun⟨p,h1,h2,h3,h4⟩=>?_⟩⟩;rcases aj.mp h2 with z|z
       ·exfalso
        have:((qJ (dkQ best) (.inl x.n)).isSome && hg sp x d)=false:=hs;rw[<- z,vB bd h1,h3]at this;cases this
       ·exact⟨p,h1,z,h3,h4⟩
      |true=>
       have hs2:((qJ (dkQ best) (.inl x.n)).isSome && hg sp x d)=true:=hs;rw[cx]at hs2;obtain⟨q,hq,eq⟩:=inb x hxω hs2.1;refine⟨q::us,?_,by simp;omega,fun w=>?_⟩
       ·rw[List.filter_cons_of_pos hs,aA,aA,e1]
        congr 1;show(qJ (dkQ best) (.inl x.n)).getD .non=_;rw[eq];rfl
       ·rw[aj,m1]
        constructor
        ·rintro(rfl|⟨p,h1,h2,h3⟩)
         ·exact⟨(x,w),hq,ar,hs2.2,rfl⟩
         ·exact⟨p,h1,av _ h2,h3⟩
        ·rintro⟨p,h1,h2,h3,h4⟩
         rcases aj.mp h2 with z|z
         ·left
          have e5:=vB bd h1;have e6:=vB bd hq;rw[z]at e5;have e7:qD p.2=qD q:=bh (e5.symm.trans e6);rw[h4];have:p=(x,q):=by
           have nd:=bd;have:∀{b:List (Rd×Q4)}{u v:Rd×Q4},(b.map (·.1.n)).Nodup->u∈b->v∈b->u.1.n=v.1.n->u=v:=by
            intro b u v
            induction b with
            |nil=>intro _ h;cases h
            |cons y b ih=>
             intro nd hu hv e;rw[aA,bE]at nd;rcases aj.mp hu with x1|x1 <;> rcases aj.mp hv with y1|y1
             ·rw[x1,y1]
             ·subst x1;exact absurd (aC.mpr ⟨v,y1,e.symm⟩) nd.1
             ·subst y1;exact absurd (aC.mpr ⟨u,x1,e⟩) nd.1
             ·exact ih nd.2 x1 y1 e
           exact this bd h1 hq (by rw[z])
          rw[this]
         ·right;exact⟨p,h1,z,h3,h4⟩
    obtain⟨us,e1,l1,m1⟩:=key ω fun _ h=>h
    exact⟨us,e1,l1,fun w=>(m1 w).trans ⟨fun⟨p,h1,_,h3⟩=>⟨p,h1,h3⟩,fun⟨p,h1,h3⟩=>⟨p,h1,hp.mem_iff.mpr (dns _ (ba p h1).1),h3⟩⟩⟩
   obtain⟨us,eus,lus,mu⟩:=ew;rw[eus]at c1;let U (us:List Q4):=S best found (some (rdD d)) (some (.lst (us.map qD))) b c dd e;obtain⟨ws,mw,s2⟩:∃ws:List Q4,(∀w,w∈ws↔w∈us\/((d.a=st/\si<=d.l)/\w=q4 kept shared []))/\Kf T hT (U us)=.nx (U ws):=by
    have t1:(qCmp eqD (M.e2 ixD (eVar 10) (eC (.int 1))) (eVar 2)) (U us)=.ok (d.a == st) ():=q_ok (qj (qa rfl) c_ok (QH d)) (qa rfl) (kN _ _);have t2:(qCmp geI (M.e2 ixD (eVar 10) (eC (.int 3))) (eVar 4)) (U us)=.ok (decide (d.l >= si)) ():=q_ok (qj (qa rfl) c_ok (wK d)) (qa rfl) ge_i
    by_cases hb:d.a=st
    ·rw[show(d.a == st)=true by simp[hb]]at t1
     by_cases hl:si<=d.l
     ·refine⟨us++[q4 kept shared []],fun w=>by simp[hb,hl],(if_t (J5 t1 (ok_t t2 hl))).trans ((vb (ds:=us.map qD) (y:=qD (q4 kept shared [])) rfl (kA (qd c_ok (qd c_ok (qd c_ok (qd (jM zd (by show 0<=1000;decide)) zd)))) (by simp)) (by rw[ab];unfold big;omega)).trans ?_)⟩
      rw[show us.map qD++[qD (q4 kept shared [])]=(us++[q4 kept shared []]).map qD by simp];rfl
     ·exact⟨us,fun w=>by simp[hl],(if_f (J5 t1 (ok_f t2 hl))).trans rfl⟩
    ·rw[show(d.a == st)=false by simp[hb]]at t1
     exact⟨us,fun w=>by simp[hb],(if_f (WI t1)).trans rfl⟩
   have tq:qTru (eVar 11) (U ws)=.ok (!(ws.map qD).isEmpty) ():=zJ (qa rfl) rfl
   by_cases hne:ws=[]
   ·subst hne
    refine⟨S best found (some (rdD d)) a b c dd e,S best found (some (rdD d)) (some (.lst [])) b c dd e,rfl,?_,best,found,_,_,_,_,_,_,fun p hp'=>⟨aU _ (ba p hp').1,(ba p hp').2.1,by have:=(ba p hp').2.2;simp;omega⟩,bd,fun e he t f=>?_,by simp;omega,fi,by simp;omega,rfl⟩
    ·unfold Vk
     refine aE (qv (g':=U us) (qV c1)) ?_;refine aE (qv s2) ?_;exact(if_f tq).trans rfl
    ·rcases aQ.mp he with z|z
     ·exact bc e z t f
     ·cases au.mp z
      cases f with
      |one m h1 h2=>exact absurd ((mw _).mpr (.inr ⟨⟨h1,h2⟩,rfl⟩)) (by simp)
      |@snoc p e' _ rr m hh=>
       obtain⟨w,hw'⟩:=hall e' p hh rr;exact absurd ((mw w).mpr (.inl ((mu w).mpr ⟨_,hw',hh,rfl⟩))) (by simp)
   ·obtain⟨w0,hm0,em,hmin⟩:=qcw hne
    have tt:qTru (eVar 11) (U ws)=.ok true ():=ok_c tq (by cases ws with|nil=>exact absurd rfl hne|cons a b=>rfl);have l0:w0.ns.length<=dn.length:=by
     rcases(mw w0).mp hm0 with z|⟨_,rfl⟩
     ·obtain⟨p,hp',_,rfl⟩:=(mu w0).mp z
      exact(ba p hp').2.2
     ·exact aV _
    obtain⟨LS,_⟩:LstF sp rds st si kept shared (d,qAdd kept shared d.n w0)/\w0.m=w0.ns.length:=Vj hdm (fun p hp'=>(ba p hp').2.1) hall (by
     rcases(mw w0).mp hm0 with z|z
     ·exact .inl ((mu w0).mp z)
     ·exact .inr z) ⟨fun p hp' hh=>hmin _ ((mw _).mpr (.inl ((mu _).mpr ⟨p,hp',hh,rfl⟩))),fun hb=>hmin _ ((mw _).mpr (.inr ⟨hb,rfl⟩))⟩
    have lns:(isD w0.ns).length+1<=big:=by rw[zS];unfold big;omega
    let q1:=qAdd kept shared d.n w0;let V (b:List (Rd×Q4)) (f:List Wt) (x y:Int):=S b f (some (rdD d)) (some (.lst (ws.map qD))) (some (.int x)) (some (.int y)) (some (.int w0.m)) (some (.lst (isD w0.ns)));have ens:addD (.lst (isD w0.ns)) (.lst [.int d.n])=some (.lst (isD q1.ns)):=(add_l (by simpa using lns)).trans (by show _=some (D.lst (isD (w0.ns++[d.n])));unfold isD;simp);let found':=if d.b=go then found++[qW d.c q1] else found
    have mf:∀w,w∈found'↔w∈found\/(d.b=go/\w=qW d.c q1):=fun w=>by
     show w∈(if d.b=go then found++[qW d.c q1] else found)↔_
     by_cases h:d.b=go <;> simp[h]
    have lf':found'.length<=found.length+1:=by
     show(if d.b=go then found++[qW d.c q1] else found).length<=_
     by_cases h:d.b=go <;> simp[h]
    refine⟨S best found (some (rdD d)) a b c dd e,V (best++[(d,q1)]) found' q1.s q1.u,rfl,?_,best++[(d,q1)],found',_,_,_,_,_,_,fun p hp'=>?_,?_,fun e he t f=>?_,by simp;omega,fun w=>?_,by simp;omega,rfl⟩
    ·unfold Vk
     refine aE (qv (g':=U us) (qV c1)) ?_;refine aE (qv s2) ?_;refine aE (if_t tt) ?_;refine aE (qv (g':=V best found w0.s w0.u) (Xp (zk (qa rfl) em) rfl)) ?_;refine aE (qv (g':=V best found q1.s w0.u) (qV (d:=.int q1.s) (qj (qa rfl) (zk (qj (y:=.lst (isD shared)) (qj (qa rfl) c_ok (k9 d)) (qa rfl) VE) rfl) (by
      show some (D.int _)=some (D.int (w0.s - (if d.n∈shared then 1 else 0)))
      by_cases hx:d.n∈shared <;> simp[hx])))) ?_
     refine aE (qv (g':=V best found q1.s q1.u) (qV (d:=.int q1.u) (qj (qa rfl) (zk (qj (y:=.lst (isD kept)) (qj (qa rfl) c_ok (k9 d)) (qa rfl) Ji) rfl) (by
      show some (D.int _)=some (D.int (w0.u+(if d.n∈kept then 0 else 1)))
      by_cases hx:d.n∈kept <;> simp[hx])))) ?_
     refine aE (qv (g':=V (best++[(d,q1)]) found q1.s q1.u) (Vy (d:=.dic (dkQ best)) (k:=.int d.n) (v:=qD q1) (z:=.dic (dkQ (best++[(d,q1)]))) (kA (qd (qa rfl) (qd (qa rfl) (qd (qj (qa rfl) c_ok ju) (qd (qj (qa rfl) (jM (qd (qj (qa rfl) c_ok (k9 d)) zd) (by simp)) ens) zd)))) (by simp)) rfl (qj (qa rfl) c_ok (k9 d)) (by
      show(if(dkQ best).length<big then some (D.dic (putD (dkQ best) (Sum.inl d.n) (qD q1)))else none)=_;rw[aF (by rw[uy];unfold big;omega),YH hnew]))) ?_
     have t1:(qCmp eqD (M.e2 ixD (eVar 10) (eC (.int 2))) (eVar 3)) (V (best++[(d,q1)]) found q1.s q1.u)=.ok (d.b == go) ():=q_ok (qj (qa rfl) c_ok (vJ d)) (qa rfl) (kN _ _)
     by_cases hb:d.b=go
     ·rw[show(d.b == go)=true by simp[hb]]at t1
      refine aE (if_t t1) (aE (vb (ds:=found.map wtD) (y:=wtD (qW d.c q1)) rfl (kA (qd (qa rfl) (qd (qa rfl) (qd (qj (qa rfl) c_ok (QG d)) (qd (qj (qa rfl) c_ok ju) (qd (qj (qa rfl) (jM (qd (qj (qa rfl) c_ok (k9 d)) zd) (by simp)) ens) zd))))) (by simp)) (by rw[ab];unfold big;omega)) ?_);rw[show found.map wtD++[wtD (qW d.c q1)]=found'.map wtD by simp[found',hb]];rfl
     ·rw[show(d.b == go)=false by simp[hb]]at t1
      rw[show found'=found from aG hb];exact aE (if_f t1) rfl
    ·rcases aQ.mp hp' with z|z
     ·exact⟨aU _ (ba p z).1,(ba p z).2.1,by have:=(ba p z).2.2;simp;omega⟩
     ·cases au.mp z
      refine⟨az _ (au.mpr rfl),LS,?_⟩;show(w0.ns++[d.n]).length<=_;simp;omega
    ·rw[aN,bY]
     refine⟨bd,by simp,fun x hx y hy=>?_⟩;obtain⟨p,hp',rfl⟩:=aC.mp hx;cases au.mp hy;exact hnew p hp'
    ·rcases aQ.mp he with z|z
     ·obtain⟨w,hw'⟩:=bc e z t f
      exact⟨w,aU _ hw'⟩
     ·cases au.mp z
      exact⟨_,az _ (au.mpr rfl)⟩
    ·rw[mf,fi]
     constructor
     ·rintro((h|⟨p,h1,h2⟩)|⟨h1,h2⟩)
      ·exact .inl h
      ·exact .inr ⟨p,aU _ h1,h2⟩
      ·exact .inr ⟨_,az _ (au.mpr rfl),h1,h2⟩
     ·rintro(h|⟨p,h1,h2⟩)
      ·exact .inl (.inl h)
      ·rcases aQ.mp h1 with z|z
       ·exact .inl (.inr ⟨p,z,h2⟩)
       ·cases au.mp z
        exact .inr h2)
 exact⟨best,found,_,ef,rfl,fun p hp'=>⟨hp.mem_iff.mp (ba p hp').1,(ba p hp').2.1⟩,fun e t f=>bc e (hp.mem_iff.mpr f.mem) t f,fi,fun p hp'=>by have:=(ba p hp').2.2;omega⟩
theorem Zo{kvs:List (Key×D)}{kept:fR}(G:Wk sp kvs rds)(h64:rds.length<64)(hn:(rds.map (·.n)).Nodup)(hp:List.Perm ω rds)(hw:ω.Pairwise (fun a b=>a.l<=b.l)) :
  ∃o,kY T hT ω [.lst (rds.map rdD),.dic kvs,.str st,.str go,.int si,.lst (isD kept),.lst (isD shared)]=some (optD o)/\Best kept shared si (AllW sp rds st go si) o/\∀ns,o=some ns->ns.length<=64:=by
 let f0:List Wt:=if st=go then[zY si] else[]
 have hf0:∀w,w∈f0↔(st=go/\w=zY si):=fun w=>by
  show w∈(if st=go then[zY si] else[])↔_
  by_cases h:st=go <;> simp[h]
 have lf0:f0.length<=1:=by
  show(if st=go then[zY si] else[]).length<=1
  by_cases h:st=go <;> simp[h]
 obtain⟨best,found,g',ef,e8,ba,bc,fi,bl⟩:=KH T hT (st:=st) (go:=go) (si:=si) (kept:=kept) (shared:=shared) G h64 hn hp hw hf0 lf0;let S (a b c:Option D):SS (W0 T hT):=⟨[some (.lst (rds.map rdD)),some (.dic kvs),some (.str st),some (.str go),some (.int si),some (.lst (isD kept)),some (.lst (isD shared)),a,b,c,none,none,none,none,none,none],()⟩;have p0:YM T hT (S none none none)=.nx (S (some (.dic (dkQ []))) none none):=rfl;have p1:YL T hT (S (some (.dic (dkQ []))) none none)=.nx (S (some (.dic (dkQ []))) (some (.lst [])) none):=qV (jM zd (by decide));have p2:XM T hT (S (some (.dic (dkQ []))) (some (.lst [])) none)=.nx (S (some (.dic (dkQ []))) (some (.lst (f0.map wtD))) none):=by
  have t1:(qCmp eqD (eVar 2) (eVar 3)) (S (some (.dic (dkQ []))) (some (.lst [])) none)=.ok (st == go) ():=q_ok (qa rfl) (qa rfl) (kN _ _);unfold XM
  by_cases h:st=go
  ·rw[show(st == go)=true by simp[h]]at t1
   refine(if_t t1).trans (aE (vb (ds:=[]) (y:=wtD (zY si)) rfl (kA (qd c_ok (qd c_ok (qd (qa rfl) (qd c_ok (qd (jM zd (by show 0<=1000;decide)) zd))))) (by simp)) (by decide)) ?_);have:f0=[zY si]:=aF h;rw[this];rfl
  ·rw[show(st == go)=false by simp[h]]at t1
   have:f0=[]:=aG h;rw[this];exact(if_f t1).trans rfl
 have run:∀d:D,(sSeq (sIf (qNot (qTru (eVar 8))) (sRet (eC .non)) sNil) (sRet (M.e2 ixD (M.e1 (minO true) (eVar 8)) (eC (.int 4))))) g'=.rt d ()->kY T hT ω [.lst (rds.map rdD),.dic kvs,.str st,.str go,.int si,.lst (isD kept),.lst (isD shared)]=some d:=fun d h=>by
  refine zH ?_;unfold yZ YD;refine aE (qv p0) ?_;refine aE (qv p1) ?_;refine aE (qv p2) ?_;refine aE (qv (g':=S (some (.dic (dkQ []))) (some (.lst (f0.map wtD))) (some (.lst (ω.map rdD)))) (qV (d:=.lst (ω.map rdD)) rfl)) ?_;exact aE (qv (wa (ds:=ω.map rdD) (Km (qa rfl) rfl) ef)) h
 have tq:qTru (eVar 8) g'=.ok (!(found.map wtD).isEmpty) ():=zJ (qa e8) rfl
 by_cases hne:found=[]
 ·subst hne
  refine⟨none,run .non (wA (if_t (xS tq)) |>.trans rfl),.inl ⟨rfl,fun l hl=>?_⟩,fun ns e=>(nomatch e)⟩
  by_cases hl0:l=[]
  ·subst hl0
   rcases hl with⟨_,h⟩|⟨d,t,h,_⟩
   ·have:=(fi (zY si)).mpr (.inl ⟨h,rfl⟩)
    simp at this
   ·cases h
  ·obtain⟨p,e,r,hb,rfl⟩:=(y4 hl0).mp hl
   obtain⟨w,hw'⟩:=bc e p r;have:=(fi (qW e.c w)).mpr (.inr ⟨_,hw',hb,rfl⟩);simp at this
 ·obtain⟨w0,hm0,em,hmin⟩:=Vh hne
  have e4:ixD (wtD w0) (.int 4)=some (.lst (isD w0.ns)):=rfl;have tf:qNot (qTru (eVar 8)) g'=.ok false ():=ok_c (xS tq) (by cases found with|nil=>exact absurd rfl hne|cons a b=>rfl);refine⟨some w0.ns,run _ ((qv (if_f tf)).trans (z6 (qj (zk (qa e8) em) c_ok e4))),.inr ?_,fun ns e=>?_⟩
  rotate_left
  ·cases e
   rcases(fi w0).mp hm0 with⟨_,rfl⟩|⟨p,h1,_,rfl⟩
   ·exact aV _
   ·exact bl p h1
  have ge:∀l',AllW sp rds st go si l'->¬ (wAll kept shared si l').key<w0.key:=fun l' hl=>by
   by_cases hl0:l'=[]
   ·subst hl0
    rcases hl with⟨_,h⟩|⟨d,t,h,_⟩
    ·exact hmin _ ((fi (zY si)).mpr (.inl ⟨h,rfl⟩))
    ·cases h
   ·obtain⟨p,e,r,hb,rfl⟩:=(y4 hl0).mp hl
    obtain⟨w,hw'⟩:=bc e p r;have h1:=hmin _ ((fi (qW e.c w)).mpr (.inr ⟨_,hw',hb,rfl⟩));have h2:=(ba _ hw').2.2 p r;rw[WL];have h3:¬ (qW e.c (q4 kept shared (p++[e]))).key<(qW e.c w).key:=by rw[qcn];exact h2
    exact bL.mpr (d8 (bL.mp h1) (bL.mp h3))
  rcases(fi w0).mp hm0 with⟨h,rfl⟩|⟨p,h1,h2,rfl⟩
  ·exact⟨[],.inl ⟨rfl,h⟩,rfl,ge⟩
  ·obtain⟨⟨t,r,et⟩,_⟩:=(ba p h1).2
   have ea:wAll kept shared si (t++[p.1])=qW p.1.c p.2:=by rw[WL,et]
   exact⟨t++[p.1],(y4 (by simp)).mpr ⟨t,p.1,r,h2,rfl⟩,by rw[ea],fun l' hl=>by rw[ea];exact ge l' hl⟩
end
def PlOk(ds:List D)(o:Option (fR)):Prop:=∃(rds:List Rd)(kvs:List (Key×D))(st go:Str)(si:Int)(kept shared:fR),ds=[.lst (rds.map rdD),.dic kvs,.str st,.str go,.int si,.lst (isD kept),.lst (isD shared)]/\Wk (spF kvs) kvs rds/\rds.length<64/\(rds.map (·.n)).Nodup/\Best kept shared si (AllW (spF kvs) rds st go si) o
theorem PlOk.uniq{ds:List D}{o o':Option (fR)}(h:PlOk ds o)(h':PlOk ds o'):o=o':=by
 obtain⟨rds,kvs,st,go,si,kept,shared,rfl,_,_,_,b⟩:=h;obtain⟨rds',kvs',st',go',si',kept',shared',e,_,_,_,b'⟩:=h';simp only[bP,D.lst.injEq,D.dic.injEq,D.str.injEq,D.int.injEq,fF]at e;obtain⟨e1,rfl,rfl,rfl,rfl,e2,e3⟩:=e;cases map_inj (fun _ _=>xI) e1;cases map_inj (f:=D.int) (fun _ _ e=>D.int.inj e) e2;cases map_inj (f:=D.int) (fun _ _ e=>D.int.inj e) e3;exact b.uniq b'
open Classical in
noncomputable def F_pl(ds:List D):Option D:=if h:∃o,PlOk ds o then some (optD h.choose)else none
theorem qco{ds:List D}{o:Option (fR)}(h:PlOk ds o):F_pl ds=some (optD o):=by
 have hx:∃o,PlOk ds o:=⟨o,h⟩;unfold F_pl;rw[fG hx,hx.choose_spec.uniq h]
theorem qct{ds:List D}{d:D}(h:F_pl ds=some d):∃o,PlOk ds o/\d=optD o:=by
 unfold F_pl at h
 split at h
 ·rename_i hx
  cases h;exact⟨_,hx.choose_spec,rfl⟩
 ·cases h
theorem KI{k:Nat}(hT:HTb T)
  (h:∀rds:List Rd,rds.length<64->FnOk P w K mg base CX0 k f fd ps (spQ K T B0 7 (fun ds=>(fun ds:List D=>ds[0]?=some (.lst (rds.map rdD))) ds/\∀ω,(List.Perm ω rds/\ω.Pairwise (fun a b=>a.l<=b.l))->∃d,kY T hT ω ds=some d) (fun ds d=>∃ω,(List.Perm ω rds/\ω.Pairwise (fun a b=>a.l<=b.l))/\kY T hT ω ds=some d))):FnOk P w K mg base CX0 k f fd ps (spP K T 7 false F_pl):=
 (FnOk.ex (α:={ rds:List Rd // rds.length<64 }) fun z=>h z.1 z.2).imp fun vs H Q EX⟨hl,c,ds,co,tt,rs,d,ed,q⟩=>by
  obtain⟨o,po,rfl⟩:=qct ed;obtain⟨rds,kvs,st,go,si,kept,shared,rfl,wk,h64,hn,bs⟩:=id po;refine⟨⟨rds,h64⟩,hl,c,_,[],co,rfl,tt,(fun a ha=>absurd ha ax),rs,⟨rfl,fun ω ok=>?_⟩,fun d' v H' c'⟨ω,ok,rl⟩ F co' _ t' _ r=>q v H' c' F co' t' ?_⟩
  ·obtain⟨o',e',_⟩:=Zo T hT (st:=st) (go:=go) (si:=si) (kept:=kept) (shared:=shared) wk h64 hn ok.1 ok.2
   exact⟨_,e'⟩
  ·obtain⟨o',e',b',_⟩:=Zo T hT (st:=st) (go:=go) (si:=si) (kept:=kept) (shared:=shared) wk h64 hn ok.1 ok.2
   rw[e']at rl;cases rl;rw[aG (by decide),bs.uniq b'];exact r
theorem Kl{k:Nat}(hT:HTb T)
  (h:∀rds:List Rd,rds.length<64->FnOk P w K mg base CX0 k f fd ps (spQ K T B0 4 (fun ds=>ds[0]?=some (.lst (rds.map rdD))/\∀ω,(List.Perm ω rds/\ω.Pairwise (fun a b=>a.l<=b.l))->∃d,kX T hT ω ds=some d) (fun ds d=>∃ω,(List.Perm ω rds/\ω.Pairwise (fun a b=>a.l<=b.l))/\kX T hT ω ds=some d))):FnOk P w K mg base CX0 k f fd ps (spP K T 4 false F_so):=
 (FnOk.ex (α:={ rds:List Rd // rds.length<64 }) fun z=>h z.1 z.2).imp fun vs H Q EX⟨hl,c,ds,co,tt,rs,d,ed,q⟩=>by
  have so:=qaw ed;obtain⟨rds,kvs,ns,st,si,rfl,wk,hz,h64,out,pp,rfl⟩:=id so;have key:∀ω,(List.Perm ω rds/\ω.Pairwise (fun a b=>a.l<=b.l))->kX T hT ω [.lst (rds.map rdD),.dic kvs,.str st,.int si]=some (.lst (out.map prI)):=fun ω ok=>by
   obtain⟨out',p',e'⟩:=Yw T hT (st:=st) (si:=si) wk h64 pp.hst pp.hds pp.n5 ok.1 ok.2;rw[e',jE (P:=Least (spF kvs) rds st si) p'.pw pp.pw fun o=>(p'.iff o.1 o.2).trans (pp.iff o.1 o.2).symm]
  refine⟨⟨rds,h64⟩,hl,c,_,[],co,rfl,tt,(fun a ha=>absurd ha ax),rs,⟨rfl,fun ω ok=>⟨_,key ω ok⟩⟩,fun d' v H' c'⟨ω,ok,rl⟩ F co' _ t' _ r=>q v H' c' F co' t' ?_⟩;rw[key ω ok]at rl;cases rl;rw[aG (by decide)];exact r
noncomputable def F_lb(ds:List D):Option D:=match(ds[5]?:Option D)with
 |some (.lst l)=>if l.length<=60 then F_ba ds else none
 |_=>none
theorem Vq{k:Nat}(hT:HTb T)(h:FnOk P w K mg base CX0 k f fd ps ZZ):FnOk P w K mg base CX0 k f fd ps (spP K T 6 false F_lb):=by
 refine h.imp fun vs H Q EX q=>?_
 obtain⟨hl,c,ds,co,tt,rs,d,ed,q⟩:=q;have ed2:F_ba ds=some d/\∀l,ds[5]?=some (.lst l)->l.length<=60:=by
  unfold F_lb at ed
  split at ed
  ·rename_i l e
   split at ed
   ·rename_i hl
    exact⟨ed,fun l' e'=>by rw[e]at e';cases e';exact hl⟩
   ·cases ed
  ·cases ed
 obtain⟨b,no,rfl⟩:=qax ed2.1;obtain⟨rds,kvs,st,go,si,out,rfl,wk,hz,h100,bs⟩:=no;have h60:out.length<=60:=by have:=ed2.2 _ rfl;rwa [ab]at this
 obtain⟨x0,t,rfl,r0,rs⟩:=rs.uncons;obtain⟨x1,t,rfl,r1,rs⟩:=rs.uncons;obtain⟨x2,t,rfl,r2,rs⟩:=rs.uncons;obtain⟨x3,t,rfl,r3,rs⟩:=rs.uncons;obtain⟨x4,t,rfl,r4,rs⟩:=rs.uncons;obtain⟨x5,t,rfl,r5,rs⟩:=rs.uncons;cases rs.unnil;have hs:Same c.h H:=co.trans Hn.same;obtain⟨a0,xs0,rfl,e0,l0,rr0⟩:=r0.lst';obtain⟨a1,ys1,rfl,e1,l1,nd1,rr1⟩:=r1.dic';obtain rfl:=zV r2;obtain rfl:=zV r3;obtain rfl:=zW r4;obtain⟨a5,xs5,rfl,e5,l5,rr5⟩:=r5.lst';have es:=ZY l1 rr1 hz;have hv:∀r∈rds,valV ys1 (Sum.inr r.b:Key)=some (.int (spn ys1 r.b)):=fun r hr=>by
  rcases jZ l1 rr1 hz (Sum.inr r.b)with⟨_,e2⟩|⟨z,e1,e2⟩
  ·rw[wk.sps r hr]at e2;cases e2
  ·rw[wk.sps r hr]at e2;cases e2;rw[es];exact e1
 obtain⟨qs,PO⟩:=KC hs e5 ⟨l5,rr5⟩;refine⟨a0,a1,a5,xs0,ys1,rds,st,go,si,out,qs,rfl,hs _ _ e0,hs _ _ e1,Kq hs ⟨l0,rr0⟩ hv,PO,h60,fun b' H' s hb=>?_⟩;rw[es]at hb;have sT:SaT 0 H H':=SaT.of s;obtain⟨fr,co'⟩:=x9 (H':=H') co (Z3 sT) (fun a e=>sT.free e);have eb:b'=b:=by
  have:=hb.trans bs.symm;cases b <;> cases b' <;> simp_all
 subst eb;exact q (.bl b') H' (grow c H H') fr co' (hT H H' tt fun a u e _ _ _=>s a u e) (by rw[aG (by decide)];exact .bl _)
theorem ud{z:Str}{n:Nat}(hz:z.cps.toList.length=n)(hn:n<=1000){i:Int}(h0:0<=i)(h1:i<n):∃c:Nat,ixD (.str z) (.int i)=some (.str ⟨#[c]⟩)/\z.cps.toList[i.toNat]?=some c:=by
 obtain⟨v,hv,hv2⟩:=qcq (xs:=z.cps.toList) h0 (by omega);have hl:z.length<=1000000:=by show z.cps.size<=_;rw[<- bx,hz];omega
 exact⟨v,by show(if z.length<=1000000 then _ else _)=_;rw[aF hl,hv];rfl,hv2⟩
section
variable(T:Hp->Prop)(hT:HTb T)
theorem Vg{n:Nat}(hd:Drawn vs n)(h16:10<=n)(many:Nat)(hm:many<=5):∃ns:fP,kW T hT [.lst (isD vs),.int many]=some (.lst (ns.map .str))/\ns.length=many/\ns.Nodup:=by
 unfold kW yW;have x0:=dri hd (i:=0) (by decide) (by omega);have x1:=dri hd (i:=1) (by decide) (by omega);have b0:=gv_b hd 0;generalize gv vs 0=v0 at x0 b0
 generalize gv vs 1=v1 at x1
 obtain⟨m,hmm,em⟩:=YU [1,3,5,7,9,11] (jL (x:=v0) (j:=6) (by decide)).1 (jL (x:=v0) (j:=6) (by decide)).2;have hz:okZ m:=by simpa[okZ] using hmm
 let S (ns:fP) (k o r:Option D):SS (W0 T hT):=⟨[some (.lst (isD vs)),some (.int many),some (.str abc),some (.lst (ns.map .str)),k,o,r],()⟩;obtain⟨g',e,ns,k,o,r,hl,mk,rfl⟩:=yD (T:=T) (hT:=hT) (B:=B0) (hB:=hB0) (p:=ze 4) (h:=(sSeq (sSet 5 (e2 ixD (eVar 2) (e2 modI (e2 addD (e2 mulI (eVar 4) (e2 ixD (eLst (qf (eC (.int 1)) (qf (eC (.int 3)) (qf (eC (.int 5)) (qf (eC (.int 7)) (qf (eC (.int 9)) (qf (eC (.int 11)) aNil))))))) (e2 modI (e2 ixD (eVar 0) (eC (.int 0))) (eC (.int 6))))) (e2 ixD (eVar 0) (eC (.int 1)))) (eC (.int 26)))))
 (sSeq (sSet 6 (VO (eC (.str "")) (j6 1 [0,2] (z9 (qf (e2 modI (e2 ixD (eVar 0) (e2 addD (eC (.int 4)) (eVar 4))) (eC (.int 12))) aNil)) (ze 0) qAll (e2 ixD (e2 addD (eVar 2) (eC (.str "0123456789"))) (e2 modI (e2 addD (e2 ixD (eVar 1) (eC (.int 2))) (e2 mulI (eVar 0) (e2 ixD (eVar 1) (eC (.int 3))))) (eC (.int 36)))))))
 (sApp 3 (e2 ixD (eLst (qf (e2 addD (eVar 5) (eVar 6)) (qf (e2 addD (eVar 6) (eVar 5)) aNil))) (e2 modI (e2 wb (e2 ixD (eVar 0) (eC (.int 0))) (eC (.int 6))) (eC (.int 2))))))))
  (I:=fun dn g=>∃ns k o r,ns.length=dn.length/\(∀(t:Nat) x,ns[t]?=some x->mark (v0 / 6 % 2) x=abc.cps.toList[((((0:Int)+(t:Int)) * m+v1) % 26).toNat]?)/\g=S ns k o r) (ds:=rngD 0 many) (g:=S [] none none none) ⟨[],none,none,none,rfl,(fun t x h=>by simp at h),rfl⟩ (by
   rintro dn d g ⟨rr,hr⟩ ⟨ns,k,o,r,hl,mk,rfl⟩;obtain⟨rfl,hlt⟩:=yc hr;generalize hjd:dn.length=j at hlt hl
   have hj1:-(2 ^ 64)<(j:Int):=by omega
   have hj2:(j:Int)<2 ^ 64:=by omega
   have x2:=dri hd (i:=2) (by decide) (by omega);have x3:=dri hd (i:=3) (by decide) (by omega);have x4:=dri hd (i:=4+(j:Int)) (by omega) (by omega);have b2:=gv_b hd 2;have b3:=gv_b hd 3;generalize gv vs 2=v2 at x2 b2
   generalize gv vs 3=v3 at x3 b3
   obtain⟨cc,ec,hcc⟩:=ud Xr (by decide) (i:=((j:Int) * m+v1) % 26) (jL (by decide)).1 (jL (by decide)).2;have s1:(e2 ixD (eVar 2) (e2 modI (e2 addD (e2 mulI (eVar 4) (e2 ixD (eLst (qf (eC (.int 1)) (qf (eC (.int 3)) (qf (eC (.int 5)) (qf (eC (.int 7)) (qf (eC (.int 9)) (qf (eC (.int 11)) aNil))))))) (e2 modI (e2 ixD (eVar 0) (eC (.int 0))) (eC (.int 6))))) (e2 ixD (eVar 0) (eC (.int 1)))) (eC (.int 26)))) (S ns (some (.int j)) o r)=.ok (.str ⟨#[cc]⟩) ():=
    qj (qa rfl) (qj (qj (qj (qa rfl) (qj (jM (qd c_ok (qd c_ok (qd c_ok (qd c_ok (qd c_ok (qd c_ok zd)))))) (by decide)) (qj (qj (qa rfl) c_ok x0) c_ok (jo (by decide))) em) (xT hj1 hj2)) (qj (qa rfl) c_ok x1) ju) c_ok (jo (by decide))) ec
   obtain⟨q,hq⟩:∃q:Nat,(gv vs (4+(j:Int))) % 12=(q:Int)/\q<12:=⟨((gv vs (4+(j:Int))) % 12).toNat,by have:=jL (x:=gv vs (4+(j:Int))) (j:=12) (by decide);omega,by have:=jL (x:=gv vs (4+(j:Int))) (j:=12) (by decide);omega⟩;obtain⟨ys,e2c,ly,py⟩:=WD (T:=T) (hT:=hT) (B:=B0) (hB:=hB0) (p:=ze 0) (t:=qAll) (f:=(e2 ixD (e2 addD (eVar 2) (eC (.str "0123456789"))) (e2 modI (e2 addD (e2 ixD (eVar 1) (eC (.int 2))) (e2 mulI (eVar 0) (e2 ixD (eVar 1) (eC (.int 3))))) (eC (.int 36))))) (n:=1) (ix:=[0,2]) (fi:=(z9 (qf (e2 modI (e2 ixD (eVar 0) (e2 addD (eC (.int 4)) (eVar 4))) (eC (.int 12))) aNil))) (ds:=rngD 0 q) (g:=S ns (some (.int j)) (some (.str ⟨#[cc]⟩)) r)
    (I:=fun g=>∃z,g=⟨[z,some (.lst (isD vs)),some (.str abc)],()⟩) (Pd:=fun _ y=>∃c:Nat,y=.str ⟨#[c]⟩)
    (wC (QS (qd (qj (qj (qa rfl) (qj c_ok (qa rfl) ju) x4) c_ok (jo (by decide))) zd) (by rw[hq.1])) (by have:=hq.2;omega)) ⟨none,rfl⟩ (by
     rintro d hd' g ⟨z,rfl⟩;obtain⟨i,hi,rfl⟩:=YB hd';have hi2:=hq.2;have m1:mulI (.int (0+(i:Int))) (.int v3)=some (.int ((0+(i:Int)) * v3)):=xT (by omega) (by omega);obtain⟨c2,ec2⟩:=qbj WJ (by decide) (i:=(v2+(0+(i:Int)) * v3) % 36) (jL (by decide)).1 (jL (by decide)).2;refine⟨⟨[some (.int (0+(i:Int))),some (.lst (isD vs)),some (.str abc)],()⟩,rfl,⟨_,rfl⟩,.inl ⟨rfl,.str ⟨#[c2]⟩,?_,c2,rfl⟩⟩;exact qj (qj (qa rfl) c_ok (uJ qc0)) (qj (qj (qj (qa rfl) c_ok x2) (qj (qa rfl) (qj (qa rfl) c_ok x3) m1) ju) c_ok (jo (by decide))) ec2) (by rw[ve];unfold big;omega)
   obtain⟨ts,et,lt,qt⟩:=xC (ys:=ys) fun y hy=>by obtain⟨_,_,h⟩:=py y hy;exact h
   rw[ve]at ly;have jk:=ub qt (by omega);have ej:uc (.str "") (.lst ys)=some (.str (PySem.Txt.join ("":Str) ts)):=by
    show(wq ys).bind _=_;rw[et];show(if JoinOk ("":Str) ts=true then _ else _)=_;rw[aF jk]
   have lj:(Txt.join ("":Str) ts).length<=20:=by rw[Wi qt];omega
   generalize (Txt.join ("":Str) ts)=rest at ej lj
   have l1:(⟨#[cc]⟩:Str).length=1:=rfl;obtain⟨nm,eu,hmk⟩:∃nm:Str,ixD (.lst [.str (⟨#[cc]⟩++rest),.str (rest++⟨#[cc]⟩)]) (.int (v0 / 6 % 2))=some (.str nm)/\mark (v0 / 6 % 2) nm=some cc:=by
    have h2:=jL (x:=v0 / 6) (j:=2) (by decide);generalize v0 / 6 % 2=f at h2
    have:f=0\/f=1:=by omega
    rcases this with rfl|rfl
    ·exact⟨_,rfl,qcy⟩
    ·exact⟨_,rfl,qcx⟩
   refine⟨S ns (some (.int j)) o r,S (ns++[nm]) (some (.int j)) (some (.str ⟨#[cc]⟩)) (some (.str rest)),rfl,?_,_,_,_,_,by simp[hl,hjd],?_,rfl⟩
   rotate_left
   ·intro t x ht
    by_cases hlt2:t<ns.length
    ·rw[aW hlt2]at ht
     exact mk t x ht
    ·have et:t=ns.length:=by
      have:t<(ns++[nm]).length:=(ai.mp ht).1;simp at this;omega
     subst et;have ex:nm=x:=by simpa using ht
     rw[<- ex,hmk,hl,Int.zero_add];exact hcc.symm
   refine(qv (qV s1)).trans ?_;refine(qv (qV (Wj c_ok e2c ej))).trans ?_;refine(vb (ds:=ns.map .str) (y:=.str nm) rfl (qj (jM (qd (qj (qa rfl) (qa rfl) (uJ (by omega))) (qd (qj (qa rfl) (qa rfl) (uJ (by omega))) zd)) (by simp)) (qj (qj (qj (qa rfl) c_ok x0) c_ok (VM (by decide) (by decide))) c_ok (jo (by decide))) eu) (by simp;unfold big;omega)).trans ?_;have en:ns.map D.str++[.str nm]=(ns++[nm]).map .str:=by simp
   rw[en];rfl)
 refine⟨ns,zH ?_,by rw[hl,ve],X9 hz (by rw[hl,ve];exact hm) mk⟩;refine(qv (qV c_ok)).trans ?_;refine(qv (qV (d:=.lst []) (jM zd (by decide)))).trans ?_;refine(qv (wa (wC (qd (qa rfl) zd) (by omega)) e)).trans ?_;exact z6 (qa rfl)
end
section
variable{T:Hp->Prop}{hT:HTb T}{B:Hp->Co->fL->Prop}{hB:HBb B}
theorem kS{α β:Type}{fa:SS (W1 T hT B hB)->R (W1 T hT B hB) α}{k:α->SS (W1 T hT B hB)->R (W1 T hT B hB) β}{g:SS (W1 T hT B hB)}{x:α}(a:fa g=.ok x ()):qF fa k g=k x g:=by
 unfold qF;rw[a];rfl
theorem JJ{fa fu:SS (W1 T hT B hB)->R (W1 T hT B hB) D}{g:SS (W1 T hT B hB)}{ds:List D}{k:Int}(a:fa g=.ok (.lst ds) ())(u:fu g=.ok (.int k) ())(h0:0<=k):vM fa Zu (xR fu) g=.ok (.lst (ds.take k.toNat)) ():=by
 obtain⟨n,rfl⟩:=bI h0;have h:xR fu g=.ok (some (n:Int)) ():=by
  unfold xR;rw[kS u];rfl
 unfold vM;rw[kS a,kS (x:=none) rfl,kS h];show(R.ok (D.lst (cutD ds none (some (n:Int)))) ():R (W1 T hT B hB) D)=_;unfold cutD;rw[HT.sIx_none,HT.sIx_nat,f6,Nat.sub_zero,cB];congr 2
 by_cases h:n<=ds.length
 ·rw[Nat.min_eq_left h]
 ·rw[Nat.min_eq_right (by omega),cn,List.take_of_length_le (by omega)]
end
theorem Wk.sub{kvs:List (Key×D)}(h:∀r∈rds',r∈rds)(G:Wk sp kvs rds):Wk sp kvs rds':=⟨⟨fun d hd=>G.lc d (h d hd),fun d hd=>G.s0 d (h d hd)⟩,fun d hd=>G.sps d (h d hd)⟩
section
variable(T:Hp->Prop)(hT:HTb T)
end
theorem JK{hT:HTb T}{B:Hp->Co->fL->Prop}{hB:HBb B}{fa fu:SS (W1 T hT B hB)->R (W1 T hT B hB) D}{g:SS (W1 T hT B hB)}{ds:List D}{k:Int}(a:fa g=.ok (.lst ds) ())(u:fu g=.ok (.int k) ())(h0:0<=k):vM fa (xR fu) Zu g=.ok (.lst (ds.drop k.toNat)) ():=by
 obtain⟨n,rfl⟩:=bI h0;have h:xR fu g=.ok (some (n:Int)) ():=by
  unfold xR;rw[kS u];rfl
 unfold vM;rw[kS a,kS h,kS (x:=none) rfl];show(R.ok (D.lst (cutD ds (some (n:Int)) none)) ():R (W1 T hT B hB) D)=_;unfold cutD;rw[HT.sIx_none,HT.sIx_nat,cB];congr 2
 by_cases h:n<=ds.length
 ·rw[Nat.min_eq_left h,List.take_of_length_le (by rw[cO];omega)]
 ·rw[Nat.min_eq_right (by omega),fg,List.drop_of_length_le (by omega)]
  simp
structure Gd2(ns:fP)(rds:List Rd):Prop where
 ra:∀r∈rds,r.a∈ns/\r.b∈ns/\r.l<r.c
 nb:∀r∈rds,0<=r.n/\r.n<40
 nn:(rds.map (·.n)).Nodup
 ln:rds.length<=40
theorem Gd2.sub(G:Gd2 ns rds)(s:rds'.Sublist rds):Gd2 ns rds':=⟨fun r hr=>G.ra r (s.subset hr),fun r hr=>G.nb r (s.subset hr),(s.map _).nodup G.nn,bj s.length_le G.ln⟩
theorem Gd2.rev(G:Gd2 ns rds):Gd2 ns rds.reverse:=⟨fun r hr=>G.ra r (List.mem_reverse.mp hr),fun r hr=>G.nb r (List.mem_reverse.mp hr),by rw[List.map_reverse];exact(List.reverse_perm _).nodup_iff.mpr G.nn,by rw[List.length_reverse];exact G.ln⟩
theorem qa2(h:rds.map (·.n)=(List.range rds.length).map fun i:Nat=>(i:Int)):(rds.map (·.n)).Nodup:=by
 rw[h];refine aJ.mpr (bg.mpr ?_);exact(aJ.mp List.nodup_range).imp fun hne z=>hne (by omega)
theorem qa3(h:rds.map (·.n)=(List.range rds.length).map fun i:Nat=>(i:Int)){r:Rd}(hr:r∈rds):0<=r.n/\r.n<rds.length:=by
 have:r.n∈rds.map (·.n):=aC.mpr ⟨r,hr,rfl⟩;rw[h]at this;obtain⟨i,hi,e⟩:=aC.mp this;have:=b9.mp hi;omega
theorem X7(h:rds.map (·.n)=(List.range rds.length).map fun i:Nat=>(i:Int)){r:Rd}(e:r.n=rds.length):(rds++[r]).map (·.n)=(List.range (rds++[r]).length).map fun i:Nat=>(i:Int):=by
 rw[aN,aK,h];show _++[r.n]=(List.range (rds.length+1)).map _;rw[List.range_succ,aN,e];rfl
section
variable(T:Hp->Prop)(hT:HTb T)
theorem Vt(ins:fR):∃(ns:fP)(kvs:List (Key×D))(rds:List Rd)(st go:Str)(si:Int),vQ T hT [.scr (isD ins)]=some (.tup [.lst (ns.map .str),.dic kvs,.lst (rds.map rdD),.str st,.str go,.int si])/\Made ns kvs rds/\Gd2 ns rds/\st∈ns/\go∈ns:=by
 obtain⟨vs,ed,hd⟩:=yI T hT ins 0 (by decide) (by decide) (m:=20) 20 rfl (by decide);have x0:=dri hd (i:=0) (by decide) (by decide);have x1:=dri hd (i:=1) (by decide) (by decide);have x2:=dri hd (i:=2) (by decide) (by decide);have x16:=dri hd (i:=16) (by decide) (by decide);have x17:=dri hd (i:=17) (by decide) (by decide);have x18:=dri hd (i:=18) (by decide) (by decide);have x19:=dri hd (i:=19) (by decide) (by decide);obtain⟨ns,en,ln,nn⟩:=Vg T hT hd (by decide) 3 (by decide);have en:kW T hT [.lst (isD vs),.int 3]=some (.lst (ns.map .str)):=en
 match ns,ln,nn,en with
 |[n0,n1,n2],_,nn,en=>
 have i0:ixD (.lst ([n0,n1,n2].map .str)) (.int 0)=some (.str n0):=rfl;generalize gv vs 0=v0 at x0
 generalize gv vs 1=v1 at x1
 generalize gv vs 2=v2 at x2
 generalize gv vs 16=v16 at x16
 generalize gv vs 17=v17 at x17
 generalize gv vs 18=v18 at x18
 generalize gv vs 19=v19 at x19
 obtain⟨base,eb⟩:∃base:Int,ixD (.lst [.int 0,.int (0 - 10 ^ 40),.int (10 ^ 20),.int v16]) (.int (v17 % 4))=some (.int base):=by
  obtain⟨m,_,e⟩:=YU [0,0 - 10 ^ 40,10 ^ 20,v16] (i:=v17 % 4) (jL (by decide)).1 (jL (by decide)).2;exact⟨m,e⟩
 let kvs:List (Key×D):=[(.inr n0,.int (v0 % 3)),(.inr n1,.int (v1 % 3)),(.inr n2,.int (v2 % 3))];have b0:=jL (x:=v0) (j:=3) (by decide);have b1:=jL (x:=v1) (j:=3) (by decide);have b2:=jL (x:=v2) (j:=3) (by decide);have nn2:n0≠n1/\n0≠n2/\n1≠n2:=by simp at nn;exact⟨nn.1.1,nn.1.2,nn.2⟩
 have hk:∀p∈kvs,∃z:Int,p.2=.int z/\0<=z:=fun p hp=>by
  rcases aj.mp hp with rfl|hp
  ·exact⟨_,rfl,b0.1⟩
  ·rcases aj.mp hp with rfl|hp
   ·exact⟨_,rfl,b1.1⟩
   ·rw[au.mp hp];exact⟨_,rfl,b2.1⟩
 have sk:SpOk kvs:=⟨fun x d h=>by
  unfold qJ at h;cases e:kvs.find? (fun p=>decide (p.1=.inr x))with
  |none=>rw[e]at h;cases h
  |some p=>rw[e]at h;cases h;exact hk p (List.mem_of_find?_eq_some e),fun q hq=>by obtain⟨z,e,_⟩:=hk q hq;exact⟨z,e⟩⟩
 have cov:∀x∈[n0,n1,n2],(qJ kvs (.inr x)).isSome=true:=fun x hx=>by
  show(qJ [(Sum.inr n0,D.int (v0 % 3)),(Sum.inr n1,D.int (v1 % 3)),(Sum.inr n2,D.int (v2 % 3))] (Sum.inr x:Key)).isSome=true;rw[xV,xV,xV,Wb];simp at hx;rcases hx with rfl|rfl|rfl
  ·simp
  ·by_cases h:n0=x <;> simp[h]
  ·by_cases h:n0=x <;> by_cases h2:n1=x <;> simp[h,h2]
 have b18:=jL (x:=v18) (j:=9) (by decide);obtain⟨L,hL⟩:∃L:Nat,12+v18 % 9=(L:Int):=⟨(12+v18 % 9).toNat,by omega⟩;have hL20:L<=20:=by omega
 have hL12:12<=L:=by omega
 have ec:(j6 1 [1,2] (z9 (qf (eC (.int 3)) aNil)) (ze 0) qAll (eTup (qf (e2 ixD (eVar 2) (eVar 0)) (qf (e2 modI (e2 ixD (eVar 1) (eVar 0)) (eC (.int 3))) aNil)))) (⟨[some (.scr (isD ins)),some (.lst (isD vs)),some (.lst ([n0,n1,n2].map .str)),some (.int base),none,none,none,none,none,none,none,none],()⟩:SS (W0 T hT))=.ok (.lst [.tup [.str n0,.int (v0 % 3)],.tup [.str n1,.int (v1 % 3)],.tup [.str n2,.int (v2 % 3)]]) ():=by
  refine aE (kR (T:=T) (hT:=hT) (B:=B0) (hB:=hB0) (α:=Int×Str×Int) (emb:=fun q=>.int q.1) (xs:=[(0,n0,v0),(1,n1,v1),(2,n2,v2)]) (I:=fun g=>∃z,g=⟨[z,some (.lst (isD vs)),some (.lst ([n0,n1,n2].map .str))],()⟩) (sel:=fun _=>true) (out:=fun q=>.tup [.str q.2.1,.int (q.2.2 % 3)]) (wC (n:=3) (qd c_ok zd) (by decide)) ⟨none,rfl⟩ (by
   rintro q hq g ⟨z,rfl⟩;have key:ixD (.lst ([n0,n1,n2].map .str)) (.int q.1)=some (.str q.2.1)/\ixD (.lst (isD vs)) (.int q.1)=some (.int q.2.2):=by
    simp only[aj,ax,cK]at hq;rcases hq with rfl|rfl|rfl
    ·exact⟨rfl,x0⟩
    ·exact⟨rfl,x1⟩
    ·exact⟨rfl,x2⟩
   exact⟨⟨[some (.int q.1),some (.lst (isD vs)),some (.lst ([n0,n1,n2].map .str))],()⟩,rfl,⟨_,rfl⟩,rfl,fun _=>kA (qd (qj (qa rfl) (qa rfl) key.1) (qd (qj (qj (qa rfl) (qa rfl) key.2) c_ok (jo (by decide))) zd)) (by simp)⟩) (by show 3<=big;decide)) rfl
 have edp:VY (.lst [.tup [.str n0,.int (v0 % 3)],.tup [.str n1,.int (v1 % 3)],.tup [.str n2,.int (v2 % 3)]])=some (.dic kvs):=by
  show(if(kvs.map (·.1)).Nodup then some (D.dic kvs)else none)=_;rw[aF];show[(Sum.inr n0:Key),Sum.inr n1,Sum.inr n2].Nodup;simp[nn2.1,nn2.2.1,nn2.2.2]
 let R (rds:List Rd) (k j gn e l:Option D):SS (W0 T hT):=⟨[some (.scr (isD ins)),some (.lst (isD vs)),some (.lst ([n0,n1,n2].map .str)),some (.int base),some (.dic kvs),some (.lst (rds.map rdD)),some (.int L),k,j,gn,e,l],()⟩;obtain⟨g1,ef,rds,k1,j1,e1',l1,lr,nm,ra,rfl⟩:=yD (T:=T) (hT:=hT) (B:=B0) (hB:=hB0) (p:=ze 7) (h:=sFor (z9 (qf (eC (.int 2)) aNil)) (ze 8) (lad1 T hT))
  (I:=fun dn g=>∃rds k j e l,rds.length=2 * dn.length/\rds.map (·.n)=((List.range rds.length).map fun i:Nat=>(i:Int))/\(∀r∈rds,r.a∈[n0,n1,n2]/\r.b∈[n0,n1,n2]/\r.l<r.c)/\g=R rds k j none e l) (ds:=rngD 0 L) (g:=R [] none none none none none) ⟨[],none,none,none,none,rfl,rfl,(fun r hr=>nomatch hr),rfl⟩ (by
   rintro dn d g ⟨rr,hr⟩ ⟨rds,k,j,e,l,lr,nm,ra,rfl⟩;obtain⟨rfl,hlt⟩:=yc hr;have hlen:(dn++[D.int dn.length]).length=dn.length+1:=by simp
   rw[hlen];generalize dn.length=q at hlt lr
   obtain⟨us,eu,hu⟩:=yI T hT ins (1+(q:Int)) (by omega) (by omega) (m:=8) 8 rfl (by decide);obtain⟨g2,e2',rds2,j2,e3,l3,lr2,nm2,ra2,rfl⟩:=yD (T:=T) (hT:=hT) (B:=B0) (hB:=hB0) (p:=ze 8) (h:=(lad1 T hT))
    (I:=fun dn g=>∃rds j e l,rds.length=2 * q+dn.length/\rds.map (·.n)=((List.range rds.length).map fun i:Nat=>(i:Int))/\(∀r∈rds,r.a∈[n0,n1,n2]/\r.b∈[n0,n1,n2]/\r.l<r.c)/\g=R rds (some (.int q)) j none e l) (ds:=rngD 0 2) (g:=R rds (some (.int q)) j none e l) ⟨rds,j,e,l,lr,nm,ra,rfl⟩ (by
     rintro dm d g ⟨rr,hr⟩ ⟨rds,j,e,l,lr,nm,ra,rfl⟩;obtain⟨rfl,hlt2⟩:=yc hr;have hlen:(dm++[D.int dm.length]).length=dm.length+1:=by simp
     rw[hlen];generalize dm.length=p at hlt2 lr
     have m4:mulI (.int 4) (.int (p:Int))=some (.int (4 * (p:Int))):=xT (by decide) (by decide);have y0:=dri hu (i:=4 * (p:Int)) (by omega) (by omega);have y1:=dri hu (i:=4 * (p:Int)+1) (by omega) (by omega);generalize gv us (4 * (p:Int))=w0 at y0
     generalize gv us (4 * (p:Int)+1)=w1 at y1
     have m10:mulI (.int 10) (.int (q:Int))=some (.int (10 * (q:Int))):=xT (by decide) (by decide);have m2:mulI (.int 2) (.int (q:Int))=some (.int (2 * (q:Int))):=xT (by decide) (by decide);obtain⟨sx,hsx,esx⟩:=YT [n0,n1,n2] (i:=(q:Int) % 3) (jL (by decide)).1 (jL (by decide)).2;obtain⟨gx,hgx,egx⟩:=YT [n0,n1,n2] (i:=((q:Int)+1) % 3) (jL (by decide)).1 (jL (by decide)).2;have p6:=jL (x:=w1) (j:=6) (by decide);generalize hlv:base+10 * (q:Int)+w0 % 3=lv
     refine⟨R rds (some (.int q)) (some (.int p)) none e l,R (rds++[(⟨2 * (q:Int)+(p:Int),sx,gx,lv,lv+1+w1 % 6⟩:Rd)]) (some (.int q)) (some (.int p)) none (some (.lst (isD us))) (some (.int lv)),rfl,?_,_,_,_,_,by simp[lr];omega,X7 nm (by show 2 * (q:Int)+(p:Int)=_;omega),fun r hr=>?_,rfl⟩
     ·unfold lad1
      refine aE (qv (g':=R rds (some (.int q)) (some (.int p)) none (some (.lst (isD us))) l) (qV (zt (qd (qa rfl) (qd (qj c_ok (qa rfl) ju) (qd c_ok zd))) rfl eu))) ?_;refine aE (qv (g':=R rds (some (.int q)) (some (.int p)) none (some (.lst (isD us))) (some (.int lv))) (qV (d:=.int lv) (QS (qj (qj (qa rfl) (qj c_ok (qa rfl) m10) ju) (qj (qj (qa rfl) (qj c_ok (qa rfl) m4) y0) c_ok (jo (by decide))) ju) (by rw[hlv])))) ?_;refine aE (vb (ds:=rds.map rdD) (y:=rdD ⟨2 * (q:Int)+(p:Int),sx,gx,lv,lv+1+w1 % 6⟩) rfl (kA (qd (qj (qj c_ok (qa rfl) m2) (qa rfl) ju) (qd (qj (qa rfl) (qj (qa rfl) c_ok (jo (by decide))) esx) (qd (qj (qa rfl) (qj (qj (qa rfl) c_ok ju) c_ok (jo (by decide))) egx) (qd (qa rfl) (qd (qj (qj (qa rfl) c_ok ju) (qj (qj (qa rfl) (qj (qj c_ok (qa rfl) m4) c_ok ju) y1) c_ok (jo (by decide))) ju) zd))))) (by simp)) (by simp;unfold big;omega)) ?_;have er:rds.map rdD++[rdD ⟨2 * (q:Int)+(p:Int),sx,gx,lv,lv+1+w1 % 6⟩]=(rds++[(⟨2 * (q:Int)+(p:Int),sx,gx,lv,lv+1+w1 % 6⟩:Rd)]).map rdD:=by simp
      rw[er];rfl
     ·rcases aQ.mp hr with hr|hr
      ·exact ra r hr
      ·rw[au.mp hr];exact⟨hsx,hgx,by show lv<lv+1+w1 % 6;omega⟩)
   rw[ve]at lr2;refine⟨R rds (some (.int q)) j none e l,_,rfl,wa (wC (n:=2) (qd c_ok zd) (by decide)) e2',rds2,_,_,_,_,by omega,nm2,ra2,rfl⟩)
 rw[ve]at lr;have G0:Gd2 [n0,n1,n2] rds:=⟨ra,fun r hr=>by have:=qa3 nm hr;omega,qa2 nm,by omega⟩;have bm:=jL (x:=v16) (j:=(L:Int)) (by omega);obtain⟨rds1,gn,G1,s1⟩:∃rds1 gn,Gd2 [n0,n1,n2] rds1/\sIf (qCmp eqD (M.e2 modI (M.e2 ixD (eVar 1) (eC (.int 19))) (eC (.int 3))) (eC (.int 1))) (sSeq (sSet 9 (M.e2 modI (M.e2 ixD (eVar 1) (eC (.int 16))) (eVar 6))) (sSet 5 (M.e2 addD (vM (eVar 5) Zu (xR (M.e2 mulI (eC (.int 2)) (eVar 9)))) (vM (eVar 5) (xR (M.e2 addD (M.e2 mulI (eC (.int 2)) (eVar 9)) (eC (.int 2)))) Zu)))) sNil (R rds k1 j1 none e1' l1)=.nx (R rds1 k1 j1 gn e1' l1):=by
  have tq:(qCmp eqD (e2 modI (e2 ixD (eVar 1) (eC (.int 19))) (eC (.int 3))) (eC (.int 1))) (R rds k1 j1 none e1' l1)=.ok (v19 % 3 == 1) ():=q_ok (qj (qj (qa rfl) c_ok x19) c_ok (jo (by decide))) c_ok (ZI _ _)
  by_cases h:v19 % 3=1
  ·rw[show(v19 % 3 == 1)=true by simp[h]]at tq
   have m2:mulI (.int 2) (.int (v16 % L))=some (.int (2 * (v16 % L))):=xT (by decide) (by decide);refine⟨rds.take (2 * (v16 % L)).toNat++rds.drop (2 * (v16 % L)+2).toNat,some (.int (v16 % L)),G0.sub ?_,(if_t tq).trans ?_⟩
   ·have h1:(rds.take (2 * (v16 % L)).toNat++rds.drop (2 * (v16 % L)).toNat)=rds:=List.take_append_drop _ _
    conv=>rhs;rw[<- h1]
    refine List.Sublist.append (List.Sublist.refl _) ?_;have:(2 * (v16 % L)+2).toNat=(2 * (v16 % L)).toNat+2:=by omega
    rw[this,<- List.drop_drop];exact List.drop_sublist _ _
   ·refine aE (qv (g':=R rds k1 j1 (some (.int (v16 % L))) e1' l1) (qV (qj (qj (qa rfl) c_ok x16) (qa rfl) (jo (by omega))))) ?_
    refine aE (qV (d:=.lst ((rds.take (2 * (v16 % L)).toNat++rds.drop (2 * (v16 % L)+2).toNat).map rdD)) (QS (qj (JJ (ds:=rds.map rdD) (k:=2 * (v16 % L)) (qa rfl) (qj c_ok (qa rfl) m2) (by omega)) (JK (ds:=rds.map rdD) (k:=2 * (v16 % L)+2) (qa rfl) (qj (qj c_ok (qa rfl) m2) c_ok ju) (by omega)) (add_l ?_)) ?_)) rfl
    ·rw[bF,cO,ab];unfold big;omega
    ·rw[aN,List.map_take,List.map_drop]
  ·rw[show(v19 % 3 == 1)=false by simp[h]]at tq
   exact⟨rds,none,G0,(if_f tq).trans rfl⟩
 obtain⟨rds2,G2,s2⟩:∃rds2,Gd2 [n0,n1,n2] rds2/\sIf (qCmp eqD (M.e2 modI (M.e2 ixD (eVar 1) (eC (.int 19))) (eC (.int 2))) (eC (.int 1))) (sSet 5 (eRev (eVar 5) (M.e1 negI (eC (.int 1))))) sNil (R rds1 k1 j1 gn e1' l1)=.nx (R rds2 k1 j1 gn e1' l1):=by
  have tq:(qCmp eqD (e2 modI (e2 ixD (eVar 1) (eC (.int 19))) (eC (.int 2))) (eC (.int 1))) (R rds1 k1 j1 gn e1' l1)=.ok (v19 % 2 == 1) ():=q_ok (qj (qj (qa rfl) c_ok x19) c_ok (jo (by decide))) c_ok (ZI _ _)
  by_cases h:v19 % 2=1
  ·rw[show(v19 % 2 == 1)=true by simp[h]]at tq
   exact⟨rds1.reverse,G1.rev,(if_t tq).trans (aE (qV (d:=.lst (rds1.reverse.map rdD)) (QS (u_ (ds:=rds1.map rdD) (qa rfl) (zk c_ok rfl) rfl) (by rw[List.map_reverse]))) rfl)⟩
  ·rw[show(v19 % 2 == 1)=false by simp[h]]at tq
   exact⟨rds1,G1,(if_f tq).trans rfl⟩
 obtain⟨go,hgo,ego⟩:=YT [n0,n1,n2] (i:=(L:Int) % 3) (jL (by decide)).1 (jL (by decide)).2;refine⟨[n0,n1,n2],kvs,rds2,n0,go,base - v19 % 4,zH ?_,⟨by simp,by simp,sk,cov,G2.ra,G2.nn⟩,G2,by simp,hgo⟩;unfold wo;refine aE (qv (qV (zt (qd (qa rfl) (qd c_ok (qd c_ok zd))) rfl ed))) ?_;refine aE (qv (qV (zt (qd (qa rfl) (qd c_ok zd)) rfl en))) ?_;refine aE (qv (qV (qj (jM (qd c_ok (qd (qj c_ok (qj c_ok c_ok pw40) uS) (qd (qj c_ok c_ok pw20) (qd (qj (qa rfl) c_ok x16) zd)))) (by simp)) (qj (qj (qa rfl) c_ok x17) c_ok (jo (by decide))) eb))) ?_;refine aE (qv (qV (zk ec edp))) ?_;refine aE (qv (qV (d:=.lst []) (jM zd (by decide)))) ?_;refine aE (qv (qV (d:=.int L) (QS (qj c_ok (qj (qj (qa rfl) c_ok x18) c_ok (jo (by decide))) ju) (by rw[hL])))) ?_;refine aE (qv (wa (wC (n:=L) (qd (qa rfl) zd) (by omega)) ef)) ?_;refine aE (qv s1) ?_;refine aE (qv s2) ?_;exact z6 (kA (qd (qa rfl) (qd (qa rfl) (qd (qa rfl) (qd (qj (qa rfl) c_ok i0) (qd (qj (qa rfl) (qj (qa rfl) c_ok (jo (by decide))) ego) (qd (qj (qa rfl) (qj (qj (qa rfl) c_ok x19) c_ok (jo (by decide))) uS) zd)))))) (by simp))
end
def xw:Nat:=6
section
variable(T:Hp->Prop)(hT:HTb T)
noncomputable def uI:SS (W0 T hT)->Ou (W0 T hT):=
 (sSeq (sAsg (pTup 6 (z8 (ze 7) (z8 (ze 8) (z8 (ze 9) (z8 (ze 10) (z8 (ze 11) (z8 (ze 12) pNil))))))) (zO 1 (vQ T hT) (qf (eVar 0) aNil)))
 (sSeq (sSet 1 (zO 3 (js T hT) (qf (eVar 0) (qf (eC (.int 22)) (qf (eC (.int 40)) aNil)))))
 (sSeq (sSet 2 (zO 3 (js T hT) (qf (eVar 0) (qf (eC (.int 23)) (qf (eC (.int 40)) aNil)))))
 (sSeq (sSet 3 (j6 1 [1] (iSeq (eVar 9)) (ze 0) (qCmp eqD (e2 modI (e2 ixD (eVar 1) (e2 ixD (eVar 0) (eC (.int 0)))) (eC (.int 2))) (eC (.int 1))) (e2 ixD (eVar 0) (eC (.int 0)))))
 (sSeq (sSet 4 (j6 1 [2] (iSeq (eVar 9)) (ze 0) (qCmp eqD (e2 modI (e2 ixD (eVar 1) (e2 ixD (eVar 0) (eC (.int 0)))) (eC (.int 5))) (eC (.int 1))) (e2 ixD (eVar 0) (eC (.int 0)))))
 (sSeq (sSet 5 (zO 7 F_pl (qf (eVar 9) (qf (eVar 8) (qf (eVar 10) (qf (eVar 11) (qf (eVar 12) (qf (eVar 3) (qf (eVar 4) aNil)))))))))
 (sSeq (sIf (qNot (qTru (zO 2 (jW T hT xw) (qf (zO 7 F_lc (qf (e1 Qs (eVar 9)) (qf (e1 Ww (eVar 8)) (qf (eVar 10) (qf (eVar 11) (qf (eVar 12) (qf (e1 Qs (eVar 3)) (qf (e1 Qs (eVar 4)) aNil)))))))) (qf (eVar 5) aNil)))))
 (sRet (eC (.bl false)))
 sNil)
 (sSeq (sIf (qNot (qTru (zO 2 (jW T hT xw) (qf (zO 4 F_so (qf (e1 Qs (eVar 9)) (qf (e1 Ww (eVar 8)) (qf (eVar 10) (qf (eVar 12) aNil))))) (qf (zO 4 F_so (qf (eVar 9) (qf (eVar 8) (qf (eVar 10) (qf (eVar 12) aNil))))) aNil)))))
 (sRet (eC (.bl false)))
 sNil)
 (sSeq (sSet 6 (zO 5 F_nw (qf (e1 Qs (eVar 9)) (qf (e1 Ww (eVar 8)) (qf (eVar 10) (qf (eVar 11) (qf (eVar 12) aNil)))))))
 (sSeq (sIf (qCmp qa4 (eVar 5) (eC .non))
 (sRet (eAnd (e2 isND (eVar 6) (eC .non)) (eNot (zO 6 F_ba (qf (eVar 9) (qf (eVar 8) (qf (eVar 10) (qf (eVar 11) (qf (eVar 12) (qf (eLst (qf (eTup (qf (eVar 10) (qf (eVar 12) aNil))) aNil)) aNil))))))))))
 sNil)
 (sSeq (sIf (qOr (qCmp isND (eVar 6) (eC .non)) (qNot (qTru (zO 6 F_lb (qf (eVar 9) (qf (eVar 8) (qf (eVar 10) (qf (eVar 11) (qf (eVar 12) (qf (eVar 6) aNil))))))))))
 (sRet (eC (.bl false)))
 sNil)
 (sRet (zO 2 (jW T hT xw) (qf (zO 6 F_ba (qf (eVar 9) (qf (eVar 8) (qf (eVar 10) (qf (eVar 11) (qf (eVar 12) (qf (e1 Qs (eVar 6)) aNil))))))) (qf (eC (.bl true)) aNil)))))))))))))))
noncomputable def qca:List D->Option D:=jr 13 (uI T hT)
end
section
variable{P:Program}{w:World}{K:fH}{mg:fK}{base:Heap}{qh q_ qi qu qg qr qB qK zA qw qI qZ qL za zb qP qC qS je:Addr}{qU jw q9 zy qH zn zD z_ ki zr zN ja jb jz jA jy zP jx xi:FuncData}{T:Hp->Prop}{hT:HTb T}
variable{fp0:Fp}{ob0:Nat->fN}{tb:Nat->Option D}
theorem sc_law:FnScope fY ["_law_script"] (qp Yz):=⟨rfl,rfl,rfl,by decide +kernel,rfl,by decide +kernel,by decide +kernel⟩
theorem qav(Tx:Txt K mg qh q_ qi qu qg qr qB qK zA qw qI qZ qL za zb qP qC qS je)(Fu:Fun K "law" "law" Yz je xi)(GLladder:FnOk P w K mg base CX0 2 qC zP ["_law_script"] (spP K T 1 false (vQ T hT)))(BLladder:Binds K zP ["_law_script"] [])(GLdraws:FnOk P w K mg base CX0 1 qI zN g7 (spP K T 3 true (js T hT)))(BLdraws:Binds K zN g7 [])(GLplan:FnOk P w K mg base CX0 2 qP jy fT (spP K T 7 false F_pl))(BLplan:Binds K jy fT [])(GLsame:FnOk P w K mg base CX0 6 qZ ja gE (spP K T 2 false (jW T hT xw)))(BLsame:Binds K ja gE [])(Gleast_change:FnOk P w K mg base CX0 4 qi q9 fX (spP K T 7 true F_lc))(Bleast_change:Binds K q9 fX [])(GLsoon:FnOk P w K mg base CX0 1 qS jx f' (spP K T 4 false F_so))(BLsoon:Binds K jx f' [])(Gsoonest:FnOk P w K mg base CX0 2 qB zD gC (spP K T 4 false F_so))(Bsoonest:Binds K zD gC [])(Gno_way:FnOk P w K mg base CX0 3 qK z_ gH (spP K T 5 false F_nw))(Bno_way:Binds K z_ gH [])(Gbars:FnOk P w K mg base CX0 2 zA ki g9 (spP K T 6 false F_ba))(Bbars:Binds K ki g9 [])(GLbars:FnOk P w K mg base CX0 1 zb jA fV (spP K T 6 false F_lb))(BLbars:Binds K jA fV []):FnOk P w K mg base CX0 9 je xi ["_law_script"] (spP K T 1 false (qca T hT)):=by
 have z:=yE (P:=P) (w:=w) (K:=K) (mg:=mg) (base:=base) (k:=8) (n:=1) (N:=fY) (ps:=["_law_script"]) (fr:=false) (body:=(uI T hT)) (O':=[]) Fu sc_law rfl (fun cdv A outer s H EX E hr=>
  (qo (VW (vI (qO qm (qO qm (qO qm (qO qm (qO qm (qO qm kM))))))) (zT (hr.mono (by decide)) rfl Tx.m_Lladder Tx.k_Lladder BLladder (G:=GLladder) (ha:=(qc (m:=true) (qb (pv 0) (by decide)) (qE (m:=true))))) (QR rfl (zo qm (qX (qx (i:=7) sc_law.nd rfl (by trivial))) (zo qm (qX (qx (i:=8) sc_law.nd rfl (by trivial))) (zo qm (qX (qx (i:=9) sc_law.nd rfl (by trivial))) (zo qm (qX (qx (i:=10) sc_law.nd rfl (by trivial))) (zo qm (qX (qx (i:=11) sc_law.nd rfl (by trivial))) (zo qm (qX (qx (i:=12) sc_law.nd rfl (by trivial))) wf))))))))
  (qo (zF (i:=1) sc_law.nd rfl (by trivial) (DO.de (vZ (hr.mono (by decide)) rfl Tx.m_Ldraws Tx.k_Ldraws BLdraws (G:=GLdraws) (ha:=(qc (m:=true) (qb (pv 0) (by decide)) (qc (m:=true) (de_c qe rfl) (qc (m:=true) (de_c qe rfl) (qE (m:=true)))))))))
  (qo (zF (i:=2) sc_law.nd rfl (by trivial) (DO.de (vZ (hr.mono (by decide)) rfl Tx.m_Ldraws Tx.k_Ldraws BLdraws (G:=GLdraws) (ha:=(qc (m:=true) (qb (pv 0) (by decide)) (qc (m:=true) (de_c qe rfl) (qc (m:=true) (de_c qe rfl) (qE (m:=true)))))))))
  (qo (DS.weak (O:=[]) (O1:=[]) (O2:=[]) (xz (i:=3) sc_law.nd rfl (by trivial) (T:=["_law_ride"]) (caps:=["_law_d"]) (ix:=[1]) (O1:=[]) (kn rfl (by rfl) (by decide +kernel) (by decide +kernel) rfl (by contradiction) (by rfl) (by contradiction)) rfl (by decide) qm (DI.toC (Jv (qb (pv 9) (by decide)))) (fun _ _ _ _ _=>(qX (qx (i:=0) (by show(["_law_ride","_law_d"]:fP).Nodup;decide +kernel) rfl (by trivial)))) (by decide) (by decide) (fun _ _ _ _ _=>(wd (zE (jI (huR hr)) o_eq (zh zB jd (qM (huR hr) (qb (pv 1) (by decide)) (qM (huR hr) (qb (pv 0) (by decide)) (de_c qe rfl))) (de_c qe rfl)) (de_c qe rfl) (qR _)))) (fun _ _ _ _ _=>(qM (huR hr) (qb (pv 0) (by decide)) (de_c qe rfl)))) (by decide) (by decide))
  (qo (DS.weak (O:=[]) (O1:=[]) (O2:=[]) (xz (i:=4) sc_law.nd rfl (by trivial) (T:=["_law_ride"]) (caps:=["_law_e"]) (ix:=[2]) (O1:=[]) (kn rfl (by rfl) (by decide +kernel) (by decide +kernel) rfl (by contradiction) (by rfl) (by contradiction)) rfl (by decide) qm (DI.toC (Jv (qb (pv 9) (by decide)))) (fun _ _ _ _ _=>(qX (qx (i:=0) (by show(["_law_ride","_law_e"]:fP).Nodup;decide +kernel) rfl (by trivial)))) (by decide) (by decide) (fun _ _ _ _ _=>(wd (zE (jI (huR hr)) o_eq (zh zB jd (qM (huR hr) (qb (pv 1) (by decide)) (qM (huR hr) (qb (pv 0) (by decide)) (de_c qe rfl))) (de_c qe rfl)) (de_c qe rfl) (qR _)))) (fun _ _ _ _ _=>(qM (huR hr) (qb (pv 0) (by decide)) (de_c qe rfl)))) (by decide) (by decide))
  (qo (zF (i:=5) sc_law.nd rfl (by trivial) (zT (hr.mono (by decide)) rfl Tx.m_Lplan Tx.k_Lplan BLplan (G:=GLplan) (ha:=(qc (m:=true) (qb (pv 9) (by decide)) (qc (m:=true) (qb (pv 8) (by decide)) (qc (m:=true) (qb (pv 10) (by decide)) (qc (m:=true) (qb (pv 11) (by decide)) (qc (m:=true) (qb (pv 12) (by decide)) (qc (m:=true) (qb (pv 3) (by decide)) (qc (m:=true) (qb (pv 4) (by decide)) (qE (m:=true))))))))))))
  (qo (jf (wM (jV (zT (hr.mono (by decide)) rfl Tx.m_Lsame Tx.k_Lsame BLsame (G:=GLsame) (ha:=(qc (m:=true) (DO.de (vZ (hr.mono (by decide)) rfl Tx.m_least_change Tx.k_least_change Bleast_change (G:=Gleast_change) (ha:=(qc (m:=true) (DO.de (vY rfl Tx.b_list (qb (pv 9) (by decide)))) (qc (m:=true) (DO.de (ZL rfl Tx.b_dict (qb (pv 8) (by decide)))) (qc (m:=true) (qb (pv 10) (by decide)) (qc (m:=true) (qb (pv 11) (by decide)) (qc (m:=true) (qb (pv 12) (by decide)) (qc (m:=true) (DO.de (vY rfl Tx.b_list (qb (pv 3) (by decide)))) (qc (m:=true) (DO.de (vY rfl Tx.b_list (qb (pv 4) (by decide)))) (qE (m:=true)))))))))))) (qc (m:=true) (qb (pv 5) (by decide)) (qE (m:=true))))))))
  (qy (zG (de_c kJ rfl)))
  zg)
  (qo (jf (wM (jV (zT (hr.mono (by decide)) rfl Tx.m_Lsame Tx.k_Lsame BLsame (G:=GLsame) (ha:=(qc (m:=true) (zT (hr.mono (by decide)) rfl Tx.m_soonest Tx.k_soonest Bsoonest (G:=Gsoonest) (ha:=(qc (m:=true) (DO.de (vY rfl Tx.b_list (qb (pv 9) (by decide)))) (qc (m:=true) (DO.de (ZL rfl Tx.b_dict (qb (pv 8) (by decide)))) (qc (m:=true) (qb (pv 10) (by decide)) (qc (m:=true) (qb (pv 12) (by decide)) (qE (m:=true)))))))) (qc (m:=true) (zT (hr.mono (by decide)) rfl Tx.m_Lsoon Tx.k_Lsoon BLsoon (G:=GLsoon) (ha:=(qc (m:=true) (qb (pv 9) (by decide)) (qc (m:=true) (qb (pv 8) (by decide)) (qc (m:=true) (qb (pv 10) (by decide)) (qc (m:=true) (qb (pv 12) (by decide)) (qE (m:=true)))))))) (qE (m:=true))))))))
  (qy (zG (de_c kJ rfl)))
  zg)
  (qo (zF (i:=6) sc_law.nd rfl (by trivial) (zT (hr.mono (by decide)) rfl Tx.m_no_way Tx.k_no_way Bno_way (G:=Gno_way) (ha:=(qc (m:=true) (DO.de (vY rfl Tx.b_list (qb (pv 9) (by decide)))) (qc (m:=true) (DO.de (ZL rfl Tx.b_dict (qb (pv 8) (by decide)))) (qc (m:=true) (qb (pv 10) (by decide)) (qc (m:=true) (qb (pv 11) (by decide)) (qc (m:=true) (qb (pv 12) (by decide)) (qE (m:=true))))))))))
  (qo (jf (zE YY qaz (qb (pv 5) (by decide)) (de_c xb rfl) (qR _))
  (qy (zG (wg (kQ Je X6 (qb (pv 6) (by decide)) (de_c xb rfl) (qR _)) (wN (qbz (zT (hr.mono (by decide)) rfl Tx.m_bars Tx.k_bars Bbars (G:=Gbars) (ha:=(qc (m:=true) (qb (pv 9) (by decide)) (qc (m:=true) (qb (pv 8) (by decide)) (qc (m:=true) (qb (pv 10) (by decide)) (qc (m:=true) (qb (pv 11) (by decide)) (qc (m:=true) (qb (pv 12) (by decide)) (qc (m:=true) (DO.de (jN (qc (m:=true) (kP (qc (m:=true) (qb (pv 10) (by decide)) (qc (m:=true) (qb (pv 12) (by decide)) (qE (m:=true))))) (qE (m:=true))))) (qE (m:=true)))))))))))))))
  zg)
  (qo (jf (DW.dt (uv (zE Je X6 (qb (pv 6) (by decide)) (de_c xb rfl) (qR _)) (VQ (wM (jV (zT (hr.mono (by decide)) rfl Tx.m_Lbars Tx.k_Lbars BLbars (G:=GLbars) (ha:=(qc (m:=true) (qb (pv 9) (by decide)) (qc (m:=true) (qb (pv 8) (by decide)) (qc (m:=true) (qb (pv 10) (by decide)) (qc (m:=true) (qb (pv 11) (by decide)) (qc (m:=true) (qb (pv 12) (by decide)) (qc (m:=true) (qb (pv 6) (by decide)) (qE (m:=true)))))))))))))))
  (qy (zG (de_c kJ rfl)))
  zg)
  (qy (zG (zT (hr.mono (by decide)) rfl Tx.m_Lsame Tx.k_Lsame BLsame (G:=GLsame) (ha:=(qc (m:=true) (zT (hr.mono (by decide)) rfl Tx.m_bars Tx.k_bars Bbars (G:=Gbars) (ha:=(qc (m:=true) (qb (pv 9) (by decide)) (qc (m:=true) (qb (pv 8) (by decide)) (qc (m:=true) (qb (pv 10) (by decide)) (qc (m:=true) (qb (pv 11) (by decide)) (qc (m:=true) (qb (pv 12) (by decide)) (qc (m:=true) (DO.de (vY rfl Tx.b_list (qb (pv 6) (by decide)))) (qE (m:=true)))))))))) (qc (m:=true) (de_c kJ rfl) (qE (m:=true))))))))))))))))))))
 exact z
end
theorem YS{o:Option (fR)}(h:∀ns,o=some ns->ns.length<=64):PlN 6 (optD o):=by
 cases o with
 |none=>exact True.intro
 |some ns=>
  refine⟨by rw[zS];have:=h ns rfl;omega,fun x hx=>?_⟩;unfold isD at hx;obtain⟨i,_,rfl⟩:=aC.mp hx;exact True.intro
theorem YR{out:List (Str×Int)}(h:out.length<=5):PlN 6 (.lst (out.map prI)):=by
 refine⟨by rw[ab];omega,fun x hx=>?_⟩;obtain⟨o,_,rfl⟩:=aC.mp hx;refine⟨by show 2<2 ^ 60;decide,fun y hy=>?_⟩;rcases aj.mp hy with rfl|hy
 ·exact True.intro
 ·rw[au.mp hy];exact True.intro
section
variable(T:Hp->Prop)(hT:HTb T)
theorem marked(hd:Drawn vs 40)(G:Gd2 ns rds)(m:Int)(hm:0<m){i:Nat}{g:SS (W0 T hT)}(h9:(g.v[9]?).join=some (.lst (rds.map rdD)))(hi:(g.v[i]?).join=some (.lst (isD vs))) :
  ∃ks:fR,(j6 1 [i] (iSeq (eVar 9)) (ze 0) (qCmp eqD (M.e2 modI (M.e2 ixD (eVar 1) (M.e2 ixD (eVar 0) (eC (.int 0)))) (eC (.int m))) (eC (.int 1))) (M.e2 ixD (eVar 0) (eC (.int 0)))) g=.ok (.lst (isD ks)) ():=by
 refine⟨(rds.filter fun r=>(gv vs r.n % m == 1)).map (·.n),?_⟩;refine aE (kR (T:=T) (hT:=hT) (B:=B0) (hB:=hB0) (emb:=rdD) (xs:=rds) (I:=fun g=>∃z,g=⟨[z,some (.lst (isD vs))],()⟩) (sel:=fun r=>(gv vs r.n % m == 1)) (out:=fun r=>.int r.n) (Km (qa h9) rfl) ⟨none,?_⟩ (by
  rintro r hr g ⟨z,rfl⟩;have nb:=G.nb r hr;exact⟨⟨[some (rdD r),some (.lst (isD vs))],()⟩,rfl,⟨_,rfl⟩,q_ok (qj (qj (qa rfl) (qj (qa rfl) c_ok (k9 r)) (dri hd nb.1 nb.2)) c_ok (jo hm)) c_ok (ZI _ _),fun _=>qj (qa rfl) c_ok (k9 r)⟩) (by have:=G.ln;unfold big;omega)) ?_
 ·show(⟨[none]++[(g.v[i]?).join],()⟩:SS (W0 T hT))=_
  rw[hi];rfl
 ·unfold isD
  rw[cu];rfl
theorem Wf(ins:fR):qca T hT [.scr (isD ins)]=some (.bl true):=by
 obtain⟨ns,kvs,rds,st,go,si,et,Mk,G2,hst,_⟩:=Vt T hT ins;have h64:rds.length<64:=by have:=G2.ln;omega
 have hds:∀d∈rds,d.b∈ns:=fun d hd=>(Mk.ra d hd).2.1
 obtain⟨vs,ed,hd⟩:=yI T hT ins 22 (by decide) (by decide) (m:=40) 40 rfl (by decide);obtain⟨ws,ew,hw⟩:=yI T hT ins 23 (by decide) (by decide) (m:=40) 40 rfl (by decide);let S (d e k s u p:Option D):SS (W0 T hT):=⟨[some (.scr (isD ins)),d,e,k,s,u,p,some (.lst (ns.map .str)),some (.dic kvs),some (.lst (rds.map rdD)),some (.str st),some (.str go),some (.int si)],()⟩;obtain⟨kept,ek⟩:=marked T hT hd G2 2 (by decide) (i:=1) (g:=S (some (.lst (isD vs))) (some (.lst (isD ws))) none none none none) rfl rfl;obtain⟨shared,es⟩:=marked T hT hw G2 5 (by decide) (i:=2) (g:=S (some (.lst (isD vs))) (some (.lst (isD ws))) (some (.lst (isD kept))) none none none) rfl rfl;obtain⟨ω,p1,p2⟩:=yk rds;obtain⟨o,_,bs,lo⟩:=Zo T hT (st:=st) (go:=go) (si:=si) (kept:=kept) (shared:=shared) Mk.wk h64 Mk.nn p1 p2;have pl:F_pl [.lst (rds.map rdD),.dic kvs,.str st,.str go,.int si,.lst (isD kept),.lst (isD shared)]=some (optD o):=qco ⟨rds,kvs,st,go,si,kept,shared,rfl,Mk.wk,h64,Mk.nn,bs⟩;have lc:F_lc [.lst (rds.map rdD),.dic kvs,.str st,.str go,.int si,.lst (isD kept),.lst (isD shared)]=some (optD o):=qc1 ⟨rds,kvs,st,go,si,kept,shared,rfl,Mk.wk,Mk.sk.iv,h64,bs⟩;obtain⟨out,pp⟩:=XX (si:=si) Mk.wk.toGood hst hds Mk.n5;have so:F_so [.lst (rds.map rdD),.dic kvs,.str st,.int si]=some (.lst (out.map prI)):=qck ⟨rds,kvs,ns,st,si,rfl,Mk.wk,Mk.sk.iv,h64,out,pp,rfl⟩;have sm1:=xE T hT 6 (optD o) (YS lo);have sm2:=xE T hT 6 (.lst (out.map prI)) (YR pp.len);have nw:∃d,F_nw [.lst (rds.map rdD),.dic kvs,.str st,.str go,.int si]=some d/\(((∃m,Least (spF kvs) rds st si go m)/\d=.non)\/(¬ (∃m,Least (spF kvs) rds st si go m)/\d=.lst (out.map prI))):=by
  by_cases h:∃m,Least (spF kvs) rds st si go m
  ·exact⟨.non,qa1 ⟨rds,kvs,ns,st,go,si,rfl,Mk.wk,Mk.sk.iv,h64,Mk.n5,hst,hds,.inl ⟨h,rfl⟩⟩,.inl ⟨h,rfl⟩⟩
  ·exact⟨.lst (out.map prI),qa1 ⟨rds,kvs,ns,st,go,si,rfl,Mk.wk,Mk.sk.iv,h64,Mk.n5,hst,hds,.inr ⟨h,out,pp,rfl⟩⟩,.inr ⟨h,rfl⟩⟩
 obtain⟨dn,en,hn⟩:=nw;refine zH ?_;unfold uI;let V:Option D:=some (.lst (isD vs));let E:Option D:=some (.lst (isD ws));let Kp:Option D:=some (.lst (isD kept));let Sh:Option D:=some (.lst (isD shared));refine aE (qv (g':=S none none none none none none) (Xp (zt (qd (qa rfl) zd) rfl et) rfl)) ?_;refine aE (qv (g':=S V none none none none none) (qV (zt (qd (qa rfl) (qd c_ok (qd c_ok zd))) rfl ed))) ?_;refine aE (qv (g':=S V E none none none none) (qV (zt (qd (qa rfl) (qd c_ok (qd c_ok zd))) rfl ew))) ?_;refine aE (qv (g':=S V E Kp none none none) (qV ek)) ?_;refine aE (qv (g':=S V E Kp Sh none none) (qV es)) ?_;refine aE (qv (g':=S V E Kp Sh (some (optD o)) none) (qV (zt (qd (qa rfl) (qd (qa rfl) (qd (qa rfl) (qd (qa rfl) (qd (qa rfl) (qd (qa rfl) (qd (qa rfl) zd))))))) rfl pl))) ?_;refine aE (qv (g':=S V E Kp Sh (some (optD o)) none) (aE (if_f (xS (z:=true) (zJ (zt (qd (zt (qd (zk (z:=.lst (rds.map rdD)) (qa rfl) rfl) (qd (zk (z:=.dic kvs) (qa rfl) rfl) (qd (qa rfl) (qd (qa rfl) (qd (qa rfl) (qd (zk (z:=.lst (isD kept)) (qa rfl) rfl) (qd (zk (z:=.lst (isD shared)) (qa rfl) rfl) zd))))))) rfl lc) (qd (qa rfl) zd)) rfl sm1) rfl))) rfl)) ?_;refine aE (qv (g':=S V E Kp Sh (some (optD o)) none) (aE (if_f (xS (z:=true) (zJ (zt (qd (zt (qd (zk (z:=.lst (rds.map rdD)) (qa rfl) rfl) (qd (zk (z:=.dic kvs) (qa rfl) rfl) (qd (qa rfl) (qd (qa rfl) zd)))) rfl so) (qd (zt (qd (qa rfl) (qd (qa rfl) (qd (qa rfl) (qd (qa rfl) zd)))) rfl so) zd)) rfl sm2) rfl))) rfl)) ?_;refine aE (qv (g':=S V E Kp Sh (some (optD o)) (some dn)) (qV (zt (qd (zk (z:=.lst (rds.map rdD)) (qa rfl) rfl) (qd (zk (z:=.dic kvs) (qa rfl) rfl) (qd (qa rfl) (qd (qa rfl) (qd (qa rfl) zd))))) rfl en))) ?_;rcases bs with⟨rfl,nol⟩|⟨l,hl,rfl,_⟩
 ·have nle:¬ ∃m,Least (spF kvs) rds st si go m:=fun h=>by
   obtain⟨l,hl⟩:=Vm h;exact nol l hl
  have edn:dn=.lst (out.map prI):=by
   rcases hn with⟨h,_⟩|⟨_,h⟩
   ·exact absurd h nle
   ·exact h
  subst edn;have ba:F_ba [.lst (rds.map rdD),.dic kvs,.str st,.str go,.int si,.lst (out.map prI)]=some (.bl true):=qb7 ⟨rds,kvs,st,go,si,out,rfl,Mk.wk,Mk.sk.iv,by have:=pp.len;omega,⟨fun _=>pp.bars Mk.wk.toGood nle,fun _=>rfl⟩⟩;have lb:F_lb [.lst (rds.map rdD),.dic kvs,.str st,.str go,.int si,.lst (out.map prI)]=some (.bl true):=by
   show(if(out.map prI).length<=60 then F_ba _ else none)=_;rw[aF (by rw[ab];have:=pp.len;omega),ba]
  have smt:=xE T hT 6 (.bl true) True.intro;refine aE (qv (aE (if_f (q_ok (z:=false) (qa rfl) c_ok rfl)) rfl)) ?_;refine aE (qv (aE (if_f (or_f (q_ok (z:=false) (qa rfl) c_ok rfl) (xS (z:=true) (zJ (zt (qd (qa rfl) (qd (qa rfl) (qd (qa rfl) (qd (qa rfl) (qd (qa rfl) (qd (qa rfl) zd)))))) rfl lb) rfl)))) rfl)) ?_;exact z6 (zt (qd (zt (qd (qa rfl) (qd (qa rfl) (qd (qa rfl) (qd (qa rfl) (qd (qa rfl) (qd (zk (z:=.lst (out.map prI)) (qa rfl) rfl) zd)))))) rfl ba) (qd c_ok zd)) rfl smt)
 ·have le:=J8 Mk.wk.toGood hl
  have edn:dn=.non:=by
   rcases hn with⟨_,h⟩|⟨h,_⟩
   ·exact h
   ·exact absurd le h
  subst edn;have ba:F_ba [.lst (rds.map rdD),.dic kvs,.str st,.str go,.int si,.lst [.tup [.str st,.int si]]]=some (.bl false):=qb7 ⟨rds,kvs,st,go,si,[(st,si)],rfl,Mk.wk,Mk.sk.iv,by simp,⟨fun h=>(nomatch h),fun B=>absurd le B.none⟩⟩;refine wA (aE (if_t (q_ok (z:=true) (qa rfl) c_ok rfl)) ?_);exact z6 (Q6 T hT (qj (qa rfl) c_ok rfl) (zk (op:=fun d=>match d with|.bl b=>some (.bl (!b))|_=>none) (zt (qd (qa rfl) (qd (qa rfl) (qd (qa rfl) (qd (qa rfl) (qd (qa rfl) (qd (jM (qd (kA (qd (qa rfl) (qd (qa rfl) zd)) (by simp)) zd) (by simp)) zd)))))) rfl ba) rfl))
end
end M
namespace M
open PySem PySem.Spec PyProof.Rows L2 X2
variable{l:List (Addr×Pos×Str)}{H:Hp}
def TL(l:List (Addr×Pos×Str))(H:Hp):Prop:=∀x∈l,TabOk H x.1 x.2.1 x.2.2
theorem hTL:HTb (TL l):=fun H H' h k x hx=>hTt H H' (h x hx) k
theorem TL.set(nd:(l.map (·.1)).Nodup){x:Addr×Pos×Str}(hx:x∈l){H':Hp}(t:TL l H)(s:SaT x.1 H H')(t':TabOk H' x.1 x.2.1 x.2.2):TL l H':=fun y hy=>by
 by_cases e:y.1=x.1
 ·have:y=x:=by
   clear t s t'
   induction l with
   |nil=>cases hx
   |cons z l ih=>
    rw[aA,bE]at nd;rcases aj.mp hx with h1|h1 <;> rcases aj.mp hy with h2|h2
    ·rw[h1,h2]
    ·subst h1;exact absurd (aC.mpr ⟨y,h2,e⟩) nd.1
    ·subst h2;exact absurd (aC.mpr ⟨x,h1,e.symm⟩) nd.1
    ·exact ih nd.2 h1 h2
  rw[this];exact t'
 ·exact TabOk.oth e s (t y hy)
def Za(K:fH)(l:List (Addr×Pos×Str)):Sp:=fun vs H Q _=>∃(a:Addr)(ns:fR),vs=[.ref a]/\SqL K H a (ns.map V.int)/\ns.length<=63/\TL l H/\∀H',Q (.bl true) H'
theorem Y_{K:fH}{F:List D->Option D}(hF:∀ins:fR,F [.scr (ins.map D.int)]=some (.bl true)){vs:List V}{Q:VK}{EX:XK}(h:Za K l vs H Q EX):spP K (TL l) 1 false F vs H Q EX:=by
 obtain⟨a,ns,rfl,hs,hl,t1,q⟩:=h;have r:=xa (K:=K) (c:=⟨Hn H [],fun _=>none⟩) ns;refine⟨rfl,⟨Hn H [],fun _=>none⟩,[.scr (ns.map D.int)],fun _ _ e=>e,t1,.cons (.scr (uU hs) r.l r.r) .nil,.bl true,hF ns,fun v H' c' _ _ _ rv=>?_⟩;rw[aG (by decide)]at rv;cases rv;exact q H'
def FH(K:fH)(x:Str)(st:Stmt)(f:Addr)(cd:Value):Prop:=∃(od an:fN)(sl:Array (Option Value))(oc kV dc pm ct:Value),PySem.W.nsIn K mainGlobals x=some (some (.ref f))/\K.lookup f=some ⟨oc,od,.func (PySem.W.fnOf x x (vg st) (jq st) (qp st) .none kV dc pm an cd ct),sl⟩/\PySem.W.codeIn K cd x=true/\PySem.W.keepIn K (.ref f)=true
end M
namespace X2
open PySem PySem.W PySem.Spec PyProof.Rows L2
variable{loose:fP}{α:Type}{h:Heap}
def wS(tb:String->Option Builtin)(p:Program)(w:World)(n₀:Nat)(ann:Option Value):Nat->SharedT->Thread->Option SharedT
 |0,_,_=>none
 |n+1,s,t=>match through t with
  |true=>some s
  |false=>match stepOk n₀ ann t with
   |false=>none
   |true=>match stepT (denote tb) p w s t with
    |some (s',t')=>wS tb p w n₀ ann n s' t'
    |none=>none
theorem wy{tb:String->Option Builtin}{p:Program}{w:World}{n₀:Nat}{ann:Option Value}:∀{n:Nat}{s s':SharedT}{t:Thread},wS tb p w n₀ ann n s t=some s'->topRun tb p w n₀ ann n s.abs t=some s'.abs
 |0,_,_,_,h=>by cases h
 |n+1,s,s',t,h=>by
  unfold wS at h;unfold topRun;cases he:through t with
  |true=>rw[he]at h;cases h;rfl
  |false=>
   rw[he]at h;cases hk:stepOk n₀ ann t with
   |false=>rw[hk]at h;cases h
   |true=>
    rw[hk]at h;cases hs:stepT (denote tb) p w s t with
    |none=>rw[hs]at h;cases h
    |some r=>obtain⟨s₂,t₂⟩:=r;rw[hs]at h;rw[stepT_spec hs];exact wy h
noncomputable def qdi(P:Params):BT:=((boot_heap P).objs.toList.foldl (fun(x:BT×Nat) o=>(x.1.ins x.2 o,x.2+1)) (.nil,0)).1
noncomputable def qb6(w:World)(os:OsState):SharedT:=⟨qdi w.params,(boot_heap w.params).objs.size,(boot_heap w.params).life,#[],boot_drawn,boot_toks,os⟩
theorem boot_abs:∀w os,(qb6 w os).abs=⟨boot_heap w.params,#[],boot_drawn,boot_toks,os⟩:=fun w os=>by kernel_rfl
noncomputable def Xj(P:Params):Option Value:=(boot_heap P).nsMap mainGlobals "__annotations__"
noncomputable def Q8(p q:Program)(loose:fP)(Xt:Shared->Bool){α:Type}(Yf:Shared->α)(N:Nat)(w:World)(os:OsState):=
 (wS treeTable p w (boot_heap w.params).objs.size (Xj w.params) N (qb6 w os) (topStub p)).map fun s=>
  ((boot_heap w.params).isNs mainGlobals && (staticsOk (importedModules p.main.body) (boot_heap w.params) s.abs.heap && namesBound p s.abs.heap && gensDone s.abs && laidKept (boot_heap w.params) s.abs.heap),
   openSeen q loose (importedModules p.main.body) Xt true s.abs,Yf s.abs)
theorem Qt{p q:Program}{Xt:Shared->Bool}{Yf:Shared->α}{Ya:World->α}{N:Nat}
  (e:opening p=plainProg p.main.scope.names)(hN:Nat.ble 600 N=true)(f:∀s,fenceModules? p s=some s)
  (run:∀(w:World)(os:OsState),Q8 p q loose Xt Yf N w os=some (true,openGood q loose,Ya w)):LeftO p q loose Xt Yf Ya N:=fun w=>by
 obtain⟨⟨h,gs,d,k,os⟩,e1,e2⟩:=cw.mp (boot_open e hN f w);obtain⟨rfl,rfl,rfl,rfl⟩:h=boot_heap w.params/\gs=Array.mk []/\d=boot_drawn/\k=boot_toks:=by simpa using e2
 obtain⟨s,r1,r2⟩:=cw.mp (run w os);obtain⟨l1,l2,l3⟩:_/\_/\_:=by simpa only[fE] using r2
 obtain⟨i1,i2⟩:=dW.mp l1;have r:=wy r1;rw[boot_abs]at r;have t:topFrom treeTable p w N ⟨boot_heap w.params,#[],boot_drawn,boot_toks,os⟩=some s.abs:=by
  unfold topFrom;show(match(boot_heap w.params).isNs mainGlobals && true with|true=>_|false=>_)=_;rw[i1];show(topRun treeTable p w (boot_heap w.params).objs.size (Xj w.params) N _ (topStub p)).bind _=_;rw[r];show(match staticsOk (importedModules p.main.body) (boot_heap w.params) s.abs.heap && namesBound p s.abs.heap && gensDone s.abs && laidKept (boot_heap w.params) s.abs.heap with|true=>_|false=>_)=_;rw[i2]
 unfold openEnds;rw[e1];show(topFrom treeTable p w N _).map _=_;rw[t];exact bC some (Prod.ext l2 l3)
def Zd(a:Addr)(o:Obj):Bool:=match o.cls with
 |.none=>Nat.beq a mainNs
 |_=>true
def QK(h:Heap)(a:Addr):Option Obj:=match h.get? a with
 |some o=>(match Zd a o with
  |true=>some o
  |false=>none)
 |none=>none
theorem VI{a:Addr}{o:Obj}(e:QK h a=some o):h.get? a=some o:=by
 unfold QK at e;cases g:h.get? a with
 |none=>rw[g]at e;cases e
 |some u=>
  rw[g]at e;cases q:Zd a u with
  |false=>simp only[q]at e;cases e
  |true=>simp only[q]at e;exact e
def ur(h:Heap):Frag:=(List.range h.objs.size).filterMap fun a=>(QK h a).map fun o=>(a,o)
theorem xc(g:Addr->Option Obj)(a:Addr):∀(l:List Nat),((l.filterMap fun b=>(g b).map fun o=>(b,o)):fI).lookup a=if a∈l then g a else none
 |[]=>rfl
 |b::l=>by
  have ih:=xc g a l;rw[du]
  by_cases e:a=b
  ·subst e
   cases q:g a with
   |none=>
    simp only[Option.map_none];rw[ih,aF (ar),q]
    split <;> rfl
   |some o=>
    simp only[dz];rw[aS,bR,aF (ar)]
  ·have e1:(a == b)=false:=by simpa using e
   have e2:(a∈b::l)=(a∈l):=by simp[e]
   simp only[e2];cases q:g b with
   |none=>simp only[Option.map_none];exact ih
   |some o=>simp only[dz];rw[aS,e1];exact ih
theorem qbs{a:Addr}{o:Obj}(e:h.get? a=some o):a<h.objs.size:=by
 apply Nat.lt_of_not_le;intro hl;have:h.objs[a]?=none:=Array.getElem?_eq_none hl;unfold Heap.get? at e;rw[this]at e;cases e
def lk(K:Frag):Addr->Option Obj:=fun a=>K.lookup a
theorem kK(h:Heap):lk (ur h)=QK h:=by
 funext a
 unfold lk ur;rw[xc]
 by_cases e:a∈List.range h.objs.size
 ·rw[aF e]
 ·rw[aG e]
  unfold QK;cases g:h.get? a with
  |none=>rfl
  |some o=>exact absurd (b9.mpr (qbs g)) e
def qbt{α:Type}(obs:(Addr->Option Obj)->α)(val:World->α)(ts:fL)(hts:ts.contains mainNs=false):Hook where
 α:=α×List (Option Obj)
 obs:=fun s=>(obs (QK s.heap),ts.map s.heap.get?)
 val:=fun w=>(val w,ts.map fun _=>some (tabObj #[]))
 says:=fun w h=>∃K:Frag,K.In h/\obs (lk K)=val w/\(∀P∈ts,K.lookup P=none)/\∀P∈ts,h.get? P=some (tabObj #[])
 of:=fun w s x=>by
  obtain⟨x1,x2⟩:=eG x;have x3:=eU.mp x2;refine⟨ur s.heap,fun a o e=>?_,?_,fun P hP=>?_,x3⟩
  ·exact VI ((congrFun (kK s.heap) a).symm.trans e)
  ·rw[kK];exact x1
  ·refine(congrFun (kK s.heap) P).trans ?_
   unfold QK;rw[x3 P hP];have ne:P≠mainNs:=fun z=>by
    subst z;rw[List.contains_iff_mem.mpr hP]at hts;cases hts
   have:Zd P (tabObj #[])=false:=by
    show Nat.beq P mainNs=false;cases q:Nat.beq P mainNs with
    |false=>rfl
    |true=>exact absurd (Nat.eq_of_beq_eq_true q) ne
   simp only[this]
 keeps:=fun w h h'⟨K,x1,x2,x3,x4⟩ k=>⟨K,x1.keeps k,x2,x3,fun P hP=>k _ _ (x4 P hP)⟩
theorem Xw{l:PySem.W.OpenLaw}{n k:Nat}{q:Program}{XP:(fK)->Heap->Prop}{d:DefRec}{obs:(Addr->Option Obj)->α}{val:World->α}{ts:fL}{hm:ts.contains mainNs=false}{CX:World->CXT}{sp:World->Frag->Sp}{x:Str}
  (hn:l.most=some n)(hn2:n<=sizeLine)(hdf:d.params.defaults=[])(hr:Room k callerA)
  (hcs:∀(w:World)(K:Frag),obs (lk K)=val w->∀P∈ts,∃c,PySem.W.codeHdIn K c P=true)
  (F:∀(w:World)(K:Frag),obs (lk K)=val w->∀(mg:fK)(fa:Addr)(h:Heap),K.In h->h.Ns mainGlobals mg->mg d.name=some (.ref fa)->
   ∃fd:FuncData,(∀(s:Shared)(u:Value),BindsTo s fd ⟨[u],[]⟩ [(x,u)])/\
    ∀base:Heap,K.In base->base.Ns mainGlobals mg->Bm base mg->FnOk l.prog w K mg base (CX w) k fa fd [x] (sp w K))
  (hsp:∀(w:World)(K:Frag)(H:Hp)(a:Addr)(ns:fR),ns.length<=n->(∀P∈ts,H P=some (.tbl #[]))->SqL K H a (ns.map V.int)->sp w K [.ref a] H (fun v _=>v=.bl true) fun _ _ _=>False)
  (hCX:∀(w:World)(H:Hp)(s:Shared)(e:Value)(s':Shared),CX w [] H s (fun _ _ _=>False) e s'->False) :
  PySem.W.WalkO q loose XP (qbt obs val ts hm).says l.row.toRowW d [] (fun f vs=>PySem.call f vs):=by
 refine Att.attach_call hn hdf fun w s₀ s₁ mg mb fa o pm cd doc a vs ns G Y ho hd hcd hmg hobj hints hlen hg=>?_
 obtain⟨K,KX,ob,kt,tb⟩:=Y;obtain⟨fd,hb,hF⟩:=F w K ob mg fa _ KX G.T.g hmg;exact Vr (ts:=ts) KX G.T.g G.T.b G.T.builtins G.T.nolimit hg hobj hints (bj hlen hn2) hr tb kt (fun P hP=>let⟨c,hc⟩:=hcs w K ob P hP;QV KX hc) G.T.bmain hF hb (fun H hO hS=>hsp w K H a ns hlen hO hS) fun H e s'=>hCX w H s₁ e s'
end X2
namespace M
open PySem PySem.W PySem.Spec PyProof.Rows L2 X2
variable{K:Frag}{c f:Nat}{P:Addr}
def wT(p:Program)(i:Nat):Stmt:=p.main.body.getD i (.Pass ⟨0,0,0,0⟩)
def defName(s:Stmt):Str:=match s with
 |.FunctionDef n _ _ _ _ _ _ _ _ _=>n
 |_=>⟨#[]⟩
def nsG(g:Addr->Option Obj)(ns:Addr)(name:Str):Option (Option Value):=match g ns with
 |some ⟨_,_,.dict es _,_⟩=>(match es.toList.find? (·.key.isStr name)with
   |some e=>some (some e.val)
   |none=>if es.toList.any (·.refKey)then none else some none)
 |_=>none
def qdg(g:Addr->Option Obj)(cd:Value)(q:Str):Bool:=match cd with
 |.ref c=>(match g c with
   |some ⟨_,_,.fields vs,_⟩=>(match vs.toList with|_::.str n _::_=>n == q|_=>false)
   |_=>false)
 |_=>false
def Yi(fd:FuncData):FuncData:={ fd with kwdefaults:=.none,doc:=.none,pyModule:=.none,annotations:=none,closureTuple:=.none }
def fnG(g:Addr->Option Obj)(x:Str)(f:Addr):Option (Option (Option Value)×FuncData×Bool):=match g f with
 |some ⟨_,_,.func fd,_⟩=>some (nsG g mainGlobals x,Yi fd,qdg g fd.code x)
 |_=>none
def fnX(st:Stmt)(f c:Addr):Option (Option (Option Value)×FuncData×Bool):=some (some (some (.ref f)),fnOf (defName st) (defName st) (vg st) (jq st) (qp st) .none .none .none .none none (.ref c) .none,true)
theorem qdc{st:Stmt}{f c:Addr}{x:Str}(e:defName st=x)(h:fnG (lk K) (defName st) f=fnX st f c):FH K x st f (.ref c):=by
 subst e;unfold fnG fnX at h
 split at h
 ·rename_i oc od fd sl hl
  obtain⟨h1,h2,h3⟩:_/\_/\_:=by simpa only[dB,fE] using h
  obtain⟨n,q,ps,b,sc,gl,cl,df,kV,dc,pm,an,cd,ct,bi⟩:=fd;simp only[Yi,fnOf,FuncData.mk.injEq]at h2;obtain⟨rfl,rfl,rfl,rfl,rfl,rfl,rfl,rfl,_,_,_,_,rfl,_,rfl⟩:=h2;refine⟨od,an,sl,oc,kV,dc,pm,ct,h1,hl,h3,?_⟩;have hl':K.lookup f=_:=hl;simp only[keepIn,hl']
 ·cases h
def ZN(g:Addr->Option Obj)(c P:Addr):Bool:=match g c with
 |some ⟨.type "code",_,.fields vs,_⟩=>qbr vs c P
 |_=>false
theorem qb3{c:Addr}(h:ZN (lk K) c P=true):codeHdIn K c P=true:=by
 unfold ZN at h
 split at h
 ·rename_i a vs sl hl
  exact V_ hl h
 ·cases h
abbrev ObT:Type:=List (Option (Option (Option Value)×FuncData×Bool))×List Bool×List (Option (Option Value))
def obsD(p:Program)(L:List (Nat×Addr×Addr))(CL:List (Addr×Addr))(NB:fP)(g:Addr->Option Obj):ObT:=
 (L.map (fun x=>fnG g (defName (wT p x.1)) x.2.1),CL.map (fun x=>ZN g x.1 x.2),NB.map (nsG g mainGlobals))
def valD(p:Program)(L:List (Nat×Addr×Addr))(CL:List (Addr×Addr))(NV:List (Option (Option Value))):ObT:=
 (L.map (fun x=>fnX (wT p x.1) x.2.1 x.2.2),CL.map (fun _=>true),NV)
section
variable{p:Program}{L:List (Nat×Addr×Addr)}{CL:List (Addr×Addr)}{NB:fP}{NV:List (Option (Option Value))}{K:Frag}(h:obsD p L CL NB (lk K)=valD p L CL NV)
include h
theorem qay(k:Nat){i:Nat}{x:Str}(m:L[k]?=some (i,f,c))(e:defName (wT p i)=x):FH K x (wT p i) f (.ref c):=qdc e (eU.mp (eG h).1 _ (ay m))
theorem Qp(k:Nat){i:Nat}(x:Str)(m:L[k]?=some (i,f,c))(e:defName (wT p i)=x):∃fd,nsIn K mainGlobals x=some (some (.ref f))/\FunC K x x (wT p i) f fd c:=
 let⟨_,_,_,_,_,_,_,_,a,l,cc,kk⟩:=qay h k m e
 ⟨_,a,uq l cc kk⟩
theorem jK(k:Nat){i:Nat}(x:Str)(m:L[k]?=some (i,f,c))(e:defName (wT p i)=x):∃fd,nsIn K mainGlobals x=some (some (.ref f))/\Fun K x x (wT p i) f fd:=
 let⟨fd,a,u⟩:=Qp h k x m e
 ⟨fd,a,u.plain⟩
theorem jT(k:Nat){c:Addr}(m:CL[k]?=some (c,P)):codeHdIn K c P=true:=qb3 (eU.mp (eG (eG h).2).1 _ (ay m))
theorem jg(i:Nat){x:Str}{v:Option (Option Value)}(m:NB[i]?=some x)(e:NV[i]?=some v):nsIn K mainGlobals x=v:=by
 have q:=bC (fun l=>l[i]?) (eG (eG h).2).2;simp only[ag,m,e,dz,dB]at q;exact q
end
end M
set_option maxHeartbeats 0
namespace M
open PySem PySem.W PyProof.Rows L2 X2
def hL:List (Nat×Addr×Addr):=[(6,21,20),(7,28,27),(10,33,32),(11,38,37),(12,45,44),(13,52,51),(15,59,58),(16,64,63),(17,69,68),(18,76,75),(20,83,82),(21,90,89),(22,95,94),(23,102,101),(24,107,106),(25,112,111),(26,117,116),(27,122,121),(28,127,126)]
def hC:List (Addr×Addr):=[(121,119),(111,109),(58,54),(37,35)]
def hN:fP:=["min","sorted","len","isinstance","tuple","list","range","bool","int","str","set","dict","LEAVES","COMES","GOAL","START","NUMBERS","NUMBER"]
def hV:List (Option (Option Value)):=[some none,some none,some none,some none,some none,some none,some none,some none,some none,some none,some none,some none,some (some (.int 3 195)),some (some (.int 4 197)),some (some (.int 2 193)),some (some (.int 1 191)),some (some (.int 4 219)),some (some (.int 0 189))]
def hT:fL:=[119,109,54,35]
def hP:Program:=PySem.Challenge.pw_wayhold_k42_whole_many_rides
def hQ:Program:={ hP with main:={ hP.main with body:=[wT hP 28] } }
def hB:fP:=hP.boundNames
def hX(s:Shared):Bool:=xlAt hQ [] s && recOk (RowW.records PySem.Challenge.rw_wayhold_k42_whole_many_rides.row.toRowW) s
def hK:Hook:=qbt (obsD hP hL hC hN) (fun _=>valD hP hL hC hV) hT rfl
def hO(s:Shared):ObT×List (Option Obj):=(obsD hP hL hC hN (QK s.heap),hT.map s.heap.get?)
def hE:ObT×List (Option Obj):=(valD hP hL hC hV,hT.map fun _=>some (tabObj #[]))
noncomputable def hR(b:Bool)(w:World)(os:OsState):=Q8 hP hQ hB hX hO 20000 (w.withFollow "special-get-raises" b) os
noncomputable def hG(w:World):=some (true,openGood hQ hB,hE)
theorem qc5:(fun(_:type_of% hR)(_:type_of% hG)=>true) hR hG=true:=by k_qdec
theorem qc7:∀w os,hR false w os=hG w:=fun w os=>by
 have _:=qc5;rw[PySem.W.Fast.te17380432725675213807,PySem.W.Fast.te117707962408920387]
 kernel_rfl
theorem qc6:∀w os,hR true w os=hG w:=fun w os=>by
 rw[PySem.W.Fast.te17380432725675213807,PySem.W.Fast.te117707962408920387]
 kernel_rfl
theorem qc8:LeftO hP hQ hB hX hK.obs hK.val 20000:=Qt (by kernel_rfl) (by decide) (fun s=>by kernel_rfl) fun w=>byRow2 "special-get-raises" (P:=fun w=>∀os,Q8 hP hQ hB hX hK.obs 20000 w os=some (true,openGood hQ hB,hK.val w)) qc7 qc6 w
end M
namespace M
open PySem L2 X2
abbrev L4(P1 P2 P3 P4:Addr):List (Addr×Pos×Str):=[(P1,lpBR,lqBR),(P2,lpS,lqS),(P3,ke,kb),(P4,kc,ka)]
theorem all_mk{l:PySem.W.OpenLaw}{w:World}{K:fH}{h:Heap}{mg:fK}{fa:Addr}(ob:obsD hP hL hC hN (lk K)=valD hP hL hC hV)(X:K.In h)(G:h.Ns mainGlobals mg)(hfa:mg "law"=some (.ref fa))
  : ∃fd:FuncData,(∀(s:Shared)(v:Value),BindsTo s fd ⟨[v],[]⟩ [("_law_script",v)])/\∀base:Heap,K.In base->base.Ns mainGlobals mg->Bm base mg->FnOk l.prog w K mg base CX0 9 fa fd ["_law_script"] (Za K (L4 35 54 109 119)):=by
 have hne:[35,54,109,119].Nodup:=by decide
 obtain⟨qU,a0,U_spare_between:Fun K _ _ jD _ _⟩:=jK ob 0 "spare_between" rfl (by kernel_rfl);obtain⟨jw,a1,U_hangs:Fun K _ _ Zf _ _⟩:=jK ob 1 "hangs" rfl (by kernel_rfl);obtain⟨q9,a2,U_least_change:Fun K _ _ zU _ _⟩:=jK ob 2 "least_change" rfl (by kernel_rfl);obtain⟨zy,a3,U_best_rows:FunC K _ _ ji _ _ _⟩:=Qp ob 3 "best_rows" rfl (by kernel_rfl);obtain⟨qH,a4,U_worth_of_none:Fun K _ _ jC _ _⟩:=jK ob 4 "worth_of_none" rfl (by kernel_rfl);obtain⟨zn,a5,U_worth_with:Fun K _ _ kB _ _⟩:=jK ob 5 "worth_with" rfl (by kernel_rfl);obtain⟨zD,a6,U_soonest:FunC K _ _ xF _ _ _⟩:=Qp ob 6 "soonest" rfl (by kernel_rfl);obtain⟨z_,a7,U_no_way:Fun K _ _ w6 _ _⟩:=jK ob 7 "no_way" rfl (by kernel_rfl);obtain⟨ki,a8,U_bars:Fun K _ _ Ko _ _⟩:=jK ob 8 "bars" rfl (by kernel_rfl);obtain⟨zr,a9,U_ready_by:Fun K _ _ vR _ _⟩:=jK ob 9 "ready_by" rfl (by kernel_rfl);obtain⟨zN,a10,U_Ldraws:Fun K _ _ ya _ _⟩:=jK ob 10 "_law_draws" rfl (by kernel_rfl);obtain⟨ja,a11,U_Lsame:Fun K _ _ Zg _ _⟩:=jK ob 11 "_law_same" rfl (by kernel_rfl);obtain⟨jb,a12,U_Lnames:Fun K _ _ w_ _ _⟩:=jK ob 12 "_law_names" rfl (by kernel_rfl);obtain⟨jz,a13,U_Lhang:Fun K _ _ Zh _ _⟩:=jK ob 13 "_law_hang" rfl (by kernel_rfl);obtain⟨jA,a14,U_Lbars:Fun K _ _ Zi _ _⟩:=jK ob 14 "_law_bars" rfl (by kernel_rfl);obtain⟨jy,a15,U_Lplan:FunC K _ _ kC _ _ _⟩:=Qp ob 15 "_law_plan" rfl (by kernel_rfl);obtain⟨zP,a16,U_Lladder:Fun K _ _ xG _ _⟩:=jK ob 16 "_law_ladder" rfl (by kernel_rfl);obtain⟨jx,a17,U_Lsoon:FunC K _ _ vS _ _ _⟩:=Qp ob 17 "_law_soon" rfl (by kernel_rfl);obtain⟨xi,a18,U_law:Fun K _ _ Yz _ _⟩:=jK ob 18 "law" rfl (by kernel_rfl);have e:=hfa.symm.trans (aL X G a18);have e2:127=fa:=by cases e;rfl
 subst e2;have Tx:Txt K mg 21 28 33 38 45 52 59 64 69 76 83 90 95 102 107 112 117 122 127:=⟨bo X G (jg ob 0 rfl rfl),bo X G (jg ob 1 rfl rfl),bo X G (jg ob 2 rfl rfl),bo X G (jg ob 3 rfl rfl),bo X G (jg ob 4 rfl rfl),bo X G (jg ob 5 rfl rfl),bo X G (jg ob 6 rfl rfl),bo X G (jg ob 7 rfl rfl),bo X G (jg ob 8 rfl rfl),bo X G (jg ob 9 rfl rfl),bo X G (jg ob 10 rfl rfl),bo X G (jg ob 11 rfl rfl),⟨_,aL X G (jg ob 12 rfl rfl)⟩,⟨_,aL X G (jg ob 13 rfl rfl)⟩,⟨_,aL X G (jg ob 14 rfl rfl)⟩,⟨_,aL X G (jg ob 15 rfl rfl)⟩,⟨_,aL X G (jg ob 16 rfl rfl)⟩,⟨_,aL X G (jg ob 17 rfl rfl)⟩,aL X G a0,U_spare_between.kp,aL X G a1,U_hangs.kp,aL X G a2,U_least_change.kp,aL X G a3,U_best_rows.kp,aL X G a4,U_worth_of_none.kp,aL X G a5,U_worth_with.kp,aL X G a6,U_soonest.kp,aL X G a7,U_no_way.kp,aL X G a8,U_bars.kp,aL X G a9,U_ready_by.kp,aL X G a10,U_Ldraws.kp,aL X G a11,U_Lsame.kp,aL X G a12,U_Lnames.kp,aL X G a13,U_Lhang.kp,aL X G a14,U_Lbars.kp,aL X G a15,U_Lplan.kp,aL X G a16,U_Lladder.kp,aL X G a17,U_Lsoon.kp,aL X G a18,U_law.kp⟩;have Bspare_between:=U_spare_between.binds (ps:=fW) fun _ _ _ _ _ _ us hl=>by obtain⟨_,_,_,rfl⟩:=ln3 hl;rfl
 have Bhangs:=U_hangs.binds (ps:=fW) fun _ _ _ _ _ _ us hl=>by obtain⟨_,_,_,rfl⟩:=ln3 hl;rfl
 have Bleast_change:=U_least_change.binds (ps:=fX) fun _ _ _ _ _ _ us hl=>by obtain⟨_,_,_,_,_,_,_,rfl⟩:=ln7 hl;rfl
 have Bbest_rows:=U_best_rows.plain.binds (ps:=gB) fun _ _ _ _ _ _ us hl=>by obtain⟨_,_,_,_,_,rfl⟩:=ln5 hl;rfl
 have Bworth_of_none:=U_worth_of_none.binds (ps:=["comes"]) fun _ _ _ _ _ _ us hl=>by obtain⟨_,rfl⟩:=ln1 hl;rfl
 have Bworth_with:=U_worth_with.binds (ps:=gG) fun _ _ _ _ _ _ us hl=>by obtain⟨_,_,_,_,rfl⟩:=ln4 hl;rfl
 have Bsoonest:=U_soonest.plain.binds (ps:=gC) fun _ _ _ _ _ _ us hl=>by obtain⟨_,_,_,_,rfl⟩:=ln4 hl;rfl
 have Bno_way:=U_no_way.binds (ps:=gH) fun _ _ _ _ _ _ us hl=>by obtain⟨_,_,_,_,_,rfl⟩:=ln5 hl;rfl
 have Bbars:=U_bars.binds (ps:=g9) fun _ _ _ _ _ _ us hl=>by obtain⟨_,_,_,_,_,_,rfl⟩:=ln6 hl;rfl
 have Bready_by:=U_ready_by.binds (ps:=gF) fun _ _ _ _ _ _ us hl=>by obtain⟨_,_,_,rfl⟩:=ln3 hl;rfl
 have BLdraws:=U_Ldraws.binds (ps:=g7) fun _ _ _ _ _ _ us hl=>by obtain⟨_,_,_,rfl⟩:=ln3 hl;rfl
 have BLsame:=U_Lsame.binds (ps:=gE) fun _ _ _ _ _ _ us hl=>by obtain⟨_,_,rfl⟩:=ln2 hl;rfl
 have BLnames:=U_Lnames.binds (ps:=gL) fun _ _ _ _ _ _ us hl=>by obtain⟨_,_,rfl⟩:=ln2 hl;rfl
 have BLhang:=U_Lhang.binds (ps:=g4) fun _ _ _ _ _ _ us hl=>by obtain⟨_,_,_,rfl⟩:=ln3 hl;rfl
 have BLbars:=U_Lbars.binds (ps:=fV) fun _ _ _ _ _ _ us hl=>by obtain⟨_,_,_,_,_,_,rfl⟩:=ln6 hl;rfl
 have BLplan:=U_Lplan.plain.binds (ps:=fT) fun _ _ _ _ _ _ us hl=>by obtain⟨_,_,_,_,_,_,_,rfl⟩:=ln7 hl;rfl
 have BLladder:=U_Lladder.binds (ps:=["_law_script"]) fun _ _ _ _ _ _ us hl=>by obtain⟨_,rfl⟩:=ln1 hl;rfl
 have BLsoon:=U_Lsoon.plain.binds (ps:=f') fun _ _ _ _ _ _ us hl=>by obtain⟨_,_,_,_,rfl⟩:=ln4 hl;rfl
 refine⟨xi,fun s v=>by obtain⟨_,_,_,_,_,_,_,_,_,rfl,_⟩:=U_law.ex;exact .of_eq rfl,fun base _ _ BM=>?_⟩;have hT0:∀H,(TL (L4 35 54 109 119)) H->TabOk H 35 lpBR lqBR:=fun _ h=>h (35,lpBR,lqBR) (by simp[L4])
 have hS0:∀H H',(TL (L4 35 54 109 119)) H->SaT 35 H H'->TabOk H' 35 lpBR lqBR->(TL (L4 35 54 109 119)) H':=fun _ _ h s t=>TL.set (l:=(L4 35 54 109 119)) (x:=(35,lpBR,lqBR)) hne (by simp[L4]) h s t
 have hT1:∀H,(TL (L4 35 54 109 119)) H->TabOk H 54 lpS lqS:=fun _ h=>h (54,lpS,lqS) (by simp[L4])
 have hS1:∀H H',(TL (L4 35 54 109 119)) H->SaT 54 H H'->TabOk H' 54 lpS lqS->(TL (L4 35 54 109 119)) H':=fun _ _ h s t=>TL.set (l:=(L4 35 54 109 119)) (x:=(54,lpS,lqS)) hne (by simp[L4]) h s t
 have hT2:∀H,(TL (L4 35 54 109 119)) H->TabOk H 109 ke kb:=fun _ h=>h (109,ke,kb) (by simp[L4])
 have hS2:∀H H',(TL (L4 35 54 109 119)) H->SaT 109 H H'->TabOk H' 109 ke kb->(TL (L4 35 54 109 119)) H':=fun _ _ h s t=>TL.set (l:=(L4 35 54 109 119)) (x:=(109,ke,kb)) hne (by simp[L4]) h s t
 have hT3:∀H,(TL (L4 35 54 109 119)) H->TabOk H 119 kc ka:=fun _ h=>h (119,kc,ka) (by simp[L4])
 have hS3:∀H H',(TL (L4 35 54 109 119)) H->SaT 119 H H'->TabOk H' 119 kc ka->(TL (L4 35 54 109 119)) H':=fun _ _ h s t=>TL.set (l:=(L4 35 54 109 119)) (x:=(119,kc,ka)) hne (by simp[L4]) h s t
 have GLdraws:=K7 (T:=(TL (L4 35 54 109 119))) (hT:=hTL) (P:=l.prog) (w:=w) (base:=base) Tx U_Ldraws;have GLnames:=K6 (T:=(TL (L4 35 54 109 119))) (hT:=hTL) (P:=l.prog) (w:=w) (base:=base) Tx U_Lnames;have GLladder:=JQ (T:=(TL (L4 35 54 109 119))) (hT:=hTL) (P:=l.prog) (w:=w) (base:=base) Tx U_Lladder GLdraws BLdraws GLnames BLnames;have GLhang:=X4 (T:=(TL (L4 35 54 109 119))) (hT:=hTL) (P:=l.prog) (w:=w) (base:=base) Tx U_Lhang;have GLplan:=KI (P:=l.prog) (w:=w) (K:=K) (mg:=mg) (base:=base) (hTL (l:=(L4 35 54 109 119))) fun rds h64=>K9 (T:=(TL (L4 35 54 109 119))) (hT:=hTL) Tx U_Lplan (jT ob 1 rfl) BM rds h64 GLhang BLhang hT2 hS2
 have GLsame:∀n,FnOk l.prog w K mg base CX0 n 90 _ gE (spP K (TL (L4 35 54 109 119)) 2 false (jW (TL (L4 35 54 109 119)) hTL n)):=fun n=>by
  induction n with
  |zero=>exact ut
  |succ n ih=>exact X3 (T:=(TL (L4 35 54 109 119))) (hT:=hTL) Tx U_Lsame ih BLsame
 have Gleast_change:=Vp (P:=l.prog) (w:=w) (K:=K) (mg:=mg) (base:=base) (hTL (l:=(L4 35 54 109 119))) hT0 hS0 fun T' hT' fp0 ob0 tb rds j1 j2 j3 j4=>xo (T:=T') (hT:=hT') (fp0:=fp0) (ob0:=ob0) (tb:=tb) (rds:=rds) Tx U_least_change (yn (T:=T') (hT:=hT') (lp:=lpBR) Tx U_best_rows (jT ob 3 rfl) BM j3 j4 j1 j2 (X1 (T:=T') (hT:=hT') Tx U_hangs (xn (T:=T') (hT:=hT') Tx U_spare_between) Bspare_between) Bhangs (km (T:=T') (hT:=hT') Tx U_worth_of_none) Bworth_of_none (wu (T:=T') (hT:=hT') Tx U_worth_with) Bworth_with) Bbest_rows (km (T:=T') (hT:=hT') Tx U_worth_of_none) Bworth_of_none
 have GLsoon:=Kl (P:=l.prog) (w:=w) (K:=K) (mg:=mg) (base:=base) (hTL (l:=(L4 35 54 109 119))) fun rds h64=>K8 (T:=(TL (L4 35 54 109 119))) (hT:=hTL) Tx U_Lsoon (jT ob 0 rfl) BM rds h64 hT3 hS3
 have Gready_by:=Zt (P:=l.prog) (w:=w) (base:=base) Tx U_ready_by;have Gsoonest:=JP (P:=l.prog) (w:=w) (base:=base) (Pt:=54) Tx U_soonest (jT ob 2 rfl) BM Gready_by Bready_by;have Gno_way:=K5 (P:=l.prog) (w:=w) (base:=base) (Pt:=54) Tx U_no_way Gsoonest Bsoonest;have Gbars:=Y3 (P:=l.prog) (w:=w) (base:=base) Tx U_bars Gready_by Bready_by;have GLbars:=X5 (P:=l.prog) (w:=w) (base:=base) Tx U_Lbars;have z:=qav (T:=(TL (L4 35 54 109 119))) (hT:=hTL) (P:=l.prog) (w:=w) (base:=base) Tx U_law GLladder BLladder GLdraws BLdraws GLplan BLplan (GLsame 6) BLsame Gleast_change Bleast_change GLsoon BLsoon (Kk hT1 hS1 Gsoonest) Bsoonest (Ve hT1 hS1 Gno_way) Bno_way (Xl hTL Gbars) Bbars (Vq hTL GLbars) BLbars;exact z.imp fun vs H Q EX q=>Y_ (Wf (TL (L4 35 54 109 119)) hTL) q
end M
open PySem PySem.W PyProof.Rows X2 M
set_option maxHeartbeats 0 in
theorem PySem.Challenge.cw_wayhold_k42_whole_many_rides_holds : PySem.Challenge.rw_wayhold_k42_whole_many_rides.Holds := by
 w_on;o_law
 refine holds_open (q:=hQ) (loose:=hB) (Xt:=hX) (XP:=XL hQ []) (Yf:=Hook.obs hK) (Ya:=Hook.val hK) (YP:=Hook.says hK) (N:=20000) qc8 (Hook.of hK) (Hook.keeps hK) (fun s e=>xl_of s (dW.mp e).1) XL.keeps (by rfl) (by rfl) (by rfl) (fun s e=>recFacts_of (dW.mp e).2) (by rfl) (by first|assumption|decide +kernel) (by decide +kernel) ⟨rfl,rfl,rfl,rfl,rfl,by decide +kernel⟩ ?hw ?hc
 case hw=>w_witness2
 case hc=>
  refine Xw (l:=PySem.Challenge.rw_wayhold_k42_whole_many_rides) (n:=63) (k:=9) (x:="_law_script") (CX:=fun _=>L2.CX0) (sp:=fun _ K=>Za K (L4 35 54 109 119)) rfl (by decide) rfl ⟨rfl,by decide,by decide⟩ (fun w K ob P hP=>?_) (fun w K ob mg fa h KX G hmg=>all_mk ob KX G hmg) (fun w K H a ns hl ht hS=>⟨a,ns,rfl,hS,hl,fun x hx=>?_,fun _=>rfl⟩) fun _ _ _ _ _ z=>z
  ·simp only[hT,aj,ax,cK]at hP
   rcases hP with rfl|rfl|rfl|rfl
   ·exact⟨_,jT ob 0 rfl⟩
   ·exact⟨_,jT ob 1 rfl⟩
   ·exact⟨_,jT ob 2 rfl⟩
   ·exact⟨_,jT ob 3 rfl⟩
  ·simp only[L4,aj,ax,cK]at hx
   rcases hx with rfl|rfl|rfl|rfl
   ·exact TabOk.nil (ht 35 (by simp[hT]))
   ·exact TabOk.nil (ht 54 (by simp[hT]))
   ·exact TabOk.nil (ht 109 (by simp[hT]))
   ·exact TabOk.nil (ht 119 (by simp[hT]))
